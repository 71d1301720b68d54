import Derived.Test.YticgahdffjnabaaGreatDoorM22
set_option linter.unusedVariables false
set_option maxHeartbeats 1600000
namespace Go.Proofs.YticgahdffjnabaaGreatDoor
open Go.RowKit
theorem pset_stop {l:List UInt8} {f i:Nat} {acc:List Te} (h:l.length<=i\/l[i]?=some 124):pset l (f+1) i acc=(0,i,acc):=by unfold pset;rw [if_pos h]
theorem pset_bad {l:List UInt8} {f i:Nat} {acc:List Te} (h:¬ (l.length<=i\/l[i]?=some 124)) (hr:¬ (rdPa l (rdSign l i).2).1=0):pset l (f+1) i acc=((rdPa l (rdSign l i).2).1,(rdPa l (rdSign l i).2).2.1,acc):=by
 unfold pset;rw [if_neg h,if_neg hr]
theorem pset_bt {l:List UInt8} {f i:Nat} {acc:List Te} (h:¬ (l.length<=i\/l[i]?=some 124)) (hr:(rdPa l (rdSign l i).2).1=0)
  (hb:((rdSign l i).1 < 0/\acc=[])/\(rdPa l (rdSign l i).2).2.1 < skipW l (rdPa l (rdSign l i).2).2.1/\l[skipW l (rdPa l (rdSign l i).2).2.1]?=some 45) :
  (pset l (f+1) i acc).1=btE l (skipW l (rdPa l (rdSign l i).2).2.1+1)/\(pset l (f+1) i acc).2.1=btJ l (skipW l (rdPa l (rdSign l i).2).2.1+1)/\((pset l (f+1) i acc).1=0->(pset l (f+1) i acc).2.2=[⟨7,(rdPa l (rdSign l i).2).2.2⟩,⟨2,(rdPa l (skipW l (skipW l (rdPa l (rdSign l i).2).2.1+1))).2.2⟩]/\(rdPa l (skipW l (skipW l (rdPa l (rdSign l i).2).2.1+1))).1=0):=by
 unfold pset btE btJ;rw [if_neg h,if_pos hr,if_pos hb]
 by_cases hm:skipW l (skipW l (rdPa l (rdSign l i).2).2.1+1)=skipW l (rdPa l (rdSign l i).2).2.1+1
 ·rw [if_pos hm,if_pos hm,if_pos hm];exact ⟨rfl,rfl,fun h=>by cases h⟩
 ·rw [if_neg hm,if_neg hm,if_neg hm]
  by_cases hq:(rdPa l (skipW l (skipW l (rdPa l (rdSign l i).2).2.1+1))).1=0
  ·rw [if_pos hq];exact ⟨hq.symm,rfl,fun _=>⟨rfl,hq⟩⟩
  ·rw [if_neg hq];exact ⟨rfl,rfl,fun h=>absurd h hq⟩
theorem pset_last {l:List UInt8} {f i:Nat} {acc:List Te} (h:¬ (l.length<=i\/l[i]?=some 124)) (hr:(rdPa l (rdSign l i).2).1=0) (hg:¬ (rdPa l (rdSign l i).2).2.1 < skipW l (rdPa l (rdSign l i).2).2.1) :
  pset l (f+1) i acc=(0,skipW l (rdPa l (rdSign l i).2).2.1,acc++[⟨signOr (rdSign l i).1,(rdPa l (rdSign l i).2).2.2⟩]):=by
 unfold pset;rw [if_neg h,if_pos hr,if_neg (fun hb=>hg hb.2.1),if_pos hg]
theorem pset_more {l:List UInt8} {f i:Nat} {acc:List Te} (h:¬ (l.length<=i\/l[i]?=some 124)) (hr:(rdPa l (rdSign l i).2).1=0) (hg:(rdPa l (rdSign l i).2).2.1 < skipW l (rdPa l (rdSign l i).2).2.1)
  (hb:¬ (((rdSign l i).1 < 0/\acc=[])/\l[skipW l (rdPa l (rdSign l i).2).2.1]?=some 45)) :
  pset l (f+1) i acc=pset l f (skipW l (rdPa l (rdSign l i).2).2.1) (acc++[⟨signOr (rdSign l i).1,(rdPa l (rdSign l i).2).2.2⟩]):=by
 rw [pset,if_neg h,if_pos hr,if_neg (fun hb'=>hb ⟨hb'.1,hb'.2.2⟩),if_neg (not_not_intro hg)]
theorem put8_gb0 {A:Nat} {w W:World} (h:w.grownBy W none) (hA:w.heap.size<=A) (T F:Value) (y1 y2 y3:Int) (x4:ByteArray) (n:Int):w.grownBy (put8 W A T F y1 y2 y3 x4 n) none:=gb_new0 (gb_new0 (gb_new0 (gb_new0 (gb_new0 (gb_new0 (gb_new0 (gb_new0 h hA _ _) hA _ _) hA _ _) hA _ _) hA _ _) hA _ _) hA _ _) hA _ _
theorem sign_enter (sg:Int) (hs:-1<=sg/\sg<=6):∀(args:Array Value) (w:World),(callFunc (signF sg) args).run Tryz.prog w=.ok (.enter (signF sg) args) w:=by
 intro args w;have hss:sg=-1\/sg=0\/sg=1\/sg=2\/sg=3\/sg=4\/sg=5\/sg=6:=by omega
 rcases hss with rfl | rfl | rfl | rfl | rfl | rfl | rfl | rfl
 ·exact Tryz.call128 args w
 ·exact Tryz.call128 args w
 ·exact Tryz.call124 args w
 ·exact Tryz.call125 args w
 ·exact Tryz.call126 args w
 ·exact Tryz.call127 args w
 ·exact Tryz.call129 args w
 ·exact Tryz.call132 args w
def SetPost (b:Nat) (s:ByteArray) (R:Int × Nat × List Te) (w:World) (e:Ending) (w':World):Prop :=
 ∃(o:Option Addr) (n c:Nat),e=.returned (.tuple #[.slice o n c,.int .i64 R.1])/\RS b s R.2.1 w'/\w.grownBy w' (some b)/\(R.1=0->∃L,OS w' w.heap.size (.slice o n c) L/\LOk L 300/\Has L (admL R.2.2))
theorem has_low:Has [sgS ⟨lowV,nilV,true⟩] (admL []):=by
 intro v hv;rw [holds_one,show admL [] v=true from rfl,has_iff];exact ⟨low_all v hv,Or.inl rfl⟩
theorem lok_low:LOk [sgS ⟨lowV,nilV,true⟩] 1:=LOk.one (g:=⟨lowV,nilV,true⟩) (n:=1) ⟨low_b 1 (Nat.le_refl _),fun h=>(by cases h),Nat.zero_le _⟩ (by decide)
theorem has_more {L M:List Sp} {acc:List Te} {sg:Int} {p:Pa} (h:Has L (admL acc)) (hs:-1<=sg/\sg<=6) (hp:PaOk p) (hM:∀x,holdsL M x=(holdsL L x && holdsL [sgS (signG (signOr sg) p)] x)):Has M (admL (acc++[⟨signOr sg,p⟩])):=by
 intro v hv;rw [hM,h v hv,holds_one,sign_ok (signOr sg) (by unfold signOr;split <;> omega) p hp v hv,admL_snoc]
theorem has_between {p q:Pa} (hp:PaOk p) (hq:PaOk q):Has [sgS (betweenG p q)] (admL [⟨7,p⟩,⟨2,q⟩]):=by
 intro v hv;rw [holds_one,between_ok p q hp hq v hv];show _=([⟨7,p⟩,⟨2,q⟩]:List Te).all _;simp
set_option maxRecDepth 100000 in
theorem set_any (b:Nat) (s:ByteArray) (i:Nat) (w:World) (hi:i<=s.size) (h:RS b s i w) (hs:s.size<=200) :
  Calls Tryz.prog 69 #[.pointer (some ⟨b,0,none⟩)] w (SetPost b s (pset s.data.toList (s.data.toList.length+1) (skipW s.data.toList i) []) w):=by
 obtain ⟨l,hl⟩:=nm (s.data.toList);have hll:l.length=s.size:=by rw [<-hl];simp
 have HLL:Hd (l.length=s.size/\s.size<=200):=⟨hll,hs⟩;have CL:Hd (∀w,Calls Tryz.prog 92 #[] w fun e w'=>e=.returned (.agg #[.int .i64 0,.int .i64 0,.int .i64 0,.string ⟨#[48]⟩,.string ⟨#[]⟩])/\w.grownBy w' none):=low_any;have CB:Hd (∀i w,i<=s.size->RS b s i w->Calls Tryz.prog 70 #[.pointer (some ⟨b,0,none⟩)] w fun e w'=>e=.returned (.bool (decide (i < skipW l i)))/\RS b s (skipW l i) w'/\w.grownBy w' (some b)):=fun i w hi h=>by rw [<-hl];exact blanks_any b s i w hi h (by omega)
 have CE:Hd (∀i w,RS b s i w->Calls Tryz.prog 51 #[.pointer (some ⟨b,0,none⟩)] w fun e w'=>e=.returned (.bool (decide (i=s.size)))/\∃n,w'=w.drewN n):=fun i w h=>ended_any b s i w h
 have CX:Hd (∀i w,i<=s.size->RS b s i w->Calls Tryz.prog 86 #[.pointer (some ⟨b,0,none⟩),.string ⟨#[124]⟩] w fun e w'=>e=.returned (.bool (decide (l[i]?=some 124)))/\∃n,w'=w.drewN n):=fun i w hi h=>by
  have:=next_any b s ⟨#[124]⟩ i w hi h;rw [show (ByteArray.mk #[124]).data.toList=[124] from rfl,prefix_one,hl] at this;exact this
 have CT:Hd (∀i w,i<=s.size->RS b s i w->Calls Tryz.prog 93 #[.pointer (some ⟨b,0,none⟩)] w (TePost b s (rdSign l i).1 (rdPa l (rdSign l i).2) w)):=fun i w hi h=>by rw [<-hl];exact test_any b s i w hi h (by omega)
 have TY:Hd (∀i w,l[i]?=some 45->RS b s i w->Calls Tryz.prog 66 #[.pointer (some ⟨b,0,none⟩),.string ⟨#[45]⟩] w fun e w'=>e=.returned (.bool true)/\RS b s (i+1) w'/\w.grownBy w' (some b)):=fun i w hc h=>take_yes b s i 45 w (by rw [hl];exact hc) h (by omega)
 have TN:Hd (∀i w,i<=s.size->¬ l[i]?=some 45->RS b s i w->Calls Tryz.prog 66 #[.pointer (some ⟨b,0,none⟩),.string ⟨#[45]⟩] w fun e w'=>e=.returned (.bool false)/\RS b s i w'/\w.grownBy w' (some b)):=fun i w hi hc h=>take_no b s i 45 w hi (by rw [hl];exact hc) h (by omega)
 have CBT:Hd (∀(i:Nat) (p:Pa) (y1 y2 y3:Int) (Q:ByteArray) (m:Int) (w:World),paAgg y1 y2 y3 Q m=paVal p->i<=s.size->RS b s i w->Calls Tryz.prog 94 #[.pointer (some ⟨b,0,none⟩),.agg #[.int .i64 y1,.int .i64 y2,.int .i64 y3,.string Q,.string ⟨#[]⟩,.int .i64 m]] w (BtPost b s (btE l i) (btJ l i) (betweenG p (rdPa l (skipW l i)).2.2) w)):=fun i p y1 y2 y3 Q m w hp hi h=>by rw [<-hl];exact rbetween_any b s i p y1 y2 y3 Q m hp w hi h hs
 have HSK:Hd (∀i,i<=s.size->i<=skipW l i/\skipW l i<=s.size):=fun i hi=>⟨skip_ge l i,by have:=skip_le l i (by rw [hll];exact hi);rw [hll] at this;exact this⟩
 have HPP:Hd (∀i,i<=s.size->(rdPa l (rdSign l i).2).1=0->i < (rdPa l (rdSign l i).2).2.1/\(rdPa l (rdSign l i).2).2.1<=s.size/\PaOk (rdPa l (rdSign l i).2).2.2):=fun i hi h0=>by
  have sp:=sign_pos l i (by rw [hll];exact hi);have pp:=pa_pos l _ sp.2 h0;exact ⟨by omega,by rw [<-hll];exact pp.2,pa_ok l _ sp.2 h0⟩
 have HPL:Hd (∀i,(rdPa l i).2.2.pre.length<=200):=fun i=>by have:=pa_len l i;omega
 have HI:Hd (RS b s i w):=h;have HIi:Hd (i<=s.size):=hi;have HBb:Hd (b < w.heap.size):=by obtain ⟨t,h⟩:=h;exact (hqL h)
 rw [hl];obtain ⟨E0,J0,ts0,hR⟩:∃E0 J0 ts0,pset l (l.length+1) (skipW l i) []=(E0,J0,ts0):=⟨_,_,_,rfl⟩;have HR0:Hd (pset l (l.length+1) (skipW l i) []=(E0,J0,ts0)):=hR;rw [hR];obtain ⟨B,hB⟩:=nm (w.heap.size);have HB:Hd (w.heap.size=B/\b < B):=⟨hB,by rw [<-hB];exact HBb.o⟩;clear hl hll hR h hs hi hB;go_enter Tryz.func69,Tryz.ntmps69;go_wp2_with (first | (go_at_call 92;refine (CL.o _).mono ?_));rintro e w1 ⟨rfl,hg⟩;have HG:Hd (w.grownBy w1 none):=hg;clear hg;go_wp2_with (first | (go_at_call 70;refine (CB.o i _ HIi.o ((HI.o.grow HG.o).grow (gb_alloc (gb_refl w1 none) _))).mono ?_));rintro e w2 ⟨rfl,hr,hg⟩;have HOS:Hd (OS w2 B (.slice (some ⟨w1.heap.size,0,none⟩) 1 1) [sgS ⟨lowV,nilV,true⟩]):=by
  refine OS.growb (b:=b) (w:=w1.alloc (.cells #[.int .i64 0,.int .i64 0,.int .i64 0,.string ⟨#[48]⟩,.string ⟨#[]⟩,.int .i64 0,.int .i64 0,.int .i64 0,.string ⟨#[]⟩,.string ⟨#[]⟩,.bool true] 110)) ?_ hg HB.o.2;exact OS.one (s:=sgS ⟨lowV,nilV,true⟩) (by rw [<-HB.o.1];exact HG.o.size) (heap_alloc_new w1 _)
 have HG2:Hd (w.grownBy w2 (some b)):=gb_trans (gb_weak (gb_trans HG.o (gb_alloc (gb_refl w1 none) _)) _) hg;have HR2:Hd (RS b s (skipW l i) w2):=hr;obtain ⟨a0,ha0⟩:=nm (w1.heap.size);rw [ha0] at HOS
 try rw [ha0]
 clear hr hg ha0 HG;go_wp2;go_loopw [4,5] (fun va vf wr=>∃(f j:Nat) (acc:List Te) (L:List Sp),vf=.bool acc.isEmpty/\j<=s.size/\l.length < f+j/\acc.length<=j/\pset l f j acc=(E0,J0,ts0)/\RS b s j wr/\OS wr B va L/\LOk L (acc.length+1)/\Has L (admL acc)/\w.grownBy wr (some b)) (fun _ _ wr=>s.size - placeOf b wr)
 case atStart=>exact ⟨l.length+1,skipW l i,[],_,rfl,(HSK.o i HIi.o).2,by omega,Nat.zero_le _,HR0.o,HR2.o,HOS.o,lok_low,has_low,HG2.o⟩
 case round =>
  obtain ⟨f,j,acc,L,rfl,hj,hf,ha,hps,hrs,hos,hlok,hhas,hg⟩:=hrel;clear HOS HR2 HG2 HR0;obtain ⟨o,n0,c0,rfl⟩:=hos.slice;obtain ⟨f,rfl⟩:∃f',f=f'+1:=by
   cases f with
   | zero=>have:=HLL.o.1;omega
   | succ f=>exact ⟨f,rfl⟩
  have HJ:Hd (j<=s.size):=hj;have HF:Hd (l.length < f+1+j):=hf;have HA:Hd (acc.length<=j):=ha;have HPS:Hd (pset l (f+1) j acc=(E0,J0,ts0)):=hps;have HRS:Hd (RS b s j wr):=hrs;have HOS:Hd (OS wr B (.slice o n0 c0) L):=hos;have HLK:Hd (LOk L (acc.length+1)):=hlok;have HHS:Hd (Has L (admL acc)):=hhas;have HG:Hd (w.grownBy wr (some b)):=hg;clear hj hf ha hps hrs hos hlok hhas hg;have HPLA:Hd (placeOf b wr=j):=HRS.o.place;have CEJ:Hd (∀w,RS b s j w->Calls Tryz.prog 51 #[.pointer (some ⟨b,0,none⟩)] w fun e w'=>e=.returned (.bool (decide (j=s.size)))/\∃n,w'=w.drewN n):=fun w h=>CE.o j w h
  have CXJ:Hd (∀w,RS b s j w->Calls Tryz.prog 86 #[.pointer (some ⟨b,0,none⟩),.string ⟨#[124]⟩] w fun e w'=>e=.returned (.bool (decide (l[j]?=some 124)))/\∃n,w'=w.drewN n):=fun w h=>CX.o j w HJ.o h
  have FIN:Hd (∀(W:World),RS b s J0 W->w.grownBy W (some b)->(∃L,OS W B (.slice o n0 c0) L/\LOk L 300/\Has L (admL ts0))->E0=0->SetPost b s (E0,J0,ts0) w (.returned (.tuple #[.slice o n0 c0,.int .i64 0])) W):=by
   intro W h1 h2 ⟨L,h3,h4,h5⟩ h6;subst h6;exact ⟨o,n0,c0,rfl,h1,h2,fun _=>⟨L,by rw [HB.o.1];exact h3,h4,h5⟩⟩
  by_cases hend:j=s.size
  ·have HST:Hd (l.length<=j\/l[j]?=some 124):=Or.inl (by have:=HLL.o.1;omega);rw [decide_eq_true hend] at CEJ;clear hend;go_wp2_with (first | (go_at_call 51;refine (CEJ.o _ HRS.o).mono ?_));rintro e u1 ⟨rfl,n,hn⟩;replace HRS:Hd (RS b s j u1):=by show RS b s j u1;rw [hn];exact HRS.o.drew n
   replace HOS:Hd (OS u1 B (.slice o n0 c0) L):=by show OS u1 B _ L;rw [hn];exact HOS.o
   replace HG:Hd (w.grownBy u1 (some b)):=by show w.grownBy u1 (some b);rw [hn];exact gb_drew HG.o n
   clear hn;go_wp2;obtain ⟨rfl,rfl,rfl⟩:E0=0/\J0=j/\ts0=acc:=by have:=HPS.o.symm.trans (pset_stop HST.o);simpa using this
   have hfin:=FIN.o _ HRS.o HG.o ⟨L,HOS.o,HLK.o.mono (by have:=HA.o;have:=HJ.o;have:=HLL.o.2;omega),HHS.o⟩ rfl;exact bodyPost_ret (results_tmp2 (t:=2) (u:=3) rfl _ _ _) rfl hfin
  ·rw [decide_eq_false hend] at CEJ;have HNE:Hd (¬ l.length<=j):=by show ¬ _;have:=HLL.o.1;have:=HJ.o;omega
   clear hend
   by_cases hbar:l[j]?=some 124
   ·have HST:Hd (l.length<=j\/l[j]?=some 124):=Or.inr hbar;rw [decide_eq_true hbar] at CXJ;clear hbar;go_wp2_with (first | (go_at_call 51;refine (CEJ.o _ HRS.o).mono ?_));rintro e u1 ⟨rfl,n,hn⟩;replace HRS:Hd (RS b s j u1):=by show RS b s j u1;rw [hn];exact HRS.o.drew n
    replace HOS:Hd (OS u1 B (.slice o n0 c0) L):=by show OS u1 B _ L;rw [hn];exact HOS.o
    replace HG:Hd (w.grownBy u1 (some b)):=by show w.grownBy u1 (some b);rw [hn];exact gb_drew HG.o n
    clear hn;go_wp2_with (first | (go_at_call 86;refine (CXJ.o _ HRS.o).mono ?_));rintro e u2 ⟨rfl,n,hn⟩;replace HRS:Hd (RS b s j u2):=by show RS b s j u2;rw [hn];exact HRS.o.drew n
    replace HOS:Hd (OS u2 B (.slice o n0 c0) L):=by show OS u2 B _ L;rw [hn];exact HOS.o
    replace HG:Hd (w.grownBy u2 (some b)):=by show w.grownBy u2 (some b);rw [hn];exact gb_drew HG.o n
    clear hn;go_wp2;obtain ⟨rfl,rfl,rfl⟩:E0=0/\J0=j/\ts0=acc:=by have:=HPS.o.symm.trans (pset_stop HST.o);simpa using this
    have hfin:=FIN.o _ HRS.o HG.o ⟨L,HOS.o,HLK.o.mono (by have:=HA.o;have:=HJ.o;have:=HLL.o.2;omega),HHS.o⟩ rfl;exact bodyPost_ret (results_tmp2 (t:=2) (u:=3) rfl _ _ _) rfl hfin
   ·have HST:Hd (¬ (l.length<=j\/l[j]?=some 124)):=fun h=>h.elim HNE.o hbar
    rw [decide_eq_false hbar] at CXJ;clear hbar HNE;have CTJ:Hd (∀w,RS b s j w->Calls Tryz.prog 93 #[.pointer (some ⟨b,0,none⟩)] w (TePost b s (rdSign l j).1 (rdPa l (rdSign l j).2) w)):=fun w h=>CT.o j w HJ.o h
    have HSG:Hd (-1<=(rdSign l j).1/\(rdSign l j).1<=6):=sign_val l j;have HPJ:Hd ((rdPa l (rdSign l j).2).1=0->j < (rdPa l (rdSign l j).2).2.1/\(rdPa l (rdSign l j).2).2.1<=s.size/\PaOk (rdPa l (rdSign l j).2).2.2):=HPP.o j HJ.o;have HPR:Hd ((rdPa l (rdSign l j).2).2.2.pre.length<=200):=HPL.o _;have BAD:Hd (¬ (rdPa l (rdSign l j).2).1=0->pset l (f+1) j acc=((rdPa l (rdSign l j).2).1,(rdPa l (rdSign l j).2).2.1,acc)):=fun h=>pset_bad HST.o h
    have LAST:Hd ((rdPa l (rdSign l j).2).1=0->¬ (rdPa l (rdSign l j).2).2.1 < skipW l (rdPa l (rdSign l j).2).2.1->pset l (f+1) j acc=(0,skipW l (rdPa l (rdSign l j).2).2.1,acc++[⟨signOr (rdSign l j).1,(rdPa l (rdSign l j).2).2.2⟩])):=fun h1 h2=>pset_last HST.o h1 h2
    have MORE:Hd ((rdPa l (rdSign l j).2).1=0->(rdPa l (rdSign l j).2).2.1 < skipW l (rdPa l (rdSign l j).2).2.1->¬ (((rdSign l j).1 < 0/\acc=[])/\l[skipW l (rdPa l (rdSign l j).2).2.1]?=some 45)->pset l (f+1) j acc=pset l f (skipW l (rdPa l (rdSign l j).2).2.1) (acc++[⟨signOr (rdSign l j).1,(rdPa l (rdSign l j).2).2.2⟩])):=fun h1 h2 h3=>pset_more HST.o h1 h2 h3
    have BTW:Hd ((rdPa l (rdSign l j).2).1=0->((rdSign l j).1 < 0/\acc=[])/\(rdPa l (rdSign l j).2).2.1 < skipW l (rdPa l (rdSign l j).2).2.1/\l[skipW l (rdPa l (rdSign l j).2).2.1]?=some 45->(pset l (f+1) j acc).1=btE l (skipW l (rdPa l (rdSign l j).2).2.1+1)/\(pset l (f+1) j acc).2.1=btJ l (skipW l (rdPa l (rdSign l j).2).2.1+1)/\((pset l (f+1) j acc).1=0->(pset l (f+1) j acc).2.2=[⟨7,(rdPa l (rdSign l j).2).2.2⟩,⟨2,(rdPa l (skipW l (skipW l (rdPa l (rdSign l j).2).2.1+1))).2.2⟩]/\(rdPa l (skipW l (skipW l (rdPa l (rdSign l j).2).2.1+1))).1=0)):=fun h1 h2=>pset_bt HST.o h1 h2
    obtain ⟨sg,j1,hsg⟩:∃sg j1,rdSign l j=(sg,j1):=⟨_,_,rfl⟩;rw [hsg] at CTJ HSG HPJ HPR BAD LAST MORE BTW;simp only [] at CTJ HSG HPJ HPR BAD LAST MORE BTW;obtain ⟨E,J,p,hR⟩:∃E J p,rdPa l j1=(E,J,p):=⟨_,_,_,rfl⟩;rw [hR] at CTJ HPJ HPR BAD LAST MORE BTW;simp only [] at HPJ HPR BAD LAST MORE BTW;rw [HPS.o] at BAD LAST MORE BTW;simp only [] at BTW;clear hsg hR HST;go_wp2_with (first | (go_at_call 51;refine (CEJ.o _ HRS.o).mono ?_));rintro e u1 ⟨rfl,n,hn⟩;replace HRS:Hd (RS b s j u1):=by show RS b s j u1;rw [hn];exact HRS.o.drew n
    replace HOS:Hd (OS u1 B (.slice o n0 c0) L):=by show OS u1 B _ L;rw [hn];exact HOS.o
    replace HG:Hd (w.grownBy u1 (some b)):=by show w.grownBy u1 (some b);rw [hn];exact gb_drew HG.o n
    clear hn;go_wp2_with (first | (go_at_call 86;refine (CXJ.o _ HRS.o).mono ?_));rintro e u2 ⟨rfl,n,hn⟩;replace HRS:Hd (RS b s j u2):=by show RS b s j u2;rw [hn];exact HRS.o.drew n
    replace HOS:Hd (OS u2 B (.slice o n0 c0) L):=by show OS u2 B _ L;rw [hn];exact HOS.o
    replace HG:Hd (w.grownBy u2 (some b)):=by show w.grownBy u2 (some b);rw [hn];exact gb_drew HG.o n
    clear hn;go_wp2_with (first | (go_at_call 93;refine (CTJ.o _ HRS.o).mono ?_));rintro e u3 ⟨T,x1,x2,x3,P,n,rfl,hT,hr,hg,hok⟩;replace HRS:Hd (RS b s J u3):=hr;have HOK:Hd (E=0->paAgg x1 x2 x3 P n=paVal p):=hok;replace HOS:Hd (OS u3 B (.slice o n0 c0) L):=HOS.o.growb hg HB.o.2;replace HG:Hd (w.grownBy u3 (some b)):=gb_trans HG.o hg;have HT:Hd (T.toList.isEmpty=decide (sg < 0)):=hT;obtain ⟨F,hF⟩:=nm (signF sg);have HFF:Hd (signF sg=F):=hF;rw [hF];obtain ⟨D,hD⟩:=nm (u3.heap.size);obtain ⟨W0,hW0⟩:=nm (u3.alloc (.cells #[.string ⟨#[]⟩,.nilFunc,.int .i64 0,.int .i64 0,.int .i64 0,.string ⟨#[]⟩,.string ⟨#[]⟩,.int .i64 0] 165));have HD0:Hd (TB D (.string ⟨#[]⟩) .nilFunc 0 0 0 ⟨#[]⟩ 0 W0):=by
     show TB D _ _ 0 0 0 _ 0 W0;unfold TB;rw [<-hW0,<-hD];exact heap_alloc_new u3 _
    have hgW:u3.grownBy W0 none:=by rw [<-hW0];exact gb_alloc (gb_refl u3 none) _
    have HDB:Hd (B<=D/\b ≠ D):=by have h1:=HG.o.size;have h2:=HB.o;rw [h2.1,hD] at h1;exact ⟨h1,by omega⟩
    have HGW:Hd (u3.grownBy W0 none/\u3.heap.size<=D):=⟨hgW,Nat.le_of_eq hD⟩;obtain ⟨k0,k1,k2,k3,k4,k5,k6,k7⟩:=HD0.o.cells;have kf:=HD0.o.f;have stf:∀(a:Addr) (m:Mode) (w:World),(store a (.func (.func F) #[] #[]) m).run Tryz.prog w=stored Tryz.prog w a (.func (.func F) #[] #[]) m:=fun a m w=>run_store Tryz.prog w a _ m rfl
    clear hr hg hok hT hF hgW
    cases hz:(E == 0) with
    | false =>
     have hE0:¬ E=0:=by simpa using hz
     have HB2:Hd ((E0,J0,ts0)=(E,J,acc)):=BAD.o hE0;have HE0:Hd (¬ E=0):=hE0;clear hE0;go_wp2;refine bodyPost_ret (results_tmp2 (t:=2) (u:=3) rfl _ _ _) rfl ?_;rw [HB2.o];exact ⟨_,_,_,rfl,put8_rs (HRS.o.grow HGW.o.1) HDB.o.2 _ _ _ _ _ _ _,gb_trans HG.o (gb_weak (put8_gb0 HGW.o.1 HGW.o.2 _ _ _ _ _ _ _) _),fun h=>absurd h HE0.o⟩
    | true =>
     have hE0:E=0:=by simpa using hz
     subst hE0;obtain ⟨hp1,hp2,hp3⟩:=HPJ.o rfl;have HP:Hd (j < J/\J<=s.size/\PaOk p):=⟨hp1,hp2,hp3⟩;have CBJ:Hd (∀w,RS b s J w->Calls Tryz.prog 70 #[.pointer (some ⟨b,0,none⟩)] w fun e w'=>e=.returned (.bool (decide (J < skipW l J)))/\RS b s (skipW l J) w'/\w.grownBy w' (some b)):=fun w h=>CB.o J w HP.o.2.1 h
     have HPV:Hd (paAgg x1 x2 x3 P n=paVal p):=HOK.o rfl;have HKK:Hd (J<=skipW l J/\skipW l J<=s.size):=HSK.o J HP.o.2.1;obtain ⟨K,hK⟩:=nm (skipW l J);rw [hK] at CBJ HKK LAST MORE BTW;have hcs:=cSign sg HSG.o p HP.o.2.2 (by have:=HPR.o;omega);rw [HFF.o,<-HPV.o] at hcs;obtain ⟨s1,hs1⟩:=nm (sgS (signG (signOr sg) p));have CF:Hd (∀w,Calls Tryz.prog F #[.agg #[.int .i64 x1,.int .i64 x2,.int .i64 x3,.string P,.string ⟨#[]⟩,.int .i64 n]] w fun e w'=>e=.returned (.agg #[.int .i64 s1.f1,.int .i64 s1.f2,.int .i64 s1.f3,.string s1.f4,.string s1.f5,.int .i64 s1.t1,.int .i64 s1.t2,.int .i64 s1.t3,.string s1.t4,.string s1.t5,.bool s1.o])/\w.grownBy w' none):=fun w=>by rw [<-hs1];exact hcs w
     have hent:∀(args:Array Value) (w:World),(callFunc F args).run Tryz.prog w=.ok (.enter F args) w:=by rw [<-HFF.o];exact sign_enter sg HSG.o
     have HS1:Hd (sgS (signG (signOr sg) p)=s1):=hs1;have HG1:Hd (GOk (signG (signOr sg) p) 1000):=sign_g _ p HP.o.2.2 1000 (by omega) (by have:=HPR.o;omega);have HM1:Hd (LOk [s1] 1):=by show LOk [s1] 1;rw [<-hs1];exact LOk.one HG1.o (by omega)
     have CM:Hd (∀w sl sm,SpS w sl L->SpS w sm [s1]->Calls Tryz.prog 95 #[sl,sm] w (TOst (fun x=>holdsL L x && holdsL [s1] x) (acc.length+1+1) w)):=fun w sl sm h1 h2=>oMeet sl sm L [s1] (acc.length+1) 1 w h1 h2 HLK.o HM1.o (by have:=HA.o;have:=HJ.o;have:=HLL.o.2;omega) (by omega)
     have HHM:Hd (∀M:List Sp,(∀x,holdsL M x=(holdsL L x && holdsL [s1] x))->Has M (admL (acc++[⟨signOr sg,p⟩]))):=fun M h=>has_more HHS.o HSG.o HP.o.2.2 (by rw [HS1.o];exact h)
     clear hp1 hp2 hp3 hK hcs hs1 hz;obtain ⟨ap,hap⟩:=nm (decide (J < K));rw [hap] at CBJ;have HAP:Hd (decide (J < K)=ap):=hap;clear hap;go_wp2_with (first | (go_at_call 70;refine (CBJ.o _ (put8_rs (HRS.o.grow HGW.o.1) HDB.o.2 _ _ _ _ _ _ _)).mono ?_));rintro e u4 ⟨rfl,hr,hg⟩;replace HRS:Hd (RS b s K u4):=hr;have HTD:Hd (TB D (.string T) (.func (.func F) #[] #[]) x1 x2 x3 P n u4):=(put8_row (T:=.string T) (F:=.func (.func F) #[] #[]) HD0.o x1 x2 x3 P n).growb hg (Ne.symm HDB.o.2);replace HOS:Hd (OS u4 B (.slice o n0 c0) L):=(HOS.o.grow (put8_gb0 HGW.o.1 HGW.o.2 _ _ _ _ _ _ _)).growb hg HB.o.2;replace HG:Hd (w.grownBy u4 (some b)):=gb_trans (gb_trans HG.o (gb_weak (put8_gb0 HGW.o.1 HGW.o.2 _ _ _ _ _ _ _) _)) hg;clear hr hg k0 k1 k2 k3 k4 k5 k6 k7 kf stf hW0 hD HD0 HGW;obtain ⟨k0,k1,k2,k3,k4,k5,k6,k7⟩:=HTD.o.cells
     cases hfb:acc.isEmpty with
     | false =>
      have HNB:Hd (¬ acc=[]):=by show ¬ _;intro h;rw [h] at hfb;cases hfb
      cases ap with
      | false =>
       go_wp2_with (first | (refine (CF.o _).mono ?_));rintro e u5 ⟨rfl,hg⟩;replace HRS:Hd (RS b s K u5):=HRS.o.grow hg;replace HOS:Hd (OS u5 B (.slice o n0 c0) L):=HOS.o.grow hg;replace HG:Hd (w.grownBy u5 (some b)):=gb_trans HG.o (gb_weak hg _);clear hg k0 k1 k2 k3 k4 k5 k6 k7;go_wp2_with (first | (go_at_call 95;refine (CM.o _ _ _ (HOS.o.grow (gb_alloc (gb_refl u5 none) _)).sps (OS.one (base:=0) (s:=s1) (Nat.zero_le _) (heap_alloc_new u5 _)).sps).mono ?_));rintro e u6 ⟨hg,o',n',c',T',rfl,hos,hlk,hnt,hh⟩;have hg':u5.grownBy u6 none:=gb_trans (gb_alloc (gb_refl u5 none) _) hg;replace HRS:Hd (RS b s K u6):=HRS.o.grow hg';have HGn:Hd (w.grownBy u6 (some b)):=gb_trans HG.o (gb_weak hg' _);have HON:Hd (OS u6 B (.slice o' n' c') (outs T')):=hos.base (by have h1:=HG.o.size;rw [HB.o.1] at h1;simp;omega);have HLN:Hd (LOk (outs T') (acc.length+1+1)):=hlk;have HHN:Hd (Has (outs T') (admL (acc++[⟨signOr sg,p⟩]))):=HHM.o _ hh
       clear hg hg' hos hlk hnt hh;obtain ⟨rfl,rfl,rfl⟩:E0=0/\J0=K/\ts0=acc++[⟨signOr sg,p⟩]:=by have:=LAST.o (by first | trivial | rfl) (of_decide_eq_false HAP.o);simpa using this
       go_wp2;exact bodyPost_ret (results_tmp2 (t:=2) (u:=3) rfl _ _ _) rfl ⟨_,_,_,rfl,HRS.o,HGn.o,fun _=>⟨outs T',by rw [HB.o.1];exact HON.o,HLN.o.mono (by have:=HA.o;have:=HJ.o;have:=HLL.o.2;omega),HHN.o⟩⟩
      | true =>
       go_wp2_with (first | (refine (CF.o _).mono ?_));rintro e u5 ⟨rfl,hg⟩;replace HRS:Hd (RS b s K u5):=HRS.o.grow hg;replace HOS:Hd (OS u5 B (.slice o n0 c0) L):=HOS.o.grow hg;replace HG:Hd (w.grownBy u5 (some b)):=gb_trans HG.o (gb_weak hg _);clear hg k0 k1 k2 k3 k4 k5 k6 k7;go_wp2_with (first | (go_at_call 95;refine (CM.o _ _ _ (HOS.o.grow (gb_alloc (gb_refl u5 none) _)).sps (OS.one (base:=0) (s:=s1) (Nat.zero_le _) (heap_alloc_new u5 _)).sps).mono ?_));rintro e u6 ⟨hg,o',n',c',T',rfl,hos,hlk,hnt,hh⟩;have hg':u5.grownBy u6 none:=gb_trans (gb_alloc (gb_refl u5 none) _) hg;replace HRS:Hd (RS b s K u6):=HRS.o.grow hg';have HGn:Hd (w.grownBy u6 (some b)):=gb_trans HG.o (gb_weak hg' _);have HON:Hd (OS u6 B (.slice o' n' c') (outs T')):=hos.base (by have h1:=HG.o.size;rw [HB.o.1] at h1;simp;omega);have HLN:Hd (LOk (outs T') (acc.length+1+1)):=hlk;have HHN:Hd (Has (outs T') (admL (acc++[⟨signOr sg,p⟩]))):=HHM.o _ hh
       clear hg hg' hos hlk hnt hh;have HNX:Hd ((E0,J0,ts0)=pset l f K (acc++[⟨signOr sg,p⟩])):=MORE.o (by first | trivial | rfl) (of_decide_eq_true HAP.o) (fun h=>HNB.o h.1.2);go_wp2;go_roundw
       case rel=>exact ⟨f,K,acc++[⟨signOr sg,p⟩],outs T',by simp,HKK.o.2,by have h1:=HF.o;have h2:=HP.o.1;have h3:=of_decide_eq_true HAP.o;omega,by rw [List.length_append];have h1:=HA.o;have h2:=HP.o.1;have h3:=HKK.o.1;simp;omega,HNX.o.symm,HRS.o,HON.o,by rw [List.length_append];exact HLN.o,HHN.o,HGn.o⟩
       case measure =>
        have e1:=HPLA.o;have e2:=HRS.o.place;rw [e1];exact Nat.lt_of_le_of_lt (Nat.le_of_eq (congrArg (s.size - ·) e2)) (by have h1:=HP.o.1;have h2:=HKK.o;have h3:=HP.o.2.1;omega)
     | true =>
      cases htb:decide (sg < 0) with
      | false =>
       have hte:=HT.o;rw [htb] at hte;have HNB:Hd (¬ sg < 0):=(of_decide_eq_false htb:¬ sg < 0);clear htb
       cases ap with
       | false =>
        go_wp2_with (first | (refine (CF.o _).mono ?_));rintro e u5 ⟨rfl,hg⟩;replace HRS:Hd (RS b s K u5):=HRS.o.grow hg;replace HOS:Hd (OS u5 B (.slice o n0 c0) L):=HOS.o.grow hg;replace HG:Hd (w.grownBy u5 (some b)):=gb_trans HG.o (gb_weak hg _);clear hg k0 k1 k2 k3 k4 k5 k6 k7;go_wp2_with (first | (go_at_call 95;refine (CM.o _ _ _ (HOS.o.grow (gb_alloc (gb_refl u5 none) _)).sps (OS.one (base:=0) (s:=s1) (Nat.zero_le _) (heap_alloc_new u5 _)).sps).mono ?_));rintro e u6 ⟨hg,o',n',c',T',rfl,hos,hlk,hnt,hh⟩;have hg':u5.grownBy u6 none:=gb_trans (gb_alloc (gb_refl u5 none) _) hg;replace HRS:Hd (RS b s K u6):=HRS.o.grow hg';have HGn:Hd (w.grownBy u6 (some b)):=gb_trans HG.o (gb_weak hg' _);have HON:Hd (OS u6 B (.slice o' n' c') (outs T')):=hos.base (by have h1:=HG.o.size;rw [HB.o.1] at h1;simp;omega);have HLN:Hd (LOk (outs T') (acc.length+1+1)):=hlk;have HHN:Hd (Has (outs T') (admL (acc++[⟨signOr sg,p⟩]))):=HHM.o _ hh
        clear hg hg' hos hlk hnt hh;obtain ⟨rfl,rfl,rfl⟩:E0=0/\J0=K/\ts0=acc++[⟨signOr sg,p⟩]:=by have:=LAST.o (by first | trivial | rfl) (of_decide_eq_false HAP.o);simpa using this
        go_wp2;exact bodyPost_ret (results_tmp2 (t:=2) (u:=3) rfl _ _ _) rfl ⟨_,_,_,rfl,HRS.o,HGn.o,fun _=>⟨outs T',by rw [HB.o.1];exact HON.o,HLN.o.mono (by have:=HA.o;have:=HJ.o;have:=HLL.o.2;omega),HHN.o⟩⟩
       | true =>
        go_wp2_with (first | (refine (CF.o _).mono ?_));rintro e u5 ⟨rfl,hg⟩;replace HRS:Hd (RS b s K u5):=HRS.o.grow hg;replace HOS:Hd (OS u5 B (.slice o n0 c0) L):=HOS.o.grow hg;replace HG:Hd (w.grownBy u5 (some b)):=gb_trans HG.o (gb_weak hg _);clear hg k0 k1 k2 k3 k4 k5 k6 k7;go_wp2_with (first | (go_at_call 95;refine (CM.o _ _ _ (HOS.o.grow (gb_alloc (gb_refl u5 none) _)).sps (OS.one (base:=0) (s:=s1) (Nat.zero_le _) (heap_alloc_new u5 _)).sps).mono ?_));rintro e u6 ⟨hg,o',n',c',T',rfl,hos,hlk,hnt,hh⟩;have hg':u5.grownBy u6 none:=gb_trans (gb_alloc (gb_refl u5 none) _) hg;replace HRS:Hd (RS b s K u6):=HRS.o.grow hg';have HGn:Hd (w.grownBy u6 (some b)):=gb_trans HG.o (gb_weak hg' _);have HON:Hd (OS u6 B (.slice o' n' c') (outs T')):=hos.base (by have h1:=HG.o.size;rw [HB.o.1] at h1;simp;omega);have HLN:Hd (LOk (outs T') (acc.length+1+1)):=hlk;have HHN:Hd (Has (outs T') (admL (acc++[⟨signOr sg,p⟩]))):=HHM.o _ hh
        clear hg hg' hos hlk hnt hh;have HNX:Hd ((E0,J0,ts0)=pset l f K (acc++[⟨signOr sg,p⟩])):=MORE.o (by first | trivial | rfl) (of_decide_eq_true HAP.o) (fun h=>by have h1:=HNB.o;have h2:=h.1.1;omega);go_wp2;go_roundw
        case rel=>exact ⟨f,K,acc++[⟨signOr sg,p⟩],outs T',by simp,HKK.o.2,by have h1:=HF.o;have h2:=HP.o.1;have h3:=of_decide_eq_true HAP.o;omega,by rw [List.length_append];have h1:=HA.o;have h2:=HP.o.1;have h3:=HKK.o.1;simp;omega,HNX.o.symm,HRS.o,HON.o,by rw [List.length_append];exact HLN.o,HHN.o,HGn.o⟩
        case measure =>
         have e1:=HPLA.o;have e2:=HRS.o.place;rw [e1];exact Nat.lt_of_le_of_lt (Nat.le_of_eq (congrArg (s.size - ·) e2)) (by have h1:=HP.o.1;have h2:=HKK.o;have h3:=HP.o.2.1;omega)
      | true =>
       have hte:=HT.o;rw [htb] at hte;have HSN:Hd (sg < 0):=(of_decide_eq_true htb:sg < 0);have HEM:Hd (acc=[]):=by show acc=[];simpa using hfb
       clear htb
       cases ap with
       | false =>
        go_wp2_with (first | (refine (CF.o _).mono ?_));rintro e u5 ⟨rfl,hg⟩;replace HRS:Hd (RS b s K u5):=HRS.o.grow hg;replace HOS:Hd (OS u5 B (.slice o n0 c0) L):=HOS.o.grow hg;replace HG:Hd (w.grownBy u5 (some b)):=gb_trans HG.o (gb_weak hg _);clear hg k0 k1 k2 k3 k4 k5 k6 k7;go_wp2_with (first | (go_at_call 95;refine (CM.o _ _ _ (HOS.o.grow (gb_alloc (gb_refl u5 none) _)).sps (OS.one (base:=0) (s:=s1) (Nat.zero_le _) (heap_alloc_new u5 _)).sps).mono ?_));rintro e u6 ⟨hg,o',n',c',T',rfl,hos,hlk,hnt,hh⟩;have hg':u5.grownBy u6 none:=gb_trans (gb_alloc (gb_refl u5 none) _) hg;replace HRS:Hd (RS b s K u6):=HRS.o.grow hg';have HGn:Hd (w.grownBy u6 (some b)):=gb_trans HG.o (gb_weak hg' _);have HON:Hd (OS u6 B (.slice o' n' c') (outs T')):=hos.base (by have h1:=HG.o.size;rw [HB.o.1] at h1;simp;omega);have HLN:Hd (LOk (outs T') (acc.length+1+1)):=hlk;have HHN:Hd (Has (outs T') (admL (acc++[⟨signOr sg,p⟩]))):=HHM.o _ hh
        clear hg hg' hos hlk hnt hh;obtain ⟨rfl,rfl,rfl⟩:E0=0/\J0=K/\ts0=acc++[⟨signOr sg,p⟩]:=by have:=LAST.o (by first | trivial | rfl) (of_decide_eq_false HAP.o);simpa using this
        go_wp2;exact bodyPost_ret (results_tmp2 (t:=2) (u:=3) rfl _ _ _) rfl ⟨_,_,_,rfl,HRS.o,HGn.o,fun _=>⟨outs T',by rw [HB.o.1];exact HON.o,HLN.o.mono (by have:=HA.o;have:=HJ.o;have:=HLL.o.2;omega),HHN.o⟩⟩
       | true =>
        cases hda:decide (l[K]?=some 45) with
        | false =>
         have HND:Hd (¬ l[K]?=some 45):=(of_decide_eq_false hda:¬ l[K]?=some 45);clear hda;have TNK:Hd (∀w,RS b s K w->Calls Tryz.prog 66 #[.pointer (some ⟨b,0,none⟩),.string ⟨#[45]⟩] w fun e w'=>e=.returned (.bool false)/\RS b s K w'/\w.grownBy w' (some b)):=fun w h=>TN.o K w HKK.o.2 HND.o h
         go_wp2_with (first | (go_at_call 66;refine (TNK.o _ HRS.o).mono ?_));rintro e u7 ⟨rfl,hr,hg⟩;replace HRS:Hd (RS b s K u7):=hr;replace HTD:Hd (TB D (.string T) (.func (.func F) #[] #[]) x1 x2 x3 P n u7):=HTD.o.growb hg (Ne.symm HDB.o.2);replace HOS:Hd (OS u7 B (.slice o n0 c0) L):=HOS.o.growb hg HB.o.2;replace HG:Hd (w.grownBy u7 (some b)):=gb_trans HG.o hg;clear hr hg k0 k1 k2 k3 k4 k5 k6 k7;obtain ⟨k0,k1,k2,k3,k4,k5,k6,k7⟩:=HTD.o.cells;go_wp2_with (first | (refine (CF.o _).mono ?_));rintro e u5 ⟨rfl,hg⟩;replace HRS:Hd (RS b s K u5):=HRS.o.grow hg;replace HOS:Hd (OS u5 B (.slice o n0 c0) L):=HOS.o.grow hg;replace HG:Hd (w.grownBy u5 (some b)):=gb_trans HG.o (gb_weak hg _);clear hg k0 k1 k2 k3 k4 k5 k6 k7;go_wp2_with (first | (go_at_call 95;refine (CM.o _ _ _ (HOS.o.grow (gb_alloc (gb_refl u5 none) _)).sps (OS.one (base:=0) (s:=s1) (Nat.zero_le _) (heap_alloc_new u5 _)).sps).mono ?_))
         rintro e u6 ⟨hg,o',n',c',T',rfl,hos,hlk,hnt,hh⟩;have hg':u5.grownBy u6 none:=gb_trans (gb_alloc (gb_refl u5 none) _) hg;replace HRS:Hd (RS b s K u6):=HRS.o.grow hg';have HGn:Hd (w.grownBy u6 (some b)):=gb_trans HG.o (gb_weak hg' _);have HON:Hd (OS u6 B (.slice o' n' c') (outs T')):=hos.base (by have h1:=HG.o.size;rw [HB.o.1] at h1;simp;omega);have HLN:Hd (LOk (outs T') (acc.length+1+1)):=hlk;have HHN:Hd (Has (outs T') (admL (acc++[⟨signOr sg,p⟩]))):=HHM.o _ hh;clear hg hg' hos hlk hnt hh;have HNX:Hd ((E0,J0,ts0)=pset l f K (acc++[⟨signOr sg,p⟩])):=MORE.o (by first | trivial | rfl) (of_decide_eq_true HAP.o) (fun h=>HND.o h.2);go_wp2;go_roundw
         case rel=>exact ⟨f,K,acc++[⟨signOr sg,p⟩],outs T',by simp,HKK.o.2,by have h1:=HF.o;have h2:=HP.o.1;have h3:=of_decide_eq_true HAP.o;omega,by rw [List.length_append];have h1:=HA.o;have h2:=HP.o.1;have h3:=HKK.o.1;simp;omega,HNX.o.symm,HRS.o,HON.o,by rw [List.length_append];exact HLN.o,HHN.o,HGn.o⟩
         case measure =>
          have e1:=HPLA.o;have e2:=HRS.o.place;rw [e1];exact Nat.lt_of_le_of_lt (Nat.le_of_eq (congrArg (s.size - ·) e2)) (by have h1:=HP.o.1;have h2:=HKK.o;have h3:=HP.o.2.1;omega)
        | true =>
         have HYD:Hd (l[K]?=some 45):=(of_decide_eq_true hda:l[K]?=some 45);clear hda;have TYK:Hd (∀w,RS b s K w->Calls Tryz.prog 66 #[.pointer (some ⟨b,0,none⟩),.string ⟨#[45]⟩] w fun e w'=>e=.returned (.bool true)/\RS b s (K+1) w'/\w.grownBy w' (some b)):=fun w h=>TY.o K w HYD.o h
         have HK1:Hd (K+1<=s.size):=by have:=dot_lt HYD.o;rw [HLL.o.1] at this;exact this
         go_wp2_with (first | (go_at_call 66;refine (TYK.o _ HRS.o).mono ?_));rintro e u7 ⟨rfl,hr,hg⟩;replace HRS:Hd (RS b s (K+1) u7):=hr;replace HTD:Hd (TB D (.string T) (.func (.func F) #[] #[]) x1 x2 x3 P n u7):=HTD.o.growb hg (Ne.symm HDB.o.2);replace HG:Hd (w.grownBy u7 (some b)):=gb_trans HG.o hg;clear hr hg k0 k1 k2 k3 k4 k5 k6 k7;obtain ⟨k0,k1,k2,k3,k4,k5,k6,k7⟩:=HTD.o.cells;obtain ⟨hb1,hb2,hb3⟩:=BTW.o (by first | trivial | rfl) ⟨⟨HSN.o,HEM.o⟩,of_decide_eq_true HAP.o,HYD.o⟩;have CBK:Hd (∀w,RS b s (K+1) w->Calls Tryz.prog 94 #[.pointer (some ⟨b,0,none⟩),.agg #[.int .i64 x1,.int .i64 x2,.int .i64 x3,.string P,.string ⟨#[]⟩,.int .i64 n]] w (BtPost b s E0 J0 (betweenG p (rdPa l (skipW l (K+1))).2.2) w)):=fun w h=>by rw [hb1,hb2];exact CBT.o (K+1) p x1 x2 x3 P n w HPV.o HK1.o h
         have HOKB:Hd (E0=0->ts0=[⟨7,p⟩,⟨2,(rdPa l (skipW l (K+1))).2.2⟩]/\(rdPa l (skipW l (K+1))).1=0):=hb3;have HQP:Hd ((rdPa l (skipW l (K+1))).1=0->PaOk (rdPa l (skipW l (K+1))).2.2):=fun h0=>pa_ok l _ (by rw [HLL.o.1];exact (HSK.o (K+1) HK1.o).2) h0
         clear hb1 hb2 hb3;go_wp2_with (first | (go_at_call 94;refine (CBK.o _ HRS.o).mono ?_));rintro e u8 ⟨o',n',c',rfl,hr,hg,hok⟩;have HR8:Hd (RS b s J0 u8):=hr;have HG8:Hd (w.grownBy u8 (some b)):=gb_trans HG.o hg;have HO8:Hd (E0=0->OS u8 B (.slice o' n' c') [sgS (betweenG p (rdPa l (skipW l (K+1))).2.2)]):=fun h=>(hok h).base (by have:=HG.o.size;rw [HB.o.1] at this;exact this)
         clear hr hg hok;go_wp2;refine bodyPost_ret (results_tmp2 (t:=2) (u:=3) rfl _ _ _) rfl ⟨_,_,_,rfl,HR8.o,HG8.o,fun h=>?_⟩;obtain ⟨q1,q2⟩:=HOKB.o h;refine ⟨_,by rw [HB.o.1];exact HO8.o h,(LOk.one (between_g p _ HP.o.2.2 (HQP.o q2) 1000 (by omega) (by have:=HPR.o;omega) (by have:=HPL.o (skipW l (K+1));omega)) (by omega)).mono (by omega),?_⟩;show Has _ (admL ts0);rw [q1];exact has_between HP.o.2.2 (HQP.o q2)
end Go.Proofs.YticgahdffjnabaaGreatDoor
