import Derived.Test.YtonfldbigenfhaaGreatDoorM23
namespace Go.Proofs.YtonfldbigenfhaaGreatDoor
open Go.RowKit
set_option linter.unusedVariables false
theorem pset_stop {l:List UInt8} {f i:Nat} {acc:List Te} (h:l.length<=i\/l[i]?=some 124):pset l (f+1) i acc=(0,i,acc):=by unfold pset;rw [if_pos h]
theorem pset_bad {l:List UInt8} {f i:Nat} {acc:List Te} (h:¬ (l.length<=i\/l[i]?=some 124)) (hr:¬ (rdPa l (rdSign l i).2).1=0):pset l (f+1) i acc=((rdPa l (rdSign l i).2).1,(rdPa l (rdSign l i).2).2.1,acc):=by
 unfold pset;rw [if_neg h,if_neg hr]
theorem pset_bt {l:List UInt8} {f i:Nat} {acc:List Te} (h:¬ (l.length<=i\/l[i]?=some 124)) (hr:(rdPa l (rdSign l i).2).1=0)
  (hb:((rdSign l i).1 < 0/\acc=[])/\(rdPa l (rdSign l i).2).2.1 < skipW l (rdPa l (rdSign l i).2).2.1/\l[skipW l (rdPa l (rdSign l i).2).2.1]?=some 45) :
  (pset l (f+1) i acc).1=btE l (skipW l (rdPa l (rdSign l i).2).2.1+1)/\(pset l (f+1) i acc).2.1=btJ l (skipW l (rdPa l (rdSign l i).2).2.1+1)/\((pset l (f+1) i acc).1=0->(pset l (f+1) i acc).2.2=[⟨7,(rdPa l (rdSign l i).2).2.2⟩,⟨2,(rdPa l (skipW l (skipW l (rdPa l (rdSign l i).2).2.1+1))).2.2⟩]/\(rdPa l (skipW l (skipW l (rdPa l (rdSign l i).2).2.1+1))).1=0):=by
 unfold pset btE btJ
 rw [if_neg h,if_pos hr,if_pos hb]
 by_cases hm:skipW l (skipW l (rdPa l (rdSign l i).2).2.1+1)=skipW l (rdPa l (rdSign l i).2).2.1+1
 ·rw [if_pos hm,if_pos hm,if_pos hm]
  exact ⟨rfl,rfl,fun h=>by cases h⟩
 ·rw [if_neg hm,if_neg hm,if_neg hm]
  by_cases hq:(rdPa l (skipW l (skipW l (rdPa l (rdSign l i).2).2.1+1))).1=0
  ·rw [if_pos hq]
   exact ⟨hq.symm,rfl,fun _=>⟨rfl,hq⟩⟩
  ·rw [if_neg hq]
   exact ⟨rfl,rfl,fun h=>absurd h hq⟩
theorem pset_last {l:List UInt8} {f i:Nat} {acc:List Te} (h:¬ (l.length<=i\/l[i]?=some 124)) (hr:(rdPa l (rdSign l i).2).1=0) (hg:¬ (rdPa l (rdSign l i).2).2.1 < skipW l (rdPa l (rdSign l i).2).2.1) :
  pset l (f+1) i acc=(0,skipW l (rdPa l (rdSign l i).2).2.1,acc++[⟨signOr (rdSign l i).1,(rdPa l (rdSign l i).2).2.2⟩]):=by
 unfold pset;rw [if_neg h,if_pos hr,if_neg (fun hb=>hg hb.2.1),if_pos hg]
theorem pset_more {l:List UInt8} {f i:Nat} {acc:List Te} (h:¬ (l.length<=i\/l[i]?=some 124)) (hr:(rdPa l (rdSign l i).2).1=0) (hg:(rdPa l (rdSign l i).2).2.1 < skipW l (rdPa l (rdSign l i).2).2.1)
  (hb:¬ (((rdSign l i).1 < 0/\acc=[])/\l[skipW l (rdPa l (rdSign l i).2).2.1]?=some 45)) :
  pset l (f+1) i acc=pset l f (skipW l (rdPa l (rdSign l i).2).2.1) (acc++[⟨signOr (rdSign l i).1,(rdPa l (rdSign l i).2).2.2⟩]):=by
 rw [pset,if_neg h,if_pos hr,if_neg (fun hb'=>hb ⟨hb'.1,hb'.2.2⟩),if_neg (not_not_intro hg)]
theorem put8_gb0 {A:Nat} {w W:World} (h:w.grownBy W none) (hA:w.heap.size<=A) (T F:Value) (y1 y2 y3:Int) (x4:ByteArray) (n:Int):w.grownBy (put8 W A T F y1 y2 y3 x4 n) none:=gb_new0 (gb_new0 (gb_new0 (gb_new0 (gb_new0 (gb_new0 (gb_new0 (gb_new0 h hA _ _) hA _ _) hA _ _) hA _ _) hA _ _) hA _ _) hA _ _) hA _ _
theorem sign_enter (sg:Int) (hs:-1<=sg/\sg<=6):∀(args:Array Value) (w:World),(callFunc (signF sg) args).run Tryz.prog w=.ok (.enter (signF sg) args) w:=by
 intro args w
 have hss:sg=-1\/sg=0\/sg=1\/sg=2\/sg=3\/sg=4\/sg=5\/sg=6:=by omega
 rcases hss with rfl | rfl | rfl | rfl | rfl | rfl | rfl | rfl
 ·exact Tryz.call127 args w
 ·exact Tryz.call127 args w
 ·exact Tryz.call123 args w
 ·exact Tryz.call124 args w
 ·exact Tryz.call125 args w
 ·exact Tryz.call126 args w
 ·exact Tryz.call128 args w
 ·exact Tryz.call131 args w
def SetPost (b:Nat) (s:ByteArray) (R:Int × Nat × List Te) (w:World) (e:Ending) (w':World):Prop :=
 ∃(o:Option Addr) (n c:Nat),e=.returned (.tuple #[.slice o n c,.int .i64 R.1])/\RS b s R.2.1 w'/\w.grownBy w' (some b)/\(R.1=0->∃L,OS w' w.heap.size (.slice o n c) L/\LOk L 300/\Has L (admL R.2.2))
theorem has_low:Has [sgS ⟨lowV,nilV,true⟩] (admL []):=by
 intro v hv
 rw [holds_one,show admL [] v=true from rfl,has_iff]
 exact ⟨low_all v hv,Or.inl rfl⟩
theorem lok_low:LOk [sgS ⟨lowV,nilV,true⟩] 1:=LOk.one (g:=⟨lowV,nilV,true⟩) (n:=1) ⟨low_b 1 (Nat.le_refl _),fun h=>(by cases h),Nat.zero_le _⟩ (by decide)
theorem has_more {L M:List Sp} {acc:List Te} {sg:Int} {p:Pa} (h:Has L (admL acc)) (hs:-1<=sg/\sg<=6) (hp:PaOk p) (hM:∀x,holdsL M x=(holdsL L x && holdsL [sgS (signG (signOr sg) p)] x)):Has M (admL (acc++[⟨signOr sg,p⟩])):=by
 intro v hv
 rw [hM,h v hv,holds_one,sign_ok (signOr sg) (by unfold signOr;split <;> omega) p hp v hv,admL_snoc]
theorem has_between {p q:Pa} (hp:PaOk p) (hq:PaOk q):Has [sgS (betweenG p q)] (admL [⟨7,p⟩,⟨2,q⟩]):=by
 intro v hv
 rw [holds_one,between_ok p q hp hq v hv]
 show _=([⟨7,p⟩,⟨2,q⟩]:List Te).all _
 simp
set_option maxRecDepth 100000 in
set_option maxHeartbeats 1600000 in
theorem set_any (b:Nat) (s:ByteArray) (i:Nat) (w:World) (hi:i<=s.size) (h:RS b s i w) (hs:s.size<=200) :
  Calls Tryz.prog 57 #[.pointer (some ⟨b,0,none⟩)] w (SetPost b s (pset s.data.toList (s.data.toList.length+1) (skipW s.data.toList i) []) w):=by
 obtain ⟨l,hl⟩:∃l,s.data.toList=l:=⟨_,rfl⟩
 have hll:l.length=s.size:=by rw [<-hl];simp
 have HLL:Hid (l.length=s.size/\s.size<=200):=⟨hll,hs⟩
 have CL:Hid (∀w,Calls Tryz.prog 46 #[] w fun e w'=>e=.returned (.agg #[.int .i64 0,.int .i64 0,.int .i64 0,.string ⟨#[48]⟩,.string ⟨#[]⟩])/\w.grownBy w' none):=low_any
 have CB:Hid (∀i w,i<=s.size->RS b s i w->Calls Tryz.prog 58 #[.pointer (some ⟨b,0,none⟩)] w fun e w'=>e=.returned (.bool (decide (i < skipW l i)))/\RS b s (skipW l i) w'/\w.grownBy w' (some b)):=fun i w hi h=>by rw [<-hl];exact blanks_any b s i w hi h (by omega)
 have CE:Hid (∀i w,RS b s i w->Calls Tryz.prog 59 #[.pointer (some ⟨b,0,none⟩)] w fun e w'=>e=.returned (.bool (decide (i=s.size)))/\∃n,w'=w.drewN n):=fun i w h=>ended_any b s i w h
 have CX:Hid (∀i w,i<=s.size->RS b s i w->Calls Tryz.prog 87 #[.pointer (some ⟨b,0,none⟩),.string ⟨#[124]⟩] w fun e w'=>e=.returned (.bool (decide (l[i]?=some 124)))/\∃n,w'=w.drewN n):=fun i w hi h=>by
  have:=next_any b s ⟨#[124]⟩ i w hi h
  rw [show (ByteArray.mk #[124]).data.toList=[124] from rfl,prefix_one,hl] at this
  exact this
 have CT:Hid (∀i w,i<=s.size->RS b s i w->Calls Tryz.prog 88 #[.pointer (some ⟨b,0,none⟩)] w (TePost b s (rdSign l i).1 (rdPa l (rdSign l i).2) w)):=fun i w hi h=>by rw [<-hl];exact test_any b s i w hi h (by omega)
 have TY:Hid (∀i w,l[i]?=some 45->RS b s i w->Calls Tryz.prog 60 #[.pointer (some ⟨b,0,none⟩),.string ⟨#[45]⟩] w fun e w'=>e=.returned (.bool true)/\RS b s (i+1) w'/\w.grownBy w' (some b)):=fun i w hc h=>take_yes b s i 45 w (by rw [hl];exact hc) h (by omega)
 have TN:Hid (∀i w,i<=s.size->¬ l[i]?=some 45->RS b s i w->Calls Tryz.prog 60 #[.pointer (some ⟨b,0,none⟩),.string ⟨#[45]⟩] w fun e w'=>e=.returned (.bool false)/\RS b s i w'/\w.grownBy w' (some b)):=fun i w hi hc h=>take_no b s i 45 w hi (by rw [hl];exact hc) h (by omega)
 have CBT:Hid (∀(i:Nat) (p:Pa) (y1 y2 y3:Int) (Q:ByteArray) (m:Int) (w:World),paAgg y1 y2 y3 Q m=paVal p->i<=s.size->RS b s i w->Calls Tryz.prog 89 #[.pointer (some ⟨b,0,none⟩),.agg #[.int .i64 y1,.int .i64 y2,.int .i64 y3,.string Q,.string ⟨#[]⟩,.int .i64 m]] w (BtPost b s (btE l i) (btJ l i) (betweenG p (rdPa l (skipW l i)).2.2) w)):=fun i p y1 y2 y3 Q m w hp hi h=>by rw [<-hl];exact rbetween_any b s i p y1 y2 y3 Q m hp w hi h hs
 have HSK:Hid (∀i,i<=s.size->i<=skipW l i/\skipW l i<=s.size):=fun i hi=>⟨skip_ge l i,by have:=skip_le l i (by rw [hll];exact hi);rw [hll] at this;exact this⟩
 have HPP:Hid (∀i,i<=s.size->(rdPa l (rdSign l i).2).1=0->i < (rdPa l (rdSign l i).2).2.1/\(rdPa l (rdSign l i).2).2.1<=s.size/\PaOk (rdPa l (rdSign l i).2).2.2):=fun i hi h0=>by
  have sp:=sign_pos l i (by rw [hll];exact hi)
  have pp:=pa_pos l _ sp.2 h0
  exact ⟨by omega,by rw [<-hll];exact pp.2,pa_ok l _ sp.2 h0⟩
 have HPL:Hid (∀i,(rdPa l i).2.2.pre.length<=200):=fun i=>by have:=pa_len l i;omega
 have HI:Hid (RS b s i w):=h
 have HIi:Hid (i<=s.size):=hi
 have HBb:Hid (b < w.heap.size):=by obtain ⟨t,h⟩:=h;exact (Array.getElem?_eq_some_iff.1 h).1
 rw [hl]
 obtain ⟨E0,J0,ts0,hR⟩:∃E0 J0 ts0,pset l (l.length+1) (skipW l i) []=(E0,J0,ts0):=⟨_,_,_,rfl⟩
 have HR0:Hid (pset l (l.length+1) (skipW l i) []=(E0,J0,ts0)):=hR
 rw [hR]
 obtain ⟨B,hB⟩:∃B,w.heap.size=B:=⟨_,rfl⟩
 have HB:Hid (w.heap.size=B/\b < B):=⟨hB,by rw [<-hB];exact HBb.out⟩
 clear hl hll hR h hs hi hB
 go_enter Tryz.func57,Tryz.ntmps57
 go_wp2_with (first | (go_at_call 46;refine (CL.out _).mono ?_))
 rintro e w1 ⟨rfl,hg⟩
 have HG:Hid (w.grownBy w1 none):=hg
 clear hg
 go_wp2_with (first | (go_at_call 58;refine (CB.out i _ HIi.out ((HI.out.grow HG.out).grow (gb_alloc (gb_refl w1 none) _))).mono ?_))
 rintro e w2 ⟨rfl,hr,hg⟩
 have HOS:Hid (OS w2 B (.slice (some ⟨w1.heap.size,0,none⟩) 1 1) [sgS ⟨lowV,nilV,true⟩]):=by
  refine OS.growb (b:=b) (w:=w1.alloc (.cells #[.int .i64 0,.int .i64 0,.int .i64 0,.string ⟨#[48]⟩,.string ⟨#[]⟩,.int .i64 0,.int .i64 0,.int .i64 0,.string ⟨#[]⟩,.string ⟨#[]⟩,.bool true] 37)) ?_ hg HB.out.2
  exact OS.one (s:=sgS ⟨lowV,nilV,true⟩) (by rw [<-HB.out.1];exact HG.out.size) (heap_alloc_new w1 _)
 have HG2:Hid (w.grownBy w2 (some b)):=gb_trans (gb_weak (gb_trans HG.out (gb_alloc (gb_refl w1 none) _)) _) hg
 have HR2:Hid (RS b s (skipW l i) w2):=hr
 obtain ⟨a0,ha0⟩:∃a0,w1.heap.size=a0:=⟨_,rfl⟩
 rw [ha0] at HOS
 try rw [ha0]
 clear hr hg ha0 HG
 go_wp2
 go_loopw [4,5] (fun va vf wr=>∃(f j:Nat) (acc:List Te) (L:List Sp),vf=.bool acc.isEmpty/\j<=s.size/\l.length < f+j/\acc.length<=j/\pset l f j acc=(E0,J0,ts0)/\RS b s j wr/\OS wr B va L/\LOk L (acc.length+1)/\Has L (admL acc)/\w.grownBy wr (some b)) (fun _ _ wr=>s.size - placeOf b wr)
 case atStart=>exact ⟨l.length+1,skipW l i,[],_,rfl,(HSK.out i HIi.out).2,by omega,Nat.zero_le _,HR0.out,HR2.out,HOS.out,lok_low,has_low,HG2.out⟩
 case round =>
  obtain ⟨f,j,acc,L,rfl,hj,hf,ha,hps,hrs,hos,hlok,hhas,hg⟩:=hrel
  clear HOS HR2 HG2 HR0
  obtain ⟨o,n0,c0,rfl⟩:=hos.slice
  obtain ⟨f,rfl⟩:∃f',f=f'+1:=by
   cases f with
   | zero=>have:=HLL.out.1;omega
   | succ f=>exact ⟨f,rfl⟩
  have HJ:Hid (j<=s.size):=hj
  have HF:Hid (l.length < f+1+j):=hf
  have HA:Hid (acc.length<=j):=ha
  have HPS:Hid (pset l (f+1) j acc=(E0,J0,ts0)):=hps
  have HRS:Hid (RS b s j wr):=hrs
  have HOS:Hid (OS wr B (.slice o n0 c0) L):=hos
  have HLK:Hid (LOk L (acc.length+1)):=hlok
  have HHS:Hid (Has L (admL acc)):=hhas
  have HG:Hid (w.grownBy wr (some b)):=hg
  clear hj hf ha hps hrs hos hlok hhas hg
  have HPLA:Hid (placeOf b wr=j):=HRS.out.place
  have CEJ:Hid (∀w,RS b s j w->Calls Tryz.prog 59 #[.pointer (some ⟨b,0,none⟩)] w fun e w'=>e=.returned (.bool (decide (j=s.size)))/\∃n,w'=w.drewN n):=fun w h=>CE.out j w h
  have CXJ:Hid (∀w,RS b s j w->Calls Tryz.prog 87 #[.pointer (some ⟨b,0,none⟩),.string ⟨#[124]⟩] w fun e w'=>e=.returned (.bool (decide (l[j]?=some 124)))/\∃n,w'=w.drewN n):=fun w h=>CX.out j w HJ.out h
  have FIN:Hid (∀(W:World),RS b s J0 W->w.grownBy W (some b)->(∃L,OS W B (.slice o n0 c0) L/\LOk L 300/\Has L (admL ts0))->E0=0->SetPost b s (E0,J0,ts0) w (.returned (.tuple #[.slice o n0 c0,.int .i64 0])) W):=by
   intro W h1 h2 ⟨L,h3,h4,h5⟩ h6
   subst h6
   exact ⟨o,n0,c0,rfl,h1,h2,fun _=>⟨L,by rw [HB.out.1];exact h3,h4,h5⟩⟩
  by_cases hend:j=s.size
  ·have HST:Hid (l.length<=j\/l[j]?=some 124):=Or.inl (by have:=HLL.out.1;omega)
   rw [decide_eq_true hend] at CEJ
   clear hend
   go_wp2_with (first | (go_at_call 59;refine (CEJ.out _ HRS.out).mono ?_))
   rintro e u1 ⟨rfl,n,hn⟩
   replace HRS:Hid (RS b s j u1):=by show RS b s j u1;rw [hn];exact HRS.out.drew n
   replace HOS:Hid (OS u1 B (.slice o n0 c0) L):=by show OS u1 B _ L;rw [hn];exact HOS.out
   replace HG:Hid (w.grownBy u1 (some b)):=by show w.grownBy u1 (some b);rw [hn];exact gb_drew HG.out n
   clear hn
   go_wp2
   obtain ⟨rfl,rfl,rfl⟩:E0=0/\J0=j/\ts0=acc:=by have:=HPS.out.symm.trans (pset_stop HST.out);simpa using this
   have hfin:=FIN.out _ HRS.out HG.out ⟨L,HOS.out,HLK.out.mono (by have:=HA.out;have:=HJ.out;have:=HLL.out.2;omega),HHS.out⟩ rfl
   exact bodyPost_ret (results_tmp2 (t:=2) (u:=3) rfl _ _ _) rfl hfin
  ·rw [decide_eq_false hend] at CEJ
   have HNE:Hid (¬ l.length<=j):=by show ¬ _;have:=HLL.out.1;have:=HJ.out;omega
   clear hend
   by_cases hbar:l[j]?=some 124
   ·have HST:Hid (l.length<=j\/l[j]?=some 124):=Or.inr hbar
    rw [decide_eq_true hbar] at CXJ
    clear hbar
    go_wp2_with (first | (go_at_call 59;refine (CEJ.out _ HRS.out).mono ?_))
    rintro e u1 ⟨rfl,n,hn⟩
    replace HRS:Hid (RS b s j u1):=by show RS b s j u1;rw [hn];exact HRS.out.drew n
    replace HOS:Hid (OS u1 B (.slice o n0 c0) L):=by show OS u1 B _ L;rw [hn];exact HOS.out
    replace HG:Hid (w.grownBy u1 (some b)):=by show w.grownBy u1 (some b);rw [hn];exact gb_drew HG.out n
    clear hn
    go_wp2_with (first | (go_at_call 87;refine (CXJ.out _ HRS.out).mono ?_))
    rintro e u2 ⟨rfl,n,hn⟩
    replace HRS:Hid (RS b s j u2):=by show RS b s j u2;rw [hn];exact HRS.out.drew n
    replace HOS:Hid (OS u2 B (.slice o n0 c0) L):=by show OS u2 B _ L;rw [hn];exact HOS.out
    replace HG:Hid (w.grownBy u2 (some b)):=by show w.grownBy u2 (some b);rw [hn];exact gb_drew HG.out n
    clear hn
    go_wp2
    obtain ⟨rfl,rfl,rfl⟩:E0=0/\J0=j/\ts0=acc:=by have:=HPS.out.symm.trans (pset_stop HST.out);simpa using this
    have hfin:=FIN.out _ HRS.out HG.out ⟨L,HOS.out,HLK.out.mono (by have:=HA.out;have:=HJ.out;have:=HLL.out.2;omega),HHS.out⟩ rfl
    exact bodyPost_ret (results_tmp2 (t:=2) (u:=3) rfl _ _ _) rfl hfin
   ·have HST:Hid (¬ (l.length<=j\/l[j]?=some 124)):=fun h=>h.elim HNE.out hbar
    rw [decide_eq_false hbar] at CXJ
    clear hbar HNE
    have CTJ:Hid (∀w,RS b s j w->Calls Tryz.prog 88 #[.pointer (some ⟨b,0,none⟩)] w (TePost b s (rdSign l j).1 (rdPa l (rdSign l j).2) w)):=fun w h=>CT.out j w HJ.out h
    have HSG:Hid (-1<=(rdSign l j).1/\(rdSign l j).1<=6):=sign_val l j
    have HPJ:Hid ((rdPa l (rdSign l j).2).1=0->j < (rdPa l (rdSign l j).2).2.1/\(rdPa l (rdSign l j).2).2.1<=s.size/\PaOk (rdPa l (rdSign l j).2).2.2):=HPP.out j HJ.out
    have HPR:Hid ((rdPa l (rdSign l j).2).2.2.pre.length<=200):=HPL.out _
    have BAD:Hid (¬ (rdPa l (rdSign l j).2).1=0->pset l (f+1) j acc=((rdPa l (rdSign l j).2).1,(rdPa l (rdSign l j).2).2.1,acc)):=fun h=>pset_bad HST.out h
    have LAST:Hid ((rdPa l (rdSign l j).2).1=0->¬ (rdPa l (rdSign l j).2).2.1 < skipW l (rdPa l (rdSign l j).2).2.1->pset l (f+1) j acc=(0,skipW l (rdPa l (rdSign l j).2).2.1,acc++[⟨signOr (rdSign l j).1,(rdPa l (rdSign l j).2).2.2⟩])):=fun h1 h2=>pset_last HST.out h1 h2
    have MORE:Hid ((rdPa l (rdSign l j).2).1=0->(rdPa l (rdSign l j).2).2.1 < skipW l (rdPa l (rdSign l j).2).2.1->¬ (((rdSign l j).1 < 0/\acc=[])/\l[skipW l (rdPa l (rdSign l j).2).2.1]?=some 45)->pset l (f+1) j acc=pset l f (skipW l (rdPa l (rdSign l j).2).2.1) (acc++[⟨signOr (rdSign l j).1,(rdPa l (rdSign l j).2).2.2⟩])):=fun h1 h2 h3=>pset_more HST.out h1 h2 h3
    have BTW:Hid ((rdPa l (rdSign l j).2).1=0->((rdSign l j).1 < 0/\acc=[])/\(rdPa l (rdSign l j).2).2.1 < skipW l (rdPa l (rdSign l j).2).2.1/\l[skipW l (rdPa l (rdSign l j).2).2.1]?=some 45->(pset l (f+1) j acc).1=btE l (skipW l (rdPa l (rdSign l j).2).2.1+1)/\(pset l (f+1) j acc).2.1=btJ l (skipW l (rdPa l (rdSign l j).2).2.1+1)/\((pset l (f+1) j acc).1=0->(pset l (f+1) j acc).2.2=[⟨7,(rdPa l (rdSign l j).2).2.2⟩,⟨2,(rdPa l (skipW l (skipW l (rdPa l (rdSign l j).2).2.1+1))).2.2⟩]/\(rdPa l (skipW l (skipW l (rdPa l (rdSign l j).2).2.1+1))).1=0)):=fun h1 h2=>pset_bt HST.out h1 h2
    obtain ⟨sg,j1,hsg⟩:∃sg j1,rdSign l j=(sg,j1):=⟨_,_,rfl⟩
    rw [hsg] at CTJ HSG HPJ HPR BAD LAST MORE BTW
    simp only [] at CTJ HSG HPJ HPR BAD LAST MORE BTW
    obtain ⟨E,J,p,hR⟩:∃E J p,rdPa l j1=(E,J,p):=⟨_,_,_,rfl⟩
    rw [hR] at CTJ HPJ HPR BAD LAST MORE BTW
    simp only [] at HPJ HPR BAD LAST MORE BTW
    rw [HPS.out] at BAD LAST MORE BTW
    simp only [] at BTW
    clear hsg hR HST
    go_wp2_with (first | (go_at_call 59;refine (CEJ.out _ HRS.out).mono ?_))
    rintro e u1 ⟨rfl,n,hn⟩
    replace HRS:Hid (RS b s j u1):=by show RS b s j u1;rw [hn];exact HRS.out.drew n
    replace HOS:Hid (OS u1 B (.slice o n0 c0) L):=by show OS u1 B _ L;rw [hn];exact HOS.out
    replace HG:Hid (w.grownBy u1 (some b)):=by show w.grownBy u1 (some b);rw [hn];exact gb_drew HG.out n
    clear hn
    go_wp2_with (first | (go_at_call 87;refine (CXJ.out _ HRS.out).mono ?_))
    rintro e u2 ⟨rfl,n,hn⟩
    replace HRS:Hid (RS b s j u2):=by show RS b s j u2;rw [hn];exact HRS.out.drew n
    replace HOS:Hid (OS u2 B (.slice o n0 c0) L):=by show OS u2 B _ L;rw [hn];exact HOS.out
    replace HG:Hid (w.grownBy u2 (some b)):=by show w.grownBy u2 (some b);rw [hn];exact gb_drew HG.out n
    clear hn
    go_wp2_with (first | (go_at_call 88;refine (CTJ.out _ HRS.out).mono ?_))
    rintro e u3 ⟨T,x1,x2,x3,P,n,rfl,hT,hr,hg,hok⟩
    replace HRS:Hid (RS b s J u3):=hr
    have HOK:Hid (E=0->paAgg x1 x2 x3 P n=paVal p):=hok
    replace HOS:Hid (OS u3 B (.slice o n0 c0) L):=HOS.out.growb hg HB.out.2
    replace HG:Hid (w.grownBy u3 (some b)):=gb_trans HG.out hg
    have HT:Hid (T.toList.isEmpty=decide (sg < 0)):=hT
    obtain ⟨F,hF⟩:∃F,signF sg=F:=⟨_,rfl⟩
    have HFF:Hid (signF sg=F):=hF
    rw [hF]
    obtain ⟨D,hD⟩:∃D,u3.heap.size=D:=⟨_,rfl⟩
    obtain ⟨W0,hW0⟩:∃W0,u3.alloc (.cells #[.string ⟨#[]⟩,.nilFunc,.int .i64 0,.int .i64 0,.int .i64 0,.string ⟨#[]⟩,.string ⟨#[]⟩,.int .i64 0] 147)=W0:=⟨_,rfl⟩
    have HD0:Hid (TB D (.string ⟨#[]⟩) .nilFunc 0 0 0 ⟨#[]⟩ 0 W0):=by
     show TB D _ _ 0 0 0 _ 0 W0
     unfold TB
     rw [<-hW0,<-hD];exact heap_alloc_new u3 _
    have hgW:u3.grownBy W0 none:=by rw [<-hW0];exact gb_alloc (gb_refl u3 none) _
    have HDB:Hid (B<=D/\b ≠ D):=by have h1:=HG.out.size;have h2:=HB.out;rw [h2.1,hD] at h1;exact ⟨h1,by omega⟩
    have HGW:Hid (u3.grownBy W0 none/\u3.heap.size<=D):=⟨hgW,Nat.le_of_eq hD⟩
    obtain ⟨k0,k1,k2,k3,k4,k5,k6,k7⟩:=HD0.out.cells
    have kf:=HD0.out.f
    have stf:∀(a:Addr) (m:Mode) (w:World),(store a (.func (.func F) #[] #[]) m).run Tryz.prog w=stored Tryz.prog w a (.func (.func F) #[] #[]) m:=fun a m w=>run_store Tryz.prog w a _ m rfl
    clear hr hg hok hT hF hgW
    cases hz:(E == 0) with
    | false =>
     have hE0:¬ E=0:=by simpa using hz
     have HB2:Hid ((E0,J0,ts0)=(E,J,acc)):=BAD.out hE0
     have HE0:Hid (¬ E=0):=hE0
     clear hE0
     go_wp2
     refine bodyPost_ret (results_tmp2 (t:=2) (u:=3) rfl _ _ _) rfl ?_
     rw [HB2.out]
     exact ⟨_,_,_,rfl,put8_rs (HRS.out.grow HGW.out.1) HDB.out.2 _ _ _ _ _ _ _,gb_trans HG.out (gb_weak (put8_gb0 HGW.out.1 HGW.out.2 _ _ _ _ _ _ _) _),fun h=>absurd h HE0.out⟩
    | true =>
     have hE0:E=0:=by simpa using hz
     subst hE0
     obtain ⟨hp1,hp2,hp3⟩:=HPJ.out rfl
     have HP:Hid (j < J/\J<=s.size/\PaOk p):=⟨hp1,hp2,hp3⟩
     have CBJ:Hid (∀w,RS b s J w->Calls Tryz.prog 58 #[.pointer (some ⟨b,0,none⟩)] w fun e w'=>e=.returned (.bool (decide (J < skipW l J)))/\RS b s (skipW l J) w'/\w.grownBy w' (some b)):=fun w h=>CB.out J w HP.out.2.1 h
     have HPV:Hid (paAgg x1 x2 x3 P n=paVal p):=HOK.out rfl
     have HKK:Hid (J<=skipW l J/\skipW l J<=s.size):=HSK.out J HP.out.2.1
     obtain ⟨K,hK⟩:∃K,skipW l J=K:=⟨_,rfl⟩
     rw [hK] at CBJ HKK LAST MORE BTW
     have hcs:=cSign sg HSG.out p HP.out.2.2 (by have:=HPR.out;omega)
     rw [HFF.out,<-HPV.out] at hcs
     obtain ⟨s1,hs1⟩:∃s1,sgS (signG (signOr sg) p)=s1:=⟨_,rfl⟩
     have CF:Hid (∀w,Calls Tryz.prog F #[.agg #[.int .i64 x1,.int .i64 x2,.int .i64 x3,.string P,.string ⟨#[]⟩,.int .i64 n]] w fun e w'=>e=.returned (.agg #[.int .i64 s1.f1,.int .i64 s1.f2,.int .i64 s1.f3,.string s1.f4,.string s1.f5,.int .i64 s1.t1,.int .i64 s1.t2,.int .i64 s1.t3,.string s1.t4,.string s1.t5,.bool s1.o])/\w.grownBy w' none):=fun w=>by rw [<-hs1];exact hcs w
     have hent:∀(args:Array Value) (w:World),(callFunc F args).run Tryz.prog w=.ok (.enter F args) w:=by rw [<-HFF.out];exact sign_enter sg HSG.out
     have HS1:Hid (sgS (signG (signOr sg) p)=s1):=hs1
     have HG1:Hid (GOk (signG (signOr sg) p) 1000):=sign_g _ p HP.out.2.2 1000 (by omega) (by have:=HPR.out;omega)
     have HM1:Hid (LOk [s1] 1):=by show LOk [s1] 1;rw [<-hs1];exact LOk.one HG1.out (by omega)
     have CM:Hid (∀w sl sm,SpS w sl L->SpS w sm [s1]->Calls Tryz.prog 26 #[sl,sm] w (TOst (fun x=>holdsL L x && holdsL [s1] x) (acc.length+1+1) w)):=fun w sl sm h1 h2=>oMeet sl sm L [s1] (acc.length+1) 1 w h1 h2 HLK.out HM1.out (by have:=HA.out;have:=HJ.out;have:=HLL.out.2;omega) (by omega)
     have HHM:Hid (∀M:List Sp,(∀x,holdsL M x=(holdsL L x && holdsL [s1] x))->Has M (admL (acc++[⟨signOr sg,p⟩]))):=fun M h=>has_more HHS.out HSG.out HP.out.2.2 (by rw [HS1.out];exact h)
     clear hp1 hp2 hp3 hK hcs hs1 hz
     obtain ⟨ap,hap⟩:∃ap,decide (J < K)=ap:=⟨_,rfl⟩
     rw [hap] at CBJ
     have HAP:Hid (decide (J < K)=ap):=hap
     clear hap
     go_wp2_with (first | (go_at_call 58;refine (CBJ.out _ (put8_rs (HRS.out.grow HGW.out.1) HDB.out.2 _ _ _ _ _ _ _)).mono ?_))
     rintro e u4 ⟨rfl,hr,hg⟩
     replace HRS:Hid (RS b s K u4):=hr
     have HTD:Hid (TB D (.string T) (.func (.func F) #[] #[]) x1 x2 x3 P n u4):=(put8_row (T:=.string T) (F:=.func (.func F) #[] #[]) HD0.out x1 x2 x3 P n).growb hg (Ne.symm HDB.out.2)
     replace HOS:Hid (OS u4 B (.slice o n0 c0) L):=(HOS.out.grow (put8_gb0 HGW.out.1 HGW.out.2 _ _ _ _ _ _ _)).growb hg HB.out.2
     replace HG:Hid (w.grownBy u4 (some b)):=gb_trans (gb_trans HG.out (gb_weak (put8_gb0 HGW.out.1 HGW.out.2 _ _ _ _ _ _ _) _)) hg
     clear hr hg k0 k1 k2 k3 k4 k5 k6 k7 kf stf hW0 hD HD0 HGW
     obtain ⟨k0,k1,k2,k3,k4,k5,k6,k7⟩:=HTD.out.cells
     cases hfb:acc.isEmpty with
     | false =>
      have HNB:Hid (¬ acc=[]):=by show ¬ _;intro h;rw [h] at hfb;cases hfb
      cases ap with
      | false =>
       go_wp2_with (first | (refine (CF.out _).mono ?_))
       rintro e u5 ⟨rfl,hg⟩
       replace HRS:Hid (RS b s K u5):=HRS.out.grow hg
       replace HOS:Hid (OS u5 B (.slice o n0 c0) L):=HOS.out.grow hg
       replace HG:Hid (w.grownBy u5 (some b)):=gb_trans HG.out (gb_weak hg _)
       clear hg k0 k1 k2 k3 k4 k5 k6 k7
       go_wp2_with (first | (go_at_call 26;refine (CM.out _ _ _ (HOS.out.grow (gb_alloc (gb_refl u5 none) _)).sps (OS.one (base:=0) (s:=s1) (Nat.zero_le _) (heap_alloc_new u5 _)).sps).mono ?_))
       rintro e u6 ⟨hg,o',n',c',T',rfl,hos,hlk,hnt,hh⟩
       have hg':u5.grownBy u6 none:=gb_trans (gb_alloc (gb_refl u5 none) _) hg
       replace HRS:Hid (RS b s K u6):=HRS.out.grow hg'
       have HGn:Hid (w.grownBy u6 (some b)):=gb_trans HG.out (gb_weak hg' _)
       have HON:Hid (OS u6 B (.slice o' n' c') (outs T')):=hos.base (by have h1:=HG.out.size;rw [HB.out.1] at h1;simp;omega)
       have HLN:Hid (LOk (outs T') (acc.length+1+1)):=hlk
       have HHN:Hid (Has (outs T') (admL (acc++[⟨signOr sg,p⟩]))):=HHM.out _ hh
       clear hg hg' hos hlk hnt hh
       obtain ⟨rfl,rfl,rfl⟩:E0=0/\J0=K/\ts0=acc++[⟨signOr sg,p⟩]:=by have:=LAST.out (by first | trivial | rfl) (of_decide_eq_false HAP.out);simpa using this
       go_wp2
       exact bodyPost_ret (results_tmp2 (t:=2) (u:=3) rfl _ _ _) rfl ⟨_,_,_,rfl,HRS.out,HGn.out,fun _=>⟨outs T',by rw [HB.out.1];exact HON.out,HLN.out.mono (by have:=HA.out;have:=HJ.out;have:=HLL.out.2;omega),HHN.out⟩⟩
      | true =>
       go_wp2_with (first | (refine (CF.out _).mono ?_))
       rintro e u5 ⟨rfl,hg⟩
       replace HRS:Hid (RS b s K u5):=HRS.out.grow hg
       replace HOS:Hid (OS u5 B (.slice o n0 c0) L):=HOS.out.grow hg
       replace HG:Hid (w.grownBy u5 (some b)):=gb_trans HG.out (gb_weak hg _)
       clear hg k0 k1 k2 k3 k4 k5 k6 k7
       go_wp2_with (first | (go_at_call 26;refine (CM.out _ _ _ (HOS.out.grow (gb_alloc (gb_refl u5 none) _)).sps (OS.one (base:=0) (s:=s1) (Nat.zero_le _) (heap_alloc_new u5 _)).sps).mono ?_))
       rintro e u6 ⟨hg,o',n',c',T',rfl,hos,hlk,hnt,hh⟩
       have hg':u5.grownBy u6 none:=gb_trans (gb_alloc (gb_refl u5 none) _) hg
       replace HRS:Hid (RS b s K u6):=HRS.out.grow hg'
       have HGn:Hid (w.grownBy u6 (some b)):=gb_trans HG.out (gb_weak hg' _)
       have HON:Hid (OS u6 B (.slice o' n' c') (outs T')):=hos.base (by have h1:=HG.out.size;rw [HB.out.1] at h1;simp;omega)
       have HLN:Hid (LOk (outs T') (acc.length+1+1)):=hlk
       have HHN:Hid (Has (outs T') (admL (acc++[⟨signOr sg,p⟩]))):=HHM.out _ hh
       clear hg hg' hos hlk hnt hh
       have HNX:Hid ((E0,J0,ts0)=pset l f K (acc++[⟨signOr sg,p⟩])):=MORE.out (by first | trivial | rfl) (of_decide_eq_true HAP.out) (fun h=>HNB.out h.1.2)
       go_wp2
       go_roundw
       case rel=>exact ⟨f,K,acc++[⟨signOr sg,p⟩],outs T',by simp,HKK.out.2,by have h1:=HF.out;have h2:=HP.out.1;have h3:=of_decide_eq_true HAP.out;omega,by rw [List.length_append];have h1:=HA.out;have h2:=HP.out.1;have h3:=HKK.out.1;simp;omega,HNX.out.symm,HRS.out,HON.out,by rw [List.length_append];exact HLN.out,HHN.out,HGn.out⟩
       case measure =>
        have e1:=HPLA.out
        have e2:=HRS.out.place
        rw [e1]
        exact Nat.lt_of_le_of_lt (Nat.le_of_eq (congrArg (s.size - ·) e2)) (by have h1:=HP.out.1;have h2:=HKK.out;have h3:=HP.out.2.1;omega)
     | true =>
      cases htb:decide (sg < 0) with
      | false =>
       have hte:=HT.out
       rw [htb] at hte
       have HNB:Hid (¬ sg < 0):=(of_decide_eq_false htb:¬ sg < 0)
       clear htb
       cases ap with
       | false =>
        go_wp2_with (first | (refine (CF.out _).mono ?_))
        rintro e u5 ⟨rfl,hg⟩
        replace HRS:Hid (RS b s K u5):=HRS.out.grow hg
        replace HOS:Hid (OS u5 B (.slice o n0 c0) L):=HOS.out.grow hg
        replace HG:Hid (w.grownBy u5 (some b)):=gb_trans HG.out (gb_weak hg _)
        clear hg k0 k1 k2 k3 k4 k5 k6 k7
        go_wp2_with (first | (go_at_call 26;refine (CM.out _ _ _ (HOS.out.grow (gb_alloc (gb_refl u5 none) _)).sps (OS.one (base:=0) (s:=s1) (Nat.zero_le _) (heap_alloc_new u5 _)).sps).mono ?_))
        rintro e u6 ⟨hg,o',n',c',T',rfl,hos,hlk,hnt,hh⟩
        have hg':u5.grownBy u6 none:=gb_trans (gb_alloc (gb_refl u5 none) _) hg
        replace HRS:Hid (RS b s K u6):=HRS.out.grow hg'
        have HGn:Hid (w.grownBy u6 (some b)):=gb_trans HG.out (gb_weak hg' _)
        have HON:Hid (OS u6 B (.slice o' n' c') (outs T')):=hos.base (by have h1:=HG.out.size;rw [HB.out.1] at h1;simp;omega)
        have HLN:Hid (LOk (outs T') (acc.length+1+1)):=hlk
        have HHN:Hid (Has (outs T') (admL (acc++[⟨signOr sg,p⟩]))):=HHM.out _ hh
        clear hg hg' hos hlk hnt hh
        obtain ⟨rfl,rfl,rfl⟩:E0=0/\J0=K/\ts0=acc++[⟨signOr sg,p⟩]:=by have:=LAST.out (by first | trivial | rfl) (of_decide_eq_false HAP.out);simpa using this
        go_wp2
        exact bodyPost_ret (results_tmp2 (t:=2) (u:=3) rfl _ _ _) rfl ⟨_,_,_,rfl,HRS.out,HGn.out,fun _=>⟨outs T',by rw [HB.out.1];exact HON.out,HLN.out.mono (by have:=HA.out;have:=HJ.out;have:=HLL.out.2;omega),HHN.out⟩⟩
       | true =>
        go_wp2_with (first | (refine (CF.out _).mono ?_))
        rintro e u5 ⟨rfl,hg⟩
        replace HRS:Hid (RS b s K u5):=HRS.out.grow hg
        replace HOS:Hid (OS u5 B (.slice o n0 c0) L):=HOS.out.grow hg
        replace HG:Hid (w.grownBy u5 (some b)):=gb_trans HG.out (gb_weak hg _)
        clear hg k0 k1 k2 k3 k4 k5 k6 k7
        go_wp2_with (first | (go_at_call 26;refine (CM.out _ _ _ (HOS.out.grow (gb_alloc (gb_refl u5 none) _)).sps (OS.one (base:=0) (s:=s1) (Nat.zero_le _) (heap_alloc_new u5 _)).sps).mono ?_))
        rintro e u6 ⟨hg,o',n',c',T',rfl,hos,hlk,hnt,hh⟩
        have hg':u5.grownBy u6 none:=gb_trans (gb_alloc (gb_refl u5 none) _) hg
        replace HRS:Hid (RS b s K u6):=HRS.out.grow hg'
        have HGn:Hid (w.grownBy u6 (some b)):=gb_trans HG.out (gb_weak hg' _)
        have HON:Hid (OS u6 B (.slice o' n' c') (outs T')):=hos.base (by have h1:=HG.out.size;rw [HB.out.1] at h1;simp;omega)
        have HLN:Hid (LOk (outs T') (acc.length+1+1)):=hlk
        have HHN:Hid (Has (outs T') (admL (acc++[⟨signOr sg,p⟩]))):=HHM.out _ hh
        clear hg hg' hos hlk hnt hh
        have HNX:Hid ((E0,J0,ts0)=pset l f K (acc++[⟨signOr sg,p⟩])):=MORE.out (by first | trivial | rfl) (of_decide_eq_true HAP.out) (fun h=>by have h1:=HNB.out;have h2:=h.1.1;omega)
        go_wp2
        go_roundw
        case rel=>exact ⟨f,K,acc++[⟨signOr sg,p⟩],outs T',by simp,HKK.out.2,by have h1:=HF.out;have h2:=HP.out.1;have h3:=of_decide_eq_true HAP.out;omega,by rw [List.length_append];have h1:=HA.out;have h2:=HP.out.1;have h3:=HKK.out.1;simp;omega,HNX.out.symm,HRS.out,HON.out,by rw [List.length_append];exact HLN.out,HHN.out,HGn.out⟩
        case measure =>
         have e1:=HPLA.out
         have e2:=HRS.out.place
         rw [e1]
         exact Nat.lt_of_le_of_lt (Nat.le_of_eq (congrArg (s.size - ·) e2)) (by have h1:=HP.out.1;have h2:=HKK.out;have h3:=HP.out.2.1;omega)
      | true =>
       have hte:=HT.out
       rw [htb] at hte
       have HSN:Hid (sg < 0):=(of_decide_eq_true htb:sg < 0)
       have HEM:Hid (acc=[]):=by show acc=[];simpa using hfb
       clear htb
       cases ap with
       | false =>
        go_wp2_with (first | (refine (CF.out _).mono ?_))
        rintro e u5 ⟨rfl,hg⟩
        replace HRS:Hid (RS b s K u5):=HRS.out.grow hg
        replace HOS:Hid (OS u5 B (.slice o n0 c0) L):=HOS.out.grow hg
        replace HG:Hid (w.grownBy u5 (some b)):=gb_trans HG.out (gb_weak hg _)
        clear hg k0 k1 k2 k3 k4 k5 k6 k7
        go_wp2_with (first | (go_at_call 26;refine (CM.out _ _ _ (HOS.out.grow (gb_alloc (gb_refl u5 none) _)).sps (OS.one (base:=0) (s:=s1) (Nat.zero_le _) (heap_alloc_new u5 _)).sps).mono ?_))
        rintro e u6 ⟨hg,o',n',c',T',rfl,hos,hlk,hnt,hh⟩
        have hg':u5.grownBy u6 none:=gb_trans (gb_alloc (gb_refl u5 none) _) hg
        replace HRS:Hid (RS b s K u6):=HRS.out.grow hg'
        have HGn:Hid (w.grownBy u6 (some b)):=gb_trans HG.out (gb_weak hg' _)
        have HON:Hid (OS u6 B (.slice o' n' c') (outs T')):=hos.base (by have h1:=HG.out.size;rw [HB.out.1] at h1;simp;omega)
        have HLN:Hid (LOk (outs T') (acc.length+1+1)):=hlk
        have HHN:Hid (Has (outs T') (admL (acc++[⟨signOr sg,p⟩]))):=HHM.out _ hh
        clear hg hg' hos hlk hnt hh
        obtain ⟨rfl,rfl,rfl⟩:E0=0/\J0=K/\ts0=acc++[⟨signOr sg,p⟩]:=by have:=LAST.out (by first | trivial | rfl) (of_decide_eq_false HAP.out);simpa using this
        go_wp2
        exact bodyPost_ret (results_tmp2 (t:=2) (u:=3) rfl _ _ _) rfl ⟨_,_,_,rfl,HRS.out,HGn.out,fun _=>⟨outs T',by rw [HB.out.1];exact HON.out,HLN.out.mono (by have:=HA.out;have:=HJ.out;have:=HLL.out.2;omega),HHN.out⟩⟩
       | true =>
        cases hda:decide (l[K]?=some 45) with
        | false =>
         have HND:Hid (¬ l[K]?=some 45):=(of_decide_eq_false hda:¬ l[K]?=some 45)
         clear hda
         have TNK:Hid (∀w,RS b s K w->Calls Tryz.prog 60 #[.pointer (some ⟨b,0,none⟩),.string ⟨#[45]⟩] w fun e w'=>e=.returned (.bool false)/\RS b s K w'/\w.grownBy w' (some b)):=fun w h=>TN.out K w HKK.out.2 HND.out h
         go_wp2_with (first | (go_at_call 60;refine (TNK.out _ HRS.out).mono ?_))
         rintro e u7 ⟨rfl,hr,hg⟩
         replace HRS:Hid (RS b s K u7):=hr
         replace HTD:Hid (TB D (.string T) (.func (.func F) #[] #[]) x1 x2 x3 P n u7):=HTD.out.growb hg (Ne.symm HDB.out.2)
         replace HOS:Hid (OS u7 B (.slice o n0 c0) L):=HOS.out.growb hg HB.out.2
         replace HG:Hid (w.grownBy u7 (some b)):=gb_trans HG.out hg
         clear hr hg k0 k1 k2 k3 k4 k5 k6 k7
         obtain ⟨k0,k1,k2,k3,k4,k5,k6,k7⟩:=HTD.out.cells
         go_wp2_with (first | (refine (CF.out _).mono ?_))
         rintro e u5 ⟨rfl,hg⟩
         replace HRS:Hid (RS b s K u5):=HRS.out.grow hg
         replace HOS:Hid (OS u5 B (.slice o n0 c0) L):=HOS.out.grow hg
         replace HG:Hid (w.grownBy u5 (some b)):=gb_trans HG.out (gb_weak hg _)
         clear hg k0 k1 k2 k3 k4 k5 k6 k7
         go_wp2_with (first | (go_at_call 26;refine (CM.out _ _ _ (HOS.out.grow (gb_alloc (gb_refl u5 none) _)).sps (OS.one (base:=0) (s:=s1) (Nat.zero_le _) (heap_alloc_new u5 _)).sps).mono ?_))
         rintro e u6 ⟨hg,o',n',c',T',rfl,hos,hlk,hnt,hh⟩
         have hg':u5.grownBy u6 none:=gb_trans (gb_alloc (gb_refl u5 none) _) hg
         replace HRS:Hid (RS b s K u6):=HRS.out.grow hg'
         have HGn:Hid (w.grownBy u6 (some b)):=gb_trans HG.out (gb_weak hg' _)
         have HON:Hid (OS u6 B (.slice o' n' c') (outs T')):=hos.base (by have h1:=HG.out.size;rw [HB.out.1] at h1;simp;omega)
         have HLN:Hid (LOk (outs T') (acc.length+1+1)):=hlk
         have HHN:Hid (Has (outs T') (admL (acc++[⟨signOr sg,p⟩]))):=HHM.out _ hh
         clear hg hg' hos hlk hnt hh
         have HNX:Hid ((E0,J0,ts0)=pset l f K (acc++[⟨signOr sg,p⟩])):=MORE.out (by first | trivial | rfl) (of_decide_eq_true HAP.out) (fun h=>HND.out h.2)
         go_wp2
         go_roundw
         case rel=>exact ⟨f,K,acc++[⟨signOr sg,p⟩],outs T',by simp,HKK.out.2,by have h1:=HF.out;have h2:=HP.out.1;have h3:=of_decide_eq_true HAP.out;omega,by rw [List.length_append];have h1:=HA.out;have h2:=HP.out.1;have h3:=HKK.out.1;simp;omega,HNX.out.symm,HRS.out,HON.out,by rw [List.length_append];exact HLN.out,HHN.out,HGn.out⟩
         case measure =>
          have e1:=HPLA.out
          have e2:=HRS.out.place
          rw [e1]
          exact Nat.lt_of_le_of_lt (Nat.le_of_eq (congrArg (s.size - ·) e2)) (by have h1:=HP.out.1;have h2:=HKK.out;have h3:=HP.out.2.1;omega)
        | true =>
         have HYD:Hid (l[K]?=some 45):=(of_decide_eq_true hda:l[K]?=some 45)
         clear hda
         have TYK:Hid (∀w,RS b s K w->Calls Tryz.prog 60 #[.pointer (some ⟨b,0,none⟩),.string ⟨#[45]⟩] w fun e w'=>e=.returned (.bool true)/\RS b s (K+1) w'/\w.grownBy w' (some b)):=fun w h=>TY.out K w HYD.out h
         have HK1:Hid (K+1<=s.size):=by have:=dot_lt HYD.out;rw [HLL.out.1] at this;exact this
         go_wp2_with (first | (go_at_call 60;refine (TYK.out _ HRS.out).mono ?_))
         rintro e u7 ⟨rfl,hr,hg⟩
         replace HRS:Hid (RS b s (K+1) u7):=hr
         replace HTD:Hid (TB D (.string T) (.func (.func F) #[] #[]) x1 x2 x3 P n u7):=HTD.out.growb hg (Ne.symm HDB.out.2)
         replace HG:Hid (w.grownBy u7 (some b)):=gb_trans HG.out hg
         clear hr hg k0 k1 k2 k3 k4 k5 k6 k7
         obtain ⟨k0,k1,k2,k3,k4,k5,k6,k7⟩:=HTD.out.cells
         obtain ⟨hb1,hb2,hb3⟩:=BTW.out (by first | trivial | rfl) ⟨⟨HSN.out,HEM.out⟩,of_decide_eq_true HAP.out,HYD.out⟩
         have CBK:Hid (∀w,RS b s (K+1) w->Calls Tryz.prog 89 #[.pointer (some ⟨b,0,none⟩),.agg #[.int .i64 x1,.int .i64 x2,.int .i64 x3,.string P,.string ⟨#[]⟩,.int .i64 n]] w (BtPost b s E0 J0 (betweenG p (rdPa l (skipW l (K+1))).2.2) w)):=fun w h=>by rw [hb1,hb2];exact CBT.out (K+1) p x1 x2 x3 P n w HPV.out HK1.out h
         have HOKB:Hid (E0=0->ts0=[⟨7,p⟩,⟨2,(rdPa l (skipW l (K+1))).2.2⟩]/\(rdPa l (skipW l (K+1))).1=0):=hb3
         have HQP:Hid ((rdPa l (skipW l (K+1))).1=0->PaOk (rdPa l (skipW l (K+1))).2.2):=fun h0=>pa_ok l _ (by rw [HLL.out.1];exact (HSK.out (K+1) HK1.out).2) h0
         clear hb1 hb2 hb3
         go_wp2_with (first | (go_at_call 89;refine (CBK.out _ HRS.out).mono ?_))
         rintro e u8 ⟨o',n',c',rfl,hr,hg,hok⟩
         have HR8:Hid (RS b s J0 u8):=hr
         have HG8:Hid (w.grownBy u8 (some b)):=gb_trans HG.out hg
         have HO8:Hid (E0=0->OS u8 B (.slice o' n' c') [sgS (betweenG p (rdPa l (skipW l (K+1))).2.2)]):=fun h=>(hok h).base (by have:=HG.out.size;rw [HB.out.1] at this;exact this)
         clear hr hg hok
         go_wp2
         refine bodyPost_ret (results_tmp2 (t:=2) (u:=3) rfl _ _ _) rfl ⟨_,_,_,rfl,HR8.out,HG8.out,fun h=>?_⟩
         obtain ⟨q1,q2⟩:=HOKB.out h
         refine ⟨_,by rw [HB.out.1];exact HO8.out h,(LOk.one (between_g p _ HP.out.2.2 (HQP.out q2) 1000 (by omega) (by have:=HPR.out;omega) (by have:=HPL.out (skipW l (K+1));omega)) (by omega)).mono (by omega),?_⟩
         show Has _ (admL ts0)
         rw [q1]
         exact has_between HP.out.2.2 (HQP.out q2)
end Go.Proofs.YtonfldbigenfhaaGreatDoor
