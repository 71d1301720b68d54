import Derived.Test.YticgahdffjnabaaGreatDoorM34
import Derived.Test.YticgahdffjnabaaGreatDoorM24
set_option linter.unusedVariables false
set_option maxHeartbeats 1600000
namespace Go.Proofs.YticgahdffjnabaaGreatDoor
open Go.RowKit
structure Tq where
 sg:Int
 m:Int
 a:Int
 b:Int
 c:Int
 p:ByteArray
 q:ByteArray
def tqC (t:Tq):List Value:=[.int .i64 t.sg,.int .i64 t.m,.int .i64 t.a,.int .i64 t.b,.int .i64 t.c,.string t.p,.string t.q]
def teOf (t:Tq):Te:=⟨t.sg,⟨t.m.toNat,t.a,t.b,t.c,t.p.data.toList⟩⟩
structure TqOk (t:Tq):Prop where
 s0:0<=t.sg/\t.sg<=7
 m0:0<=t.m/\t.m<=3
 ok:PaOk (teOf t).p
 sm:t.p.size<=200
theorem tq_one (t:Tq):∀u ∈ tqC t,u.oneCell'=true:=by
 intro u hu;simp only [tqC,List.mem_cons,List.not_mem_nil,or_false] at hu
 rcases hu with rfl | rfl | rfl | rfl | rfl | rfl | rfl <;> rfl
theorem infoTe:(Tryz.prog.info? 131).map (fun i=>(i.zero,i.size,i.bytes))=some (some (.agg #[.int .i64 0,.int .i64 0,.int .i64 0,.int .i64 0,.int .i64 0,.string ⟨#[]⟩,.string ⟨#[]⟩]),7,72):=by kernel_rfl
def OT (w:World) (base:Nat) (sl:Value) (L:List Tq):Prop:=w.ownsRow base 131 7 sl L.length (L.flatMap tqC)
theorem OT.growb {w w':World} {base:Nat} {sl:Value} {L:List Tq} {b:Nat} (h:OT w base sl L) (hg:w.grownBy w' (some b)) (hb:b < base):OT w' base sl L:=by
 refine ⟨h.1,?_⟩
 rcases h.2 with hn | ⟨g,cap,cur,hv,hbg,hc,rest⟩
 ·exact Or.inl hn
 ·refine Or.inr ⟨g,cap,cur,hv,hbg,?_,rest⟩;rw [hg.block g ((hqL hc)) (by simp;omega)];exact hc
theorem OT.grow {w w':World} {base:Nat} {sl:Value} {L:List Tq} (h:OT w base sl L) (hg:w.grownBy w' none):OT w' base sl L:=own_keep h hg
theorem OT.base {w:World} {base base':Nat} {sl:Value} {L:List Tq} (h:OT w base sl L) (hb:base'<=base):OT w base' sl L:=by
 refine ⟨h.1,?_⟩
 rcases h.2 with hn | ⟨g,cap,cur,hv,hbg,rest⟩
 ·exact Or.inl hn
 ·exact Or.inr ⟨g,cap,cur,hv,Nat.le_trans hb hbg,rest⟩
theorem OT.slice {w:World} {base:Nat} {sl:Value} {L:List Tq} (h:OT w base sl L):∃o c,sl=.slice o L.length c:=by
 rcases h.2 with ⟨h1,h2⟩ | ⟨g,cap,cur,hv,_⟩
 ·exact ⟨_,_,by rw [h1,h2]⟩
 ·exact ⟨_,_,hv⟩
theorem OT.far {w:World} {base:Nat} {sl:Value} {L:List Tq} (h:OT w base sl L):∀q,sl.ownBlock=some q->base<=q:=by
 intro q hq
 rcases h.2 with ⟨h1,_⟩ | ⟨g,cap,cur,hv,hb,_⟩
 ·rw [h1] at hq;cases hq
 ·rw [hv] at hq;simp only [Value.ownBlock,Option.some.injEq] at hq;omega
theorem OT.two {w:World} {base g:Nat} {x y:Tq} (hb:base<=g) (h:w.heap[g]?=some (.cells #[.int .i64 x.sg,.int .i64 x.m,.int .i64 x.a,.int .i64 x.b,.int .i64 x.c,.string x.p,.string x.q,.int .i64 y.sg,.int .i64 y.m,.int .i64 y.a,.int .i64 y.b,.int .i64 y.c,.string y.p,.string y.q] 131 (0,0))):OT w base (.slice (some ⟨g,0,none⟩) 2 2) [x,y] :=
 ⟨rfl,Or.inr ⟨g,2,_,rfl,hb,h,Nat.le_refl _,by decide,rfl,rfl⟩⟩
theorem VS.grow {b:Nat} {s:ByteArray} {i:Nat} {E:Int} {a:Nat} {w w':World} {row:Option Nat} (h:VS b s i E a w) (hg:w.grownBy w' row) (hn:some b ≠ row):VS b s i E a w':=by
 unfold VS at h ⊢;rw [hg.block b ((hqL h)) hn];exact h
theorem GR.growr {g b:Nat} {w w':World} {row:Option Nat} (h:GR g b w) (hg:w.grownBy w' row) (hn:some g ≠ row):GR g b w':=hg.cell h hn
theorem VP.growr {v:Nat} {m y1 y2 y3:Int} {x4 x5:ByteArray} {w w':World} {row:Option Nat} (h:VP v m y1 y2 y3 x4 x5 w) (hg:w.grownBy w' row) (hn:some v ≠ row):VP v m y1 y2 y3 x4 x5 w':=by
 unfold VP at h ⊢;rw [hg.block v ((hqL h)) hn];exact h
def errOf (b:Nat) (w:World):Int:=match w.cell? ⟨b,2,none⟩ with | some (.int .i64 x)=>x | _=>0
theorem VS.err {b:Nat} {s:ByteArray} {i:Nat} {E:Int} {a:Nat} {w:World} (h:VS b s i E a w):errOf b w=E:=by unfold errOf;rw [h.c2]
def meas (b n:Nat) (w:World):Nat:=if errOf b w=0 then n+1 - placeOf b w else 0
theorem VS.meas0 {b:Nat} {s:ByteArray} {i:Nat} {a:Nat} {w:World} (h:VS b s i 0 a w) (n:Nat):meas b n w=n+1 - i:=by unfold meas;rw [h.err,if_pos rfl,h.place]
theorem VS.measE {b:Nat} {s:ByteArray} {i:Nat} {E:Int} {a:Nat} {w:World} (h:VS b s i E a w) (hE:¬ E=0) (n:Nat):meas b n w=0:=by unfold meas;rw [h.err,if_neg hE]
theorem dset_end {l:List UInt8} {f i:Nat} {acc:List Te} (h:endsAt l i=true):dset l (f+1) i acc=(0,i,acc):=by unfold dset;rw [if_pos h]
theorem dset_bad {l:List UInt8} {f i:Nat} {acc:List Te} (h:¬ endsAt l i=true) (hr:¬ (rdPa l (rdSign l i).2).1=0):dset l (f+1) i acc=((rdPa l (rdSign l i).2).1,(rdPa l (rdSign l i).2).2.1,acc):=by
 unfold dset;rw [if_neg h,if_neg hr]
theorem dset_more {l:List UInt8} {f i:Nat} {acc:List Te} (h:¬ endsAt l i=true) (hr:(rdPa l (rdSign l i).2).1=0)
  (hb:¬ (((rdSign l i).1 < 0/\acc=[])/\(rdPa l (rdSign l i).2).2.1 < skipW l (rdPa l (rdSign l i).2).2.1/\l[skipW l (rdPa l (rdSign l i).2).2.1]?=some 45))
  (hg:¬ (¬ (rdPa l (rdSign l i).2).2.1 < skipW l (rdPa l (rdSign l i).2).2.1/\¬ endsAt l (skipW l (rdPa l (rdSign l i).2).2.1)=true)) :
  dset l (f+1) i acc=dset l f (skipW l (rdPa l (rdSign l i).2).2.1) (acc++[⟨signOr (rdSign l i).1,(rdPa l (rdSign l i).2).2.2⟩]):=by
 rw [dset,if_neg h,if_pos hr,if_neg hb,if_neg hg]
theorem dset_gap {l:List UInt8} {f i:Nat} {acc:List Te} (h:¬ endsAt l i=true) (hr:(rdPa l (rdSign l i).2).1=0)
  (hg1:¬ (rdPa l (rdSign l i).2).2.1 < skipW l (rdPa l (rdSign l i).2).2.1) (hg2:¬ endsAt l (skipW l (rdPa l (rdSign l i).2).2.1)=true) :
  dset l (f+1) i acc=(2,skipW l (rdPa l (rdSign l i).2).2.1,acc):=by
 rw [dset,if_neg h,if_pos hr,if_neg (fun hb=>hg1 hb.2.1),if_pos ⟨hg1,hg2⟩]
theorem dset_bt {l:List UInt8} {f i:Nat} {acc:List Te} (h:¬ endsAt l i=true) (hr:(rdPa l (rdSign l i).2).1=0)
  (hb:((rdSign l i).1 < 0/\acc=[])/\(rdPa l (rdSign l i).2).2.1 < skipW l (rdPa l (rdSign l i).2).2.1/\l[skipW l (rdPa l (rdSign l i).2).2.1]?=some 45) :
  dset l (f+1) i acc=(if skipW l (skipW l (rdPa l (rdSign l i).2).2.1+1)=skipW l (rdPa l (rdSign l i).2).2.1+1 then (2,skipW l (rdPa l (rdSign l i).2).2.1+1,acc) else
    if (rdPa l (skipW l (skipW l (rdPa l (rdSign l i).2).2.1+1))).1=0 then
     (if endsAt l (skipW l (rdPa l (skipW l (skipW l (rdPa l (rdSign l i).2).2.1+1))).2.1)=true then (0,skipW l (rdPa l (skipW l (skipW l (rdPa l (rdSign l i).2).2.1+1))).2.1,[⟨7,(rdPa l (rdSign l i).2).2.2⟩,⟨2,(rdPa l (skipW l (skipW l (rdPa l (rdSign l i).2).2.1+1))).2.2⟩])
     else (2,skipW l (rdPa l (skipW l (skipW l (rdPa l (rdSign l i).2).2.1+1))).2.1,acc))
    else ((rdPa l (skipW l (skipW l (rdPa l (rdSign l i).2).2.1+1))).1,(rdPa l (skipW l (skipW l (rdPa l (rdSign l i).2).2.1+1))).2.1,acc)):=by
 rw [dset,if_neg h,if_pos hr,if_pos hb]
def DSetPost (b:Nat) (s:ByteArray) (R:Int × Nat × List Te) (w:World) (e:Ending) (w':World):Prop :=
 ∃(o:Option Addr) (n k:Nat) (acc:List Tq) (j c:Nat),e=.returned (.slice o n k)/\VS b s j R.1 c w'/\OT w' w.heap.size (.slice o n k) acc/\w.grownBy w' (some b)/\(R.1=0->acc.map teOf=R.2.2/\j=R.2.1/\∀x ∈ acc,TqOk x)/\(¬ R.1=0->c=R.2.1)
theorem te_of {m y1 y2 y3:Int} {P Q:ByteArray} {p:Pa} (sg:Int) (h1:m=(p.n:Int)) (h2:y1=p.a) (h3:y2=p.b) (h4:y3=p.c) (h5:P=⟨p.pre.toArray⟩):teOf ⟨sg,m,y1,y2,y3,P,Q⟩=⟨sg,p⟩:=by
 subst h1 h2 h3 h4 h5;unfold teOf;simp
theorem tq_ok {m y1 y2 y3:Int} {P Q:ByteArray} {p:Pa} (sg:Int) (hs:0<=sg/\sg<=7) (hp:PaOk p) (hl:p.pre.length<=200) (h1:m=(p.n:Int)) (h2:y1=p.a) (h3:y2=p.b) (h4:y3=p.c) (h5:P=⟨p.pre.toArray⟩):TqOk ⟨sg,m,y1,y2,y3,P,Q⟩:=by
 have e:=te_of (Q:=Q) sg h1 h2 h3 h4 h5;refine ⟨hs,?_,?_,?_⟩
 ·have:=hp.n3;simp only [];omega
 ·rw [e];exact hp
 ·simp only [];rw [h5];show p.pre.toArray.size<=_;simpa using hl
def DRel (b g B:Nat) (s:ByteArray) (l:List UInt8) (R:Int × Nat × List Te) (w:World) (vl:Value) (wr:World):Prop :=
 ∃(f j c:Nat) (E:Int) (acc:List Tq),VS b s j E c wr/\GR g b wr/\OT wr B vl acc/\w.grownBy wr (some b)/\acc.length<=1000 ∧
  ((E=0/\j<=s.size/\acc.length<=j/\l.length < f+j/\dset l f j (acc.map teOf)=R/\∀x ∈ acc,TqOk x)\/(¬ E=0/\R.1=E/\R.2.1=c))
theorem DRel.ok {b g B:Nat} {s:ByteArray} {l:List UInt8} {R:Int × Nat × List Te} {w:World} {vl:Value} {wr:World} {f j c:Nat} {acc:List Tq} (h1:VS b s j 0 c wr) (h2:GR g b wr) (h3:OT wr B vl acc) (h4:w.grownBy wr (some b)) (h5:acc.length<=1000) (h6:j<=s.size) (h7:acc.length<=j) (h8:l.length < f+j) (h9:dset l f j (acc.map teOf)=R) (h10:∀x ∈ acc,TqOk x):DRel b g B s l R w vl wr :=
 ⟨f,j,c,0,acc,h1,h2,h3,h4,h5,Or.inl ⟨rfl,h6,h7,h8,h9,h10⟩⟩
theorem DRel.bad {b g B:Nat} {s:ByteArray} {l:List UInt8} {R:Int × Nat × List Te} {w:World} {vl:Value} {wr:World} {j c:Nat} {E:Int} {acc:List Tq} (h1:VS b s j E c wr) (h2:GR g b wr) (h3:OT wr B vl acc) (h4:w.grownBy wr (some b)) (h5:acc.length<=1000) (h6:¬ E=0) (h7:R.1=E) (h8:R.2.1=c):DRel b g B s l R w vl wr :=
 ⟨0,j,c,E,acc,h1,h2,h3,h4,h5,Or.inr ⟨h6,h7,h8⟩⟩
set_option maxRecDepth 100000 in
theorem rset_any (g b:Nat) (s:ByteArray) (i:Nat) (a:Nat) (w:World) (hi:i<=s.size) (hgb:g ≠ b) (hg:GR g b w) (h:VS b s i 0 a w) (hs:s.size<=200) :
  Calls Tryz.prog 62 #[.pointer (some ⟨g,0,none⟩)] w (DSetPost b s (dset s.data.toList (s.data.toList.length+1) i []) w):=by
 obtain ⟨l,hl⟩:=nm (s.data.toList);have hll:l.length=s.size:=by rw [<-hl];simp
 have HLL:Hd (l.length=s.size/\s.size<=200):=⟨hll,hs⟩;have CE:Hd (∀i a w,i<=s.size->GR g b w->VS b s i 0 a w->Calls Tryz.prog 79 #[.pointer (some ⟨g,0,none⟩)] w fun e w'=>e=.returned (.bool (endsAt l i))/\∃n,w'=w.drewN n):=fun i a w hi h1 h2=>by rw [<-hl];exact rends_any g b s i a w hi h1 h2 (by omega)
 have CEL:Hd (∀(i:Nat) (E:Int) (a:Nat) w,¬ E=0->GR g b w->VS b s i E a w->Calls Tryz.prog 79 #[.pointer (some ⟨g,0,none⟩)] w fun e w'=>e=.returned (.bool true)/\∃n,w'=w.drewN n):=fun i E a w hE h1 h2=>ends_late g b s i E a w hE h1 h2
 have CS:Hd (∀i a w,i<=s.size->GR g b w->VS b s i 0 a w->Calls Tryz.prog 80 #[.pointer (some ⟨g,0,none⟩)] w fun e w'=>e=.returned (.int .i64 (rdSign l i).1)/\VS b s (rdSign l i).2 0 a w'/\w.grownBy w' (some b)):=fun i a w hi h1 h2=>by rw [<-hl];exact rsign_any g b s i a w hi hgb h1 h2 (by omega)
 have CP:Hd (∀i a w,i<=s.size->GR g b w->VS b s i 0 a w->Calls Tryz.prog 81 #[.pointer (some ⟨g,0,none⟩)] w (QPaPost b s (rdPa l i) w)):=fun i a w hi h1 h2=>by rw [<-hl];exact rpartial_any g b s i a w hi hgb h1 h2 (by omega)
 have CPL:Hd (∀(i:Nat) (E:Int) (a:Nat) w,¬ E=0->i<=s.size->GR g b w->VS b s i E a w->Calls Tryz.prog 81 #[.pointer (some ⟨g,0,none⟩)] w (QLatePost b s E a w)):=fun i E a w hE hi h1 h2=>rpartial_late g b s i E a w hE hi hgb h1 h2 (by omega)
 have CB:Hd (∀i a w,i<=s.size->GR g b w->VS b s i 0 a w->Calls Tryz.prog 61 #[.pointer (some ⟨g,0,none⟩)] w fun e w'=>e=.returned (.bool (decide (i < skipW l i)))/\VS b s (skipW l i) 0 a w'/\w.grownBy w' (some b)):=fun i a w hi h1 h2=>by rw [<-hl];exact rblanks_any g b s i a w hi hgb h1 h2 (by omega)
 have CBL:Hd (∀(i:Nat) (E:Int) (a:Nat) w,¬ E=0->GR g b w->VS b s i E a w->Calls Tryz.prog 61 #[.pointer (some ⟨g,0,none⟩)] w fun e w'=>e=.returned (.bool false)/\∃n,w'=w.drewN n):=fun i E a w hE h1 h2=>rblanks_late g b s i E a w hE h1 h2
 have CI:Hd (∀i a w,i<=s.size->GR g b w->VS b s i 0 a w->Calls Tryz.prog 63 #[.pointer (some ⟨g,0,none⟩),.string ⟨#[45]⟩] w fun e w'=>e=.returned (.bool (decide (l[i]?=some 45)))/\∃n,w'=w.drewN n):=fun i a w hi h1 h2=>by rw [<-hl];exact is_one g b s i 45 a w hi h1 h2 (by omega)
 have CF:Hd (∀(i a:Nat) (F:Int) (c:Nat) w,VS b s i 0 a w->Calls Tryz.prog 58 #[.pointer (some ⟨b,0,none⟩),.int .i64 F,.int .i64 (c:Int)] w fun e w'=>e=.returned (.tuple #[])/\VS b s i F c w'/\w.grownBy w' (some b)):=fun i a F c w h=>fail_first b s i a F c w h
 have HSK:Hd (∀i,i<=s.size->i<=skipW l i/\skipW l i<=s.size):=fun i hi=>⟨skip_ge l i,by have:=skip_le l i (by rw [hll];exact hi);rw [hll] at this;exact this⟩
 have HSP:Hd (∀i,i<=s.size->i<=(rdSign l i).2/\(rdSign l i).2<=s.size):=fun i hi=>by have:=sign_pos l i (by rw [hll];exact hi);rw [hll] at this;exact this
 have HPP:Hd (∀i,i<=s.size->(rdPa l i).1=0->i < (rdPa l i).2.1/\(rdPa l i).2.1<=s.size/\PaOk (rdPa l i).2.2):=fun i hi h0=>by
  have pp:=pa_pos l i (by rw [hll];exact hi) h0;exact ⟨pp.1,by rw [<-hll];exact pp.2,pa_ok l i (by rw [hll];exact hi) h0⟩
 have HPL:Hd (∀i,(rdPa l i).2.2.pre.length<=200):=fun i=>by have:=pa_len l i;omega
 have HG:Hd (GR g b w):=hg;have HV:Hd (VS b s i 0 a w):=h;have HIi:Hd (i<=s.size):=hi;obtain ⟨B,hB⟩:=nm (w.heap.size);have HB:Hd (w.heap.size=B/\b < B/\g < B/\g ≠ b):=⟨hB,by rw [<-hB];exact (hqL h),by rw [<-hB];exact GR.lt hg,hgb⟩;rw [hl];obtain ⟨R,hR⟩:=nm (dset l (l.length+1) i []);have HR0:Hd (dset l (l.length+1) i []=R):=hR;rw [hR];clear hl hll hR h hs hi hB hg hgb;go_enter Tryz.func62,Tryz.ntmps62;go_wp2;go_loopw [3] (fun vl wr=>DRel b g B s l R w vl wr) (fun _ wr=>meas b s.size wr)
 case atStart=>exact DRel.ok (f:=l.length+1) (acc:=[]) HV.o HG.o (show OT w B (.slice none 0 0) [] from World.ownsRow_nil _ _ _ _) (gb_refl _ _) (Nat.zero_le _) HIi.o (Nat.zero_le _) (by omega) HR0.o (fun x hx=>by cases hx)
 case round =>
  obtain ⟨f,j,c,E,acc,hv,hgr,hot,hgw,hal,hcase⟩:=hrel;clear HV HG HR0;obtain ⟨o,c0,rfl⟩:=hot.slice;obtain ⟨n0,hn0⟩:=nm (acc.length);have HV:Hd (VS b s j E c wr):=hv;have HG:Hd (GR g b wr):=hgr;rw [hn0] at hot;have HO:Hd (OT wr B (.slice o n0 c0) acc):=hot;have HN0:Hd (acc.length=n0/\n0<=1000):=⟨hn0,by omega⟩;have HW:Hd (w.grownBy wr (some b)):=hgw;rw [hn0];clear hv hgr hot hgw hal hn0
  rcases hcase with ⟨rfl,hj,haj,hf,hds,hok⟩ | ⟨hE,hR1,hR2⟩
  ·have HJ:Hd (j<=s.size/\n0<=j/\l.length < f+j):=⟨hj,by have:=HN0.o.1;omega,hf⟩;have HDS:Hd (dset l f j (acc.map teOf)=R):=hds;have HOK:Hd (∀x ∈ acc,TqOk x):=hok;clear hj haj hf hds hok;obtain ⟨f,rfl⟩:∃f',f=f'+1:=by
    cases f with
    | zero=>have:=HLL.o.1;have:=HJ.o;omega
    | succ f=>exact ⟨f,rfl⟩
   have HM:Hd (meas b s.size wr=s.size+1 - j):=HV.o.meas0 s.size
   cases hen:endsAt l j with
   | true =>
    have CE1:Hd (∀w,GR g b w->VS b s j 0 c w->Calls Tryz.prog 79 #[.pointer (some ⟨g,0,none⟩)] w fun e w'=>e=.returned (.bool true)/\∃n,w'=w.drewN n):=fun w h1 h2=>by have:=CE.o j c w HJ.o.1 h1 h2;rw [hen] at this;exact this
    have HZ:Hd (R=(0,j,acc.map teOf)):=by show R=_;rw [<-HDS.o];exact dset_end hen
    clear hen;go_wp2_with (first | (go_at_call 79;refine (CE1.o _ HG.o HV.o).mono ?_));rintro e u1 ⟨rfl,n,hn⟩;replace HV:Hd (VS b s (j) 0 (c) u1):=by show VS _ _ _ _ _ u1;rw [hn];exact HV.o.drew _
    replace HG:Hd (GR g b u1):=by show GR g b u1;rw [hn];exact HG.o
    replace HO:Hd (OT u1 B (.slice o n0 c0) acc):=by show OT u1 B _ _;rw [hn];exact HO.o
    replace HW:Hd (w.grownBy u1 (some b)):=by show w.grownBy u1 (some b);rw [hn];exact gb_drew HW.o _
    clear hn;go_wp2;go_ret;rw [HZ.o];exact ⟨o,n0,c0,acc,j,c,rfl,HV.o,by rw [HB.o.1];exact HO.o,HW.o,fun _=>⟨rfl,rfl,HOK.o⟩,fun h=>absurd rfl h⟩
   | false =>
    have CE1:Hd (∀w,GR g b w->VS b s j 0 c w->Calls Tryz.prog 79 #[.pointer (some ⟨g,0,none⟩)] w fun e w'=>e=.returned (.bool false)/\∃n,w'=w.drewN n):=fun w h1 h2=>by have:=CE.o j c w HJ.o.1 h1 h2;rw [hen] at this;exact this
    have hen':¬ endsAt l j=true:=by rw [hen];decide
    have BAD:Hd (¬ (rdPa l (rdSign l j).2).1=0->R=((rdPa l (rdSign l j).2).1,(rdPa l (rdSign l j).2).2.1,acc.map teOf)):=fun h=>by rw [<-HDS.o];exact dset_bad hen' h
    have MORE:Hd ((rdPa l (rdSign l j).2).1=0->¬ (((rdSign l j).1 < 0/\acc.map teOf=[])/\(rdPa l (rdSign l j).2).2.1 < skipW l (rdPa l (rdSign l j).2).2.1/\l[skipW l (rdPa l (rdSign l j).2).2.1]?=some 45)->¬ (¬ (rdPa l (rdSign l j).2).2.1 < skipW l (rdPa l (rdSign l j).2).2.1/\¬ endsAt l (skipW l (rdPa l (rdSign l j).2).2.1)=true)->R=dset l f (skipW l (rdPa l (rdSign l j).2).2.1) (acc.map teOf++[⟨signOr (rdSign l j).1,(rdPa l (rdSign l j).2).2.2⟩])):=fun h1 h2 h3=>by rw [<-HDS.o];exact dset_more hen' h1 h2 h3
    have GAP:Hd ((rdPa l (rdSign l j).2).1=0->¬ (rdPa l (rdSign l j).2).2.1 < skipW l (rdPa l (rdSign l j).2).2.1->¬ endsAt l (skipW l (rdPa l (rdSign l j).2).2.1)=true->R=(2,skipW l (rdPa l (rdSign l j).2).2.1,acc.map teOf)):=fun h1 h2 h3=>by rw [<-HDS.o];exact dset_gap hen' h1 h2 h3
    have BTW:Hd ((rdPa l (rdSign l j).2).1=0->((rdSign l j).1 < 0/\acc.map teOf=[])/\(rdPa l (rdSign l j).2).2.1 < skipW l (rdPa l (rdSign l j).2).2.1/\l[skipW l (rdPa l (rdSign l j).2).2.1]?=some 45->R=(if skipW l (skipW l (rdPa l (rdSign l j).2).2.1+1)=skipW l (rdPa l (rdSign l j).2).2.1+1 then (2,skipW l (rdPa l (rdSign l j).2).2.1+1,acc.map teOf) else if (rdPa l (skipW l (skipW l (rdPa l (rdSign l j).2).2.1+1))).1=0 then (if endsAt l (skipW l (rdPa l (skipW l (skipW l (rdPa l (rdSign l j).2).2.1+1))).2.1)=true then (0,skipW l (rdPa l (skipW l (skipW l (rdPa l (rdSign l j).2).2.1+1))).2.1,[⟨7,(rdPa l (rdSign l j).2).2.2⟩,⟨2,(rdPa l (skipW l (skipW l (rdPa l (rdSign l j).2).2.1+1))).2.2⟩]) else (2,skipW l (rdPa l (skipW l (skipW l (rdPa l (rdSign l j).2).2.1+1))).2.1,acc.map teOf)) else ((rdPa l (skipW l (skipW l (rdPa l (rdSign l j).2).2.1+1))).1,(rdPa l (skipW l (skipW l (rdPa l (rdSign l j).2).2.1+1))).2.1,acc.map teOf))):=fun h1 h2=>by rw [<-HDS.o];exact dset_bt hen' h1 h2
    have CS1:Hd (∀w,GR g b w->VS b s j 0 c w->Calls Tryz.prog 80 #[.pointer (some ⟨g,0,none⟩)] w fun e w'=>e=.returned (.int .i64 (rdSign l j).1)/\VS b s (rdSign l j).2 0 c w'/\w.grownBy w' (some b)):=fun w h1 h2=>CS.o j c w HJ.o.1 h1 h2
    have HS1:Hd (-1<=(rdSign l j).1/\(rdSign l j).1<=6):=sign_val l j;have HS2:Hd (j<=(rdSign l j).2/\(rdSign l j).2<=s.size):=HSP.o j HJ.o.1;obtain ⟨sg,j1,hsg⟩:∃sg j1,rdSign l j=(sg,j1):=⟨_,_,rfl⟩;rw [hsg] at BAD MORE GAP BTW CS1 HS1 HS2;simp only [] at BAD MORE GAP BTW CS1 HS1 HS2;have CP1:Hd (∀w,GR g b w->VS b s j1 0 c w->Calls Tryz.prog 81 #[.pointer (some ⟨g,0,none⟩)] w (QPaPost b s (rdPa l j1) w)):=fun w h1 h2=>CP.o j1 c w HS2.o.2 h1 h2
    have HP1:Hd ((rdPa l j1).1=0->j1 < (rdPa l j1).2.1/\(rdPa l j1).2.1<=s.size/\PaOk (rdPa l j1).2.2):=HPP.o j1 HS2.o.2;have HP2:Hd ((rdPa l j1).2.2.pre.length<=200):=HPL.o j1;obtain ⟨E1,J,p,hR⟩:∃E1 J p,rdPa l j1=(E1,J,p):=⟨_,_,_,rfl⟩;rw [hR] at BAD MORE GAP BTW CP1 HP1 HP2;simp only [] at BAD MORE GAP BTW HP1 HP2;clear hen hen' hsg hR HDS;go_wp2_with (first | (go_at_call 79;refine (CE1.o _ HG.o HV.o).mono ?_));rintro e u1 ⟨rfl,n,hn⟩;replace HV:Hd (VS b s (j) 0 (c) u1):=by show VS _ _ _ _ _ u1;rw [hn];exact HV.o.drew _
    replace HG:Hd (GR g b u1):=by show GR g b u1;rw [hn];exact HG.o
    replace HO:Hd (OT u1 B (.slice o n0 c0) acc):=by show OT u1 B _ _;rw [hn];exact HO.o
    replace HW:Hd (w.grownBy u1 (some b)):=by show w.grownBy u1 (some b);rw [hn];exact gb_drew HW.o _
    clear hn;go_wp2_with (first | (go_at_call 80;refine (CS1.o _ HG.o HV.o).mono ?_));rintro e u2 ⟨rfl,hv,hg⟩;replace HV:Hd (VS b s (j1) 0 (c) u2):=hv;replace HG:Hd (GR g b u2):=HG.o.growb hg HB.o.2.2.2;replace HO:Hd (OT u2 B (.slice o n0 c0) acc):=HO.o.growb hg HB.o.2.1;replace HW:Hd (w.grownBy u2 (some b)):=gb_trans HW.o hg;clear hv hg;go_wp2_with (first | (go_at_call 81;refine (CP1.o _ HG.o HV.o).mono ?_));rintro e u3 ⟨m,y1,y2,y3,P,Q,j2,c2,rfl,hv,hg,hok,herr⟩;replace HV:Hd (VS b s (j2) E1 (c2) u3):=hv;replace HG:Hd (GR g b u3):=HG.o.growb hg HB.o.2.2.2;replace HO:Hd (OT u3 B (.slice o n0 c0) acc):=HO.o.growb hg HB.o.2.1;replace HW:Hd (w.grownBy u3 (some b)):=gb_trans HW.o hg;clear hv hg;have HQK:Hd ((E1=0->j2=J/\m=(p.n:Int)/\y1=p.a/\y2=p.b/\y3=p.c/\P=⟨p.pre.toArray⟩)/\(¬ E1=0->c2=J)):=⟨hok,herr⟩;clear hok herr;obtain ⟨D,hD⟩:=nm (u3.heap.size)
    obtain ⟨W,hW⟩:=nm (u3.alloc (.cells #[.int .i64 m,.int .i64 y1,.int .i64 y2,.int .i64 y3,.string P,.string Q] 129));have hgW:u3.grownBy W none:=by rw [<-hW];exact gb_alloc (gb_refl u3 none) _
    have HD:Hd (VP D m y1 y2 y3 P Q W):=by show W.heap[D]?=_;rw [<-hW,<-hD];exact heap_alloc_new u3 _
    have HDB:Hd (B<=D/\D ≠ b/\D ≠ g):=by have h1:=HW.o.size;have h2:=HB.o;rw [h2.1,hD] at h1;refine ⟨h1,?_,?_⟩ <;> omega
    replace HV:Hd (VS b s j2 E1 c2 W):=HV.o.grow hgW (by simp);replace HG:Hd (GR g b W):=HG.o.grow hgW;replace HO:Hd (OT W B (.slice o n0 c0) acc):=HO.o.grow hgW;replace HW:Hd (w.grownBy W (some b)):=gb_trans HW.o (gb_weak hgW _);clear hgW
    by_cases hE1:E1=0
    ·subst hE1;obtain ⟨q1,q2,q3,q4,q5,q6⟩:=HQK.o.1 rfl;obtain ⟨z1,z2,z3⟩:=HP1.o rfl;have HQ:Hd (m=(p.n:Int)/\y1=p.a/\y2=p.b/\y3=p.c/\P=⟨p.pre.toArray⟩):=⟨q2,q3,q4,q5,q6⟩;have HP:Hd (j1 < J/\J<=s.size/\PaOk p):=⟨z1,z2,z3⟩;subst q1;clear q2 q3 q4 q5 q6 z1 z2 z3;have CB1:Hd (∀w,GR g b w->VS b s j2 0 c2 w->Calls Tryz.prog 61 #[.pointer (some ⟨g,0,none⟩)] w fun e w'=>e=.returned (.bool (decide (j2 < skipW l j2)))/\VS b s (skipW l j2) 0 c2 w'/\w.grownBy w' (some b)):=fun w h1 h2=>CB.o j2 c2 w HP.o.2.1 h1 h2
     have HK:Hd (j2<=skipW l j2/\skipW l j2<=s.size):=HSK.o j2 HP.o.2.1;obtain ⟨K,hK⟩:=nm (skipW l j2);rw [hK] at MORE GAP BTW CB1 HK;clear hK BAD;obtain ⟨ap,hap⟩:=nm (decide (j2 < K));rw [hap] at CB1;have HAP:Hd (decide (j2 < K)=ap):=hap;clear hap;go_wp2_with (first | (go_at_call 61;refine (CB1.o _ HG.o HV.o).mono ?_));rintro e u4 ⟨rfl,hv,hg⟩;replace HV:Hd (VS b s K 0 (c2) u4):=hv;replace HG:Hd (GR g b u4):=HG.o.growb hg HB.o.2.2.2;replace HO:Hd (OT u4 B (.slice o n0 c0) acc):=HO.o.growb hg HB.o.2.1;replace HD:Hd (VP D m y1 y2 y3 P Q u4):=HD.o.grow hg HDB.o.2.1;replace HW:Hd (w.grownBy u4 (some b)):=gb_trans HW.o hg;clear hv hg;clear hW hD
     cases hlz:decide (n0=0) with
     | false =>
      have HNZ:Hd (¬ acc.map teOf=[]):=by show ¬ _;intro h;have h2:=of_decide_eq_false hlz;rw [List.map_eq_nil_iff] at h;rw [<-HN0.o.1,h] at h2;exact h2 rfl
      have hlen:((n0:Int) == 0)=false:=by have:=of_decide_eq_false hlz;simp;omega
      clear hlz
      by_cases hsn:sg < 0
      ·have HSN:Hd (sg < 0):=hsn
       cases ap with
       | false =>
        obtain ⟨k0,k1,k2,k3,k4,k5⟩:=HD.o.cells;have hinfo:=infoTe;obtain ⟨i1,hj0,hjj⟩:=Option.map_eq_some_iff.1 hinfo;have hy0:i1.zero=some (.agg #[.int .i64 0,.int .i64 0,.int .i64 0,.int .i64 0,.int .i64 0,.string ⟨#[]⟩,.string ⟨#[]⟩]):=congrArg (·.1) hjj;have hy1:i1.size=7:=congrArg (·.2.1) hjj;have hyb:i1.bytes=72:=congrArg (·.2.2) hjj;clear hjj hinfo;obtain ⟨tq,htq⟩:∃tq:Tq,tq=⟨0,m,y1,y2,y3,P,Q⟩:=⟨_,rfl⟩;have HTQ:Hd (tq=⟨0,m,y1,y2,y3,P,Q⟩):=htq;have htc:tqC tq=[.int .i64 (0),.int .i64 m,.int .i64 y1,.int .i64 y2,.int .i64 y3,.string P,.string Q]:=by rw [htq];rfl
        have HTC:Hd (tqC tq=[.int .i64 (0),.int .i64 m,.int .i64 y1,.int .i64 y2,.int .i64 y3,.string P,.string Q]):=htc;clear htq htc;go_wp2_with (first | (at_builtin;refine wpList_append_own _ rfl _ _ 125 rfl B 131 i1 _ 7 72 Tryz.underlying125 hj0 hy0 hy1 hyb rfl (by decide) _ _ _ rfl (by have h:=HO.o;unfold OT at h;rw [HN0.o.1] at h;exact h.alloc _) _ 1 1 (tqC tq) rfl (by rw [HTC.o];rfl) (by rw [HTC.o];exact World.news_of_block (heap_alloc_new _ _)) (tq_one tq) (by unfold maxLen;have:=HN0.o;omega) (by have:=HN0.o;omega) (by have h1:=HW.o.size;rw [HB.o.1] at h1;simp;omega) ?_;intro v' u9 hown hgrow _));have hga:u4.grownBy (u4.alloc (.cells #[.int .i64 (0),.int .i64 m,.int .i64 y1,.int .i64 y2,.int .i64 y3,.string P,.string Q] 131)) none:=gb_alloc (gb_refl _ none) _;have hfar:=HO.o.far;have HON:Hd (OT u9 B v' (acc++[tq])):=by show OT u9 B v' _;unfold OT;rw [List.length_append,List.flatMap_append,HN0.o.1];simpa using hown
        replace HV:=(HV.o.grow hga (by simp)).grow hgrow (fun e=>by have:=hfar b e.symm;have:=HB.o;omega);replace HG:Hd (GR g b u9):=(HG.o.grow hga).growr hgrow (fun e=>by have:=hfar g e.symm;have:=HB.o;omega);replace HW:Hd (w.grownBy u9 (some b)):=gb_rowb (gb_trans HW.o (gb_weak hga _)) hgrow (fun q hq=>by rw [HB.o.1];exact hfar q hq);have HLN:Hd ((acc++[tq]).length<=1000):=by show _<=_;rw [List.length_append,HN0.o.1];have:=HJ.o;have:=HLL.o.2;first | (simp;omega) | simp
        obtain ⟨o9,c9,hvn⟩:=HON.o.slice;obtain ⟨n9,hn9⟩:=nm ((acc++[tq]).length);rw [hn9] at hvn;rw [hvn] at HON
        try rw [hvn]
        clear hn9;clear hown hgrow hga hfar hj0 hy0 hy1 hyb k0 k1 k2 k3 k4 k5 hvn;have HVh:Hd (VS b s K 0 c2 u9):=HV;clear HV
        cases hen:endsAt l K with
        | true =>
         have CE2:Hd (∀w,GR g b w->VS b s K 0 c2 w->Calls Tryz.prog 79 #[.pointer (some ⟨g,0,none⟩)] w fun e w'=>e=.returned (.bool true)/\∃n,w'=w.drewN n):=fun w h1 h2=>by have:=CE.o K c2 w HK.o.2 h1 h2;rw [hen] at this;exact this
         have HNX:Hd (R=dset l f K ((acc++[tq]).map teOf)):=by
          show R=_;rw [List.map_append,show [tq].map teOf=[⟨signOr sg,p⟩] by rw [HTQ.o];simp only [List.map_cons,List.map_nil];rw [te_of (p:=p) _ HQ.o.1 HQ.o.2.1 HQ.o.2.2.1 HQ.o.2.2.2.1 HQ.o.2.2.2.2];unfold signOr;rw [if_pos HSN.o]];exact MORE.o (by first | trivial | rfl) (fun h=>HNZ.o h.1.2) (fun h=>h.2 hen)
         have HTK:Hd (∀x ∈ acc++[tq],TqOk x):=by
          intro x hx
          rcases List.mem_append.1 hx with h | h
          ·exact HOK.o x h
          ·rw [List.mem_singleton.1 h,HTQ.o];exact tq_ok (p:=p) _ (by omega) HP.o.2.2 HP2.o HQ.o.1 HQ.o.2.1 HQ.o.2.2.1 HQ.o.2.2.2.1 HQ.o.2.2.2.2
         clear hen;go_wp2_with (first | (go_at_call 79;refine (CE2.o _ HG.o HVh.o).mono ?_));rintro e u10 ⟨rfl,n,hn⟩;have HF:Hd (VS b s K 0 c2 u10/\GR g b u10/\OT u10 B (.slice o9 n9 c9) (acc++[tq])/\w.grownBy u10 (some b)):=by
          rw [hn];exact ⟨HVh.o.drew _,HG.o,HON.o,gb_drew HW.o _⟩
         clear hn;go_wp2;go_roundw
         case rel=>exact DRel.ok (f:=f) HF.o.1 HF.o.2.1 HF.o.2.2.1 HF.o.2.2.2 HLN.o HK.o.2 (by rw [List.length_append,HN0.o.1];have:=HJ.o;have:=HS2.o;have:=HP.o;have:=HK.o;first | (simp;omega) | simp) (by have:=HJ.o;have:=HS2.o;have:=HP.o;have:=HK.o;omega) HNX.o.symm HTK.o
         case measure=>rw [HM.o,HF.o.1.meas0];have:=HJ.o;have:=HS2.o;have:=HP.o;have:=HK.o;omega
        | false =>
         have CE2:Hd (∀w,GR g b w->VS b s K 0 c2 w->Calls Tryz.prog 79 #[.pointer (some ⟨g,0,none⟩)] w fun e w'=>e=.returned (.bool false)/\∃n,w'=w.drewN n):=fun w h1 h2=>by have:=CE.o K c2 w HK.o.2 h1 h2;rw [hen] at this;exact this
         have HZ:Hd (R=(2,K,acc.map teOf)):=GAP.o (by first | trivial | rfl) (of_decide_eq_false HAP.o) (by rw [hen];decide);clear hen;go_wp2_with (first | (go_at_call 79;refine (CE2.o _ HG.o HVh.o).mono ?_));rintro e u10 ⟨rfl,n,hn⟩;have HF:Hd (VS b s K 0 c2 u10/\GR g b u10/\OT u10 B (.slice o9 n9 c9) (acc++[tq])/\w.grownBy u10 (some b)):=by
          rw [hn];exact ⟨HVh.o.drew _,HG.o,HON.o,gb_drew HW.o _⟩
         clear hn;have CF1:Hd (∀w,VS b s K 0 c2 w->Calls Tryz.prog 58 #[.pointer (some ⟨b,0,none⟩),.int .i64 2,.int .i64 (K:Int)] w fun e w'=>e=.returned (.tuple #[])/\VS b s K 2 K w'/\w.grownBy w' (some b)):=fun w h=>CF.o K c2 2 K w h
         have e0:u10.cell? ⟨g,0,none⟩=some (.pointer (some ⟨b,0,none⟩)):=HF.o.2.1;have e1:=(HF.o.1).c1;go_wp2_with (fail)
         go_region_held3 (fun w'=>w'.cell? ⟨g,0,none⟩=some (.pointer (some ⟨b,0,none⟩))/\w'.cell? ⟨b,1,none⟩=some (.int .i64 (K:Int))) (first | (simp only [cell_drew];exact ⟨e0,e1⟩) | exact hS1) (first | (go_at_call 58;refine (CF1.o _ (by first | exact HF.o.1 | exact VS.drew HF.o.1 1)).mono ?_;rintro e u11 ⟨rfl,hv11,hg11⟩;have hS1:u11.cell? ⟨g,0,none⟩=some (.pointer (some ⟨b,0,none⟩))/\u11.cell? ⟨b,1,none⟩=some (.int .i64 (K:Int)):=⟨GR.growb (b:=b) HF.o.2.1 (gb_undrew hg11) HB.o.2.2.2,hv11.c1⟩))
         have HVF:Hd (VS b s K 2 K u11):=hv11;have hg11':=gb_undrew hg11;have HFF:Hd (GR g b u11/\OT u11 B (.slice o9 n9 c9) (acc++[tq])/\w.grownBy u11 (some b)):=⟨HF.o.2.1.growb hg11' HB.o.2.2.2,HF.o.2.2.1.growb hg11' HB.o.2.1,gb_trans HF.o.2.2.2 hg11'⟩;clear hv11 hg11 hg11' e0 e1 hS1;go_wp2;go_roundw
         case rel=>exact DRel.bad HVF.o HFF.o.1 HFF.o.2.1 HFF.o.2.2 HLN.o (by decide) (by rw [HZ.o]) (by rw [HZ.o])
         case measure=>rw [HM.o,HVF.o.measE (by decide)];have:=HJ.o;omega
       | true =>
        obtain ⟨k0,k1,k2,k3,k4,k5⟩:=HD.o.cells;have hinfo:=infoTe;obtain ⟨i1,hj0,hjj⟩:=Option.map_eq_some_iff.1 hinfo;have hy0:i1.zero=some (.agg #[.int .i64 0,.int .i64 0,.int .i64 0,.int .i64 0,.int .i64 0,.string ⟨#[]⟩,.string ⟨#[]⟩]):=congrArg (·.1) hjj;have hy1:i1.size=7:=congrArg (·.2.1) hjj;have hyb:i1.bytes=72:=congrArg (·.2.2) hjj;clear hjj hinfo;obtain ⟨tq,htq⟩:∃tq:Tq,tq=⟨0,m,y1,y2,y3,P,Q⟩:=⟨_,rfl⟩;have HTQ:Hd (tq=⟨0,m,y1,y2,y3,P,Q⟩):=htq;have htc:tqC tq=[.int .i64 (0),.int .i64 m,.int .i64 y1,.int .i64 y2,.int .i64 y3,.string P,.string Q]:=by rw [htq];rfl
        have HTC:Hd (tqC tq=[.int .i64 (0),.int .i64 m,.int .i64 y1,.int .i64 y2,.int .i64 y3,.string P,.string Q]):=htc;clear htq htc;go_wp2_with (first | (at_builtin;refine wpList_append_own _ rfl _ _ 125 rfl B 131 i1 _ 7 72 Tryz.underlying125 hj0 hy0 hy1 hyb rfl (by decide) _ _ _ rfl (by have h:=HO.o;unfold OT at h;rw [HN0.o.1] at h;exact h.alloc _) _ 1 1 (tqC tq) rfl (by rw [HTC.o];rfl) (by rw [HTC.o];exact World.news_of_block (heap_alloc_new _ _)) (tq_one tq) (by unfold maxLen;have:=HN0.o;omega) (by have:=HN0.o;omega) (by have h1:=HW.o.size;rw [HB.o.1] at h1;simp;omega) ?_;intro v' u9 hown hgrow _));have hga:u4.grownBy (u4.alloc (.cells #[.int .i64 (0),.int .i64 m,.int .i64 y1,.int .i64 y2,.int .i64 y3,.string P,.string Q] 131)) none:=gb_alloc (gb_refl _ none) _;have hfar:=HO.o.far;have HON:Hd (OT u9 B v' (acc++[tq])):=by show OT u9 B v' _;unfold OT;rw [List.length_append,List.flatMap_append,HN0.o.1];simpa using hown
        replace HV:=(HV.o.grow hga (by simp)).grow hgrow (fun e=>by have:=hfar b e.symm;have:=HB.o;omega);replace HG:Hd (GR g b u9):=(HG.o.grow hga).growr hgrow (fun e=>by have:=hfar g e.symm;have:=HB.o;omega);replace HW:Hd (w.grownBy u9 (some b)):=gb_rowb (gb_trans HW.o (gb_weak hga _)) hgrow (fun q hq=>by rw [HB.o.1];exact hfar q hq);have HLN:Hd ((acc++[tq]).length<=1000):=by show _<=_;rw [List.length_append,HN0.o.1];have:=HJ.o;have:=HLL.o.2;first | (simp;omega) | simp
        obtain ⟨o9,c9,hvn⟩:=HON.o.slice;obtain ⟨n9,hn9⟩:=nm ((acc++[tq]).length);rw [hn9] at hvn;rw [hvn] at HON
        try rw [hvn]
        clear hn9;clear hown hgrow hga hfar hj0 hy0 hy1 hyb k0 k1 k2 k3 k4 k5 hvn;have HVh:Hd (VS b s K 0 c2 u9):=HV;clear HV;have HNX:Hd (R=dset l f K ((acc++[tq]).map teOf)):=by
         show R=_;rw [List.map_append,show [tq].map teOf=[⟨signOr sg,p⟩] by rw [HTQ.o];simp only [List.map_cons,List.map_nil];rw [te_of (p:=p) _ HQ.o.1 HQ.o.2.1 HQ.o.2.2.1 HQ.o.2.2.2.1 HQ.o.2.2.2.2];unfold signOr;rw [if_pos HSN.o]];exact MORE.o (by first | trivial | rfl) (fun h=>HNZ.o h.1.2) (fun h=>h.1 (of_decide_eq_true HAP.o))
        have HTK:Hd (∀x ∈ acc++[tq],TqOk x):=by
         intro x hx
         rcases List.mem_append.1 hx with h | h
         ·exact HOK.o x h
         ·rw [List.mem_singleton.1 h,HTQ.o];exact tq_ok (p:=p) _ (by omega) HP.o.2.2 HP2.o HQ.o.1 HQ.o.2.1 HQ.o.2.2.1 HQ.o.2.2.2.1 HQ.o.2.2.2.2
        have HF:Hd (VS b s K 0 c2 u9/\GR g b u9/\OT u9 B (.slice o9 n9 c9) (acc++[tq])/\w.grownBy u9 (some b)):=⟨HVh.o,HG.o,HON.o,HW.o⟩;go_wp2;go_roundw
        case rel=>exact DRel.ok (f:=f) HF.o.1 HF.o.2.1 HF.o.2.2.1 HF.o.2.2.2 HLN.o HK.o.2 (by rw [List.length_append,HN0.o.1];have:=HJ.o;have:=HS2.o;have:=HP.o;have:=HK.o;first | (simp;omega) | simp) (by have:=HJ.o;have:=HS2.o;have:=HP.o;have:=HK.o;omega) HNX.o.symm HTK.o
        case measure=>rw [HM.o,HF.o.1.meas0];have:=HJ.o;have:=HS2.o;have:=HP.o;have:=HK.o;omega
      ·have HSN:Hd (¬ sg < 0):=hsn
       cases ap with
       | false =>
        obtain ⟨k0,k1,k2,k3,k4,k5⟩:=HD.o.cells;have hinfo:=infoTe;obtain ⟨i1,hj0,hjj⟩:=Option.map_eq_some_iff.1 hinfo;have hy0:i1.zero=some (.agg #[.int .i64 0,.int .i64 0,.int .i64 0,.int .i64 0,.int .i64 0,.string ⟨#[]⟩,.string ⟨#[]⟩]):=congrArg (·.1) hjj;have hy1:i1.size=7:=congrArg (·.2.1) hjj;have hyb:i1.bytes=72:=congrArg (·.2.2) hjj;clear hjj hinfo;obtain ⟨tq,htq⟩:∃tq:Tq,tq=⟨sg,m,y1,y2,y3,P,Q⟩:=⟨_,rfl⟩;have HTQ:Hd (tq=⟨sg,m,y1,y2,y3,P,Q⟩):=htq;have htc:tqC tq=[.int .i64 (sg),.int .i64 m,.int .i64 y1,.int .i64 y2,.int .i64 y3,.string P,.string Q]:=by rw [htq];rfl
        have HTC:Hd (tqC tq=[.int .i64 (sg),.int .i64 m,.int .i64 y1,.int .i64 y2,.int .i64 y3,.string P,.string Q]):=htc;clear htq htc;go_wp2_with (first | (at_builtin;refine wpList_append_own _ rfl _ _ 125 rfl B 131 i1 _ 7 72 Tryz.underlying125 hj0 hy0 hy1 hyb rfl (by decide) _ _ _ rfl (by have h:=HO.o;unfold OT at h;rw [HN0.o.1] at h;exact h.alloc _) _ 1 1 (tqC tq) rfl (by rw [HTC.o];rfl) (by rw [HTC.o];exact World.news_of_block (heap_alloc_new _ _)) (tq_one tq) (by unfold maxLen;have:=HN0.o;omega) (by have:=HN0.o;omega) (by have h1:=HW.o.size;rw [HB.o.1] at h1;simp;omega) ?_;intro v' u9 hown hgrow _));have hga:u4.grownBy (u4.alloc (.cells #[.int .i64 (sg),.int .i64 m,.int .i64 y1,.int .i64 y2,.int .i64 y3,.string P,.string Q] 131)) none:=gb_alloc (gb_refl _ none) _;have hfar:=HO.o.far;have HON:Hd (OT u9 B v' (acc++[tq])):=by show OT u9 B v' _;unfold OT;rw [List.length_append,List.flatMap_append,HN0.o.1];simpa using hown
        replace HV:=(HV.o.grow hga (by simp)).grow hgrow (fun e=>by have:=hfar b e.symm;have:=HB.o;omega);replace HG:Hd (GR g b u9):=(HG.o.grow hga).growr hgrow (fun e=>by have:=hfar g e.symm;have:=HB.o;omega);replace HW:Hd (w.grownBy u9 (some b)):=gb_rowb (gb_trans HW.o (gb_weak hga _)) hgrow (fun q hq=>by rw [HB.o.1];exact hfar q hq);have HLN:Hd ((acc++[tq]).length<=1000):=by show _<=_;rw [List.length_append,HN0.o.1];have:=HJ.o;have:=HLL.o.2;first | (simp;omega) | simp
        obtain ⟨o9,c9,hvn⟩:=HON.o.slice;obtain ⟨n9,hn9⟩:=nm ((acc++[tq]).length);rw [hn9] at hvn;rw [hvn] at HON
        try rw [hvn]
        clear hn9;clear hown hgrow hga hfar hj0 hy0 hy1 hyb k0 k1 k2 k3 k4 k5 hvn;have HVh:Hd (VS b s K 0 c2 u9):=HV;clear HV
        cases hen:endsAt l K with
        | true =>
         have CE2:Hd (∀w,GR g b w->VS b s K 0 c2 w->Calls Tryz.prog 79 #[.pointer (some ⟨g,0,none⟩)] w fun e w'=>e=.returned (.bool true)/\∃n,w'=w.drewN n):=fun w h1 h2=>by have:=CE.o K c2 w HK.o.2 h1 h2;rw [hen] at this;exact this
         have HNX:Hd (R=dset l f K ((acc++[tq]).map teOf)):=by
          show R=_;rw [List.map_append,show [tq].map teOf=[⟨signOr sg,p⟩] by rw [HTQ.o];simp only [List.map_cons,List.map_nil];rw [te_of (p:=p) _ HQ.o.1 HQ.o.2.1 HQ.o.2.2.1 HQ.o.2.2.2.1 HQ.o.2.2.2.2];unfold signOr;rw [if_neg (by have:=HSN.o;omega)]];exact MORE.o (by first | trivial | rfl) (fun h=>HNZ.o h.1.2) (fun h=>h.2 hen)
         have HTK:Hd (∀x ∈ acc++[tq],TqOk x):=by
          intro x hx
          rcases List.mem_append.1 hx with h | h
          ·exact HOK.o x h
          ·rw [List.mem_singleton.1 h,HTQ.o];exact tq_ok (p:=p) _ (by have:=HSN.o;have:=HS1.o;omega) HP.o.2.2 HP2.o HQ.o.1 HQ.o.2.1 HQ.o.2.2.1 HQ.o.2.2.2.1 HQ.o.2.2.2.2
         clear hen;go_wp2_with (first | (go_at_call 79;refine (CE2.o _ HG.o HVh.o).mono ?_));rintro e u10 ⟨rfl,n,hn⟩;have HF:Hd (VS b s K 0 c2 u10/\GR g b u10/\OT u10 B (.slice o9 n9 c9) (acc++[tq])/\w.grownBy u10 (some b)):=by
          rw [hn];exact ⟨HVh.o.drew _,HG.o,HON.o,gb_drew HW.o _⟩
         clear hn;go_wp2;go_roundw
         case rel=>exact DRel.ok (f:=f) HF.o.1 HF.o.2.1 HF.o.2.2.1 HF.o.2.2.2 HLN.o HK.o.2 (by rw [List.length_append,HN0.o.1];have:=HJ.o;have:=HS2.o;have:=HP.o;have:=HK.o;first | (simp;omega) | simp) (by have:=HJ.o;have:=HS2.o;have:=HP.o;have:=HK.o;omega) HNX.o.symm HTK.o
         case measure=>rw [HM.o,HF.o.1.meas0];have:=HJ.o;have:=HS2.o;have:=HP.o;have:=HK.o;omega
        | false =>
         have CE2:Hd (∀w,GR g b w->VS b s K 0 c2 w->Calls Tryz.prog 79 #[.pointer (some ⟨g,0,none⟩)] w fun e w'=>e=.returned (.bool false)/\∃n,w'=w.drewN n):=fun w h1 h2=>by have:=CE.o K c2 w HK.o.2 h1 h2;rw [hen] at this;exact this
         have HZ:Hd (R=(2,K,acc.map teOf)):=GAP.o (by first | trivial | rfl) (of_decide_eq_false HAP.o) (by rw [hen];decide);clear hen;go_wp2_with (first | (go_at_call 79;refine (CE2.o _ HG.o HVh.o).mono ?_));rintro e u10 ⟨rfl,n,hn⟩;have HF:Hd (VS b s K 0 c2 u10/\GR g b u10/\OT u10 B (.slice o9 n9 c9) (acc++[tq])/\w.grownBy u10 (some b)):=by
          rw [hn];exact ⟨HVh.o.drew _,HG.o,HON.o,gb_drew HW.o _⟩
         clear hn;have CF1:Hd (∀w,VS b s K 0 c2 w->Calls Tryz.prog 58 #[.pointer (some ⟨b,0,none⟩),.int .i64 2,.int .i64 (K:Int)] w fun e w'=>e=.returned (.tuple #[])/\VS b s K 2 K w'/\w.grownBy w' (some b)):=fun w h=>CF.o K c2 2 K w h
         have e0:u10.cell? ⟨g,0,none⟩=some (.pointer (some ⟨b,0,none⟩)):=HF.o.2.1;have e1:=(HF.o.1).c1;go_wp2_with (fail)
         go_region_held3 (fun w'=>w'.cell? ⟨g,0,none⟩=some (.pointer (some ⟨b,0,none⟩))/\w'.cell? ⟨b,1,none⟩=some (.int .i64 (K:Int))) (first | (simp only [cell_drew];exact ⟨e0,e1⟩) | exact hS1) (first | (go_at_call 58;refine (CF1.o _ (by first | exact HF.o.1 | exact VS.drew HF.o.1 1)).mono ?_;rintro e u11 ⟨rfl,hv11,hg11⟩;have hS1:u11.cell? ⟨g,0,none⟩=some (.pointer (some ⟨b,0,none⟩))/\u11.cell? ⟨b,1,none⟩=some (.int .i64 (K:Int)):=⟨GR.growb (b:=b) HF.o.2.1 (gb_undrew hg11) HB.o.2.2.2,hv11.c1⟩))
         have HVF:Hd (VS b s K 2 K u11):=hv11;have hg11':=gb_undrew hg11;have HFF:Hd (GR g b u11/\OT u11 B (.slice o9 n9 c9) (acc++[tq])/\w.grownBy u11 (some b)):=⟨HF.o.2.1.growb hg11' HB.o.2.2.2,HF.o.2.2.1.growb hg11' HB.o.2.1,gb_trans HF.o.2.2.2 hg11'⟩;clear hv11 hg11 hg11' e0 e1 hS1;go_wp2;go_roundw
         case rel=>exact DRel.bad HVF.o HFF.o.1 HFF.o.2.1 HFF.o.2.2 HLN.o (by decide) (by rw [HZ.o]) (by rw [HZ.o])
         case measure=>rw [HM.o,HVF.o.measE (by decide)];have:=HJ.o;omega
       | true =>
        obtain ⟨k0,k1,k2,k3,k4,k5⟩:=HD.o.cells;have hinfo:=infoTe;obtain ⟨i1,hj0,hjj⟩:=Option.map_eq_some_iff.1 hinfo;have hy0:i1.zero=some (.agg #[.int .i64 0,.int .i64 0,.int .i64 0,.int .i64 0,.int .i64 0,.string ⟨#[]⟩,.string ⟨#[]⟩]):=congrArg (·.1) hjj;have hy1:i1.size=7:=congrArg (·.2.1) hjj;have hyb:i1.bytes=72:=congrArg (·.2.2) hjj;clear hjj hinfo;obtain ⟨tq,htq⟩:∃tq:Tq,tq=⟨sg,m,y1,y2,y3,P,Q⟩:=⟨_,rfl⟩;have HTQ:Hd (tq=⟨sg,m,y1,y2,y3,P,Q⟩):=htq;have htc:tqC tq=[.int .i64 (sg),.int .i64 m,.int .i64 y1,.int .i64 y2,.int .i64 y3,.string P,.string Q]:=by rw [htq];rfl
        have HTC:Hd (tqC tq=[.int .i64 (sg),.int .i64 m,.int .i64 y1,.int .i64 y2,.int .i64 y3,.string P,.string Q]):=htc;clear htq htc;go_wp2_with (first | (at_builtin;refine wpList_append_own _ rfl _ _ 125 rfl B 131 i1 _ 7 72 Tryz.underlying125 hj0 hy0 hy1 hyb rfl (by decide) _ _ _ rfl (by have h:=HO.o;unfold OT at h;rw [HN0.o.1] at h;exact h.alloc _) _ 1 1 (tqC tq) rfl (by rw [HTC.o];rfl) (by rw [HTC.o];exact World.news_of_block (heap_alloc_new _ _)) (tq_one tq) (by unfold maxLen;have:=HN0.o;omega) (by have:=HN0.o;omega) (by have h1:=HW.o.size;rw [HB.o.1] at h1;simp;omega) ?_;intro v' u9 hown hgrow _));have hga:u4.grownBy (u4.alloc (.cells #[.int .i64 (sg),.int .i64 m,.int .i64 y1,.int .i64 y2,.int .i64 y3,.string P,.string Q] 131)) none:=gb_alloc (gb_refl _ none) _;have hfar:=HO.o.far;have HON:Hd (OT u9 B v' (acc++[tq])):=by show OT u9 B v' _;unfold OT;rw [List.length_append,List.flatMap_append,HN0.o.1];simpa using hown
        replace HV:=(HV.o.grow hga (by simp)).grow hgrow (fun e=>by have:=hfar b e.symm;have:=HB.o;omega);replace HG:Hd (GR g b u9):=(HG.o.grow hga).growr hgrow (fun e=>by have:=hfar g e.symm;have:=HB.o;omega);replace HW:Hd (w.grownBy u9 (some b)):=gb_rowb (gb_trans HW.o (gb_weak hga _)) hgrow (fun q hq=>by rw [HB.o.1];exact hfar q hq);have HLN:Hd ((acc++[tq]).length<=1000):=by show _<=_;rw [List.length_append,HN0.o.1];have:=HJ.o;have:=HLL.o.2;first | (simp;omega) | simp
        obtain ⟨o9,c9,hvn⟩:=HON.o.slice;obtain ⟨n9,hn9⟩:=nm ((acc++[tq]).length);rw [hn9] at hvn;rw [hvn] at HON
        try rw [hvn]
        clear hn9;clear hown hgrow hga hfar hj0 hy0 hy1 hyb k0 k1 k2 k3 k4 k5 hvn;have HVh:Hd (VS b s K 0 c2 u9):=HV;clear HV;have HNX:Hd (R=dset l f K ((acc++[tq]).map teOf)):=by
         show R=_;rw [List.map_append,show [tq].map teOf=[⟨signOr sg,p⟩] by rw [HTQ.o];simp only [List.map_cons,List.map_nil];rw [te_of (p:=p) _ HQ.o.1 HQ.o.2.1 HQ.o.2.2.1 HQ.o.2.2.2.1 HQ.o.2.2.2.2];unfold signOr;rw [if_neg (by have:=HSN.o;omega)]];exact MORE.o (by first | trivial | rfl) (fun h=>HNZ.o h.1.2) (fun h=>h.1 (of_decide_eq_true HAP.o))
        have HTK:Hd (∀x ∈ acc++[tq],TqOk x):=by
         intro x hx
         rcases List.mem_append.1 hx with h | h
         ·exact HOK.o x h
         ·rw [List.mem_singleton.1 h,HTQ.o];exact tq_ok (p:=p) _ (by have:=HSN.o;have:=HS1.o;omega) HP.o.2.2 HP2.o HQ.o.1 HQ.o.2.1 HQ.o.2.2.1 HQ.o.2.2.2.1 HQ.o.2.2.2.2
        have HF:Hd (VS b s K 0 c2 u9/\GR g b u9/\OT u9 B (.slice o9 n9 c9) (acc++[tq])/\w.grownBy u9 (some b)):=⟨HVh.o,HG.o,HON.o,HW.o⟩;go_wp2;go_roundw
        case rel=>exact DRel.ok (f:=f) HF.o.1 HF.o.2.1 HF.o.2.2.1 HF.o.2.2.2 HLN.o HK.o.2 (by rw [List.length_append,HN0.o.1];have:=HJ.o;have:=HS2.o;have:=HP.o;have:=HK.o;first | (simp;omega) | simp) (by have:=HJ.o;have:=HS2.o;have:=HP.o;have:=HK.o;omega) HNX.o.symm HTK.o
        case measure=>rw [HM.o,HF.o.1.meas0];have:=HJ.o;have:=HS2.o;have:=HP.o;have:=HK.o;omega
     | true =>
      have HEZ:Hd (acc.map teOf=[]):=by show _=_;have h2:=of_decide_eq_true hlz;rw [List.map_eq_nil_iff];exact List.length_eq_zero_iff.1 (HN0.o.1.trans h2)
      have hn0:n0=0:=of_decide_eq_true hlz;subst hn0;clear hlz
      by_cases hsn:sg < 0
      ·have HSN:Hd (sg < 0):=hsn
       cases ap with
       | false =>
        obtain ⟨k0,k1,k2,k3,k4,k5⟩:=HD.o.cells;have hinfo:=infoTe;obtain ⟨i1,hj0,hjj⟩:=Option.map_eq_some_iff.1 hinfo;have hy0:i1.zero=some (.agg #[.int .i64 0,.int .i64 0,.int .i64 0,.int .i64 0,.int .i64 0,.string ⟨#[]⟩,.string ⟨#[]⟩]):=congrArg (·.1) hjj;have hy1:i1.size=7:=congrArg (·.2.1) hjj;have hyb:i1.bytes=72:=congrArg (·.2.2) hjj;clear hjj hinfo;obtain ⟨tq,htq⟩:∃tq:Tq,tq=⟨0,m,y1,y2,y3,P,Q⟩:=⟨_,rfl⟩;have HTQ:Hd (tq=⟨0,m,y1,y2,y3,P,Q⟩):=htq;have htc:tqC tq=[.int .i64 (0),.int .i64 m,.int .i64 y1,.int .i64 y2,.int .i64 y3,.string P,.string Q]:=by rw [htq];rfl
        have HTC:Hd (tqC tq=[.int .i64 (0),.int .i64 m,.int .i64 y1,.int .i64 y2,.int .i64 y3,.string P,.string Q]):=htc;clear htq htc;go_wp2_with (first | (at_builtin;refine wpList_append_own _ rfl _ _ 125 rfl B 131 i1 _ 7 72 Tryz.underlying125 hj0 hy0 hy1 hyb rfl (by decide) _ _ _ rfl (by have h:=HO.o;unfold OT at h;rw [HN0.o.1] at h;exact h.alloc _) _ 1 1 (tqC tq) rfl (by rw [HTC.o];rfl) (by rw [HTC.o];exact World.news_of_block (heap_alloc_new _ _)) (tq_one tq) (by unfold maxLen;have:=HN0.o;omega) (by have:=HN0.o;omega) (by have h1:=HW.o.size;rw [HB.o.1] at h1;simp;omega) ?_;intro v' u9 hown hgrow _));have hga:u4.grownBy (u4.alloc (.cells #[.int .i64 (0),.int .i64 m,.int .i64 y1,.int .i64 y2,.int .i64 y3,.string P,.string Q] 131)) none:=gb_alloc (gb_refl _ none) _;have hfar:=HO.o.far;have HON:Hd (OT u9 B v' (acc++[tq])):=by show OT u9 B v' _;unfold OT;rw [List.length_append,List.flatMap_append,HN0.o.1];simpa using hown
        replace HV:=(HV.o.grow hga (by simp)).grow hgrow (fun e=>by have:=hfar b e.symm;have:=HB.o;omega);replace HG:Hd (GR g b u9):=(HG.o.grow hga).growr hgrow (fun e=>by have:=hfar g e.symm;have:=HB.o;omega);replace HW:Hd (w.grownBy u9 (some b)):=gb_rowb (gb_trans HW.o (gb_weak hga _)) hgrow (fun q hq=>by rw [HB.o.1];exact hfar q hq);have HLN:Hd ((acc++[tq]).length<=1000):=by show _<=_;rw [List.length_append,HN0.o.1];have:=HJ.o;have:=HLL.o.2;first | (simp;omega) | simp
        obtain ⟨o9,c9,hvn⟩:=HON.o.slice;obtain ⟨n9,hn9⟩:=nm ((acc++[tq]).length);rw [hn9] at hvn;rw [hvn] at HON
        try rw [hvn]
        clear hn9;clear hown hgrow hga hfar hj0 hy0 hy1 hyb k0 k1 k2 k3 k4 k5 hvn;have HVh:Hd (VS b s K 0 c2 u9):=HV;clear HV
        cases hen:endsAt l K with
        | true =>
         have CE2:Hd (∀w,GR g b w->VS b s K 0 c2 w->Calls Tryz.prog 79 #[.pointer (some ⟨g,0,none⟩)] w fun e w'=>e=.returned (.bool true)/\∃n,w'=w.drewN n):=fun w h1 h2=>by have:=CE.o K c2 w HK.o.2 h1 h2;rw [hen] at this;exact this
         have HNX:Hd (R=dset l f K ((acc++[tq]).map teOf)):=by
          show R=_;rw [List.map_append,show [tq].map teOf=[⟨signOr sg,p⟩] by rw [HTQ.o];simp only [List.map_cons,List.map_nil];rw [te_of (p:=p) _ HQ.o.1 HQ.o.2.1 HQ.o.2.2.1 HQ.o.2.2.2.1 HQ.o.2.2.2.2];unfold signOr;rw [if_pos HSN.o]];exact MORE.o (by first | trivial | rfl) (fun h=>absurd h.2.1 (of_decide_eq_false HAP.o)) (fun h=>h.2 hen)
         have HTK:Hd (∀x ∈ acc++[tq],TqOk x):=by
          intro x hx
          rcases List.mem_append.1 hx with h | h
          ·exact HOK.o x h
          ·rw [List.mem_singleton.1 h,HTQ.o];exact tq_ok (p:=p) _ (by omega) HP.o.2.2 HP2.o HQ.o.1 HQ.o.2.1 HQ.o.2.2.1 HQ.o.2.2.2.1 HQ.o.2.2.2.2
         clear hen;go_wp2_with (first | (go_at_call 79;refine (CE2.o _ HG.o HVh.o).mono ?_));rintro e u10 ⟨rfl,n,hn⟩;have HF:Hd (VS b s K 0 c2 u10/\GR g b u10/\OT u10 B (.slice o9 n9 c9) (acc++[tq])/\w.grownBy u10 (some b)):=by
          rw [hn];exact ⟨HVh.o.drew _,HG.o,HON.o,gb_drew HW.o _⟩
         clear hn;go_wp2;go_roundw
         case rel=>exact DRel.ok (f:=f) HF.o.1 HF.o.2.1 HF.o.2.2.1 HF.o.2.2.2 HLN.o HK.o.2 (by rw [List.length_append,HN0.o.1];have:=HJ.o;have:=HS2.o;have:=HP.o;have:=HK.o;first | (simp;omega) | simp) (by have:=HJ.o;have:=HS2.o;have:=HP.o;have:=HK.o;omega) HNX.o.symm HTK.o
         case measure=>rw [HM.o,HF.o.1.meas0];have:=HJ.o;have:=HS2.o;have:=HP.o;have:=HK.o;omega
        | false =>
         have CE2:Hd (∀w,GR g b w->VS b s K 0 c2 w->Calls Tryz.prog 79 #[.pointer (some ⟨g,0,none⟩)] w fun e w'=>e=.returned (.bool false)/\∃n,w'=w.drewN n):=fun w h1 h2=>by have:=CE.o K c2 w HK.o.2 h1 h2;rw [hen] at this;exact this
         have HZ:Hd (R=(2,K,acc.map teOf)):=GAP.o (by first | trivial | rfl) (of_decide_eq_false HAP.o) (by rw [hen];decide);clear hen;go_wp2_with (first | (go_at_call 79;refine (CE2.o _ HG.o HVh.o).mono ?_));rintro e u10 ⟨rfl,n,hn⟩;have HF:Hd (VS b s K 0 c2 u10/\GR g b u10/\OT u10 B (.slice o9 n9 c9) (acc++[tq])/\w.grownBy u10 (some b)):=by
          rw [hn];exact ⟨HVh.o.drew _,HG.o,HON.o,gb_drew HW.o _⟩
         clear hn;have CF1:Hd (∀w,VS b s K 0 c2 w->Calls Tryz.prog 58 #[.pointer (some ⟨b,0,none⟩),.int .i64 2,.int .i64 (K:Int)] w fun e w'=>e=.returned (.tuple #[])/\VS b s K 2 K w'/\w.grownBy w' (some b)):=fun w h=>CF.o K c2 2 K w h
         have e0:u10.cell? ⟨g,0,none⟩=some (.pointer (some ⟨b,0,none⟩)):=HF.o.2.1;have e1:=(HF.o.1).c1;go_wp2_with (fail)
         go_region_held3 (fun w'=>w'.cell? ⟨g,0,none⟩=some (.pointer (some ⟨b,0,none⟩))/\w'.cell? ⟨b,1,none⟩=some (.int .i64 (K:Int))) (first | (simp only [cell_drew];exact ⟨e0,e1⟩) | exact hS1) (first | (go_at_call 58;refine (CF1.o _ (by first | exact HF.o.1 | exact VS.drew HF.o.1 1)).mono ?_;rintro e u11 ⟨rfl,hv11,hg11⟩;have hS1:u11.cell? ⟨g,0,none⟩=some (.pointer (some ⟨b,0,none⟩))/\u11.cell? ⟨b,1,none⟩=some (.int .i64 (K:Int)):=⟨GR.growb (b:=b) HF.o.2.1 (gb_undrew hg11) HB.o.2.2.2,hv11.c1⟩))
         have HVF:Hd (VS b s K 2 K u11):=hv11;have hg11':=gb_undrew hg11;have HFF:Hd (GR g b u11/\OT u11 B (.slice o9 n9 c9) (acc++[tq])/\w.grownBy u11 (some b)):=⟨HF.o.2.1.growb hg11' HB.o.2.2.2,HF.o.2.2.1.growb hg11' HB.o.2.1,gb_trans HF.o.2.2.2 hg11'⟩;clear hv11 hg11 hg11' e0 e1 hS1;go_wp2;go_roundw
         case rel=>exact DRel.bad HVF.o HFF.o.1 HFF.o.2.1 HFF.o.2.2 HLN.o (by decide) (by rw [HZ.o]) (by rw [HZ.o])
         case measure=>rw [HM.o,HVF.o.measE (by decide)];have:=HJ.o;omega
       | true =>
        cases hda:decide (l[K]?=some 45) with
        | false =>
         have CI1:Hd (∀w,GR g b w->VS b s K 0 c2 w->Calls Tryz.prog 63 #[.pointer (some ⟨g,0,none⟩),.string ⟨#[45]⟩] w fun e w'=>e=.returned (.bool (false))/\∃n,w'=w.drewN n):=fun w h1 h2=>by have:=CI.o K c2 w HK.o.2 h1 h2;rw [hda] at this;exact this
         have HND:Hd (¬ l[K]?=some 45):=(of_decide_eq_false hda:¬ l[K]?=some 45);clear hda;go_wp2_with (first | (go_at_call 63;refine (CI1.o _ HG.o HV.o).mono ?_));rintro e u5 ⟨rfl,n,hn⟩;replace HV:Hd (VS b s (K) 0 (c2) u5):=by show VS _ _ _ _ _ u5;rw [hn];exact HV.o.drew _
         replace HG:Hd (GR g b u5):=by show GR g b u5;rw [hn];exact HG.o
         replace HO:Hd (OT u5 B (.slice o 0 c0) acc):=by show OT u5 B _ _;rw [hn];exact HO.o
         replace HD:Hd (VP D m y1 y2 y3 P Q u5):=by show VP D _ _ _ _ _ _ u5;rw [hn];exact HD.o
         replace HW:Hd (w.grownBy u5 (some b)):=by show w.grownBy u5 (some b);rw [hn];exact gb_drew HW.o _
         clear hn;obtain ⟨k0,k1,k2,k3,k4,k5⟩:=HD.o.cells;have hinfo:=infoTe;obtain ⟨i1,hj0,hjj⟩:=Option.map_eq_some_iff.1 hinfo;have hy0:i1.zero=some (.agg #[.int .i64 0,.int .i64 0,.int .i64 0,.int .i64 0,.int .i64 0,.string ⟨#[]⟩,.string ⟨#[]⟩]):=congrArg (·.1) hjj;have hy1:i1.size=7:=congrArg (·.2.1) hjj;have hyb:i1.bytes=72:=congrArg (·.2.2) hjj;clear hjj hinfo;obtain ⟨tq,htq⟩:∃tq:Tq,tq=⟨0,m,y1,y2,y3,P,Q⟩:=⟨_,rfl⟩;have HTQ:Hd (tq=⟨0,m,y1,y2,y3,P,Q⟩):=htq;have htc:tqC tq=[.int .i64 (0),.int .i64 m,.int .i64 y1,.int .i64 y2,.int .i64 y3,.string P,.string Q]:=by rw [htq];rfl
         have HTC:Hd (tqC tq=[.int .i64 (0),.int .i64 m,.int .i64 y1,.int .i64 y2,.int .i64 y3,.string P,.string Q]):=htc;clear htq htc;go_wp2_with (first | (at_builtin;refine wpList_append_own _ rfl _ _ 125 rfl B 131 i1 _ 7 72 Tryz.underlying125 hj0 hy0 hy1 hyb rfl (by decide) _ _ _ rfl (by have h:=HO.o;unfold OT at h;rw [HN0.o.1] at h;exact h.alloc _) _ 1 1 (tqC tq) rfl (by rw [HTC.o];rfl) (by rw [HTC.o];exact World.news_of_block (heap_alloc_new _ _)) (tq_one tq) (by unfold maxLen;have:=HN0.o;omega) (by have:=HN0.o;omega) (by have h1:=HW.o.size;rw [HB.o.1] at h1;simp;omega) ?_;intro v' u9 hown hgrow _));have hga:u5.grownBy (u5.alloc (.cells #[.int .i64 (0),.int .i64 m,.int .i64 y1,.int .i64 y2,.int .i64 y3,.string P,.string Q] 131)) none:=gb_alloc (gb_refl _ none) _;have hfar:=HO.o.far;have HON:Hd (OT u9 B v' (acc++[tq])):=by show OT u9 B v' _;unfold OT;rw [List.length_append,List.flatMap_append,HN0.o.1];simpa using hown
         replace HV:=(HV.o.grow hga (by simp)).grow hgrow (fun e=>by have:=hfar b e.symm;have:=HB.o;omega);replace HG:Hd (GR g b u9):=(HG.o.grow hga).growr hgrow (fun e=>by have:=hfar g e.symm;have:=HB.o;omega);replace HW:Hd (w.grownBy u9 (some b)):=gb_rowb (gb_trans HW.o (gb_weak hga _)) hgrow (fun q hq=>by rw [HB.o.1];exact hfar q hq);have HLN:Hd ((acc++[tq]).length<=1000):=by show _<=_;rw [List.length_append,HN0.o.1];have:=HJ.o;have:=HLL.o.2;first | (simp;omega) | simp
         obtain ⟨o9,c9,hvn⟩:=HON.o.slice;obtain ⟨n9,hn9⟩:=nm ((acc++[tq]).length);rw [hn9] at hvn;rw [hvn] at HON
         try rw [hvn]
         clear hn9;clear hown hgrow hga hfar hj0 hy0 hy1 hyb k0 k1 k2 k3 k4 k5 hvn;have HVh:Hd (VS b s K 0 c2 u9):=HV;clear HV;have HNX:Hd (R=dset l f K ((acc++[tq]).map teOf)):=by
          show R=_;rw [List.map_append,show [tq].map teOf=[⟨signOr sg,p⟩] by rw [HTQ.o];simp only [List.map_cons,List.map_nil];rw [te_of (p:=p) _ HQ.o.1 HQ.o.2.1 HQ.o.2.2.1 HQ.o.2.2.2.1 HQ.o.2.2.2.2];unfold signOr;rw [if_pos HSN.o]];exact MORE.o (by first | trivial | rfl) (fun h=>HND.o h.2.2) (fun h=>h.1 (of_decide_eq_true HAP.o))
         have HTK:Hd (∀x ∈ acc++[tq],TqOk x):=by
          intro x hx
          rcases List.mem_append.1 hx with h | h
          ·exact HOK.o x h
          ·rw [List.mem_singleton.1 h,HTQ.o];exact tq_ok (p:=p) _ (by omega) HP.o.2.2 HP2.o HQ.o.1 HQ.o.2.1 HQ.o.2.2.1 HQ.o.2.2.2.1 HQ.o.2.2.2.2
         have HF:Hd (VS b s K 0 c2 u9/\GR g b u9/\OT u9 B (.slice o9 n9 c9) (acc++[tq])/\w.grownBy u9 (some b)):=⟨HVh.o,HG.o,HON.o,HW.o⟩;go_wp2;go_roundw
         case rel=>exact DRel.ok (f:=f) HF.o.1 HF.o.2.1 HF.o.2.2.1 HF.o.2.2.2 HLN.o HK.o.2 (by rw [List.length_append,HN0.o.1];have:=HJ.o;have:=HS2.o;have:=HP.o;have:=HK.o;first | (simp;omega) | simp) (by have:=HJ.o;have:=HS2.o;have:=HP.o;have:=HK.o;omega) HNX.o.symm HTK.o
         case measure=>rw [HM.o,HF.o.1.meas0];have:=HJ.o;have:=HS2.o;have:=HP.o;have:=HK.o;omega
        | true =>
         have CI1:Hd (∀w,GR g b w->VS b s K 0 c2 w->Calls Tryz.prog 63 #[.pointer (some ⟨g,0,none⟩),.string ⟨#[45]⟩] w fun e w'=>e=.returned (.bool (true))/\∃n,w'=w.drewN n):=fun w h1 h2=>by have:=CI.o K c2 w HK.o.2 h1 h2;rw [hda] at this;exact this
         have HYD:Hd (l[K]?=some 45):=(of_decide_eq_true hda:l[K]?=some 45);clear hda;go_wp2_with (first | (go_at_call 63;refine (CI1.o _ HG.o HV.o).mono ?_));rintro e u5 ⟨rfl,n,hn⟩;replace HV:Hd (VS b s (K) 0 (c2) u5):=by show VS _ _ _ _ _ u5;rw [hn];exact HV.o.drew _
         replace HG:Hd (GR g b u5):=by show GR g b u5;rw [hn];exact HG.o
         replace HO:Hd (OT u5 B (.slice o 0 c0) acc):=by show OT u5 B _ _;rw [hn];exact HO.o
         replace HD:Hd (VP D m y1 y2 y3 P Q u5):=by show VP D _ _ _ _ _ _ u5;rw [hn];exact HD.o
         replace HW:Hd (w.grownBy u5 (some b)):=by show w.grownBy u5 (some b);rw [hn];exact gb_drew HW.o _
         clear hn;have hb:=BTW.o (by first | trivial | rfl) ⟨⟨HSN.o,HEZ.o⟩,of_decide_eq_true HAP.o,HYD.o⟩;have HK1:Hd (K+1<=s.size):=by have:=dot_lt HYD.o;rw [HLL.o.1] at this;exact this
         have HK2:Hd (K+1<=skipW l (K+1)/\skipW l (K+1)<=s.size):=HSK.o (K+1) HK1.o;have CB2:Hd (∀w,GR g b w->VS b s (K+1) 0 c2 w->Calls Tryz.prog 61 #[.pointer (some ⟨g,0,none⟩)] w fun e w'=>e=.returned (.bool (decide (K+1 < skipW l (K+1))))/\VS b s (skipW l (K+1)) 0 c2 w'/\w.grownBy w' (some b)):=fun w h1 h2=>CB.o (K+1) c2 w HK1.o h1 h2
         obtain ⟨K2,hK2⟩:=nm (skipW l (K+1));rw [hK2] at hb HK2 CB2;have HBB:Hd (R=_):=hb;clear hb hK2;have hwr:IntKind.i64.wrap ((K:Int)+1)=(K:Int)+1:=by rw [IntKind.wrap_i64];have:=HK1.o;have:=HLL.o.2;omega
         have b1:=HV.o.c1;have bf:=HV.o.f1;have g0:u5.cell? ⟨g,0,none⟩=some (.pointer (some ⟨b,0,none⟩)):=HG.o;go_wp2_with (fail);obtain ⟨u6,hq⟩:∃q,u5.setCell ⟨b,1,none⟩ (.int .i64 ((K:Int)+1))=q:=⟨_,rfl⟩;replace HV:Hd (VS b s (K+1) 0 c2 u6):=by show VS _ _ _ _ _ u6;rw [<-hq,show ((K:Int)+1)=((K+1:Nat):Int) by omega];exact HV.o.set1 _
         replace HG:Hd (GR g b u6):=by show GR g b u6;rw [<-hq];exact HG.o.other HB.o.2.2.2 _ _
         replace HD:Hd (VP D m y1 y2 y3 P Q u6):=by show VP D _ _ _ _ _ _ u6;rw [<-hq];exact HD.o.other HDB.o.2.1 _ _
         replace HW:Hd (w.grownBy u6 (some b)):=by show w.grownBy u6 (some b);rw [<-hq];exact gb_set HW.o _ _
         try rw [hq]
         clear hq b1 bf g0 hwr
         by_cases hm:K2=K+1
         ·rw [decide_eq_false (by omega)] at CB2;have HZ:Hd (R=(2,K+1,acc.map teOf)):=by show R=_;rw [HBB.o,if_pos hm]
          rw [hm] at CB2;clear hm HBB;refine (CB2.o _ HG.o HV.o).mono ?_;rintro e u7 ⟨rfl,hv,hg⟩;replace HV:Hd (VS b s (K+1) 0 (c2) u7):=hv;replace HG:Hd (GR g b u7):=HG.o.growb hg HB.o.2.2.2;replace HD:Hd (VP D m y1 y2 y3 P Q u7):=HD.o.grow hg HDB.o.2.1;replace HW:Hd (w.grownBy u7 (some b)):=gb_trans HW.o hg;clear hv hg;have CF1:Hd (∀w,VS b s (K+1) 0 c2 w->Calls Tryz.prog 58 #[.pointer (some ⟨b,0,none⟩),.int .i64 2,.int .i64 (((K+1:Nat)):Int)] w fun e w'=>e=.returned (.tuple #[])/\VS b s (K+1) 2 (K+1) w'/\w.grownBy w' (some b)):=fun w h=>CF.o (K+1) c2 2 (K+1) w h
          have e0:u7.cell? ⟨g,0,none⟩=some (.pointer (some ⟨b,0,none⟩)):=HG.o;have e1:=HV.o.c1;go_wp2_with (fail)
          go_region_held3 (fun w'=>w'.cell? ⟨g,0,none⟩=some (.pointer (some ⟨b,0,none⟩))/\w'.cell? ⟨b,1,none⟩=some (.int .i64 ((K+1:Nat):Int))) (first | (simp only [cell_drew];exact ⟨e0,e1⟩) | exact hS1) (first | (go_at_call 58;refine (CF1.o _ (by first | exact HV.o | exact VS.drew HV.o 1)).mono ?_;rintro e u8 ⟨rfl,hv,hg11⟩;have hS1:u8.cell? ⟨g,0,none⟩=some (.pointer (some ⟨b,0,none⟩))/\u8.cell? ⟨b,1,none⟩=some (.int .i64 ((K+1:Nat):Int)):=⟨GR.growb (b:=b) HG.o (gb_undrew hg11) HB.o.2.2.2,hv.c1⟩))
          have hg:=gb_undrew hg11;clear hg11 e0 e1 hS1;replace HV:Hd (VS b s (K+1) 2 (K+1) u8):=hv;replace HG:Hd (GR g b u8):=HG.o.growb hg HB.o.2.2.2;replace HD:Hd (VP D m y1 y2 y3 P Q u8):=HD.o.grow hg HDB.o.2.1;replace HW:Hd (w.grownBy u8 (some b)):=gb_trans HW.o hg;clear hv hg;have HEz:Hd (¬ (2:Int)=0):=by show ¬ _;decide
          have CP2:Hd (∀w,GR g b w->VS b s (K+1) 2 (K+1) w->Calls Tryz.prog 81 #[.pointer (some ⟨g,0,none⟩)] w (QLatePost b s 2 (K+1) w)):=fun w h1 h2=>CPL.o (K+1) 2 (K+1) w HEz.o HK1.o h1 h2
          go_wp2_with (first | (go_at_call 81;refine (CP2.o _ HG.o HV.o).mono ?_));rintro e u9 ⟨m2,z1,z2,z3,P2,Q2,j3,rfl,hv,hg,hj3⟩;replace HV:Hd (VS b s (j3) 2 (K+1) u9):=hv;replace HG:Hd (GR g b u9):=HG.o.growb hg HB.o.2.2.2;replace HD:Hd (VP D m y1 y2 y3 P Q u9):=HD.o.grow hg HDB.o.2.1;replace HW:Hd (w.grownBy u9 (some b)):=gb_trans HW.o hg;clear hv hg;clear hj3;obtain ⟨D2,hD2⟩:=nm (u9.heap.size);obtain ⟨W2,hW2⟩:=nm (u9.alloc (.cells #[.int .i64 m2,.int .i64 z1,.int .i64 z2,.int .i64 z3,.string P2,.string Q2] 129));have hgW:u9.grownBy W2 none:=by rw [<-hW2];exact gb_alloc (gb_refl u9 none) _
          have HD2:Hd (VP D2 m2 z1 z2 z3 P2 Q2 W2):=by show W2.heap[D2]?=_;rw [<-hW2,<-hD2];exact heap_alloc_new u9 _
          have HDB2:Hd (B<=D2/\D2 ≠ b):=by have h1:=HW.o.size;have h2:=HB.o;rw [h2.1,hD2] at h1;refine ⟨h1,?_⟩;omega
          replace HV:Hd (VS b s (j3) 2 (K+1) W2):=HV.o.grow hgW (by simp);replace HG:Hd (GR g b W2):=HG.o.grow hgW;replace HD:Hd (VP D m y1 y2 y3 P Q W2):=HD.o.grow0 hgW;replace HW:Hd (w.grownBy W2 (some b)):=gb_trans HW.o (gb_weak hgW _);clear hgW;have CB1:Hd (∀w,GR g b w->VS b s (j3) 2 (K+1) w->Calls Tryz.prog 61 #[.pointer (some ⟨g,0,none⟩)] w fun e w'=>e=.returned (.bool false)/\∃n,w'=w.drewN n):=fun w h1 h2=>CBL.o (j3) 2 (K+1) w HEz.o h1 h2
          go_wp2_with (first | (go_at_call 61;refine (CB1.o _ HG.o HV.o).mono ?_));rintro e u10 ⟨rfl,n,hn⟩;replace HV:Hd (VS b s (j3) 2 (K+1) u10):=by show VS _ _ _ _ _ u10;rw [hn];exact HV.o.drew _
          replace HG:Hd (GR g b u10):=by show GR g b u10;rw [hn];exact HG.o
          replace HD:Hd (VP D m y1 y2 y3 P Q u10):=by show VP D _ _ _ _ _ _ u10;rw [hn];exact HD.o
          replace HD2:Hd (VP D2 m2 z1 z2 z3 P2 Q2 u10):=by show VP D2 _ _ _ _ _ _ u10;rw [hn];exact HD2.o
          replace HW:Hd (w.grownBy u10 (some b)):=by show w.grownBy u10 (some b);rw [hn];exact gb_drew HW.o _
          clear hn;clear hW2 hD2;have CE3:Hd (∀w,GR g b w->VS b s (j3) 2 (K+1) w->Calls Tryz.prog 79 #[.pointer (some ⟨g,0,none⟩)] w fun e w'=>e=.returned (.bool true)/\∃n,w'=w.drewN n):=fun w h1 h2=>CEL.o (j3) 2 (K+1) w HEz.o h1 h2
          go_wp2_with (first | (go_at_call 79;refine (CE3.o _ HG.o HV.o).mono ?_));rintro e u12 ⟨rfl,n,hn⟩;replace HV:Hd (VS b s (j3) 2 (K+1) u12):=by show VS _ _ _ _ _ u12;rw [hn];exact HV.o.drew _
          replace HG:Hd (GR g b u12):=by show GR g b u12;rw [hn];exact HG.o
          replace HD:Hd (VP D m y1 y2 y3 P Q u12):=by show VP D _ _ _ _ _ _ u12;rw [hn];exact HD.o
          replace HD2:Hd (VP D2 m2 z1 z2 z3 P2 Q2 u12):=by show VP D2 _ _ _ _ _ _ u12;rw [hn];exact HD2.o
          replace HW:Hd (w.grownBy u12 (some b)):=by show w.grownBy u12 (some b);rw [hn];exact gb_drew HW.o _
          clear hn;obtain ⟨k0,k1,k2,k3,k4,k5⟩:=HD.o.cells;obtain ⟨r0,r1,r2,r3,r4,r5⟩:=HD2.o.cells;go_wp2;go_ret;have hga:u12.grownBy (u12.alloc (.cells #[.int .i64 7,.int .i64 m,.int .i64 y1,.int .i64 y2,.int .i64 y3,.string P,.string Q,.int .i64 2,.int .i64 m2,.int .i64 z1,.int .i64 z2,.int .i64 z3,.string P2,.string Q2] 131)) none:=gb_alloc (gb_refl _ none) _;exact ⟨_,2,2,[⟨7,m,y1,y2,y3,P,Q⟩,⟨2,m2,z1,z2,z3,P2,Q2⟩],j3,K+1,rfl,by rw [HZ.o];exact HV.o.grow hga (by simp),OT.two HW.o.size (heap_alloc_new _ _),gb_trans HW.o (gb_weak hga _),fun h=>by rw [HZ.o] at h;exact absurd h (by simp),fun _=>by rw [HZ.o]⟩
         ·rw [decide_eq_true (by have:=HK2.o;omega)] at CB2;have HBC:Hd (R=if (rdPa l K2).1=0 then (if endsAt l (skipW l (rdPa l K2).2.1)=true then (0,skipW l (rdPa l K2).2.1,[⟨7,p⟩,⟨2,(rdPa l K2).2.2⟩]) else (2,skipW l (rdPa l K2).2.1,acc.map teOf)) else ((rdPa l K2).1,(rdPa l K2).2.1,acc.map teOf)):=by show R=_;rw [HBB.o,if_neg hm]
          have CP2:Hd (∀w,GR g b w->VS b s K2 0 c2 w->Calls Tryz.prog 81 #[.pointer (some ⟨g,0,none⟩)] w (QPaPost b s (rdPa l K2) w)):=fun w h1 h2=>CP.o K2 c2 w HK2.o.2 h1 h2
          have HX1:Hd ((rdPa l K2).1=0->K2 < (rdPa l K2).2.1/\(rdPa l K2).2.1<=s.size/\PaOk (rdPa l K2).2.2):=HPP.o K2 HK2.o.2;have HX2:Hd ((rdPa l K2).2.2.pre.length<=200):=HPL.o K2;obtain ⟨E2,J2,q,hR2⟩:∃E2 J2 q,rdPa l K2=(E2,J2,q):=⟨_,_,_,rfl⟩;rw [hR2] at HBC CP2 HX1 HX2;simp only [] at HBC HX1 HX2;clear hR2 hm HBB;refine (CB2.o _ HG.o HV.o).mono ?_;rintro e u7 ⟨rfl,hv,hg⟩;replace HV:Hd (VS b s K2 0 (c2) u7):=hv;replace HG:Hd (GR g b u7):=HG.o.growb hg HB.o.2.2.2;replace HD:Hd (VP D m y1 y2 y3 P Q u7):=HD.o.grow hg HDB.o.2.1;replace HW:Hd (w.grownBy u7 (some b)):=gb_trans HW.o hg;clear hv hg;go_wp2_with (first | (go_at_call 81;refine (CP2.o _ HG.o HV.o).mono ?_));rintro e u9 ⟨m2,z1,z2,z3,P2,Q2,j3,c3,rfl,hv,hg,hok,herr⟩;replace HV:Hd (VS b s (j3) E2 (c3) u9):=hv;replace HG:Hd (GR g b u9):=HG.o.growb hg HB.o.2.2.2;replace HD:Hd (VP D m y1 y2 y3 P Q u9):=HD.o.grow hg HDB.o.2.1
          replace HW:Hd (w.grownBy u9 (some b)):=gb_trans HW.o hg;clear hv hg;have HQ3:Hd ((E2=0->j3=J2/\m2=(q.n:Int)/\z1=q.a/\z2=q.b/\z3=q.c/\P2=⟨q.pre.toArray⟩)/\(¬ E2=0->c3=J2)):=⟨hok,herr⟩;clear hok herr;obtain ⟨D2,hD2⟩:=nm (u9.heap.size);obtain ⟨W2,hW2⟩:=nm (u9.alloc (.cells #[.int .i64 m2,.int .i64 z1,.int .i64 z2,.int .i64 z3,.string P2,.string Q2] 129));have hgW:u9.grownBy W2 none:=by rw [<-hW2];exact gb_alloc (gb_refl u9 none) _
          have HD2:Hd (VP D2 m2 z1 z2 z3 P2 Q2 W2):=by show W2.heap[D2]?=_;rw [<-hW2,<-hD2];exact heap_alloc_new u9 _
          have HDB2:Hd (B<=D2/\D2 ≠ b):=by have h1:=HW.o.size;have h2:=HB.o;rw [h2.1,hD2] at h1;refine ⟨h1,?_⟩;omega
          replace HV:Hd (VS b s (j3) E2 (c3) W2):=HV.o.grow hgW (by simp);replace HG:Hd (GR g b W2):=HG.o.grow hgW;replace HD:Hd (VP D m y1 y2 y3 P Q W2):=HD.o.grow0 hgW;replace HW:Hd (w.grownBy W2 (some b)):=gb_trans HW.o (gb_weak hgW _);clear hgW
          by_cases hE2:E2=0
          ·subst hE2;obtain ⟨f1,f2,f3,f4,f5,f6⟩:=HQ3.o.1 rfl;obtain ⟨h1,h2,h3⟩:=HX1.o rfl;have HQ4:Hd (m2=(q.n:Int)/\z1=q.a/\z2=q.b/\z3=q.c/\P2=⟨q.pre.toArray⟩):=⟨f2,f3,f4,f5,f6⟩;have HX:Hd (J2<=s.size/\PaOk q):=⟨h2,h3⟩;subst f1;clear f2 f3 f4 f5 f6 h1 h2 h3;rw [if_pos rfl] at HBC;have CB3:Hd (∀w,GR g b w->VS b s j3 0 c3 w->Calls Tryz.prog 61 #[.pointer (some ⟨g,0,none⟩)] w fun e w'=>e=.returned (.bool (decide (j3 < skipW l j3)))/\VS b s (skipW l j3) 0 c3 w'/\w.grownBy w' (some b)):=fun w h1 h2=>CB.o j3 c3 w HX.o.1 h1 h2
           have HK3:Hd (skipW l j3<=s.size):=(HSK.o j3 HX.o.1).2;obtain ⟨K3,hK3⟩:=nm (skipW l j3);rw [hK3] at CB3 HK3 HBC;obtain ⟨ap3,hap3⟩:=nm (decide (j3 < K3));rw [hap3] at CB3;clear hK3 hap3;go_wp2_with (first | (go_at_call 61;refine (CB3.o _ HG.o HV.o).mono ?_));rintro e u10 ⟨rfl,hv,hg⟩;replace HV:Hd (VS b s K3 0 (c3) u10):=hv;replace HG:Hd (GR g b u10):=HG.o.growb hg HB.o.2.2.2;replace HD:Hd (VP D m y1 y2 y3 P Q u10):=HD.o.grow hg HDB.o.2.1;replace HD2:Hd (VP D2 m2 z1 z2 z3 P2 Q2 u10):=HD2.o.grow hg HDB2.o.2;replace HW:Hd (w.grownBy u10 (some b)):=gb_trans HW.o hg;clear hv hg;clear hW2 hD2
           cases hen3:endsAt l K3 with
           | true =>
            have HZ:Hd (R=(0,K3,[⟨7,p⟩,⟨2,q⟩])):=by show R=_;rw [HBC.o,if_pos hen3]
            have CE3:Hd (∀w,GR g b w->VS b s K3 0 c3 w->Calls Tryz.prog 79 #[.pointer (some ⟨g,0,none⟩)] w fun e w'=>e=.returned (.bool true)/\∃n,w'=w.drewN n):=fun w h1 h2=>by have:=CE.o K3 c3 w HK3.o h1 h2;rw [hen3] at this;exact this
            clear hen3;go_wp2_with (first | (go_at_call 79;refine (CE3.o _ HG.o HV.o).mono ?_));rintro e u12 ⟨rfl,n,hn⟩;replace HV:Hd (VS b s (K3) 0 (c3) u12):=by show VS _ _ _ _ _ u12;rw [hn];exact HV.o.drew _
            replace HG:Hd (GR g b u12):=by show GR g b u12;rw [hn];exact HG.o
            replace HD:Hd (VP D m y1 y2 y3 P Q u12):=by show VP D _ _ _ _ _ _ u12;rw [hn];exact HD.o
            replace HD2:Hd (VP D2 m2 z1 z2 z3 P2 Q2 u12):=by show VP D2 _ _ _ _ _ _ u12;rw [hn];exact HD2.o
            replace HW:Hd (w.grownBy u12 (some b)):=by show w.grownBy u12 (some b);rw [hn];exact gb_drew HW.o _
            clear hn;obtain ⟨k0,k1,k2,k3,k4,k5⟩:=HD.o.cells;obtain ⟨r0,r1,r2,r3,r4,r5⟩:=HD2.o.cells;go_wp2;go_ret;have hga:u12.grownBy (u12.alloc (.cells #[.int .i64 7,.int .i64 m,.int .i64 y1,.int .i64 y2,.int .i64 y3,.string P,.string Q,.int .i64 2,.int .i64 m2,.int .i64 z1,.int .i64 z2,.int .i64 z3,.string P2,.string Q2] 131)) none:=gb_alloc (gb_refl _ none) _;exact ⟨_,2,2,[⟨7,m,y1,y2,y3,P,Q⟩,⟨2,m2,z1,z2,z3,P2,Q2⟩],K3,c3,rfl,by rw [HZ.o];exact HV.o.grow hga (by simp),OT.two HW.o.size (heap_alloc_new _ _),gb_trans HW.o (gb_weak hga _),fun _=>(by
             rw [HZ.o];refine ⟨?_,rfl,?_⟩
             ·simp only [List.map_cons,List.map_nil];rw [te_of (p:=p) 7 HQ.o.1 HQ.o.2.1 HQ.o.2.2.1 HQ.o.2.2.2.1 HQ.o.2.2.2.2,te_of (p:=q) 2 HQ4.o.1 HQ4.o.2.1 HQ4.o.2.2.1 HQ4.o.2.2.2.1 HQ4.o.2.2.2.2]
             ·intro x hx;simp only [List.mem_cons,List.not_mem_nil,or_false] at hx
              rcases hx with rfl | rfl
              ·exact tq_ok (p:=p) 7 (by decide) HP.o.2.2 HP2.o HQ.o.1 HQ.o.2.1 HQ.o.2.2.1 HQ.o.2.2.2.1 HQ.o.2.2.2.2
              ·exact tq_ok (p:=q) 2 (by decide) HX.o.2 HX2.o HQ4.o.1 HQ4.o.2.1 HQ4.o.2.2.1 HQ4.o.2.2.2.1 HQ4.o.2.2.2.2),fun h=>absurd (by rw [HZ.o]) h⟩
           | false =>
            have HZ:Hd (R=(2,K3,acc.map teOf)):=by show R=_;rw [HBC.o,if_neg (by rw [hen3];decide)]
            have CE3:Hd (∀w,GR g b w->VS b s K3 0 c3 w->Calls Tryz.prog 79 #[.pointer (some ⟨g,0,none⟩)] w fun e w'=>e=.returned (.bool false)/\∃n,w'=w.drewN n):=fun w h1 h2=>by have:=CE.o K3 c3 w HK3.o h1 h2;rw [hen3] at this;exact this
            clear hen3;go_wp2_with (first | (go_at_call 79;refine (CE3.o _ HG.o HV.o).mono ?_));rintro e u12 ⟨rfl,n,hn⟩;replace HV:Hd (VS b s (K3) 0 (c3) u12):=by show VS _ _ _ _ _ u12;rw [hn];exact HV.o.drew _
            replace HG:Hd (GR g b u12):=by show GR g b u12;rw [hn];exact HG.o
            replace HD:Hd (VP D m y1 y2 y3 P Q u12):=by show VP D _ _ _ _ _ _ u12;rw [hn];exact HD.o
            replace HD2:Hd (VP D2 m2 z1 z2 z3 P2 Q2 u12):=by show VP D2 _ _ _ _ _ _ u12;rw [hn];exact HD2.o
            replace HW:Hd (w.grownBy u12 (some b)):=by show w.grownBy u12 (some b);rw [hn];exact gb_drew HW.o _
            clear hn;have CF1:Hd (∀w,VS b s K3 0 c3 w->Calls Tryz.prog 58 #[.pointer (some ⟨b,0,none⟩),.int .i64 2,.int .i64 (K3:Int)] w fun e w'=>e=.returned (.tuple #[])/\VS b s K3 2 K3 w'/\w.grownBy w' (some b)):=fun w h=>CF.o K3 c3 2 K3 w h
            have e0:u12.cell? ⟨g,0,none⟩=some (.pointer (some ⟨b,0,none⟩)):=HG.o;have e1:=HV.o.c1;go_wp2_with (fail)
            go_region_held3 (fun w'=>w'.cell? ⟨g,0,none⟩=some (.pointer (some ⟨b,0,none⟩))/\w'.cell? ⟨b,1,none⟩=some (.int .i64 ((K3:Nat):Int))) (first | (simp only [cell_drew];exact ⟨e0,e1⟩) | exact hS1) (first | (go_at_call 58;refine (CF1.o _ (by first | exact HV.o | exact VS.drew HV.o 1)).mono ?_;rintro e u13 ⟨rfl,hv,hg11⟩;have hS1:u13.cell? ⟨g,0,none⟩=some (.pointer (some ⟨b,0,none⟩))/\u13.cell? ⟨b,1,none⟩=some (.int .i64 ((K3:Nat):Int)):=⟨GR.growb (b:=b) HG.o (gb_undrew hg11) HB.o.2.2.2,hv.c1⟩))
            have hg:=gb_undrew hg11;clear hg11 e0 e1 hS1;replace HV:Hd (VS b s (K3) 2 (K3) u13):=hv;replace HG:Hd (GR g b u13):=HG.o.growb hg HB.o.2.2.2;replace HD:Hd (VP D m y1 y2 y3 P Q u13):=HD.o.grow hg HDB.o.2.1;replace HD2:Hd (VP D2 m2 z1 z2 z3 P2 Q2 u13):=HD2.o.grow hg HDB2.o.2;replace HW:Hd (w.grownBy u13 (some b)):=gb_trans HW.o hg;clear hv hg;obtain ⟨k0,k1,k2,k3,k4,k5⟩:=HD.o.cells;obtain ⟨r0,r1,r2,r3,r4,r5⟩:=HD2.o.cells;go_wp2;go_ret;have hga:u13.grownBy (u13.alloc (.cells #[.int .i64 7,.int .i64 m,.int .i64 y1,.int .i64 y2,.int .i64 y3,.string P,.string Q,.int .i64 2,.int .i64 m2,.int .i64 z1,.int .i64 z2,.int .i64 z3,.string P2,.string Q2] 131)) none:=gb_alloc (gb_refl _ none) _;exact ⟨_,2,2,[⟨7,m,y1,y2,y3,P,Q⟩,⟨2,m2,z1,z2,z3,P2,Q2⟩],K3,K3,rfl,by rw [HZ.o];exact HV.o.grow hga (by simp),OT.two HW.o.size (heap_alloc_new _ _),gb_trans HW.o (gb_weak hga _),fun h=>by rw [HZ.o] at h;exact absurd h (by simp),fun _=>by rw [HZ.o]⟩
          ·have HEz:Hd (¬ E2=0):=hE2;have HZ:Hd (R=(E2,c3,acc.map teOf)):=by show R=_;rw [HBC.o,if_neg hE2,HQ3.o.2 hE2]
           clear hE2;have CB1:Hd (∀w,GR g b w->VS b s (j3) E2 (c3) w->Calls Tryz.prog 61 #[.pointer (some ⟨g,0,none⟩)] w fun e w'=>e=.returned (.bool false)/\∃n,w'=w.drewN n):=fun w h1 h2=>CBL.o (j3) E2 (c3) w HEz.o h1 h2
           go_wp2_with (first | (go_at_call 61;refine (CB1.o _ HG.o HV.o).mono ?_));rintro e u10 ⟨rfl,n,hn⟩;replace HV:Hd (VS b s (j3) E2 (c3) u10):=by show VS _ _ _ _ _ u10;rw [hn];exact HV.o.drew _
           replace HG:Hd (GR g b u10):=by show GR g b u10;rw [hn];exact HG.o
           replace HD:Hd (VP D m y1 y2 y3 P Q u10):=by show VP D _ _ _ _ _ _ u10;rw [hn];exact HD.o
           replace HD2:Hd (VP D2 m2 z1 z2 z3 P2 Q2 u10):=by show VP D2 _ _ _ _ _ _ u10;rw [hn];exact HD2.o
           replace HW:Hd (w.grownBy u10 (some b)):=by show w.grownBy u10 (some b);rw [hn];exact gb_drew HW.o _
           clear hn;clear hW2 hD2;have CE3:Hd (∀w,GR g b w->VS b s (j3) E2 (c3) w->Calls Tryz.prog 79 #[.pointer (some ⟨g,0,none⟩)] w fun e w'=>e=.returned (.bool true)/\∃n,w'=w.drewN n):=fun w h1 h2=>CEL.o (j3) E2 (c3) w HEz.o h1 h2
           go_wp2_with (first | (go_at_call 79;refine (CE3.o _ HG.o HV.o).mono ?_));rintro e u12 ⟨rfl,n,hn⟩;replace HV:Hd (VS b s (j3) E2 (c3) u12):=by show VS _ _ _ _ _ u12;rw [hn];exact HV.o.drew _
           replace HG:Hd (GR g b u12):=by show GR g b u12;rw [hn];exact HG.o
           replace HD:Hd (VP D m y1 y2 y3 P Q u12):=by show VP D _ _ _ _ _ _ u12;rw [hn];exact HD.o
           replace HD2:Hd (VP D2 m2 z1 z2 z3 P2 Q2 u12):=by show VP D2 _ _ _ _ _ _ u12;rw [hn];exact HD2.o
           replace HW:Hd (w.grownBy u12 (some b)):=by show w.grownBy u12 (some b);rw [hn];exact gb_drew HW.o _
           clear hn;obtain ⟨k0,k1,k2,k3,k4,k5⟩:=HD.o.cells;obtain ⟨r0,r1,r2,r3,r4,r5⟩:=HD2.o.cells;go_wp2;go_ret;have hga:u12.grownBy (u12.alloc (.cells #[.int .i64 7,.int .i64 m,.int .i64 y1,.int .i64 y2,.int .i64 y3,.string P,.string Q,.int .i64 2,.int .i64 m2,.int .i64 z1,.int .i64 z2,.int .i64 z3,.string P2,.string Q2] 131)) none:=gb_alloc (gb_refl _ none) _;exact ⟨_,2,2,[⟨7,m,y1,y2,y3,P,Q⟩,⟨2,m2,z1,z2,z3,P2,Q2⟩],j3,c3,rfl,by rw [HZ.o];exact HV.o.grow hga (by simp),OT.two HW.o.size (heap_alloc_new _ _),gb_trans HW.o (gb_weak hga _),fun h=>by rw [HZ.o] at h;exact absurd h HEz.o,fun _=>by rw [HZ.o]⟩
      ·have HSN:Hd (¬ sg < 0):=hsn
       cases ap with
       | false =>
        obtain ⟨k0,k1,k2,k3,k4,k5⟩:=HD.o.cells;have hinfo:=infoTe;obtain ⟨i1,hj0,hjj⟩:=Option.map_eq_some_iff.1 hinfo;have hy0:i1.zero=some (.agg #[.int .i64 0,.int .i64 0,.int .i64 0,.int .i64 0,.int .i64 0,.string ⟨#[]⟩,.string ⟨#[]⟩]):=congrArg (·.1) hjj;have hy1:i1.size=7:=congrArg (·.2.1) hjj;have hyb:i1.bytes=72:=congrArg (·.2.2) hjj;clear hjj hinfo;obtain ⟨tq,htq⟩:∃tq:Tq,tq=⟨sg,m,y1,y2,y3,P,Q⟩:=⟨_,rfl⟩;have HTQ:Hd (tq=⟨sg,m,y1,y2,y3,P,Q⟩):=htq;have htc:tqC tq=[.int .i64 (sg),.int .i64 m,.int .i64 y1,.int .i64 y2,.int .i64 y3,.string P,.string Q]:=by rw [htq];rfl
        have HTC:Hd (tqC tq=[.int .i64 (sg),.int .i64 m,.int .i64 y1,.int .i64 y2,.int .i64 y3,.string P,.string Q]):=htc;clear htq htc;go_wp2_with (first | (at_builtin;refine wpList_append_own _ rfl _ _ 125 rfl B 131 i1 _ 7 72 Tryz.underlying125 hj0 hy0 hy1 hyb rfl (by decide) _ _ _ rfl (by have h:=HO.o;unfold OT at h;rw [HN0.o.1] at h;exact h.alloc _) _ 1 1 (tqC tq) rfl (by rw [HTC.o];rfl) (by rw [HTC.o];exact World.news_of_block (heap_alloc_new _ _)) (tq_one tq) (by unfold maxLen;have:=HN0.o;omega) (by have:=HN0.o;omega) (by have h1:=HW.o.size;rw [HB.o.1] at h1;simp;omega) ?_;intro v' u9 hown hgrow _));have hga:u4.grownBy (u4.alloc (.cells #[.int .i64 (sg),.int .i64 m,.int .i64 y1,.int .i64 y2,.int .i64 y3,.string P,.string Q] 131)) none:=gb_alloc (gb_refl _ none) _;have hfar:=HO.o.far;have HON:Hd (OT u9 B v' (acc++[tq])):=by show OT u9 B v' _;unfold OT;rw [List.length_append,List.flatMap_append,HN0.o.1];simpa using hown
        replace HV:=(HV.o.grow hga (by simp)).grow hgrow (fun e=>by have:=hfar b e.symm;have:=HB.o;omega);replace HG:Hd (GR g b u9):=(HG.o.grow hga).growr hgrow (fun e=>by have:=hfar g e.symm;have:=HB.o;omega);replace HW:Hd (w.grownBy u9 (some b)):=gb_rowb (gb_trans HW.o (gb_weak hga _)) hgrow (fun q hq=>by rw [HB.o.1];exact hfar q hq);have HLN:Hd ((acc++[tq]).length<=1000):=by show _<=_;rw [List.length_append,HN0.o.1];have:=HJ.o;have:=HLL.o.2;first | (simp;omega) | simp
        obtain ⟨o9,c9,hvn⟩:=HON.o.slice;obtain ⟨n9,hn9⟩:=nm ((acc++[tq]).length);rw [hn9] at hvn;rw [hvn] at HON
        try rw [hvn]
        clear hn9;clear hown hgrow hga hfar hj0 hy0 hy1 hyb k0 k1 k2 k3 k4 k5 hvn;have HVh:Hd (VS b s K 0 c2 u9):=HV;clear HV
        cases hen:endsAt l K with
        | true =>
         have CE2:Hd (∀w,GR g b w->VS b s K 0 c2 w->Calls Tryz.prog 79 #[.pointer (some ⟨g,0,none⟩)] w fun e w'=>e=.returned (.bool true)/\∃n,w'=w.drewN n):=fun w h1 h2=>by have:=CE.o K c2 w HK.o.2 h1 h2;rw [hen] at this;exact this
         have HNX:Hd (R=dset l f K ((acc++[tq]).map teOf)):=by
          show R=_;rw [List.map_append,show [tq].map teOf=[⟨signOr sg,p⟩] by rw [HTQ.o];simp only [List.map_cons,List.map_nil];rw [te_of (p:=p) _ HQ.o.1 HQ.o.2.1 HQ.o.2.2.1 HQ.o.2.2.2.1 HQ.o.2.2.2.2];unfold signOr;rw [if_neg (by have:=HSN.o;omega)]];exact MORE.o (by first | trivial | rfl) (fun h=>by have:=HSN.o;have:=h.1.1;omega) (fun h=>h.2 hen)
         have HTK:Hd (∀x ∈ acc++[tq],TqOk x):=by
          intro x hx
          rcases List.mem_append.1 hx with h | h
          ·exact HOK.o x h
          ·rw [List.mem_singleton.1 h,HTQ.o];exact tq_ok (p:=p) _ (by have:=HSN.o;have:=HS1.o;omega) HP.o.2.2 HP2.o HQ.o.1 HQ.o.2.1 HQ.o.2.2.1 HQ.o.2.2.2.1 HQ.o.2.2.2.2
         clear hen;go_wp2_with (first | (go_at_call 79;refine (CE2.o _ HG.o HVh.o).mono ?_));rintro e u10 ⟨rfl,n,hn⟩;have HF:Hd (VS b s K 0 c2 u10/\GR g b u10/\OT u10 B (.slice o9 n9 c9) (acc++[tq])/\w.grownBy u10 (some b)):=by
          rw [hn];exact ⟨HVh.o.drew _,HG.o,HON.o,gb_drew HW.o _⟩
         clear hn;go_wp2;go_roundw
         case rel=>exact DRel.ok (f:=f) HF.o.1 HF.o.2.1 HF.o.2.2.1 HF.o.2.2.2 HLN.o HK.o.2 (by rw [List.length_append,HN0.o.1];have:=HJ.o;have:=HS2.o;have:=HP.o;have:=HK.o;first | (simp;omega) | simp) (by have:=HJ.o;have:=HS2.o;have:=HP.o;have:=HK.o;omega) HNX.o.symm HTK.o
         case measure=>rw [HM.o,HF.o.1.meas0];have:=HJ.o;have:=HS2.o;have:=HP.o;have:=HK.o;omega
        | false =>
         have CE2:Hd (∀w,GR g b w->VS b s K 0 c2 w->Calls Tryz.prog 79 #[.pointer (some ⟨g,0,none⟩)] w fun e w'=>e=.returned (.bool false)/\∃n,w'=w.drewN n):=fun w h1 h2=>by have:=CE.o K c2 w HK.o.2 h1 h2;rw [hen] at this;exact this
         have HZ:Hd (R=(2,K,acc.map teOf)):=GAP.o (by first | trivial | rfl) (of_decide_eq_false HAP.o) (by rw [hen];decide);clear hen;go_wp2_with (first | (go_at_call 79;refine (CE2.o _ HG.o HVh.o).mono ?_));rintro e u10 ⟨rfl,n,hn⟩;have HF:Hd (VS b s K 0 c2 u10/\GR g b u10/\OT u10 B (.slice o9 n9 c9) (acc++[tq])/\w.grownBy u10 (some b)):=by
          rw [hn];exact ⟨HVh.o.drew _,HG.o,HON.o,gb_drew HW.o _⟩
         clear hn;have CF1:Hd (∀w,VS b s K 0 c2 w->Calls Tryz.prog 58 #[.pointer (some ⟨b,0,none⟩),.int .i64 2,.int .i64 (K:Int)] w fun e w'=>e=.returned (.tuple #[])/\VS b s K 2 K w'/\w.grownBy w' (some b)):=fun w h=>CF.o K c2 2 K w h
         have e0:u10.cell? ⟨g,0,none⟩=some (.pointer (some ⟨b,0,none⟩)):=HF.o.2.1;have e1:=(HF.o.1).c1;go_wp2_with (fail)
         go_region_held3 (fun w'=>w'.cell? ⟨g,0,none⟩=some (.pointer (some ⟨b,0,none⟩))/\w'.cell? ⟨b,1,none⟩=some (.int .i64 (K:Int))) (first | (simp only [cell_drew];exact ⟨e0,e1⟩) | exact hS1) (first | (go_at_call 58;refine (CF1.o _ (by first | exact HF.o.1 | exact VS.drew HF.o.1 1)).mono ?_;rintro e u11 ⟨rfl,hv11,hg11⟩;have hS1:u11.cell? ⟨g,0,none⟩=some (.pointer (some ⟨b,0,none⟩))/\u11.cell? ⟨b,1,none⟩=some (.int .i64 (K:Int)):=⟨GR.growb (b:=b) HF.o.2.1 (gb_undrew hg11) HB.o.2.2.2,hv11.c1⟩))
         have HVF:Hd (VS b s K 2 K u11):=hv11;have hg11':=gb_undrew hg11;have HFF:Hd (GR g b u11/\OT u11 B (.slice o9 n9 c9) (acc++[tq])/\w.grownBy u11 (some b)):=⟨HF.o.2.1.growb hg11' HB.o.2.2.2,HF.o.2.2.1.growb hg11' HB.o.2.1,gb_trans HF.o.2.2.2 hg11'⟩;clear hv11 hg11 hg11' e0 e1 hS1;go_wp2;go_roundw
         case rel=>exact DRel.bad HVF.o HFF.o.1 HFF.o.2.1 HFF.o.2.2 HLN.o (by decide) (by rw [HZ.o]) (by rw [HZ.o])
         case measure=>rw [HM.o,HVF.o.measE (by decide)];have:=HJ.o;omega
       | true =>
        obtain ⟨k0,k1,k2,k3,k4,k5⟩:=HD.o.cells;have hinfo:=infoTe;obtain ⟨i1,hj0,hjj⟩:=Option.map_eq_some_iff.1 hinfo;have hy0:i1.zero=some (.agg #[.int .i64 0,.int .i64 0,.int .i64 0,.int .i64 0,.int .i64 0,.string ⟨#[]⟩,.string ⟨#[]⟩]):=congrArg (·.1) hjj;have hy1:i1.size=7:=congrArg (·.2.1) hjj;have hyb:i1.bytes=72:=congrArg (·.2.2) hjj;clear hjj hinfo;obtain ⟨tq,htq⟩:∃tq:Tq,tq=⟨sg,m,y1,y2,y3,P,Q⟩:=⟨_,rfl⟩;have HTQ:Hd (tq=⟨sg,m,y1,y2,y3,P,Q⟩):=htq;have htc:tqC tq=[.int .i64 (sg),.int .i64 m,.int .i64 y1,.int .i64 y2,.int .i64 y3,.string P,.string Q]:=by rw [htq];rfl
        have HTC:Hd (tqC tq=[.int .i64 (sg),.int .i64 m,.int .i64 y1,.int .i64 y2,.int .i64 y3,.string P,.string Q]):=htc;clear htq htc;go_wp2_with (first | (at_builtin;refine wpList_append_own _ rfl _ _ 125 rfl B 131 i1 _ 7 72 Tryz.underlying125 hj0 hy0 hy1 hyb rfl (by decide) _ _ _ rfl (by have h:=HO.o;unfold OT at h;rw [HN0.o.1] at h;exact h.alloc _) _ 1 1 (tqC tq) rfl (by rw [HTC.o];rfl) (by rw [HTC.o];exact World.news_of_block (heap_alloc_new _ _)) (tq_one tq) (by unfold maxLen;have:=HN0.o;omega) (by have:=HN0.o;omega) (by have h1:=HW.o.size;rw [HB.o.1] at h1;simp;omega) ?_;intro v' u9 hown hgrow _));have hga:u4.grownBy (u4.alloc (.cells #[.int .i64 (sg),.int .i64 m,.int .i64 y1,.int .i64 y2,.int .i64 y3,.string P,.string Q] 131)) none:=gb_alloc (gb_refl _ none) _;have hfar:=HO.o.far;have HON:Hd (OT u9 B v' (acc++[tq])):=by show OT u9 B v' _;unfold OT;rw [List.length_append,List.flatMap_append,HN0.o.1];simpa using hown
        replace HV:=(HV.o.grow hga (by simp)).grow hgrow (fun e=>by have:=hfar b e.symm;have:=HB.o;omega);replace HG:Hd (GR g b u9):=(HG.o.grow hga).growr hgrow (fun e=>by have:=hfar g e.symm;have:=HB.o;omega);replace HW:Hd (w.grownBy u9 (some b)):=gb_rowb (gb_trans HW.o (gb_weak hga _)) hgrow (fun q hq=>by rw [HB.o.1];exact hfar q hq);have HLN:Hd ((acc++[tq]).length<=1000):=by show _<=_;rw [List.length_append,HN0.o.1];have:=HJ.o;have:=HLL.o.2;first | (simp;omega) | simp
        obtain ⟨o9,c9,hvn⟩:=HON.o.slice;obtain ⟨n9,hn9⟩:=nm ((acc++[tq]).length);rw [hn9] at hvn;rw [hvn] at HON
        try rw [hvn]
        clear hn9;clear hown hgrow hga hfar hj0 hy0 hy1 hyb k0 k1 k2 k3 k4 k5 hvn;have HVh:Hd (VS b s K 0 c2 u9):=HV;clear HV;have HNX:Hd (R=dset l f K ((acc++[tq]).map teOf)):=by
         show R=_;rw [List.map_append,show [tq].map teOf=[⟨signOr sg,p⟩] by rw [HTQ.o];simp only [List.map_cons,List.map_nil];rw [te_of (p:=p) _ HQ.o.1 HQ.o.2.1 HQ.o.2.2.1 HQ.o.2.2.2.1 HQ.o.2.2.2.2];unfold signOr;rw [if_neg (by have:=HSN.o;omega)]];exact MORE.o (by first | trivial | rfl) (fun h=>by have:=HSN.o;have:=h.1.1;omega) (fun h=>h.1 (of_decide_eq_true HAP.o))
        have HTK:Hd (∀x ∈ acc++[tq],TqOk x):=by
         intro x hx
         rcases List.mem_append.1 hx with h | h
         ·exact HOK.o x h
         ·rw [List.mem_singleton.1 h,HTQ.o];exact tq_ok (p:=p) _ (by have:=HSN.o;have:=HS1.o;omega) HP.o.2.2 HP2.o HQ.o.1 HQ.o.2.1 HQ.o.2.2.1 HQ.o.2.2.2.1 HQ.o.2.2.2.2
        have HF:Hd (VS b s K 0 c2 u9/\GR g b u9/\OT u9 B (.slice o9 n9 c9) (acc++[tq])/\w.grownBy u9 (some b)):=⟨HVh.o,HG.o,HON.o,HW.o⟩;go_wp2;go_roundw
        case rel=>exact DRel.ok (f:=f) HF.o.1 HF.o.2.1 HF.o.2.2.1 HF.o.2.2.2 HLN.o HK.o.2 (by rw [List.length_append,HN0.o.1];have:=HJ.o;have:=HS2.o;have:=HP.o;have:=HK.o;first | (simp;omega) | simp) (by have:=HJ.o;have:=HS2.o;have:=HP.o;have:=HK.o;omega) HNX.o.symm HTK.o
        case measure=>rw [HM.o,HF.o.1.meas0];have:=HJ.o;have:=HS2.o;have:=HP.o;have:=HK.o;omega
    ·have HEz:Hd (¬ E1=0):=hE1;have HZ:Hd (R=(E1,c2,acc.map teOf)):=by show R=_;rw [BAD.o hE1,HQK.o.2 hE1]
     clear hE1 BAD MORE GAP BTW
     by_cases hsn:sg < 0
     ·cases hlz:decide (n0=0) with
      | false =>
       have hlen:((n0:Int) == 0)=false:=by have:=of_decide_eq_false hlz;simp;omega
       clear hlz;have CB1:Hd (∀w,GR g b w->VS b s (j2) E1 (c2) w->Calls Tryz.prog 61 #[.pointer (some ⟨g,0,none⟩)] w fun e w'=>e=.returned (.bool false)/\∃n,w'=w.drewN n):=fun w h1 h2=>CBL.o (j2) E1 (c2) w HEz.o h1 h2
       go_wp2_with (first | (go_at_call 61;refine (CB1.o _ HG.o HV.o).mono ?_));rintro e u4 ⟨rfl,n,hn⟩;replace HV:Hd (VS b s (j2) E1 (c2) u4):=by show VS _ _ _ _ _ u4;rw [hn];exact HV.o.drew _
       replace HG:Hd (GR g b u4):=by show GR g b u4;rw [hn];exact HG.o
       replace HO:Hd (OT u4 B (.slice o n0 c0) acc):=by show OT u4 B _ _;rw [hn];exact HO.o
       replace HD:Hd (VP D m y1 y2 y3 P Q u4):=by show VP D _ _ _ _ _ _ u4;rw [hn];exact HD.o
       replace HW:Hd (w.grownBy u4 (some b)):=by show w.grownBy u4 (some b);rw [hn];exact gb_drew HW.o _
       clear hn;obtain ⟨k0,k1,k2,k3,k4,k5⟩:=HD.o.cells;have hinfo:=infoTe;obtain ⟨i1,hj0,hjj⟩:=Option.map_eq_some_iff.1 hinfo;have hy0:i1.zero=some (.agg #[.int .i64 0,.int .i64 0,.int .i64 0,.int .i64 0,.int .i64 0,.string ⟨#[]⟩,.string ⟨#[]⟩]):=congrArg (·.1) hjj;have hy1:i1.size=7:=congrArg (·.2.1) hjj;have hyb:i1.bytes=72:=congrArg (·.2.2) hjj;clear hjj hinfo;obtain ⟨tq,htq⟩:∃tq:Tq,tq=⟨0,m,y1,y2,y3,P,Q⟩:=⟨_,rfl⟩;have HTQ:Hd (tq=⟨0,m,y1,y2,y3,P,Q⟩):=htq;have htc:tqC tq=[.int .i64 (0),.int .i64 m,.int .i64 y1,.int .i64 y2,.int .i64 y3,.string P,.string Q]:=by rw [htq];rfl
       have HTC:Hd (tqC tq=[.int .i64 (0),.int .i64 m,.int .i64 y1,.int .i64 y2,.int .i64 y3,.string P,.string Q]):=htc;clear htq htc;go_wp2_with (first | (at_builtin;refine wpList_append_own _ rfl _ _ 125 rfl B 131 i1 _ 7 72 Tryz.underlying125 hj0 hy0 hy1 hyb rfl (by decide) _ _ _ rfl (by have h:=HO.o;unfold OT at h;rw [HN0.o.1] at h;exact h.alloc _) _ 1 1 (tqC tq) rfl (by rw [HTC.o];rfl) (by rw [HTC.o];exact World.news_of_block (heap_alloc_new _ _)) (tq_one tq) (by unfold maxLen;have:=HN0.o;omega) (by have:=HN0.o;omega) (by have h1:=HW.o.size;rw [HB.o.1] at h1;simp;omega) ?_;intro v' u9 hown hgrow _));have hga:u4.grownBy (u4.alloc (.cells #[.int .i64 (0),.int .i64 m,.int .i64 y1,.int .i64 y2,.int .i64 y3,.string P,.string Q] 131)) none:=gb_alloc (gb_refl _ none) _;have hfar:=HO.o.far;have HON:Hd (OT u9 B v' (acc++[tq])):=by show OT u9 B v' _;unfold OT;rw [List.length_append,List.flatMap_append,HN0.o.1];simpa using hown
       replace HV:=(HV.o.grow hga (by simp)).grow hgrow (fun e=>by have:=hfar b e.symm;have:=HB.o;omega);replace HG:Hd (GR g b u9):=(HG.o.grow hga).growr hgrow (fun e=>by have:=hfar g e.symm;have:=HB.o;omega);replace HW:Hd (w.grownBy u9 (some b)):=gb_rowb (gb_trans HW.o (gb_weak hga _)) hgrow (fun q hq=>by rw [HB.o.1];exact hfar q hq);have HLN:Hd ((acc++[tq]).length<=1000):=by show _<=_;rw [List.length_append,HN0.o.1];have:=HJ.o;have:=HLL.o.2;first | (simp;omega) | simp
       obtain ⟨o9,c9,hvn⟩:=HON.o.slice;obtain ⟨n9,hn9⟩:=nm ((acc++[tq]).length);rw [hn9] at hvn;rw [hvn] at HON
       try rw [hvn]
       clear hn9;clear hown hgrow hga hfar hj0 hy0 hy1 hyb k0 k1 k2 k3 k4 k5 hvn;have HVh:Hd (VS b s j2 E1 c2 u9):=HV;clear HV;have CE2:Hd (∀w,GR g b w->VS b s j2 E1 c2 w->Calls Tryz.prog 79 #[.pointer (some ⟨g,0,none⟩)] w fun e w'=>e=.returned (.bool true)/\∃n,w'=w.drewN n):=fun w h1 h2=>CEL.o j2 E1 c2 w HEz.o h1 h2
       go_wp2_with (first | (go_at_call 79;refine (CE2.o _ HG.o HVh.o).mono ?_));rintro e u10 ⟨rfl,n,hn⟩;have HF:Hd (VS b s j2 E1 c2 u10/\GR g b u10/\OT u10 B (.slice o9 n9 c9) (acc++[tq])/\w.grownBy u10 (some b)):=by
        rw [hn];exact ⟨HVh.o.drew _,HG.o,HON.o,gb_drew HW.o _⟩
       clear hn;go_wp2;go_roundw
       case rel=>exact DRel.bad HF.o.1 HF.o.2.1 HF.o.2.2.1 HF.o.2.2.2 HLN.o HEz.o (by rw [HZ.o]) (by rw [HZ.o])
       case measure=>rw [HM.o,HF.o.1.measE HEz.o];have:=HJ.o;omega
      | true =>
       have hn0:n0=0:=of_decide_eq_true hlz;subst hn0;clear hlz;have CB1:Hd (∀w,GR g b w->VS b s (j2) E1 (c2) w->Calls Tryz.prog 61 #[.pointer (some ⟨g,0,none⟩)] w fun e w'=>e=.returned (.bool false)/\∃n,w'=w.drewN n):=fun w h1 h2=>CBL.o (j2) E1 (c2) w HEz.o h1 h2
       go_wp2_with (first | (go_at_call 61;refine (CB1.o _ HG.o HV.o).mono ?_));rintro e u4 ⟨rfl,n,hn⟩;replace HV:Hd (VS b s (j2) E1 (c2) u4):=by show VS _ _ _ _ _ u4;rw [hn];exact HV.o.drew _
       replace HG:Hd (GR g b u4):=by show GR g b u4;rw [hn];exact HG.o
       replace HO:Hd (OT u4 B (.slice o 0 c0) acc):=by show OT u4 B _ _;rw [hn];exact HO.o
       replace HD:Hd (VP D m y1 y2 y3 P Q u4):=by show VP D _ _ _ _ _ _ u4;rw [hn];exact HD.o
       replace HW:Hd (w.grownBy u4 (some b)):=by show w.grownBy u4 (some b);rw [hn];exact gb_drew HW.o _
       clear hn;obtain ⟨k0,k1,k2,k3,k4,k5⟩:=HD.o.cells;have hinfo:=infoTe;obtain ⟨i1,hj0,hjj⟩:=Option.map_eq_some_iff.1 hinfo;have hy0:i1.zero=some (.agg #[.int .i64 0,.int .i64 0,.int .i64 0,.int .i64 0,.int .i64 0,.string ⟨#[]⟩,.string ⟨#[]⟩]):=congrArg (·.1) hjj;have hy1:i1.size=7:=congrArg (·.2.1) hjj;have hyb:i1.bytes=72:=congrArg (·.2.2) hjj;clear hjj hinfo;obtain ⟨tq,htq⟩:∃tq:Tq,tq=⟨0,m,y1,y2,y3,P,Q⟩:=⟨_,rfl⟩;have HTQ:Hd (tq=⟨0,m,y1,y2,y3,P,Q⟩):=htq;have htc:tqC tq=[.int .i64 (0),.int .i64 m,.int .i64 y1,.int .i64 y2,.int .i64 y3,.string P,.string Q]:=by rw [htq];rfl
       have HTC:Hd (tqC tq=[.int .i64 (0),.int .i64 m,.int .i64 y1,.int .i64 y2,.int .i64 y3,.string P,.string Q]):=htc;clear htq htc;go_wp2_with (first | (at_builtin;refine wpList_append_own _ rfl _ _ 125 rfl B 131 i1 _ 7 72 Tryz.underlying125 hj0 hy0 hy1 hyb rfl (by decide) _ _ _ rfl (by have h:=HO.o;unfold OT at h;rw [HN0.o.1] at h;exact h.alloc _) _ 1 1 (tqC tq) rfl (by rw [HTC.o];rfl) (by rw [HTC.o];exact World.news_of_block (heap_alloc_new _ _)) (tq_one tq) (by unfold maxLen;have:=HN0.o;omega) (by have:=HN0.o;omega) (by have h1:=HW.o.size;rw [HB.o.1] at h1;simp;omega) ?_;intro v' u9 hown hgrow _));have hga:u4.grownBy (u4.alloc (.cells #[.int .i64 (0),.int .i64 m,.int .i64 y1,.int .i64 y2,.int .i64 y3,.string P,.string Q] 131)) none:=gb_alloc (gb_refl _ none) _;have hfar:=HO.o.far;have HON:Hd (OT u9 B v' (acc++[tq])):=by show OT u9 B v' _;unfold OT;rw [List.length_append,List.flatMap_append,HN0.o.1];simpa using hown
       replace HV:=(HV.o.grow hga (by simp)).grow hgrow (fun e=>by have:=hfar b e.symm;have:=HB.o;omega);replace HG:Hd (GR g b u9):=(HG.o.grow hga).growr hgrow (fun e=>by have:=hfar g e.symm;have:=HB.o;omega);replace HW:Hd (w.grownBy u9 (some b)):=gb_rowb (gb_trans HW.o (gb_weak hga _)) hgrow (fun q hq=>by rw [HB.o.1];exact hfar q hq);have HLN:Hd ((acc++[tq]).length<=1000):=by show _<=_;rw [List.length_append,HN0.o.1];have:=HJ.o;have:=HLL.o.2;first | (simp;omega) | simp
       obtain ⟨o9,c9,hvn⟩:=HON.o.slice;obtain ⟨n9,hn9⟩:=nm ((acc++[tq]).length);rw [hn9] at hvn;rw [hvn] at HON
       try rw [hvn]
       clear hn9;clear hown hgrow hga hfar hj0 hy0 hy1 hyb k0 k1 k2 k3 k4 k5 hvn;have HVh:Hd (VS b s j2 E1 c2 u9):=HV;clear HV;have CE2:Hd (∀w,GR g b w->VS b s j2 E1 c2 w->Calls Tryz.prog 79 #[.pointer (some ⟨g,0,none⟩)] w fun e w'=>e=.returned (.bool true)/\∃n,w'=w.drewN n):=fun w h1 h2=>CEL.o j2 E1 c2 w HEz.o h1 h2
       go_wp2_with (first | (go_at_call 79;refine (CE2.o _ HG.o HVh.o).mono ?_));rintro e u10 ⟨rfl,n,hn⟩;have HF:Hd (VS b s j2 E1 c2 u10/\GR g b u10/\OT u10 B (.slice o9 n9 c9) (acc++[tq])/\w.grownBy u10 (some b)):=by
        rw [hn];exact ⟨HVh.o.drew _,HG.o,HON.o,gb_drew HW.o _⟩
       clear hn;go_wp2;go_roundw
       case rel=>exact DRel.bad HF.o.1 HF.o.2.1 HF.o.2.2.1 HF.o.2.2.2 HLN.o HEz.o (by rw [HZ.o]) (by rw [HZ.o])
       case measure=>rw [HM.o,HF.o.1.measE HEz.o];have:=HJ.o;omega
     ·have CB1:Hd (∀w,GR g b w->VS b s (j2) E1 (c2) w->Calls Tryz.prog 61 #[.pointer (some ⟨g,0,none⟩)] w fun e w'=>e=.returned (.bool false)/\∃n,w'=w.drewN n):=fun w h1 h2=>CBL.o (j2) E1 (c2) w HEz.o h1 h2
      go_wp2_with (first | (go_at_call 61;refine (CB1.o _ HG.o HV.o).mono ?_));rintro e u4 ⟨rfl,n,hn⟩;replace HV:Hd (VS b s (j2) E1 (c2) u4):=by show VS _ _ _ _ _ u4;rw [hn];exact HV.o.drew _
      replace HG:Hd (GR g b u4):=by show GR g b u4;rw [hn];exact HG.o
      replace HO:Hd (OT u4 B (.slice o n0 c0) acc):=by show OT u4 B _ _;rw [hn];exact HO.o
      replace HD:Hd (VP D m y1 y2 y3 P Q u4):=by show VP D _ _ _ _ _ _ u4;rw [hn];exact HD.o
      replace HW:Hd (w.grownBy u4 (some b)):=by show w.grownBy u4 (some b);rw [hn];exact gb_drew HW.o _
      clear hn;obtain ⟨k0,k1,k2,k3,k4,k5⟩:=HD.o.cells;have hinfo:=infoTe;obtain ⟨i1,hj0,hjj⟩:=Option.map_eq_some_iff.1 hinfo;have hy0:i1.zero=some (.agg #[.int .i64 0,.int .i64 0,.int .i64 0,.int .i64 0,.int .i64 0,.string ⟨#[]⟩,.string ⟨#[]⟩]):=congrArg (·.1) hjj;have hy1:i1.size=7:=congrArg (·.2.1) hjj;have hyb:i1.bytes=72:=congrArg (·.2.2) hjj;clear hjj hinfo;obtain ⟨tq,htq⟩:∃tq:Tq,tq=⟨sg,m,y1,y2,y3,P,Q⟩:=⟨_,rfl⟩;have HTQ:Hd (tq=⟨sg,m,y1,y2,y3,P,Q⟩):=htq;have htc:tqC tq=[.int .i64 (sg),.int .i64 m,.int .i64 y1,.int .i64 y2,.int .i64 y3,.string P,.string Q]:=by rw [htq];rfl
      have HTC:Hd (tqC tq=[.int .i64 (sg),.int .i64 m,.int .i64 y1,.int .i64 y2,.int .i64 y3,.string P,.string Q]):=htc;clear htq htc;go_wp2_with (first | (at_builtin;refine wpList_append_own _ rfl _ _ 125 rfl B 131 i1 _ 7 72 Tryz.underlying125 hj0 hy0 hy1 hyb rfl (by decide) _ _ _ rfl (by have h:=HO.o;unfold OT at h;rw [HN0.o.1] at h;exact h.alloc _) _ 1 1 (tqC tq) rfl (by rw [HTC.o];rfl) (by rw [HTC.o];exact World.news_of_block (heap_alloc_new _ _)) (tq_one tq) (by unfold maxLen;have:=HN0.o;omega) (by have:=HN0.o;omega) (by have h1:=HW.o.size;rw [HB.o.1] at h1;simp;omega) ?_;intro v' u9 hown hgrow _));have hga:u4.grownBy (u4.alloc (.cells #[.int .i64 (sg),.int .i64 m,.int .i64 y1,.int .i64 y2,.int .i64 y3,.string P,.string Q] 131)) none:=gb_alloc (gb_refl _ none) _;have hfar:=HO.o.far;have HON:Hd (OT u9 B v' (acc++[tq])):=by show OT u9 B v' _;unfold OT;rw [List.length_append,List.flatMap_append,HN0.o.1];simpa using hown
      replace HV:=(HV.o.grow hga (by simp)).grow hgrow (fun e=>by have:=hfar b e.symm;have:=HB.o;omega);replace HG:Hd (GR g b u9):=(HG.o.grow hga).growr hgrow (fun e=>by have:=hfar g e.symm;have:=HB.o;omega);replace HW:Hd (w.grownBy u9 (some b)):=gb_rowb (gb_trans HW.o (gb_weak hga _)) hgrow (fun q hq=>by rw [HB.o.1];exact hfar q hq);have HLN:Hd ((acc++[tq]).length<=1000):=by show _<=_;rw [List.length_append,HN0.o.1];have:=HJ.o;have:=HLL.o.2;first | (simp;omega) | simp
      obtain ⟨o9,c9,hvn⟩:=HON.o.slice;obtain ⟨n9,hn9⟩:=nm ((acc++[tq]).length);rw [hn9] at hvn;rw [hvn] at HON
      try rw [hvn]
      clear hn9;clear hown hgrow hga hfar hj0 hy0 hy1 hyb k0 k1 k2 k3 k4 k5 hvn;have HVh:Hd (VS b s j2 E1 c2 u9):=HV;clear HV;have CE2:Hd (∀w,GR g b w->VS b s j2 E1 c2 w->Calls Tryz.prog 79 #[.pointer (some ⟨g,0,none⟩)] w fun e w'=>e=.returned (.bool true)/\∃n,w'=w.drewN n):=fun w h1 h2=>CEL.o j2 E1 c2 w HEz.o h1 h2
      go_wp2_with (first | (go_at_call 79;refine (CE2.o _ HG.o HVh.o).mono ?_));rintro e u10 ⟨rfl,n,hn⟩;have HF:Hd (VS b s j2 E1 c2 u10/\GR g b u10/\OT u10 B (.slice o9 n9 c9) (acc++[tq])/\w.grownBy u10 (some b)):=by
       rw [hn];exact ⟨HVh.o.drew _,HG.o,HON.o,gb_drew HW.o _⟩
      clear hn;go_wp2;go_roundw
      case rel=>exact DRel.bad HF.o.1 HF.o.2.1 HF.o.2.2.1 HF.o.2.2.2 HLN.o HEz.o (by rw [HZ.o]) (by rw [HZ.o])
      case measure=>rw [HM.o,HF.o.1.measE HEz.o];have:=HJ.o;omega
  ·have CE1:Hd (∀w,GR g b w->VS b s j E c w->Calls Tryz.prog 79 #[.pointer (some ⟨g,0,none⟩)] w fun e w'=>e=.returned (.bool true)/\∃n,w'=w.drewN n):=fun w h1 h2=>CEL.o j E c w hE h1 h2
   have HE:Hd (¬ E=0/\R.1=E/\R.2.1=c):=⟨hE,hR1,hR2⟩;clear hE hR1 hR2;go_wp2_with (first | (go_at_call 79;refine (CE1.o _ HG.o HV.o).mono ?_));rintro e u1 ⟨rfl,n,hn⟩;replace HV:Hd (VS b s (j) E (c) u1):=by show VS _ _ _ _ _ u1;rw [hn];exact HV.o.drew _
   replace HG:Hd (GR g b u1):=by show GR g b u1;rw [hn];exact HG.o
   replace HO:Hd (OT u1 B (.slice o n0 c0) acc):=by show OT u1 B _ _;rw [hn];exact HO.o
   replace HW:Hd (w.grownBy u1 (some b)):=by show w.grownBy u1 (some b);rw [hn];exact gb_drew HW.o _
   clear hn;go_wp2;go_ret;exact ⟨o,n0,c0,acc,j,c,rfl,by rw [HE.o.2.1];exact HV.o,by rw [HB.o.1];exact HO.o,HW.o,fun h=>absurd (HE.o.2.1.symm.trans h) HE.o.1,fun _=>HE.o.2.2.symm⟩
end Go.Proofs.YticgahdffjnabaaGreatDoor
