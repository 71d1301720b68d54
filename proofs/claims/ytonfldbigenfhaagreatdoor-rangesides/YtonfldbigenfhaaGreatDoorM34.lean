import Derived.Test.YtonfldbigenfhaaGreatDoorM33
import Derived.Test.YtonfldbigenfhaaGreatDoorM25
namespace Go.Proofs.YtonfldbigenfhaaGreatDoor
open Go.RowKit
set_option linter.unusedVariables false
structure Tq where
 sg:Int
 m:Int
 a:Int
 b:Int
 c:Int
 p:ByteArray
 q:ByteArray
def tqC (t:Tq):List Value:=[.int .i64 t.sg,.int .i64 t.m,.int .i64 t.a,.int .i64 t.b,.int .i64 t.c,.string t.p,.string t.q]
def teOf (t:Tq):Te:=⟨t.sg,⟨t.m.toNat,t.a,t.b,t.c,t.p.data.toList⟩⟩
structure TqOk (t:Tq):Prop where
 s0:0<=t.sg/\t.sg<=7
 m0:0<=t.m/\t.m<=3
 ok:PaOk (teOf t).p
 sm:t.p.size<=200
theorem tq_one (t:Tq):∀u ∈ tqC t,u.oneCell'=true:=by
 intro u hu
 simp only [tqC,List.mem_cons,List.not_mem_nil,or_false] at hu
 rcases hu with rfl | rfl | rfl | rfl | rfl | rfl | rfl <;> rfl
theorem infoTe:(Tryz.prog.info? 84).map (fun i=>(i.zero,i.size,i.bytes))=some (some (.agg #[.int .i64 0,.int .i64 0,.int .i64 0,.int .i64 0,.int .i64 0,.string ⟨#[]⟩,.string ⟨#[]⟩]),7,72):=by kernel_rfl
def OT (w:World) (base:Nat) (sl:Value) (L:List Tq):Prop:=w.ownsRow base 84 7 sl L.length (L.flatMap tqC)
theorem OT.growb {w w':World} {base:Nat} {sl:Value} {L:List Tq} {b:Nat} (h:OT w base sl L) (hg:w.grownBy w' (some b)) (hb:b < base):OT w' base sl L:=by
 refine ⟨h.1,?_⟩
 rcases h.2 with hn | ⟨g,cap,cur,hv,hbg,hc,rest⟩
 ·exact Or.inl hn
 ·refine Or.inr ⟨g,cap,cur,hv,hbg,?_,rest⟩
  rw [hg.block g ((Array.getElem?_eq_some_iff.1 hc).1) (by simp;omega)];exact hc
theorem OT.grow {w w':World} {base:Nat} {sl:Value} {L:List Tq} (h:OT w base sl L) (hg:w.grownBy w' none):OT w' base sl L:=own_keep h hg
theorem OT.base {w:World} {base base':Nat} {sl:Value} {L:List Tq} (h:OT w base sl L) (hb:base'<=base):OT w base' sl L:=by
 refine ⟨h.1,?_⟩
 rcases h.2 with hn | ⟨g,cap,cur,hv,hbg,rest⟩
 ·exact Or.inl hn
 ·exact Or.inr ⟨g,cap,cur,hv,Nat.le_trans hb hbg,rest⟩
theorem OT.slice {w:World} {base:Nat} {sl:Value} {L:List Tq} (h:OT w base sl L):∃o c,sl=.slice o L.length c:=by
 rcases h.2 with ⟨h1,h2⟩ | ⟨g,cap,cur,hv,_⟩
 ·exact ⟨_,_,by rw [h1,h2]⟩
 ·exact ⟨_,_,hv⟩
theorem OT.far {w:World} {base:Nat} {sl:Value} {L:List Tq} (h:OT w base sl L):∀q,sl.ownBlock=some q->base<=q:=by
 intro q hq
 rcases h.2 with ⟨h1,_⟩ | ⟨g,cap,cur,hv,hb,_⟩
 ·rw [h1] at hq;cases hq
 ·rw [hv] at hq
  simp only [Value.ownBlock,Option.some.injEq] at hq
  omega
theorem OT.two {w:World} {base g:Nat} {x y:Tq} (hb:base<=g) (h:w.heap[g]?=some (.cells #[.int .i64 x.sg,.int .i64 x.m,.int .i64 x.a,.int .i64 x.b,.int .i64 x.c,.string x.p,.string x.q,.int .i64 y.sg,.int .i64 y.m,.int .i64 y.a,.int .i64 y.b,.int .i64 y.c,.string y.p,.string y.q] 84 (0,0))):OT w base (.slice (some ⟨g,0,none⟩) 2 2) [x,y] :=
 ⟨rfl,Or.inr ⟨g,2,_,rfl,hb,h,Nat.le_refl _,by decide,rfl,rfl⟩⟩
theorem VS.grow {b:Nat} {s:ByteArray} {i:Nat} {E:Int} {a:Nat} {w w':World} {row:Option Nat} (h:VS b s i E a w) (hg:w.grownBy w' row) (hn:some b ≠ row):VS b s i E a w':=by
 unfold VS at h ⊢
 rw [hg.block b ((Array.getElem?_eq_some_iff.1 h).1) hn];exact h
theorem GR.growr {g b:Nat} {w w':World} {row:Option Nat} (h:GR g b w) (hg:w.grownBy w' row) (hn:some g ≠ row):GR g b w':=hg.cell h hn
theorem VP.growr {v:Nat} {m y1 y2 y3:Int} {x4 x5:ByteArray} {w w':World} {row:Option Nat} (h:VP v m y1 y2 y3 x4 x5 w) (hg:w.grownBy w' row) (hn:some v ≠ row):VP v m y1 y2 y3 x4 x5 w':=by
 unfold VP at h ⊢
 rw [hg.block v ((Array.getElem?_eq_some_iff.1 h).1) hn];exact h
def errOf (b:Nat) (w:World):Int:=match w.cell? ⟨b,2,none⟩ with | some (.int .i64 x)=>x | _=>0
theorem VS.err {b:Nat} {s:ByteArray} {i:Nat} {E:Int} {a:Nat} {w:World} (h:VS b s i E a w):errOf b w=E:=by unfold errOf;rw [h.c2]
def meas (b n:Nat) (w:World):Nat:=if errOf b w=0 then n+1 - placeOf b w else 0
theorem VS.meas0 {b:Nat} {s:ByteArray} {i:Nat} {a:Nat} {w:World} (h:VS b s i 0 a w) (n:Nat):meas b n w=n+1 - i:=by unfold meas;rw [h.err,if_pos rfl,h.place]
theorem VS.measE {b:Nat} {s:ByteArray} {i:Nat} {E:Int} {a:Nat} {w:World} (h:VS b s i E a w) (hE:¬ E=0) (n:Nat):meas b n w=0:=by unfold meas;rw [h.err,if_neg hE]
theorem dset_end {l:List UInt8} {f i:Nat} {acc:List Te} (h:endsAt l i=true):dset l (f+1) i acc=(0,i,acc):=by unfold dset;rw [if_pos h]
theorem dset_bad {l:List UInt8} {f i:Nat} {acc:List Te} (h:¬ endsAt l i=true) (hr:¬ (rdPa l (rdSign l i).2).1=0):dset l (f+1) i acc=((rdPa l (rdSign l i).2).1,(rdPa l (rdSign l i).2).2.1,acc):=by
 unfold dset;rw [if_neg h,if_neg hr]
theorem dset_more {l:List UInt8} {f i:Nat} {acc:List Te} (h:¬ endsAt l i=true) (hr:(rdPa l (rdSign l i).2).1=0)
  (hb:¬ (((rdSign l i).1 < 0/\acc=[])/\(rdPa l (rdSign l i).2).2.1 < skipW l (rdPa l (rdSign l i).2).2.1/\l[skipW l (rdPa l (rdSign l i).2).2.1]?=some 45))
  (hg:¬ (¬ (rdPa l (rdSign l i).2).2.1 < skipW l (rdPa l (rdSign l i).2).2.1/\¬ endsAt l (skipW l (rdPa l (rdSign l i).2).2.1)=true)) :
  dset l (f+1) i acc=dset l f (skipW l (rdPa l (rdSign l i).2).2.1) (acc++[⟨signOr (rdSign l i).1,(rdPa l (rdSign l i).2).2.2⟩]):=by
 rw [dset,if_neg h,if_pos hr,if_neg hb,if_neg hg]
theorem dset_gap {l:List UInt8} {f i:Nat} {acc:List Te} (h:¬ endsAt l i=true) (hr:(rdPa l (rdSign l i).2).1=0)
  (hg1:¬ (rdPa l (rdSign l i).2).2.1 < skipW l (rdPa l (rdSign l i).2).2.1) (hg2:¬ endsAt l (skipW l (rdPa l (rdSign l i).2).2.1)=true) :
  dset l (f+1) i acc=(2,skipW l (rdPa l (rdSign l i).2).2.1,acc):=by
 rw [dset,if_neg h,if_pos hr,if_neg (fun hb=>hg1 hb.2.1),if_pos ⟨hg1,hg2⟩]
theorem dset_bt {l:List UInt8} {f i:Nat} {acc:List Te} (h:¬ endsAt l i=true) (hr:(rdPa l (rdSign l i).2).1=0)
  (hb:((rdSign l i).1 < 0/\acc=[])/\(rdPa l (rdSign l i).2).2.1 < skipW l (rdPa l (rdSign l i).2).2.1/\l[skipW l (rdPa l (rdSign l i).2).2.1]?=some 45) :
  dset l (f+1) i acc=(if skipW l (skipW l (rdPa l (rdSign l i).2).2.1+1)=skipW l (rdPa l (rdSign l i).2).2.1+1 then (2,skipW l (rdPa l (rdSign l i).2).2.1+1,acc) else
    if (rdPa l (skipW l (skipW l (rdPa l (rdSign l i).2).2.1+1))).1=0 then
     (if endsAt l (skipW l (rdPa l (skipW l (skipW l (rdPa l (rdSign l i).2).2.1+1))).2.1)=true then (0,skipW l (rdPa l (skipW l (skipW l (rdPa l (rdSign l i).2).2.1+1))).2.1,[⟨7,(rdPa l (rdSign l i).2).2.2⟩,⟨2,(rdPa l (skipW l (skipW l (rdPa l (rdSign l i).2).2.1+1))).2.2⟩])
     else (2,skipW l (rdPa l (skipW l (skipW l (rdPa l (rdSign l i).2).2.1+1))).2.1,acc))
    else ((rdPa l (skipW l (skipW l (rdPa l (rdSign l i).2).2.1+1))).1,(rdPa l (skipW l (skipW l (rdPa l (rdSign l i).2).2.1+1))).2.1,acc)):=by
 rw [dset,if_neg h,if_pos hr,if_pos hb]
def DSetPost (b:Nat) (s:ByteArray) (R:Int × Nat × List Te) (w:World) (e:Ending) (w':World):Prop :=
 ∃(o:Option Addr) (n k:Nat) (acc:List Tq) (j c:Nat),e=.returned (.slice o n k)/\VS b s j R.1 c w'/\OT w' w.heap.size (.slice o n k) acc/\w.grownBy w' (some b)/\(R.1=0->acc.map teOf=R.2.2/\j=R.2.1/\∀x ∈ acc,TqOk x)/\(¬ R.1=0->c=R.2.1)
theorem te_of {m y1 y2 y3:Int} {P Q:ByteArray} {p:Pa} (sg:Int) (h1:m=(p.n:Int)) (h2:y1=p.a) (h3:y2=p.b) (h4:y3=p.c) (h5:P=⟨p.pre.toArray⟩):teOf ⟨sg,m,y1,y2,y3,P,Q⟩=⟨sg,p⟩:=by
 subst h1 h2 h3 h4 h5
 unfold teOf
 simp
theorem tq_ok {m y1 y2 y3:Int} {P Q:ByteArray} {p:Pa} (sg:Int) (hs:0<=sg/\sg<=7) (hp:PaOk p) (hl:p.pre.length<=200) (h1:m=(p.n:Int)) (h2:y1=p.a) (h3:y2=p.b) (h4:y3=p.c) (h5:P=⟨p.pre.toArray⟩):TqOk ⟨sg,m,y1,y2,y3,P,Q⟩:=by
 have e:=te_of (Q:=Q) sg h1 h2 h3 h4 h5
 refine ⟨hs,?_,?_,?_⟩
 ·have:=hp.n3;simp only [];omega
 ·rw [e];exact hp
 ·simp only [];rw [h5];show p.pre.toArray.size<=_;simpa using hl
def DRel (b g B:Nat) (s:ByteArray) (l:List UInt8) (R:Int × Nat × List Te) (w:World) (vl:Value) (wr:World):Prop :=
 ∃(f j c:Nat) (E:Int) (acc:List Tq),VS b s j E c wr/\GR g b wr/\OT wr B vl acc/\w.grownBy wr (some b)/\acc.length<=1000 ∧
  ((E=0/\j<=s.size/\acc.length<=j/\l.length < f+j/\dset l f j (acc.map teOf)=R/\∀x ∈ acc,TqOk x)\/(¬ E=0/\R.1=E/\R.2.1=c))
theorem DRel.ok {b g B:Nat} {s:ByteArray} {l:List UInt8} {R:Int × Nat × List Te} {w:World} {vl:Value} {wr:World} {f j c:Nat} {acc:List Tq} (h1:VS b s j 0 c wr) (h2:GR g b wr) (h3:OT wr B vl acc) (h4:w.grownBy wr (some b)) (h5:acc.length<=1000) (h6:j<=s.size) (h7:acc.length<=j) (h8:l.length < f+j) (h9:dset l f j (acc.map teOf)=R) (h10:∀x ∈ acc,TqOk x):DRel b g B s l R w vl wr :=
 ⟨f,j,c,0,acc,h1,h2,h3,h4,h5,Or.inl ⟨rfl,h6,h7,h8,h9,h10⟩⟩
theorem DRel.bad {b g B:Nat} {s:ByteArray} {l:List UInt8} {R:Int × Nat × List Te} {w:World} {vl:Value} {wr:World} {j c:Nat} {E:Int} {acc:List Tq} (h1:VS b s j E c wr) (h2:GR g b wr) (h3:OT wr B vl acc) (h4:w.grownBy wr (some b)) (h5:acc.length<=1000) (h6:¬ E=0) (h7:R.1=E) (h8:R.2.1=c):DRel b g B s l R w vl wr :=
 ⟨0,j,c,E,acc,h1,h2,h3,h4,h5,Or.inr ⟨h6,h7,h8⟩⟩
set_option maxRecDepth 100000 in
set_option maxHeartbeats 1600000 in
theorem rset_any (g b:Nat) (s:ByteArray) (i:Nat) (a:Nat) (w:World) (hi:i<=s.size) (hgb:g ≠ b) (hg:GR g b w) (h:VS b s i 0 a w) (hs:s.size<=200) :
  Calls Tryz.prog 35 #[.pointer (some ⟨g,0,none⟩)] w (DSetPost b s (dset s.data.toList (s.data.toList.length+1) i []) w):=by
 obtain ⟨l,hl⟩:∃l,s.data.toList=l:=⟨_,rfl⟩
 have hll:l.length=s.size:=by rw [<-hl];simp
 have HLL:Hid (l.length=s.size/\s.size<=200):=⟨hll,hs⟩
 have CE:Hid (∀i a w,i<=s.size->GR g b w->VS b s i 0 a w->Calls Tryz.prog 61 #[.pointer (some ⟨g,0,none⟩)] w fun e w'=>e=.returned (.bool (endsAt l i))/\∃n,w'=w.drewN n):=fun i a w hi h1 h2=>by rw [<-hl];exact rends_any g b s i a w hi h1 h2 (by omega)
 have CEL:Hid (∀(i:Nat) (E:Int) (a:Nat) w,¬ E=0->GR g b w->VS b s i E a w->Calls Tryz.prog 61 #[.pointer (some ⟨g,0,none⟩)] w fun e w'=>e=.returned (.bool true)/\∃n,w'=w.drewN n):=fun i E a w hE h1 h2=>ends_late g b s i E a w hE h1 h2
 have CS:Hid (∀i a w,i<=s.size->GR g b w->VS b s i 0 a w->Calls Tryz.prog 62 #[.pointer (some ⟨g,0,none⟩)] w fun e w'=>e=.returned (.int .i64 (rdSign l i).1)/\VS b s (rdSign l i).2 0 a w'/\w.grownBy w' (some b)):=fun i a w hi h1 h2=>by rw [<-hl];exact rsign_any g b s i a w hi hgb h1 h2 (by omega)
 have CP:Hid (∀i a w,i<=s.size->GR g b w->VS b s i 0 a w->Calls Tryz.prog 63 #[.pointer (some ⟨g,0,none⟩)] w (QPaPost b s (rdPa l i) w)):=fun i a w hi h1 h2=>by rw [<-hl];exact rpartial_any g b s i a w hi hgb h1 h2 (by omega)
 have CPL:Hid (∀(i:Nat) (E:Int) (a:Nat) w,¬ E=0->i<=s.size->GR g b w->VS b s i E a w->Calls Tryz.prog 63 #[.pointer (some ⟨g,0,none⟩)] w (QLatePost b s E a w)):=fun i E a w hE hi h1 h2=>rpartial_late g b s i E a w hE hi hgb h1 h2 (by omega)
 have CB:Hid (∀i a w,i<=s.size->GR g b w->VS b s i 0 a w->Calls Tryz.prog 34 #[.pointer (some ⟨g,0,none⟩)] w fun e w'=>e=.returned (.bool (decide (i < skipW l i)))/\VS b s (skipW l i) 0 a w'/\w.grownBy w' (some b)):=fun i a w hi h1 h2=>by rw [<-hl];exact rblanks_any g b s i a w hi hgb h1 h2 (by omega)
 have CBL:Hid (∀(i:Nat) (E:Int) (a:Nat) w,¬ E=0->GR g b w->VS b s i E a w->Calls Tryz.prog 34 #[.pointer (some ⟨g,0,none⟩)] w fun e w'=>e=.returned (.bool false)/\∃n,w'=w.drewN n):=fun i E a w hE h1 h2=>rblanks_late g b s i E a w hE h1 h2
 have CI:Hid (∀i a w,i<=s.size->GR g b w->VS b s i 0 a w->Calls Tryz.prog 36 #[.pointer (some ⟨g,0,none⟩),.string ⟨#[45]⟩] w fun e w'=>e=.returned (.bool (decide (l[i]?=some 45)))/\∃n,w'=w.drewN n):=fun i a w hi h1 h2=>by rw [<-hl];exact is_one g b s i 45 a w hi h1 h2 (by omega)
 have CF:Hid (∀(i a:Nat) (F:Int) (c:Nat) w,VS b s i 0 a w->Calls Tryz.prog 56 #[.pointer (some ⟨b,0,none⟩),.int .i64 F,.int .i64 (c:Int)] w fun e w'=>e=.returned (.tuple #[])/\VS b s i F c w'/\w.grownBy w' (some b)):=fun i a F c w h=>fail_first b s i a F c w h
 have HSK:Hid (∀i,i<=s.size->i<=skipW l i/\skipW l i<=s.size):=fun i hi=>⟨skip_ge l i,by have:=skip_le l i (by rw [hll];exact hi);rw [hll] at this;exact this⟩
 have HSP:Hid (∀i,i<=s.size->i<=(rdSign l i).2/\(rdSign l i).2<=s.size):=fun i hi=>by have:=sign_pos l i (by rw [hll];exact hi);rw [hll] at this;exact this
 have HPP:Hid (∀i,i<=s.size->(rdPa l i).1=0->i < (rdPa l i).2.1/\(rdPa l i).2.1<=s.size/\PaOk (rdPa l i).2.2):=fun i hi h0=>by
  have pp:=pa_pos l i (by rw [hll];exact hi) h0
  exact ⟨pp.1,by rw [<-hll];exact pp.2,pa_ok l i (by rw [hll];exact hi) h0⟩
 have HPL:Hid (∀i,(rdPa l i).2.2.pre.length<=200):=fun i=>by have:=pa_len l i;omega
 have HG:Hid (GR g b w):=hg
 have HV:Hid (VS b s i 0 a w):=h
 have HIi:Hid (i<=s.size):=hi
 obtain ⟨B,hB⟩:∃B,w.heap.size=B:=⟨_,rfl⟩
 have HB:Hid (w.heap.size=B/\b < B/\g < B/\g ≠ b):=⟨hB,by rw [<-hB];exact (Array.getElem?_eq_some_iff.1 h).1,by rw [<-hB];exact GR.lt hg,hgb⟩
 rw [hl]
 obtain ⟨R,hR⟩:∃R,dset l (l.length+1) i []=R:=⟨_,rfl⟩
 have HR0:Hid (dset l (l.length+1) i []=R):=hR
 rw [hR]
 clear hl hll hR h hs hi hB hg hgb
 go_enter Tryz.func35,Tryz.ntmps35
 go_wp2
 go_loopw [3] (fun vl wr=>DRel b g B s l R w vl wr) (fun _ wr=>meas b s.size wr)
 case atStart=>exact DRel.ok (f:=l.length+1) (acc:=[]) HV.out HG.out (show OT w B (.slice none 0 0) [] from World.ownsRow_nil _ _ _ _) (gb_refl _ _) (Nat.zero_le _) HIi.out (Nat.zero_le _) (by omega) HR0.out (fun x hx=>by cases hx)
 case round =>
  obtain ⟨f,j,c,E,acc,hv,hgr,hot,hgw,hal,hcase⟩:=hrel
  clear HV HG HR0
  obtain ⟨o,c0,rfl⟩:=hot.slice
  obtain ⟨n0,hn0⟩:∃n0,acc.length=n0:=⟨_,rfl⟩
  have HV:Hid (VS b s j E c wr):=hv
  have HG:Hid (GR g b wr):=hgr
  rw [hn0] at hot
  have HO:Hid (OT wr B (.slice o n0 c0) acc):=hot
  have HN0:Hid (acc.length=n0/\n0<=1000):=⟨hn0,by omega⟩
  have HW:Hid (w.grownBy wr (some b)):=hgw
  rw [hn0]
  clear hv hgr hot hgw hal hn0
  rcases hcase with ⟨rfl,hj,haj,hf,hds,hok⟩ | ⟨hE,hR1,hR2⟩
  ·have HJ:Hid (j<=s.size/\n0<=j/\l.length < f+j):=⟨hj,by have:=HN0.out.1;omega,hf⟩
   have HDS:Hid (dset l f j (acc.map teOf)=R):=hds
   have HOK:Hid (∀x ∈ acc,TqOk x):=hok
   clear hj haj hf hds hok
   obtain ⟨f,rfl⟩:∃f',f=f'+1:=by
    cases f with
    | zero=>have:=HLL.out.1;have:=HJ.out;omega
    | succ f=>exact ⟨f,rfl⟩
   have HM:Hid (meas b s.size wr=s.size+1 - j):=HV.out.meas0 s.size
   cases hen:endsAt l j with
   | true =>
    have CE1:Hid (∀w,GR g b w->VS b s j 0 c w->Calls Tryz.prog 61 #[.pointer (some ⟨g,0,none⟩)] w fun e w'=>e=.returned (.bool true)/\∃n,w'=w.drewN n):=fun w h1 h2=>by have:=CE.out j c w HJ.out.1 h1 h2;rw [hen] at this;exact this
    have HZ:Hid (R=(0,j,acc.map teOf)):=by show R=_;rw [<-HDS.out];exact dset_end hen
    clear hen
    go_wp2_with (first | (go_at_call 61;refine (CE1.out _ HG.out HV.out).mono ?_))
    rintro e u1 ⟨rfl,n,hn⟩
    replace HV:Hid (VS b s (j) 0 (c) u1):=by show VS _ _ _ _ _ u1;rw [hn];exact HV.out.drew _
    replace HG:Hid (GR g b u1):=by show GR g b u1;rw [hn];exact HG.out
    replace HO:Hid (OT u1 B (.slice o n0 c0) acc):=by show OT u1 B _ _;rw [hn];exact HO.out
    replace HW:Hid (w.grownBy u1 (some b)):=by show w.grownBy u1 (some b);rw [hn];exact gb_drew HW.out _
    clear hn
    go_wp2
    go_ret
    rw [HZ.out]
    exact ⟨o,n0,c0,acc,j,c,rfl,HV.out,by rw [HB.out.1];exact HO.out,HW.out,fun _=>⟨rfl,rfl,HOK.out⟩,fun h=>absurd rfl h⟩
   | false =>
    have CE1:Hid (∀w,GR g b w->VS b s j 0 c w->Calls Tryz.prog 61 #[.pointer (some ⟨g,0,none⟩)] w fun e w'=>e=.returned (.bool false)/\∃n,w'=w.drewN n):=fun w h1 h2=>by have:=CE.out j c w HJ.out.1 h1 h2;rw [hen] at this;exact this
    have hen':¬ endsAt l j=true:=by rw [hen];decide
    have BAD:Hid (¬ (rdPa l (rdSign l j).2).1=0->R=((rdPa l (rdSign l j).2).1,(rdPa l (rdSign l j).2).2.1,acc.map teOf)):=fun h=>by rw [<-HDS.out];exact dset_bad hen' h
    have MORE:Hid ((rdPa l (rdSign l j).2).1=0->¬ (((rdSign l j).1 < 0/\acc.map teOf=[])/\(rdPa l (rdSign l j).2).2.1 < skipW l (rdPa l (rdSign l j).2).2.1/\l[skipW l (rdPa l (rdSign l j).2).2.1]?=some 45)->¬ (¬ (rdPa l (rdSign l j).2).2.1 < skipW l (rdPa l (rdSign l j).2).2.1/\¬ endsAt l (skipW l (rdPa l (rdSign l j).2).2.1)=true)->R=dset l f (skipW l (rdPa l (rdSign l j).2).2.1) (acc.map teOf++[⟨signOr (rdSign l j).1,(rdPa l (rdSign l j).2).2.2⟩])):=fun h1 h2 h3=>by rw [<-HDS.out];exact dset_more hen' h1 h2 h3
    have GAP:Hid ((rdPa l (rdSign l j).2).1=0->¬ (rdPa l (rdSign l j).2).2.1 < skipW l (rdPa l (rdSign l j).2).2.1->¬ endsAt l (skipW l (rdPa l (rdSign l j).2).2.1)=true->R=(2,skipW l (rdPa l (rdSign l j).2).2.1,acc.map teOf)):=fun h1 h2 h3=>by rw [<-HDS.out];exact dset_gap hen' h1 h2 h3
    have BTW:Hid ((rdPa l (rdSign l j).2).1=0->((rdSign l j).1 < 0/\acc.map teOf=[])/\(rdPa l (rdSign l j).2).2.1 < skipW l (rdPa l (rdSign l j).2).2.1/\l[skipW l (rdPa l (rdSign l j).2).2.1]?=some 45->R=(if skipW l (skipW l (rdPa l (rdSign l j).2).2.1+1)=skipW l (rdPa l (rdSign l j).2).2.1+1 then (2,skipW l (rdPa l (rdSign l j).2).2.1+1,acc.map teOf) else if (rdPa l (skipW l (skipW l (rdPa l (rdSign l j).2).2.1+1))).1=0 then (if endsAt l (skipW l (rdPa l (skipW l (skipW l (rdPa l (rdSign l j).2).2.1+1))).2.1)=true then (0,skipW l (rdPa l (skipW l (skipW l (rdPa l (rdSign l j).2).2.1+1))).2.1,[⟨7,(rdPa l (rdSign l j).2).2.2⟩,⟨2,(rdPa l (skipW l (skipW l (rdPa l (rdSign l j).2).2.1+1))).2.2⟩]) else (2,skipW l (rdPa l (skipW l (skipW l (rdPa l (rdSign l j).2).2.1+1))).2.1,acc.map teOf)) else ((rdPa l (skipW l (skipW l (rdPa l (rdSign l j).2).2.1+1))).1,(rdPa l (skipW l (skipW l (rdPa l (rdSign l j).2).2.1+1))).2.1,acc.map teOf))):=fun h1 h2=>by rw [<-HDS.out];exact dset_bt hen' h1 h2
    have CS1:Hid (∀w,GR g b w->VS b s j 0 c w->Calls Tryz.prog 62 #[.pointer (some ⟨g,0,none⟩)] w fun e w'=>e=.returned (.int .i64 (rdSign l j).1)/\VS b s (rdSign l j).2 0 c w'/\w.grownBy w' (some b)):=fun w h1 h2=>CS.out j c w HJ.out.1 h1 h2
    have HS1:Hid (-1<=(rdSign l j).1/\(rdSign l j).1<=6):=sign_val l j
    have HS2:Hid (j<=(rdSign l j).2/\(rdSign l j).2<=s.size):=HSP.out j HJ.out.1
    obtain ⟨sg,j1,hsg⟩:∃sg j1,rdSign l j=(sg,j1):=⟨_,_,rfl⟩
    rw [hsg] at BAD MORE GAP BTW CS1 HS1 HS2
    simp only [] at BAD MORE GAP BTW CS1 HS1 HS2
    have CP1:Hid (∀w,GR g b w->VS b s j1 0 c w->Calls Tryz.prog 63 #[.pointer (some ⟨g,0,none⟩)] w (QPaPost b s (rdPa l j1) w)):=fun w h1 h2=>CP.out j1 c w HS2.out.2 h1 h2
    have HP1:Hid ((rdPa l j1).1=0->j1 < (rdPa l j1).2.1/\(rdPa l j1).2.1<=s.size/\PaOk (rdPa l j1).2.2):=HPP.out j1 HS2.out.2
    have HP2:Hid ((rdPa l j1).2.2.pre.length<=200):=HPL.out j1
    obtain ⟨E1,J,p,hR⟩:∃E1 J p,rdPa l j1=(E1,J,p):=⟨_,_,_,rfl⟩
    rw [hR] at BAD MORE GAP BTW CP1 HP1 HP2
    simp only [] at BAD MORE GAP BTW HP1 HP2
    clear hen hen' hsg hR HDS
    go_wp2_with (first | (go_at_call 61;refine (CE1.out _ HG.out HV.out).mono ?_))
    rintro e u1 ⟨rfl,n,hn⟩
    replace HV:Hid (VS b s (j) 0 (c) u1):=by show VS _ _ _ _ _ u1;rw [hn];exact HV.out.drew _
    replace HG:Hid (GR g b u1):=by show GR g b u1;rw [hn];exact HG.out
    replace HO:Hid (OT u1 B (.slice o n0 c0) acc):=by show OT u1 B _ _;rw [hn];exact HO.out
    replace HW:Hid (w.grownBy u1 (some b)):=by show w.grownBy u1 (some b);rw [hn];exact gb_drew HW.out _
    clear hn
    go_wp2_with (first | (go_at_call 62;refine (CS1.out _ HG.out HV.out).mono ?_))
    rintro e u2 ⟨rfl,hv,hg⟩
    replace HV:Hid (VS b s (j1) 0 (c) u2):=hv
    replace HG:Hid (GR g b u2):=HG.out.growb hg HB.out.2.2.2
    replace HO:Hid (OT u2 B (.slice o n0 c0) acc):=HO.out.growb hg HB.out.2.1
    replace HW:Hid (w.grownBy u2 (some b)):=gb_trans HW.out hg
    clear hv hg
    go_wp2_with (first | (go_at_call 63;refine (CP1.out _ HG.out HV.out).mono ?_))
    rintro e u3 ⟨m,y1,y2,y3,P,Q,j2,c2,rfl,hv,hg,hok,herr⟩
    replace HV:Hid (VS b s (j2) E1 (c2) u3):=hv
    replace HG:Hid (GR g b u3):=HG.out.growb hg HB.out.2.2.2
    replace HO:Hid (OT u3 B (.slice o n0 c0) acc):=HO.out.growb hg HB.out.2.1
    replace HW:Hid (w.grownBy u3 (some b)):=gb_trans HW.out hg
    clear hv hg
    have HQK:Hid ((E1=0->j2=J/\m=(p.n:Int)/\y1=p.a/\y2=p.b/\y3=p.c/\P=⟨p.pre.toArray⟩)/\(¬ E1=0->c2=J)):=⟨hok,herr⟩
    clear hok herr
    obtain ⟨D,hD⟩:∃D,u3.heap.size=D:=⟨_,rfl⟩
    obtain ⟨W,hW⟩:∃W,u3.alloc (.cells #[.int .i64 m,.int .i64 y1,.int .i64 y2,.int .i64 y3,.string P,.string Q] 82)=W:=⟨_,rfl⟩
    have hgW:u3.grownBy W none:=by rw [<-hW];exact gb_alloc (gb_refl u3 none) _
    have HD:Hid (VP D m y1 y2 y3 P Q W):=by show W.heap[D]?=_;rw [<-hW,<-hD];exact heap_alloc_new u3 _
    have HDB:Hid (B<=D/\D ≠ b/\D ≠ g):=by have h1:=HW.out.size;have h2:=HB.out;rw [h2.1,hD] at h1;refine ⟨h1,?_,?_⟩ <;> omega
    replace HV:Hid (VS b s j2 E1 c2 W):=HV.out.grow hgW (by simp)
    replace HG:Hid (GR g b W):=HG.out.grow hgW
    replace HO:Hid (OT W B (.slice o n0 c0) acc):=HO.out.grow hgW
    replace HW:Hid (w.grownBy W (some b)):=gb_trans HW.out (gb_weak hgW _)
    clear hgW
    by_cases hE1:E1=0
    ·subst hE1
     obtain ⟨q1,q2,q3,q4,q5,q6⟩:=HQK.out.1 rfl
     obtain ⟨z1,z2,z3⟩:=HP1.out rfl
     have HQ:Hid (m=(p.n:Int)/\y1=p.a/\y2=p.b/\y3=p.c/\P=⟨p.pre.toArray⟩):=⟨q2,q3,q4,q5,q6⟩
     have HP:Hid (j1 < J/\J<=s.size/\PaOk p):=⟨z1,z2,z3⟩
     subst q1
     clear q2 q3 q4 q5 q6 z1 z2 z3
     have CB1:Hid (∀w,GR g b w->VS b s j2 0 c2 w->Calls Tryz.prog 34 #[.pointer (some ⟨g,0,none⟩)] w fun e w'=>e=.returned (.bool (decide (j2 < skipW l j2)))/\VS b s (skipW l j2) 0 c2 w'/\w.grownBy w' (some b)):=fun w h1 h2=>CB.out j2 c2 w HP.out.2.1 h1 h2
     have HK:Hid (j2<=skipW l j2/\skipW l j2<=s.size):=HSK.out j2 HP.out.2.1
     obtain ⟨K,hK⟩:∃K,skipW l j2=K:=⟨_,rfl⟩
     rw [hK] at MORE GAP BTW CB1 HK
     clear hK BAD
     obtain ⟨ap,hap⟩:∃ap,decide (j2 < K)=ap:=⟨_,rfl⟩
     rw [hap] at CB1
     have HAP:Hid (decide (j2 < K)=ap):=hap
     clear hap
     go_wp2_with (first | (go_at_call 34;refine (CB1.out _ HG.out HV.out).mono ?_))
     rintro e u4 ⟨rfl,hv,hg⟩
     replace HV:Hid (VS b s K 0 (c2) u4):=hv
     replace HG:Hid (GR g b u4):=HG.out.growb hg HB.out.2.2.2
     replace HO:Hid (OT u4 B (.slice o n0 c0) acc):=HO.out.growb hg HB.out.2.1
     replace HD:Hid (VP D m y1 y2 y3 P Q u4):=HD.out.grow hg HDB.out.2.1
     replace HW:Hid (w.grownBy u4 (some b)):=gb_trans HW.out hg
     clear hv hg
     clear hW hD
     cases hlz:decide (n0=0) with
     | false =>
      have HNZ:Hid (¬ acc.map teOf=[]):=by show ¬ _;intro h;have h2:=of_decide_eq_false hlz;rw [List.map_eq_nil_iff] at h;rw [<-HN0.out.1,h] at h2;exact h2 rfl
      have hlen:((n0:Int) == 0)=false:=by have:=of_decide_eq_false hlz;simp;omega
      clear hlz
      by_cases hsn:sg < 0
      ·have HSN:Hid (sg < 0):=hsn
       cases ap with
       | false =>
        obtain ⟨k0,k1,k2,k3,k4,k5⟩:=HD.out.cells
        have hinfo:=infoTe
        obtain ⟨i1,hj0,hjj⟩:=Option.map_eq_some_iff.1 hinfo
        have hy0:i1.zero=some (.agg #[.int .i64 0,.int .i64 0,.int .i64 0,.int .i64 0,.int .i64 0,.string ⟨#[]⟩,.string ⟨#[]⟩]):=congrArg (·.1) hjj
        have hy1:i1.size=7:=congrArg (·.2.1) hjj
        have hyb:i1.bytes=72:=congrArg (·.2.2) hjj
        clear hjj hinfo
        obtain ⟨tq,htq⟩:∃tq:Tq,tq=⟨0,m,y1,y2,y3,P,Q⟩:=⟨_,rfl⟩
        have HTQ:Hid (tq=⟨0,m,y1,y2,y3,P,Q⟩):=htq
        have htc:tqC tq=[.int .i64 (0),.int .i64 m,.int .i64 y1,.int .i64 y2,.int .i64 y3,.string P,.string Q]:=by rw [htq];rfl
        have HTC:Hid (tqC tq=[.int .i64 (0),.int .i64 m,.int .i64 y1,.int .i64 y2,.int .i64 y3,.string P,.string Q]):=htc
        clear htq htc
        go_wp2_with (first | (at_builtin;refine wpList_append_own _ rfl _ _ 53 rfl B 84 i1 _ 7 72 Tryz.underlying53 hj0 hy0 hy1 hyb rfl (by decide) _ _ _ rfl (by have h:=HO.out;unfold OT at h;rw [HN0.out.1] at h;exact h.alloc _) _ 1 1 (tqC tq) rfl (by rw [HTC.out];rfl) (by rw [HTC.out];exact World.news_of_block (heap_alloc_new _ _)) (tq_one tq) (by unfold maxLen;have:=HN0.out;omega) (by have:=HN0.out;omega) (by have h1:=HW.out.size;rw [HB.out.1] at h1;simp;omega) ?_;intro v' u9 hown hgrow _))
        have hga:u4.grownBy (u4.alloc (.cells #[.int .i64 (0),.int .i64 m,.int .i64 y1,.int .i64 y2,.int .i64 y3,.string P,.string Q] 84)) none:=gb_alloc (gb_refl _ none) _
        have hfar:=HO.out.far
        have HON:Hid (OT u9 B v' (acc++[tq])):=by show OT u9 B v' _;unfold OT;rw [List.length_append,List.flatMap_append,HN0.out.1];simpa using hown
        replace HV:=(HV.out.grow hga (by simp)).grow hgrow (fun e=>by have:=hfar b e.symm;have:=HB.out;omega)
        replace HG:Hid (GR g b u9):=(HG.out.grow hga).growr hgrow (fun e=>by have:=hfar g e.symm;have:=HB.out;omega)
        replace HW:Hid (w.grownBy u9 (some b)):=gb_rowb (gb_trans HW.out (gb_weak hga _)) hgrow (fun q hq=>by rw [HB.out.1];exact hfar q hq)
        have HLN:Hid ((acc++[tq]).length<=1000):=by show _<=_;rw [List.length_append,HN0.out.1];have:=HJ.out;have:=HLL.out.2;first | (simp;omega) | simp
        obtain ⟨o9,c9,hvn⟩:=HON.out.slice
        obtain ⟨n9,hn9⟩:∃n9,(acc++[tq]).length=n9:=⟨_,rfl⟩
        rw [hn9] at hvn
        rw [hvn] at HON
        try rw [hvn]
        clear hn9
        clear hown hgrow hga hfar hj0 hy0 hy1 hyb k0 k1 k2 k3 k4 k5 hvn
        have HVh:Hid (VS b s K 0 c2 u9):=HV
        clear HV
        cases hen:endsAt l K with
        | true =>
         have CE2:Hid (∀w,GR g b w->VS b s K 0 c2 w->Calls Tryz.prog 61 #[.pointer (some ⟨g,0,none⟩)] w fun e w'=>e=.returned (.bool true)/\∃n,w'=w.drewN n):=fun w h1 h2=>by have:=CE.out K c2 w HK.out.2 h1 h2;rw [hen] at this;exact this
         have HNX:Hid (R=dset l f K ((acc++[tq]).map teOf)):=by
          show R=_
          rw [List.map_append,show [tq].map teOf=[⟨signOr sg,p⟩] by rw [HTQ.out];simp only [List.map_cons,List.map_nil];rw [te_of (p:=p) _ HQ.out.1 HQ.out.2.1 HQ.out.2.2.1 HQ.out.2.2.2.1 HQ.out.2.2.2.2];unfold signOr;rw [if_pos HSN.out]]
          exact MORE.out (by first | trivial | rfl) (fun h=>HNZ.out h.1.2) (fun h=>h.2 hen)
         have HTK:Hid (∀x ∈ acc++[tq],TqOk x):=by
          intro x hx
          rcases List.mem_append.1 hx with h | h
          ·exact HOK.out x h
          ·rw [List.mem_singleton.1 h,HTQ.out];exact tq_ok (p:=p) _ (by omega) HP.out.2.2 HP2.out HQ.out.1 HQ.out.2.1 HQ.out.2.2.1 HQ.out.2.2.2.1 HQ.out.2.2.2.2
         clear hen
         go_wp2_with (first | (go_at_call 61;refine (CE2.out _ HG.out HVh.out).mono ?_))
         rintro e u10 ⟨rfl,n,hn⟩
         have HF:Hid (VS b s K 0 c2 u10/\GR g b u10/\OT u10 B (.slice o9 n9 c9) (acc++[tq])/\w.grownBy u10 (some b)):=by
          rw [hn];exact ⟨HVh.out.drew _,HG.out,HON.out,gb_drew HW.out _⟩
         clear hn
         go_wp2
         go_roundw
         case rel=>exact DRel.ok (f:=f) HF.out.1 HF.out.2.1 HF.out.2.2.1 HF.out.2.2.2 HLN.out HK.out.2 (by rw [List.length_append,HN0.out.1];have:=HJ.out;have:=HS2.out;have:=HP.out;have:=HK.out;first | (simp;omega) | simp) (by have:=HJ.out;have:=HS2.out;have:=HP.out;have:=HK.out;omega) HNX.out.symm HTK.out
         case measure=>rw [HM.out,HF.out.1.meas0];have:=HJ.out;have:=HS2.out;have:=HP.out;have:=HK.out;omega
        | false =>
         have CE2:Hid (∀w,GR g b w->VS b s K 0 c2 w->Calls Tryz.prog 61 #[.pointer (some ⟨g,0,none⟩)] w fun e w'=>e=.returned (.bool false)/\∃n,w'=w.drewN n):=fun w h1 h2=>by have:=CE.out K c2 w HK.out.2 h1 h2;rw [hen] at this;exact this
         have HZ:Hid (R=(2,K,acc.map teOf)):=GAP.out (by first | trivial | rfl) (of_decide_eq_false HAP.out) (by rw [hen];decide)
         clear hen
         go_wp2_with (first | (go_at_call 61;refine (CE2.out _ HG.out HVh.out).mono ?_))
         rintro e u10 ⟨rfl,n,hn⟩
         have HF:Hid (VS b s K 0 c2 u10/\GR g b u10/\OT u10 B (.slice o9 n9 c9) (acc++[tq])/\w.grownBy u10 (some b)):=by
          rw [hn];exact ⟨HVh.out.drew _,HG.out,HON.out,gb_drew HW.out _⟩
         clear hn
         have CF1:Hid (∀w,VS b s K 0 c2 w->Calls Tryz.prog 56 #[.pointer (some ⟨b,0,none⟩),.int .i64 2,.int .i64 (K:Int)] w fun e w'=>e=.returned (.tuple #[])/\VS b s K 2 K w'/\w.grownBy w' (some b)):=fun w h=>CF.out K c2 2 K w h
         have e0:u10.cell? ⟨g,0,none⟩=some (.pointer (some ⟨b,0,none⟩)):=HF.out.2.1
         have e1:=(HF.out.1).c1
         go_wp2_with (fail)
         go_region_held3 (fun w'=>w'.cell? ⟨g,0,none⟩=some (.pointer (some ⟨b,0,none⟩))/\w'.cell? ⟨b,1,none⟩=some (.int .i64 (K:Int))) (first | (simp only [cell_drew];exact ⟨e0,e1⟩) | exact hS1) (first | (go_at_call 56;refine (CF1.out _ (by first | exact HF.out.1 | exact VS.drew HF.out.1 1)).mono ?_;rintro e u11 ⟨rfl,hv11,hg11⟩;have hS1:u11.cell? ⟨g,0,none⟩=some (.pointer (some ⟨b,0,none⟩))/\u11.cell? ⟨b,1,none⟩=some (.int .i64 (K:Int)):=⟨GR.growb (b:=b) HF.out.2.1 (gb_undrew hg11) HB.out.2.2.2,hv11.c1⟩))
         have HVF:Hid (VS b s K 2 K u11):=hv11
         have hg11':=gb_undrew hg11
         have HFF:Hid (GR g b u11/\OT u11 B (.slice o9 n9 c9) (acc++[tq])/\w.grownBy u11 (some b)):=⟨HF.out.2.1.growb hg11' HB.out.2.2.2,HF.out.2.2.1.growb hg11' HB.out.2.1,gb_trans HF.out.2.2.2 hg11'⟩
         clear hv11 hg11 hg11' e0 e1 hS1
         go_wp2
         go_roundw
         case rel=>exact DRel.bad HVF.out HFF.out.1 HFF.out.2.1 HFF.out.2.2 HLN.out (by decide) (by rw [HZ.out]) (by rw [HZ.out])
         case measure=>rw [HM.out,HVF.out.measE (by decide)];have:=HJ.out;omega
       | true =>
        obtain ⟨k0,k1,k2,k3,k4,k5⟩:=HD.out.cells
        have hinfo:=infoTe
        obtain ⟨i1,hj0,hjj⟩:=Option.map_eq_some_iff.1 hinfo
        have hy0:i1.zero=some (.agg #[.int .i64 0,.int .i64 0,.int .i64 0,.int .i64 0,.int .i64 0,.string ⟨#[]⟩,.string ⟨#[]⟩]):=congrArg (·.1) hjj
        have hy1:i1.size=7:=congrArg (·.2.1) hjj
        have hyb:i1.bytes=72:=congrArg (·.2.2) hjj
        clear hjj hinfo
        obtain ⟨tq,htq⟩:∃tq:Tq,tq=⟨0,m,y1,y2,y3,P,Q⟩:=⟨_,rfl⟩
        have HTQ:Hid (tq=⟨0,m,y1,y2,y3,P,Q⟩):=htq
        have htc:tqC tq=[.int .i64 (0),.int .i64 m,.int .i64 y1,.int .i64 y2,.int .i64 y3,.string P,.string Q]:=by rw [htq];rfl
        have HTC:Hid (tqC tq=[.int .i64 (0),.int .i64 m,.int .i64 y1,.int .i64 y2,.int .i64 y3,.string P,.string Q]):=htc
        clear htq htc
        go_wp2_with (first | (at_builtin;refine wpList_append_own _ rfl _ _ 53 rfl B 84 i1 _ 7 72 Tryz.underlying53 hj0 hy0 hy1 hyb rfl (by decide) _ _ _ rfl (by have h:=HO.out;unfold OT at h;rw [HN0.out.1] at h;exact h.alloc _) _ 1 1 (tqC tq) rfl (by rw [HTC.out];rfl) (by rw [HTC.out];exact World.news_of_block (heap_alloc_new _ _)) (tq_one tq) (by unfold maxLen;have:=HN0.out;omega) (by have:=HN0.out;omega) (by have h1:=HW.out.size;rw [HB.out.1] at h1;simp;omega) ?_;intro v' u9 hown hgrow _))
        have hga:u4.grownBy (u4.alloc (.cells #[.int .i64 (0),.int .i64 m,.int .i64 y1,.int .i64 y2,.int .i64 y3,.string P,.string Q] 84)) none:=gb_alloc (gb_refl _ none) _
        have hfar:=HO.out.far
        have HON:Hid (OT u9 B v' (acc++[tq])):=by show OT u9 B v' _;unfold OT;rw [List.length_append,List.flatMap_append,HN0.out.1];simpa using hown
        replace HV:=(HV.out.grow hga (by simp)).grow hgrow (fun e=>by have:=hfar b e.symm;have:=HB.out;omega)
        replace HG:Hid (GR g b u9):=(HG.out.grow hga).growr hgrow (fun e=>by have:=hfar g e.symm;have:=HB.out;omega)
        replace HW:Hid (w.grownBy u9 (some b)):=gb_rowb (gb_trans HW.out (gb_weak hga _)) hgrow (fun q hq=>by rw [HB.out.1];exact hfar q hq)
        have HLN:Hid ((acc++[tq]).length<=1000):=by show _<=_;rw [List.length_append,HN0.out.1];have:=HJ.out;have:=HLL.out.2;first | (simp;omega) | simp
        obtain ⟨o9,c9,hvn⟩:=HON.out.slice
        obtain ⟨n9,hn9⟩:∃n9,(acc++[tq]).length=n9:=⟨_,rfl⟩
        rw [hn9] at hvn
        rw [hvn] at HON
        try rw [hvn]
        clear hn9
        clear hown hgrow hga hfar hj0 hy0 hy1 hyb k0 k1 k2 k3 k4 k5 hvn
        have HVh:Hid (VS b s K 0 c2 u9):=HV
        clear HV
        have HNX:Hid (R=dset l f K ((acc++[tq]).map teOf)):=by
         show R=_
         rw [List.map_append,show [tq].map teOf=[⟨signOr sg,p⟩] by rw [HTQ.out];simp only [List.map_cons,List.map_nil];rw [te_of (p:=p) _ HQ.out.1 HQ.out.2.1 HQ.out.2.2.1 HQ.out.2.2.2.1 HQ.out.2.2.2.2];unfold signOr;rw [if_pos HSN.out]]
         exact MORE.out (by first | trivial | rfl) (fun h=>HNZ.out h.1.2) (fun h=>h.1 (of_decide_eq_true HAP.out))
        have HTK:Hid (∀x ∈ acc++[tq],TqOk x):=by
         intro x hx
         rcases List.mem_append.1 hx with h | h
         ·exact HOK.out x h
         ·rw [List.mem_singleton.1 h,HTQ.out];exact tq_ok (p:=p) _ (by omega) HP.out.2.2 HP2.out HQ.out.1 HQ.out.2.1 HQ.out.2.2.1 HQ.out.2.2.2.1 HQ.out.2.2.2.2
        have HF:Hid (VS b s K 0 c2 u9/\GR g b u9/\OT u9 B (.slice o9 n9 c9) (acc++[tq])/\w.grownBy u9 (some b)):=⟨HVh.out,HG.out,HON.out,HW.out⟩
        go_wp2
        go_roundw
        case rel=>exact DRel.ok (f:=f) HF.out.1 HF.out.2.1 HF.out.2.2.1 HF.out.2.2.2 HLN.out HK.out.2 (by rw [List.length_append,HN0.out.1];have:=HJ.out;have:=HS2.out;have:=HP.out;have:=HK.out;first | (simp;omega) | simp) (by have:=HJ.out;have:=HS2.out;have:=HP.out;have:=HK.out;omega) HNX.out.symm HTK.out
        case measure=>rw [HM.out,HF.out.1.meas0];have:=HJ.out;have:=HS2.out;have:=HP.out;have:=HK.out;omega
      ·have HSN:Hid (¬ sg < 0):=hsn
       cases ap with
       | false =>
        obtain ⟨k0,k1,k2,k3,k4,k5⟩:=HD.out.cells
        have hinfo:=infoTe
        obtain ⟨i1,hj0,hjj⟩:=Option.map_eq_some_iff.1 hinfo
        have hy0:i1.zero=some (.agg #[.int .i64 0,.int .i64 0,.int .i64 0,.int .i64 0,.int .i64 0,.string ⟨#[]⟩,.string ⟨#[]⟩]):=congrArg (·.1) hjj
        have hy1:i1.size=7:=congrArg (·.2.1) hjj
        have hyb:i1.bytes=72:=congrArg (·.2.2) hjj
        clear hjj hinfo
        obtain ⟨tq,htq⟩:∃tq:Tq,tq=⟨sg,m,y1,y2,y3,P,Q⟩:=⟨_,rfl⟩
        have HTQ:Hid (tq=⟨sg,m,y1,y2,y3,P,Q⟩):=htq
        have htc:tqC tq=[.int .i64 (sg),.int .i64 m,.int .i64 y1,.int .i64 y2,.int .i64 y3,.string P,.string Q]:=by rw [htq];rfl
        have HTC:Hid (tqC tq=[.int .i64 (sg),.int .i64 m,.int .i64 y1,.int .i64 y2,.int .i64 y3,.string P,.string Q]):=htc
        clear htq htc
        go_wp2_with (first | (at_builtin;refine wpList_append_own _ rfl _ _ 53 rfl B 84 i1 _ 7 72 Tryz.underlying53 hj0 hy0 hy1 hyb rfl (by decide) _ _ _ rfl (by have h:=HO.out;unfold OT at h;rw [HN0.out.1] at h;exact h.alloc _) _ 1 1 (tqC tq) rfl (by rw [HTC.out];rfl) (by rw [HTC.out];exact World.news_of_block (heap_alloc_new _ _)) (tq_one tq) (by unfold maxLen;have:=HN0.out;omega) (by have:=HN0.out;omega) (by have h1:=HW.out.size;rw [HB.out.1] at h1;simp;omega) ?_;intro v' u9 hown hgrow _))
        have hga:u4.grownBy (u4.alloc (.cells #[.int .i64 (sg),.int .i64 m,.int .i64 y1,.int .i64 y2,.int .i64 y3,.string P,.string Q] 84)) none:=gb_alloc (gb_refl _ none) _
        have hfar:=HO.out.far
        have HON:Hid (OT u9 B v' (acc++[tq])):=by show OT u9 B v' _;unfold OT;rw [List.length_append,List.flatMap_append,HN0.out.1];simpa using hown
        replace HV:=(HV.out.grow hga (by simp)).grow hgrow (fun e=>by have:=hfar b e.symm;have:=HB.out;omega)
        replace HG:Hid (GR g b u9):=(HG.out.grow hga).growr hgrow (fun e=>by have:=hfar g e.symm;have:=HB.out;omega)
        replace HW:Hid (w.grownBy u9 (some b)):=gb_rowb (gb_trans HW.out (gb_weak hga _)) hgrow (fun q hq=>by rw [HB.out.1];exact hfar q hq)
        have HLN:Hid ((acc++[tq]).length<=1000):=by show _<=_;rw [List.length_append,HN0.out.1];have:=HJ.out;have:=HLL.out.2;first | (simp;omega) | simp
        obtain ⟨o9,c9,hvn⟩:=HON.out.slice
        obtain ⟨n9,hn9⟩:∃n9,(acc++[tq]).length=n9:=⟨_,rfl⟩
        rw [hn9] at hvn
        rw [hvn] at HON
        try rw [hvn]
        clear hn9
        clear hown hgrow hga hfar hj0 hy0 hy1 hyb k0 k1 k2 k3 k4 k5 hvn
        have HVh:Hid (VS b s K 0 c2 u9):=HV
        clear HV
        cases hen:endsAt l K with
        | true =>
         have CE2:Hid (∀w,GR g b w->VS b s K 0 c2 w->Calls Tryz.prog 61 #[.pointer (some ⟨g,0,none⟩)] w fun e w'=>e=.returned (.bool true)/\∃n,w'=w.drewN n):=fun w h1 h2=>by have:=CE.out K c2 w HK.out.2 h1 h2;rw [hen] at this;exact this
         have HNX:Hid (R=dset l f K ((acc++[tq]).map teOf)):=by
          show R=_
          rw [List.map_append,show [tq].map teOf=[⟨signOr sg,p⟩] by rw [HTQ.out];simp only [List.map_cons,List.map_nil];rw [te_of (p:=p) _ HQ.out.1 HQ.out.2.1 HQ.out.2.2.1 HQ.out.2.2.2.1 HQ.out.2.2.2.2];unfold signOr;rw [if_neg (by have:=HSN.out;omega)]]
          exact MORE.out (by first | trivial | rfl) (fun h=>HNZ.out h.1.2) (fun h=>h.2 hen)
         have HTK:Hid (∀x ∈ acc++[tq],TqOk x):=by
          intro x hx
          rcases List.mem_append.1 hx with h | h
          ·exact HOK.out x h
          ·rw [List.mem_singleton.1 h,HTQ.out];exact tq_ok (p:=p) _ (by have:=HSN.out;have:=HS1.out;omega) HP.out.2.2 HP2.out HQ.out.1 HQ.out.2.1 HQ.out.2.2.1 HQ.out.2.2.2.1 HQ.out.2.2.2.2
         clear hen
         go_wp2_with (first | (go_at_call 61;refine (CE2.out _ HG.out HVh.out).mono ?_))
         rintro e u10 ⟨rfl,n,hn⟩
         have HF:Hid (VS b s K 0 c2 u10/\GR g b u10/\OT u10 B (.slice o9 n9 c9) (acc++[tq])/\w.grownBy u10 (some b)):=by
          rw [hn];exact ⟨HVh.out.drew _,HG.out,HON.out,gb_drew HW.out _⟩
         clear hn
         go_wp2
         go_roundw
         case rel=>exact DRel.ok (f:=f) HF.out.1 HF.out.2.1 HF.out.2.2.1 HF.out.2.2.2 HLN.out HK.out.2 (by rw [List.length_append,HN0.out.1];have:=HJ.out;have:=HS2.out;have:=HP.out;have:=HK.out;first | (simp;omega) | simp) (by have:=HJ.out;have:=HS2.out;have:=HP.out;have:=HK.out;omega) HNX.out.symm HTK.out
         case measure=>rw [HM.out,HF.out.1.meas0];have:=HJ.out;have:=HS2.out;have:=HP.out;have:=HK.out;omega
        | false =>
         have CE2:Hid (∀w,GR g b w->VS b s K 0 c2 w->Calls Tryz.prog 61 #[.pointer (some ⟨g,0,none⟩)] w fun e w'=>e=.returned (.bool false)/\∃n,w'=w.drewN n):=fun w h1 h2=>by have:=CE.out K c2 w HK.out.2 h1 h2;rw [hen] at this;exact this
         have HZ:Hid (R=(2,K,acc.map teOf)):=GAP.out (by first | trivial | rfl) (of_decide_eq_false HAP.out) (by rw [hen];decide)
         clear hen
         go_wp2_with (first | (go_at_call 61;refine (CE2.out _ HG.out HVh.out).mono ?_))
         rintro e u10 ⟨rfl,n,hn⟩
         have HF:Hid (VS b s K 0 c2 u10/\GR g b u10/\OT u10 B (.slice o9 n9 c9) (acc++[tq])/\w.grownBy u10 (some b)):=by
          rw [hn];exact ⟨HVh.out.drew _,HG.out,HON.out,gb_drew HW.out _⟩
         clear hn
         have CF1:Hid (∀w,VS b s K 0 c2 w->Calls Tryz.prog 56 #[.pointer (some ⟨b,0,none⟩),.int .i64 2,.int .i64 (K:Int)] w fun e w'=>e=.returned (.tuple #[])/\VS b s K 2 K w'/\w.grownBy w' (some b)):=fun w h=>CF.out K c2 2 K w h
         have e0:u10.cell? ⟨g,0,none⟩=some (.pointer (some ⟨b,0,none⟩)):=HF.out.2.1
         have e1:=(HF.out.1).c1
         go_wp2_with (fail)
         go_region_held3 (fun w'=>w'.cell? ⟨g,0,none⟩=some (.pointer (some ⟨b,0,none⟩))/\w'.cell? ⟨b,1,none⟩=some (.int .i64 (K:Int))) (first | (simp only [cell_drew];exact ⟨e0,e1⟩) | exact hS1) (first | (go_at_call 56;refine (CF1.out _ (by first | exact HF.out.1 | exact VS.drew HF.out.1 1)).mono ?_;rintro e u11 ⟨rfl,hv11,hg11⟩;have hS1:u11.cell? ⟨g,0,none⟩=some (.pointer (some ⟨b,0,none⟩))/\u11.cell? ⟨b,1,none⟩=some (.int .i64 (K:Int)):=⟨GR.growb (b:=b) HF.out.2.1 (gb_undrew hg11) HB.out.2.2.2,hv11.c1⟩))
         have HVF:Hid (VS b s K 2 K u11):=hv11
         have hg11':=gb_undrew hg11
         have HFF:Hid (GR g b u11/\OT u11 B (.slice o9 n9 c9) (acc++[tq])/\w.grownBy u11 (some b)):=⟨HF.out.2.1.growb hg11' HB.out.2.2.2,HF.out.2.2.1.growb hg11' HB.out.2.1,gb_trans HF.out.2.2.2 hg11'⟩
         clear hv11 hg11 hg11' e0 e1 hS1
         go_wp2
         go_roundw
         case rel=>exact DRel.bad HVF.out HFF.out.1 HFF.out.2.1 HFF.out.2.2 HLN.out (by decide) (by rw [HZ.out]) (by rw [HZ.out])
         case measure=>rw [HM.out,HVF.out.measE (by decide)];have:=HJ.out;omega
       | true =>
        obtain ⟨k0,k1,k2,k3,k4,k5⟩:=HD.out.cells
        have hinfo:=infoTe
        obtain ⟨i1,hj0,hjj⟩:=Option.map_eq_some_iff.1 hinfo
        have hy0:i1.zero=some (.agg #[.int .i64 0,.int .i64 0,.int .i64 0,.int .i64 0,.int .i64 0,.string ⟨#[]⟩,.string ⟨#[]⟩]):=congrArg (·.1) hjj
        have hy1:i1.size=7:=congrArg (·.2.1) hjj
        have hyb:i1.bytes=72:=congrArg (·.2.2) hjj
        clear hjj hinfo
        obtain ⟨tq,htq⟩:∃tq:Tq,tq=⟨sg,m,y1,y2,y3,P,Q⟩:=⟨_,rfl⟩
        have HTQ:Hid (tq=⟨sg,m,y1,y2,y3,P,Q⟩):=htq
        have htc:tqC tq=[.int .i64 (sg),.int .i64 m,.int .i64 y1,.int .i64 y2,.int .i64 y3,.string P,.string Q]:=by rw [htq];rfl
        have HTC:Hid (tqC tq=[.int .i64 (sg),.int .i64 m,.int .i64 y1,.int .i64 y2,.int .i64 y3,.string P,.string Q]):=htc
        clear htq htc
        go_wp2_with (first | (at_builtin;refine wpList_append_own _ rfl _ _ 53 rfl B 84 i1 _ 7 72 Tryz.underlying53 hj0 hy0 hy1 hyb rfl (by decide) _ _ _ rfl (by have h:=HO.out;unfold OT at h;rw [HN0.out.1] at h;exact h.alloc _) _ 1 1 (tqC tq) rfl (by rw [HTC.out];rfl) (by rw [HTC.out];exact World.news_of_block (heap_alloc_new _ _)) (tq_one tq) (by unfold maxLen;have:=HN0.out;omega) (by have:=HN0.out;omega) (by have h1:=HW.out.size;rw [HB.out.1] at h1;simp;omega) ?_;intro v' u9 hown hgrow _))
        have hga:u4.grownBy (u4.alloc (.cells #[.int .i64 (sg),.int .i64 m,.int .i64 y1,.int .i64 y2,.int .i64 y3,.string P,.string Q] 84)) none:=gb_alloc (gb_refl _ none) _
        have hfar:=HO.out.far
        have HON:Hid (OT u9 B v' (acc++[tq])):=by show OT u9 B v' _;unfold OT;rw [List.length_append,List.flatMap_append,HN0.out.1];simpa using hown
        replace HV:=(HV.out.grow hga (by simp)).grow hgrow (fun e=>by have:=hfar b e.symm;have:=HB.out;omega)
        replace HG:Hid (GR g b u9):=(HG.out.grow hga).growr hgrow (fun e=>by have:=hfar g e.symm;have:=HB.out;omega)
        replace HW:Hid (w.grownBy u9 (some b)):=gb_rowb (gb_trans HW.out (gb_weak hga _)) hgrow (fun q hq=>by rw [HB.out.1];exact hfar q hq)
        have HLN:Hid ((acc++[tq]).length<=1000):=by show _<=_;rw [List.length_append,HN0.out.1];have:=HJ.out;have:=HLL.out.2;first | (simp;omega) | simp
        obtain ⟨o9,c9,hvn⟩:=HON.out.slice
        obtain ⟨n9,hn9⟩:∃n9,(acc++[tq]).length=n9:=⟨_,rfl⟩
        rw [hn9] at hvn
        rw [hvn] at HON
        try rw [hvn]
        clear hn9
        clear hown hgrow hga hfar hj0 hy0 hy1 hyb k0 k1 k2 k3 k4 k5 hvn
        have HVh:Hid (VS b s K 0 c2 u9):=HV
        clear HV
        have HNX:Hid (R=dset l f K ((acc++[tq]).map teOf)):=by
         show R=_
         rw [List.map_append,show [tq].map teOf=[⟨signOr sg,p⟩] by rw [HTQ.out];simp only [List.map_cons,List.map_nil];rw [te_of (p:=p) _ HQ.out.1 HQ.out.2.1 HQ.out.2.2.1 HQ.out.2.2.2.1 HQ.out.2.2.2.2];unfold signOr;rw [if_neg (by have:=HSN.out;omega)]]
         exact MORE.out (by first | trivial | rfl) (fun h=>HNZ.out h.1.2) (fun h=>h.1 (of_decide_eq_true HAP.out))
        have HTK:Hid (∀x ∈ acc++[tq],TqOk x):=by
         intro x hx
         rcases List.mem_append.1 hx with h | h
         ·exact HOK.out x h
         ·rw [List.mem_singleton.1 h,HTQ.out];exact tq_ok (p:=p) _ (by have:=HSN.out;have:=HS1.out;omega) HP.out.2.2 HP2.out HQ.out.1 HQ.out.2.1 HQ.out.2.2.1 HQ.out.2.2.2.1 HQ.out.2.2.2.2
        have HF:Hid (VS b s K 0 c2 u9/\GR g b u9/\OT u9 B (.slice o9 n9 c9) (acc++[tq])/\w.grownBy u9 (some b)):=⟨HVh.out,HG.out,HON.out,HW.out⟩
        go_wp2
        go_roundw
        case rel=>exact DRel.ok (f:=f) HF.out.1 HF.out.2.1 HF.out.2.2.1 HF.out.2.2.2 HLN.out HK.out.2 (by rw [List.length_append,HN0.out.1];have:=HJ.out;have:=HS2.out;have:=HP.out;have:=HK.out;first | (simp;omega) | simp) (by have:=HJ.out;have:=HS2.out;have:=HP.out;have:=HK.out;omega) HNX.out.symm HTK.out
        case measure=>rw [HM.out,HF.out.1.meas0];have:=HJ.out;have:=HS2.out;have:=HP.out;have:=HK.out;omega
     | true =>
      have HEZ:Hid (acc.map teOf=[]):=by show _=_;have h2:=of_decide_eq_true hlz;rw [List.map_eq_nil_iff];exact List.length_eq_zero_iff.1 (HN0.out.1.trans h2)
      have hn0:n0=0:=of_decide_eq_true hlz
      subst hn0
      clear hlz
      by_cases hsn:sg < 0
      ·have HSN:Hid (sg < 0):=hsn
       cases ap with
       | false =>
        obtain ⟨k0,k1,k2,k3,k4,k5⟩:=HD.out.cells
        have hinfo:=infoTe
        obtain ⟨i1,hj0,hjj⟩:=Option.map_eq_some_iff.1 hinfo
        have hy0:i1.zero=some (.agg #[.int .i64 0,.int .i64 0,.int .i64 0,.int .i64 0,.int .i64 0,.string ⟨#[]⟩,.string ⟨#[]⟩]):=congrArg (·.1) hjj
        have hy1:i1.size=7:=congrArg (·.2.1) hjj
        have hyb:i1.bytes=72:=congrArg (·.2.2) hjj
        clear hjj hinfo
        obtain ⟨tq,htq⟩:∃tq:Tq,tq=⟨0,m,y1,y2,y3,P,Q⟩:=⟨_,rfl⟩
        have HTQ:Hid (tq=⟨0,m,y1,y2,y3,P,Q⟩):=htq
        have htc:tqC tq=[.int .i64 (0),.int .i64 m,.int .i64 y1,.int .i64 y2,.int .i64 y3,.string P,.string Q]:=by rw [htq];rfl
        have HTC:Hid (tqC tq=[.int .i64 (0),.int .i64 m,.int .i64 y1,.int .i64 y2,.int .i64 y3,.string P,.string Q]):=htc
        clear htq htc
        go_wp2_with (first | (at_builtin;refine wpList_append_own _ rfl _ _ 53 rfl B 84 i1 _ 7 72 Tryz.underlying53 hj0 hy0 hy1 hyb rfl (by decide) _ _ _ rfl (by have h:=HO.out;unfold OT at h;rw [HN0.out.1] at h;exact h.alloc _) _ 1 1 (tqC tq) rfl (by rw [HTC.out];rfl) (by rw [HTC.out];exact World.news_of_block (heap_alloc_new _ _)) (tq_one tq) (by unfold maxLen;have:=HN0.out;omega) (by have:=HN0.out;omega) (by have h1:=HW.out.size;rw [HB.out.1] at h1;simp;omega) ?_;intro v' u9 hown hgrow _))
        have hga:u4.grownBy (u4.alloc (.cells #[.int .i64 (0),.int .i64 m,.int .i64 y1,.int .i64 y2,.int .i64 y3,.string P,.string Q] 84)) none:=gb_alloc (gb_refl _ none) _
        have hfar:=HO.out.far
        have HON:Hid (OT u9 B v' (acc++[tq])):=by show OT u9 B v' _;unfold OT;rw [List.length_append,List.flatMap_append,HN0.out.1];simpa using hown
        replace HV:=(HV.out.grow hga (by simp)).grow hgrow (fun e=>by have:=hfar b e.symm;have:=HB.out;omega)
        replace HG:Hid (GR g b u9):=(HG.out.grow hga).growr hgrow (fun e=>by have:=hfar g e.symm;have:=HB.out;omega)
        replace HW:Hid (w.grownBy u9 (some b)):=gb_rowb (gb_trans HW.out (gb_weak hga _)) hgrow (fun q hq=>by rw [HB.out.1];exact hfar q hq)
        have HLN:Hid ((acc++[tq]).length<=1000):=by show _<=_;rw [List.length_append,HN0.out.1];have:=HJ.out;have:=HLL.out.2;first | (simp;omega) | simp
        obtain ⟨o9,c9,hvn⟩:=HON.out.slice
        obtain ⟨n9,hn9⟩:∃n9,(acc++[tq]).length=n9:=⟨_,rfl⟩
        rw [hn9] at hvn
        rw [hvn] at HON
        try rw [hvn]
        clear hn9
        clear hown hgrow hga hfar hj0 hy0 hy1 hyb k0 k1 k2 k3 k4 k5 hvn
        have HVh:Hid (VS b s K 0 c2 u9):=HV
        clear HV
        cases hen:endsAt l K with
        | true =>
         have CE2:Hid (∀w,GR g b w->VS b s K 0 c2 w->Calls Tryz.prog 61 #[.pointer (some ⟨g,0,none⟩)] w fun e w'=>e=.returned (.bool true)/\∃n,w'=w.drewN n):=fun w h1 h2=>by have:=CE.out K c2 w HK.out.2 h1 h2;rw [hen] at this;exact this
         have HNX:Hid (R=dset l f K ((acc++[tq]).map teOf)):=by
          show R=_
          rw [List.map_append,show [tq].map teOf=[⟨signOr sg,p⟩] by rw [HTQ.out];simp only [List.map_cons,List.map_nil];rw [te_of (p:=p) _ HQ.out.1 HQ.out.2.1 HQ.out.2.2.1 HQ.out.2.2.2.1 HQ.out.2.2.2.2];unfold signOr;rw [if_pos HSN.out]]
          exact MORE.out (by first | trivial | rfl) (fun h=>absurd h.2.1 (of_decide_eq_false HAP.out)) (fun h=>h.2 hen)
         have HTK:Hid (∀x ∈ acc++[tq],TqOk x):=by
          intro x hx
          rcases List.mem_append.1 hx with h | h
          ·exact HOK.out x h
          ·rw [List.mem_singleton.1 h,HTQ.out];exact tq_ok (p:=p) _ (by omega) HP.out.2.2 HP2.out HQ.out.1 HQ.out.2.1 HQ.out.2.2.1 HQ.out.2.2.2.1 HQ.out.2.2.2.2
         clear hen
         go_wp2_with (first | (go_at_call 61;refine (CE2.out _ HG.out HVh.out).mono ?_))
         rintro e u10 ⟨rfl,n,hn⟩
         have HF:Hid (VS b s K 0 c2 u10/\GR g b u10/\OT u10 B (.slice o9 n9 c9) (acc++[tq])/\w.grownBy u10 (some b)):=by
          rw [hn];exact ⟨HVh.out.drew _,HG.out,HON.out,gb_drew HW.out _⟩
         clear hn
         go_wp2
         go_roundw
         case rel=>exact DRel.ok (f:=f) HF.out.1 HF.out.2.1 HF.out.2.2.1 HF.out.2.2.2 HLN.out HK.out.2 (by rw [List.length_append,HN0.out.1];have:=HJ.out;have:=HS2.out;have:=HP.out;have:=HK.out;first | (simp;omega) | simp) (by have:=HJ.out;have:=HS2.out;have:=HP.out;have:=HK.out;omega) HNX.out.symm HTK.out
         case measure=>rw [HM.out,HF.out.1.meas0];have:=HJ.out;have:=HS2.out;have:=HP.out;have:=HK.out;omega
        | false =>
         have CE2:Hid (∀w,GR g b w->VS b s K 0 c2 w->Calls Tryz.prog 61 #[.pointer (some ⟨g,0,none⟩)] w fun e w'=>e=.returned (.bool false)/\∃n,w'=w.drewN n):=fun w h1 h2=>by have:=CE.out K c2 w HK.out.2 h1 h2;rw [hen] at this;exact this
         have HZ:Hid (R=(2,K,acc.map teOf)):=GAP.out (by first | trivial | rfl) (of_decide_eq_false HAP.out) (by rw [hen];decide)
         clear hen
         go_wp2_with (first | (go_at_call 61;refine (CE2.out _ HG.out HVh.out).mono ?_))
         rintro e u10 ⟨rfl,n,hn⟩
         have HF:Hid (VS b s K 0 c2 u10/\GR g b u10/\OT u10 B (.slice o9 n9 c9) (acc++[tq])/\w.grownBy u10 (some b)):=by
          rw [hn];exact ⟨HVh.out.drew _,HG.out,HON.out,gb_drew HW.out _⟩
         clear hn
         have CF1:Hid (∀w,VS b s K 0 c2 w->Calls Tryz.prog 56 #[.pointer (some ⟨b,0,none⟩),.int .i64 2,.int .i64 (K:Int)] w fun e w'=>e=.returned (.tuple #[])/\VS b s K 2 K w'/\w.grownBy w' (some b)):=fun w h=>CF.out K c2 2 K w h
         have e0:u10.cell? ⟨g,0,none⟩=some (.pointer (some ⟨b,0,none⟩)):=HF.out.2.1
         have e1:=(HF.out.1).c1
         go_wp2_with (fail)
         go_region_held3 (fun w'=>w'.cell? ⟨g,0,none⟩=some (.pointer (some ⟨b,0,none⟩))/\w'.cell? ⟨b,1,none⟩=some (.int .i64 (K:Int))) (first | (simp only [cell_drew];exact ⟨e0,e1⟩) | exact hS1) (first | (go_at_call 56;refine (CF1.out _ (by first | exact HF.out.1 | exact VS.drew HF.out.1 1)).mono ?_;rintro e u11 ⟨rfl,hv11,hg11⟩;have hS1:u11.cell? ⟨g,0,none⟩=some (.pointer (some ⟨b,0,none⟩))/\u11.cell? ⟨b,1,none⟩=some (.int .i64 (K:Int)):=⟨GR.growb (b:=b) HF.out.2.1 (gb_undrew hg11) HB.out.2.2.2,hv11.c1⟩))
         have HVF:Hid (VS b s K 2 K u11):=hv11
         have hg11':=gb_undrew hg11
         have HFF:Hid (GR g b u11/\OT u11 B (.slice o9 n9 c9) (acc++[tq])/\w.grownBy u11 (some b)):=⟨HF.out.2.1.growb hg11' HB.out.2.2.2,HF.out.2.2.1.growb hg11' HB.out.2.1,gb_trans HF.out.2.2.2 hg11'⟩
         clear hv11 hg11 hg11' e0 e1 hS1
         go_wp2
         go_roundw
         case rel=>exact DRel.bad HVF.out HFF.out.1 HFF.out.2.1 HFF.out.2.2 HLN.out (by decide) (by rw [HZ.out]) (by rw [HZ.out])
         case measure=>rw [HM.out,HVF.out.measE (by decide)];have:=HJ.out;omega
       | true =>
        cases hda:decide (l[K]?=some 45) with
        | false =>
         have CI1:Hid (∀w,GR g b w->VS b s K 0 c2 w->Calls Tryz.prog 36 #[.pointer (some ⟨g,0,none⟩),.string ⟨#[45]⟩] w fun e w'=>e=.returned (.bool (false))/\∃n,w'=w.drewN n):=fun w h1 h2=>by have:=CI.out K c2 w HK.out.2 h1 h2;rw [hda] at this;exact this
         have HND:Hid (¬ l[K]?=some 45):=(of_decide_eq_false hda:¬ l[K]?=some 45)
         clear hda
         go_wp2_with (first | (go_at_call 36;refine (CI1.out _ HG.out HV.out).mono ?_))
         rintro e u5 ⟨rfl,n,hn⟩
         replace HV:Hid (VS b s (K) 0 (c2) u5):=by show VS _ _ _ _ _ u5;rw [hn];exact HV.out.drew _
         replace HG:Hid (GR g b u5):=by show GR g b u5;rw [hn];exact HG.out
         replace HO:Hid (OT u5 B (.slice o 0 c0) acc):=by show OT u5 B _ _;rw [hn];exact HO.out
         replace HD:Hid (VP D m y1 y2 y3 P Q u5):=by show VP D _ _ _ _ _ _ u5;rw [hn];exact HD.out
         replace HW:Hid (w.grownBy u5 (some b)):=by show w.grownBy u5 (some b);rw [hn];exact gb_drew HW.out _
         clear hn
         obtain ⟨k0,k1,k2,k3,k4,k5⟩:=HD.out.cells
         have hinfo:=infoTe
         obtain ⟨i1,hj0,hjj⟩:=Option.map_eq_some_iff.1 hinfo
         have hy0:i1.zero=some (.agg #[.int .i64 0,.int .i64 0,.int .i64 0,.int .i64 0,.int .i64 0,.string ⟨#[]⟩,.string ⟨#[]⟩]):=congrArg (·.1) hjj
         have hy1:i1.size=7:=congrArg (·.2.1) hjj
         have hyb:i1.bytes=72:=congrArg (·.2.2) hjj
         clear hjj hinfo
         obtain ⟨tq,htq⟩:∃tq:Tq,tq=⟨0,m,y1,y2,y3,P,Q⟩:=⟨_,rfl⟩
         have HTQ:Hid (tq=⟨0,m,y1,y2,y3,P,Q⟩):=htq
         have htc:tqC tq=[.int .i64 (0),.int .i64 m,.int .i64 y1,.int .i64 y2,.int .i64 y3,.string P,.string Q]:=by rw [htq];rfl
         have HTC:Hid (tqC tq=[.int .i64 (0),.int .i64 m,.int .i64 y1,.int .i64 y2,.int .i64 y3,.string P,.string Q]):=htc
         clear htq htc
         go_wp2_with (first | (at_builtin;refine wpList_append_own _ rfl _ _ 53 rfl B 84 i1 _ 7 72 Tryz.underlying53 hj0 hy0 hy1 hyb rfl (by decide) _ _ _ rfl (by have h:=HO.out;unfold OT at h;rw [HN0.out.1] at h;exact h.alloc _) _ 1 1 (tqC tq) rfl (by rw [HTC.out];rfl) (by rw [HTC.out];exact World.news_of_block (heap_alloc_new _ _)) (tq_one tq) (by unfold maxLen;have:=HN0.out;omega) (by have:=HN0.out;omega) (by have h1:=HW.out.size;rw [HB.out.1] at h1;simp;omega) ?_;intro v' u9 hown hgrow _))
         have hga:u5.grownBy (u5.alloc (.cells #[.int .i64 (0),.int .i64 m,.int .i64 y1,.int .i64 y2,.int .i64 y3,.string P,.string Q] 84)) none:=gb_alloc (gb_refl _ none) _
         have hfar:=HO.out.far
         have HON:Hid (OT u9 B v' (acc++[tq])):=by show OT u9 B v' _;unfold OT;rw [List.length_append,List.flatMap_append,HN0.out.1];simpa using hown
         replace HV:=(HV.out.grow hga (by simp)).grow hgrow (fun e=>by have:=hfar b e.symm;have:=HB.out;omega)
         replace HG:Hid (GR g b u9):=(HG.out.grow hga).growr hgrow (fun e=>by have:=hfar g e.symm;have:=HB.out;omega)
         replace HW:Hid (w.grownBy u9 (some b)):=gb_rowb (gb_trans HW.out (gb_weak hga _)) hgrow (fun q hq=>by rw [HB.out.1];exact hfar q hq)
         have HLN:Hid ((acc++[tq]).length<=1000):=by show _<=_;rw [List.length_append,HN0.out.1];have:=HJ.out;have:=HLL.out.2;first | (simp;omega) | simp
         obtain ⟨o9,c9,hvn⟩:=HON.out.slice
         obtain ⟨n9,hn9⟩:∃n9,(acc++[tq]).length=n9:=⟨_,rfl⟩
         rw [hn9] at hvn
         rw [hvn] at HON
         try rw [hvn]
         clear hn9
         clear hown hgrow hga hfar hj0 hy0 hy1 hyb k0 k1 k2 k3 k4 k5 hvn
         have HVh:Hid (VS b s K 0 c2 u9):=HV
         clear HV
         have HNX:Hid (R=dset l f K ((acc++[tq]).map teOf)):=by
          show R=_
          rw [List.map_append,show [tq].map teOf=[⟨signOr sg,p⟩] by rw [HTQ.out];simp only [List.map_cons,List.map_nil];rw [te_of (p:=p) _ HQ.out.1 HQ.out.2.1 HQ.out.2.2.1 HQ.out.2.2.2.1 HQ.out.2.2.2.2];unfold signOr;rw [if_pos HSN.out]]
          exact MORE.out (by first | trivial | rfl) (fun h=>HND.out h.2.2) (fun h=>h.1 (of_decide_eq_true HAP.out))
         have HTK:Hid (∀x ∈ acc++[tq],TqOk x):=by
          intro x hx
          rcases List.mem_append.1 hx with h | h
          ·exact HOK.out x h
          ·rw [List.mem_singleton.1 h,HTQ.out];exact tq_ok (p:=p) _ (by omega) HP.out.2.2 HP2.out HQ.out.1 HQ.out.2.1 HQ.out.2.2.1 HQ.out.2.2.2.1 HQ.out.2.2.2.2
         have HF:Hid (VS b s K 0 c2 u9/\GR g b u9/\OT u9 B (.slice o9 n9 c9) (acc++[tq])/\w.grownBy u9 (some b)):=⟨HVh.out,HG.out,HON.out,HW.out⟩
         go_wp2
         go_roundw
         case rel=>exact DRel.ok (f:=f) HF.out.1 HF.out.2.1 HF.out.2.2.1 HF.out.2.2.2 HLN.out HK.out.2 (by rw [List.length_append,HN0.out.1];have:=HJ.out;have:=HS2.out;have:=HP.out;have:=HK.out;first | (simp;omega) | simp) (by have:=HJ.out;have:=HS2.out;have:=HP.out;have:=HK.out;omega) HNX.out.symm HTK.out
         case measure=>rw [HM.out,HF.out.1.meas0];have:=HJ.out;have:=HS2.out;have:=HP.out;have:=HK.out;omega
        | true =>
         have CI1:Hid (∀w,GR g b w->VS b s K 0 c2 w->Calls Tryz.prog 36 #[.pointer (some ⟨g,0,none⟩),.string ⟨#[45]⟩] w fun e w'=>e=.returned (.bool (true))/\∃n,w'=w.drewN n):=fun w h1 h2=>by have:=CI.out K c2 w HK.out.2 h1 h2;rw [hda] at this;exact this
         have HYD:Hid (l[K]?=some 45):=(of_decide_eq_true hda:l[K]?=some 45)
         clear hda
         go_wp2_with (first | (go_at_call 36;refine (CI1.out _ HG.out HV.out).mono ?_))
         rintro e u5 ⟨rfl,n,hn⟩
         replace HV:Hid (VS b s (K) 0 (c2) u5):=by show VS _ _ _ _ _ u5;rw [hn];exact HV.out.drew _
         replace HG:Hid (GR g b u5):=by show GR g b u5;rw [hn];exact HG.out
         replace HO:Hid (OT u5 B (.slice o 0 c0) acc):=by show OT u5 B _ _;rw [hn];exact HO.out
         replace HD:Hid (VP D m y1 y2 y3 P Q u5):=by show VP D _ _ _ _ _ _ u5;rw [hn];exact HD.out
         replace HW:Hid (w.grownBy u5 (some b)):=by show w.grownBy u5 (some b);rw [hn];exact gb_drew HW.out _
         clear hn
         have hb:=BTW.out (by first | trivial | rfl) ⟨⟨HSN.out,HEZ.out⟩,of_decide_eq_true HAP.out,HYD.out⟩
         have HK1:Hid (K+1<=s.size):=by have:=dot_lt HYD.out;rw [HLL.out.1] at this;exact this
         have HK2:Hid (K+1<=skipW l (K+1)/\skipW l (K+1)<=s.size):=HSK.out (K+1) HK1.out
         have CB2:Hid (∀w,GR g b w->VS b s (K+1) 0 c2 w->Calls Tryz.prog 34 #[.pointer (some ⟨g,0,none⟩)] w fun e w'=>e=.returned (.bool (decide (K+1 < skipW l (K+1))))/\VS b s (skipW l (K+1)) 0 c2 w'/\w.grownBy w' (some b)):=fun w h1 h2=>CB.out (K+1) c2 w HK1.out h1 h2
         obtain ⟨K2,hK2⟩:∃K2,skipW l (K+1)=K2:=⟨_,rfl⟩
         rw [hK2] at hb HK2 CB2
         have HBB:Hid (R=_):=hb
         clear hb hK2
         have hwr:IntKind.i64.wrap ((K:Int)+1)=(K:Int)+1:=by rw [IntKind.wrap_i64];have:=HK1.out;have:=HLL.out.2;omega
         have b1:=HV.out.c1
         have bf:=HV.out.f1
         have g0:u5.cell? ⟨g,0,none⟩=some (.pointer (some ⟨b,0,none⟩)):=HG.out
         go_wp2_with (fail)
         obtain ⟨u6,hq⟩:∃q,u5.setCell ⟨b,1,none⟩ (.int .i64 ((K:Int)+1))=q:=⟨_,rfl⟩
         replace HV:Hid (VS b s (K+1) 0 c2 u6):=by show VS _ _ _ _ _ u6;rw [<-hq,show ((K:Int)+1)=((K+1:Nat):Int) by omega];exact HV.out.set1 _
         replace HG:Hid (GR g b u6):=by show GR g b u6;rw [<-hq];exact HG.out.other HB.out.2.2.2 _ _
         replace HD:Hid (VP D m y1 y2 y3 P Q u6):=by show VP D _ _ _ _ _ _ u6;rw [<-hq];exact HD.out.other HDB.out.2.1 _ _
         replace HW:Hid (w.grownBy u6 (some b)):=by show w.grownBy u6 (some b);rw [<-hq];exact gb_set HW.out _ _
         try rw [hq]
         clear hq b1 bf g0 hwr
         by_cases hm:K2=K+1
         ·rw [decide_eq_false (by omega)] at CB2
          have HZ:Hid (R=(2,K+1,acc.map teOf)):=by show R=_;rw [HBB.out,if_pos hm]
          rw [hm] at CB2
          clear hm HBB
          refine (CB2.out _ HG.out HV.out).mono ?_
          rintro e u7 ⟨rfl,hv,hg⟩
          replace HV:Hid (VS b s (K+1) 0 (c2) u7):=hv
          replace HG:Hid (GR g b u7):=HG.out.growb hg HB.out.2.2.2
          replace HD:Hid (VP D m y1 y2 y3 P Q u7):=HD.out.grow hg HDB.out.2.1
          replace HW:Hid (w.grownBy u7 (some b)):=gb_trans HW.out hg
          clear hv hg
          have CF1:Hid (∀w,VS b s (K+1) 0 c2 w->Calls Tryz.prog 56 #[.pointer (some ⟨b,0,none⟩),.int .i64 2,.int .i64 (((K+1:Nat)):Int)] w fun e w'=>e=.returned (.tuple #[])/\VS b s (K+1) 2 (K+1) w'/\w.grownBy w' (some b)):=fun w h=>CF.out (K+1) c2 2 (K+1) w h
          have e0:u7.cell? ⟨g,0,none⟩=some (.pointer (some ⟨b,0,none⟩)):=HG.out
          have e1:=HV.out.c1
          go_wp2_with (fail)
          go_region_held3 (fun w'=>w'.cell? ⟨g,0,none⟩=some (.pointer (some ⟨b,0,none⟩))/\w'.cell? ⟨b,1,none⟩=some (.int .i64 ((K+1:Nat):Int))) (first | (simp only [cell_drew];exact ⟨e0,e1⟩) | exact hS1) (first | (go_at_call 56;refine (CF1.out _ (by first | exact HV.out | exact VS.drew HV.out 1)).mono ?_;rintro e u8 ⟨rfl,hv,hg11⟩;have hS1:u8.cell? ⟨g,0,none⟩=some (.pointer (some ⟨b,0,none⟩))/\u8.cell? ⟨b,1,none⟩=some (.int .i64 ((K+1:Nat):Int)):=⟨GR.growb (b:=b) HG.out (gb_undrew hg11) HB.out.2.2.2,hv.c1⟩))
          have hg:=gb_undrew hg11
          clear hg11 e0 e1 hS1
          replace HV:Hid (VS b s (K+1) 2 (K+1) u8):=hv
          replace HG:Hid (GR g b u8):=HG.out.growb hg HB.out.2.2.2
          replace HD:Hid (VP D m y1 y2 y3 P Q u8):=HD.out.grow hg HDB.out.2.1
          replace HW:Hid (w.grownBy u8 (some b)):=gb_trans HW.out hg
          clear hv hg
          have HEz:Hid (¬ (2:Int)=0):=by show ¬ _;decide
          have CP2:Hid (∀w,GR g b w->VS b s (K+1) 2 (K+1) w->Calls Tryz.prog 63 #[.pointer (some ⟨g,0,none⟩)] w (QLatePost b s 2 (K+1) w)):=fun w h1 h2=>CPL.out (K+1) 2 (K+1) w HEz.out HK1.out h1 h2
          go_wp2_with (first | (go_at_call 63;refine (CP2.out _ HG.out HV.out).mono ?_))
          rintro e u9 ⟨m2,z1,z2,z3,P2,Q2,j3,rfl,hv,hg,hj3⟩
          replace HV:Hid (VS b s (j3) 2 (K+1) u9):=hv
          replace HG:Hid (GR g b u9):=HG.out.growb hg HB.out.2.2.2
          replace HD:Hid (VP D m y1 y2 y3 P Q u9):=HD.out.grow hg HDB.out.2.1
          replace HW:Hid (w.grownBy u9 (some b)):=gb_trans HW.out hg
          clear hv hg
          clear hj3
          obtain ⟨D2,hD2⟩:∃D2,u9.heap.size=D2:=⟨_,rfl⟩
          obtain ⟨W2,hW2⟩:∃W2,u9.alloc (.cells #[.int .i64 m2,.int .i64 z1,.int .i64 z2,.int .i64 z3,.string P2,.string Q2] 82)=W2:=⟨_,rfl⟩
          have hgW:u9.grownBy W2 none:=by rw [<-hW2];exact gb_alloc (gb_refl u9 none) _
          have HD2:Hid (VP D2 m2 z1 z2 z3 P2 Q2 W2):=by show W2.heap[D2]?=_;rw [<-hW2,<-hD2];exact heap_alloc_new u9 _
          have HDB2:Hid (B<=D2/\D2 ≠ b):=by have h1:=HW.out.size;have h2:=HB.out;rw [h2.1,hD2] at h1;refine ⟨h1,?_⟩;omega
          replace HV:Hid (VS b s (j3) 2 (K+1) W2):=HV.out.grow hgW (by simp)
          replace HG:Hid (GR g b W2):=HG.out.grow hgW
          replace HD:Hid (VP D m y1 y2 y3 P Q W2):=HD.out.grow0 hgW
          replace HW:Hid (w.grownBy W2 (some b)):=gb_trans HW.out (gb_weak hgW _)
          clear hgW
          have CB1:Hid (∀w,GR g b w->VS b s (j3) 2 (K+1) w->Calls Tryz.prog 34 #[.pointer (some ⟨g,0,none⟩)] w fun e w'=>e=.returned (.bool false)/\∃n,w'=w.drewN n):=fun w h1 h2=>CBL.out (j3) 2 (K+1) w HEz.out h1 h2
          go_wp2_with (first | (go_at_call 34;refine (CB1.out _ HG.out HV.out).mono ?_))
          rintro e u10 ⟨rfl,n,hn⟩
          replace HV:Hid (VS b s (j3) 2 (K+1) u10):=by show VS _ _ _ _ _ u10;rw [hn];exact HV.out.drew _
          replace HG:Hid (GR g b u10):=by show GR g b u10;rw [hn];exact HG.out
          replace HD:Hid (VP D m y1 y2 y3 P Q u10):=by show VP D _ _ _ _ _ _ u10;rw [hn];exact HD.out
          replace HD2:Hid (VP D2 m2 z1 z2 z3 P2 Q2 u10):=by show VP D2 _ _ _ _ _ _ u10;rw [hn];exact HD2.out
          replace HW:Hid (w.grownBy u10 (some b)):=by show w.grownBy u10 (some b);rw [hn];exact gb_drew HW.out _
          clear hn
          clear hW2 hD2
          have CE3:Hid (∀w,GR g b w->VS b s (j3) 2 (K+1) w->Calls Tryz.prog 61 #[.pointer (some ⟨g,0,none⟩)] w fun e w'=>e=.returned (.bool true)/\∃n,w'=w.drewN n):=fun w h1 h2=>CEL.out (j3) 2 (K+1) w HEz.out h1 h2
          go_wp2_with (first | (go_at_call 61;refine (CE3.out _ HG.out HV.out).mono ?_))
          rintro e u12 ⟨rfl,n,hn⟩
          replace HV:Hid (VS b s (j3) 2 (K+1) u12):=by show VS _ _ _ _ _ u12;rw [hn];exact HV.out.drew _
          replace HG:Hid (GR g b u12):=by show GR g b u12;rw [hn];exact HG.out
          replace HD:Hid (VP D m y1 y2 y3 P Q u12):=by show VP D _ _ _ _ _ _ u12;rw [hn];exact HD.out
          replace HD2:Hid (VP D2 m2 z1 z2 z3 P2 Q2 u12):=by show VP D2 _ _ _ _ _ _ u12;rw [hn];exact HD2.out
          replace HW:Hid (w.grownBy u12 (some b)):=by show w.grownBy u12 (some b);rw [hn];exact gb_drew HW.out _
          clear hn
          obtain ⟨k0,k1,k2,k3,k4,k5⟩:=HD.out.cells
          obtain ⟨r0,r1,r2,r3,r4,r5⟩:=HD2.out.cells
          go_wp2
          go_ret
          have hga:u12.grownBy (u12.alloc (.cells #[.int .i64 7,.int .i64 m,.int .i64 y1,.int .i64 y2,.int .i64 y3,.string P,.string Q,.int .i64 2,.int .i64 m2,.int .i64 z1,.int .i64 z2,.int .i64 z3,.string P2,.string Q2] 84)) none:=gb_alloc (gb_refl _ none) _
          exact ⟨_,2,2,[⟨7,m,y1,y2,y3,P,Q⟩,⟨2,m2,z1,z2,z3,P2,Q2⟩],j3,K+1,rfl,by rw [HZ.out];exact HV.out.grow hga (by simp),OT.two HW.out.size (heap_alloc_new _ _),gb_trans HW.out (gb_weak hga _),fun h=>by rw [HZ.out] at h;exact absurd h (by simp),fun _=>by rw [HZ.out]⟩
         ·rw [decide_eq_true (by have:=HK2.out;omega)] at CB2
          have HBC:Hid (R=if (rdPa l K2).1=0 then (if endsAt l (skipW l (rdPa l K2).2.1)=true then (0,skipW l (rdPa l K2).2.1,[⟨7,p⟩,⟨2,(rdPa l K2).2.2⟩]) else (2,skipW l (rdPa l K2).2.1,acc.map teOf)) else ((rdPa l K2).1,(rdPa l K2).2.1,acc.map teOf)):=by show R=_;rw [HBB.out,if_neg hm]
          have CP2:Hid (∀w,GR g b w->VS b s K2 0 c2 w->Calls Tryz.prog 63 #[.pointer (some ⟨g,0,none⟩)] w (QPaPost b s (rdPa l K2) w)):=fun w h1 h2=>CP.out K2 c2 w HK2.out.2 h1 h2
          have HX1:Hid ((rdPa l K2).1=0->K2 < (rdPa l K2).2.1/\(rdPa l K2).2.1<=s.size/\PaOk (rdPa l K2).2.2):=HPP.out K2 HK2.out.2
          have HX2:Hid ((rdPa l K2).2.2.pre.length<=200):=HPL.out K2
          obtain ⟨E2,J2,q,hR2⟩:∃E2 J2 q,rdPa l K2=(E2,J2,q):=⟨_,_,_,rfl⟩
          rw [hR2] at HBC CP2 HX1 HX2
          simp only [] at HBC HX1 HX2
          clear hR2 hm HBB
          refine (CB2.out _ HG.out HV.out).mono ?_
          rintro e u7 ⟨rfl,hv,hg⟩
          replace HV:Hid (VS b s K2 0 (c2) u7):=hv
          replace HG:Hid (GR g b u7):=HG.out.growb hg HB.out.2.2.2
          replace HD:Hid (VP D m y1 y2 y3 P Q u7):=HD.out.grow hg HDB.out.2.1
          replace HW:Hid (w.grownBy u7 (some b)):=gb_trans HW.out hg
          clear hv hg
          go_wp2_with (first | (go_at_call 63;refine (CP2.out _ HG.out HV.out).mono ?_))
          rintro e u9 ⟨m2,z1,z2,z3,P2,Q2,j3,c3,rfl,hv,hg,hok,herr⟩
          replace HV:Hid (VS b s (j3) E2 (c3) u9):=hv
          replace HG:Hid (GR g b u9):=HG.out.growb hg HB.out.2.2.2
          replace HD:Hid (VP D m y1 y2 y3 P Q u9):=HD.out.grow hg HDB.out.2.1
          replace HW:Hid (w.grownBy u9 (some b)):=gb_trans HW.out hg
          clear hv hg
          have HQ3:Hid ((E2=0->j3=J2/\m2=(q.n:Int)/\z1=q.a/\z2=q.b/\z3=q.c/\P2=⟨q.pre.toArray⟩)/\(¬ E2=0->c3=J2)):=⟨hok,herr⟩
          clear hok herr
          obtain ⟨D2,hD2⟩:∃D2,u9.heap.size=D2:=⟨_,rfl⟩
          obtain ⟨W2,hW2⟩:∃W2,u9.alloc (.cells #[.int .i64 m2,.int .i64 z1,.int .i64 z2,.int .i64 z3,.string P2,.string Q2] 82)=W2:=⟨_,rfl⟩
          have hgW:u9.grownBy W2 none:=by rw [<-hW2];exact gb_alloc (gb_refl u9 none) _
          have HD2:Hid (VP D2 m2 z1 z2 z3 P2 Q2 W2):=by show W2.heap[D2]?=_;rw [<-hW2,<-hD2];exact heap_alloc_new u9 _
          have HDB2:Hid (B<=D2/\D2 ≠ b):=by have h1:=HW.out.size;have h2:=HB.out;rw [h2.1,hD2] at h1;refine ⟨h1,?_⟩;omega
          replace HV:Hid (VS b s (j3) E2 (c3) W2):=HV.out.grow hgW (by simp)
          replace HG:Hid (GR g b W2):=HG.out.grow hgW
          replace HD:Hid (VP D m y1 y2 y3 P Q W2):=HD.out.grow0 hgW
          replace HW:Hid (w.grownBy W2 (some b)):=gb_trans HW.out (gb_weak hgW _)
          clear hgW
          by_cases hE2:E2=0
          ·subst hE2
           obtain ⟨f1,f2,f3,f4,f5,f6⟩:=HQ3.out.1 rfl
           obtain ⟨h1,h2,h3⟩:=HX1.out rfl
           have HQ4:Hid (m2=(q.n:Int)/\z1=q.a/\z2=q.b/\z3=q.c/\P2=⟨q.pre.toArray⟩):=⟨f2,f3,f4,f5,f6⟩
           have HX:Hid (J2<=s.size/\PaOk q):=⟨h2,h3⟩
           subst f1
           clear f2 f3 f4 f5 f6 h1 h2 h3
           rw [if_pos rfl] at HBC
           have CB3:Hid (∀w,GR g b w->VS b s j3 0 c3 w->Calls Tryz.prog 34 #[.pointer (some ⟨g,0,none⟩)] w fun e w'=>e=.returned (.bool (decide (j3 < skipW l j3)))/\VS b s (skipW l j3) 0 c3 w'/\w.grownBy w' (some b)):=fun w h1 h2=>CB.out j3 c3 w HX.out.1 h1 h2
           have HK3:Hid (skipW l j3<=s.size):=(HSK.out j3 HX.out.1).2
           obtain ⟨K3,hK3⟩:∃K3,skipW l j3=K3:=⟨_,rfl⟩
           rw [hK3] at CB3 HK3 HBC
           obtain ⟨ap3,hap3⟩:∃ap3,decide (j3 < K3)=ap3:=⟨_,rfl⟩
           rw [hap3] at CB3
           clear hK3 hap3
           go_wp2_with (first | (go_at_call 34;refine (CB3.out _ HG.out HV.out).mono ?_))
           rintro e u10 ⟨rfl,hv,hg⟩
           replace HV:Hid (VS b s K3 0 (c3) u10):=hv
           replace HG:Hid (GR g b u10):=HG.out.growb hg HB.out.2.2.2
           replace HD:Hid (VP D m y1 y2 y3 P Q u10):=HD.out.grow hg HDB.out.2.1
           replace HD2:Hid (VP D2 m2 z1 z2 z3 P2 Q2 u10):=HD2.out.grow hg HDB2.out.2
           replace HW:Hid (w.grownBy u10 (some b)):=gb_trans HW.out hg
           clear hv hg
           clear hW2 hD2
           cases hen3:endsAt l K3 with
           | true =>
            have HZ:Hid (R=(0,K3,[⟨7,p⟩,⟨2,q⟩])):=by show R=_;rw [HBC.out,if_pos hen3]
            have CE3:Hid (∀w,GR g b w->VS b s K3 0 c3 w->Calls Tryz.prog 61 #[.pointer (some ⟨g,0,none⟩)] w fun e w'=>e=.returned (.bool true)/\∃n,w'=w.drewN n):=fun w h1 h2=>by have:=CE.out K3 c3 w HK3.out h1 h2;rw [hen3] at this;exact this
            clear hen3
            go_wp2_with (first | (go_at_call 61;refine (CE3.out _ HG.out HV.out).mono ?_))
            rintro e u12 ⟨rfl,n,hn⟩
            replace HV:Hid (VS b s (K3) 0 (c3) u12):=by show VS _ _ _ _ _ u12;rw [hn];exact HV.out.drew _
            replace HG:Hid (GR g b u12):=by show GR g b u12;rw [hn];exact HG.out
            replace HD:Hid (VP D m y1 y2 y3 P Q u12):=by show VP D _ _ _ _ _ _ u12;rw [hn];exact HD.out
            replace HD2:Hid (VP D2 m2 z1 z2 z3 P2 Q2 u12):=by show VP D2 _ _ _ _ _ _ u12;rw [hn];exact HD2.out
            replace HW:Hid (w.grownBy u12 (some b)):=by show w.grownBy u12 (some b);rw [hn];exact gb_drew HW.out _
            clear hn
            obtain ⟨k0,k1,k2,k3,k4,k5⟩:=HD.out.cells
            obtain ⟨r0,r1,r2,r3,r4,r5⟩:=HD2.out.cells
            go_wp2
            go_ret
            have hga:u12.grownBy (u12.alloc (.cells #[.int .i64 7,.int .i64 m,.int .i64 y1,.int .i64 y2,.int .i64 y3,.string P,.string Q,.int .i64 2,.int .i64 m2,.int .i64 z1,.int .i64 z2,.int .i64 z3,.string P2,.string Q2] 84)) none:=gb_alloc (gb_refl _ none) _
            exact ⟨_,2,2,[⟨7,m,y1,y2,y3,P,Q⟩,⟨2,m2,z1,z2,z3,P2,Q2⟩],K3,c3,rfl,by rw [HZ.out];exact HV.out.grow hga (by simp),OT.two HW.out.size (heap_alloc_new _ _),gb_trans HW.out (gb_weak hga _),fun _=>(by
             rw [HZ.out]
             refine ⟨?_,rfl,?_⟩
             ·simp only [List.map_cons,List.map_nil]
              rw [te_of (p:=p) 7 HQ.out.1 HQ.out.2.1 HQ.out.2.2.1 HQ.out.2.2.2.1 HQ.out.2.2.2.2,te_of (p:=q) 2 HQ4.out.1 HQ4.out.2.1 HQ4.out.2.2.1 HQ4.out.2.2.2.1 HQ4.out.2.2.2.2]
             ·intro x hx
              simp only [List.mem_cons,List.not_mem_nil,or_false] at hx
              rcases hx with rfl | rfl
              ·exact tq_ok (p:=p) 7 (by decide) HP.out.2.2 HP2.out HQ.out.1 HQ.out.2.1 HQ.out.2.2.1 HQ.out.2.2.2.1 HQ.out.2.2.2.2
              ·exact tq_ok (p:=q) 2 (by decide) HX.out.2 HX2.out HQ4.out.1 HQ4.out.2.1 HQ4.out.2.2.1 HQ4.out.2.2.2.1 HQ4.out.2.2.2.2),fun h=>absurd (by rw [HZ.out]) h⟩
           | false =>
            have HZ:Hid (R=(2,K3,acc.map teOf)):=by show R=_;rw [HBC.out,if_neg (by rw [hen3];decide)]
            have CE3:Hid (∀w,GR g b w->VS b s K3 0 c3 w->Calls Tryz.prog 61 #[.pointer (some ⟨g,0,none⟩)] w fun e w'=>e=.returned (.bool false)/\∃n,w'=w.drewN n):=fun w h1 h2=>by have:=CE.out K3 c3 w HK3.out h1 h2;rw [hen3] at this;exact this
            clear hen3
            go_wp2_with (first | (go_at_call 61;refine (CE3.out _ HG.out HV.out).mono ?_))
            rintro e u12 ⟨rfl,n,hn⟩
            replace HV:Hid (VS b s (K3) 0 (c3) u12):=by show VS _ _ _ _ _ u12;rw [hn];exact HV.out.drew _
            replace HG:Hid (GR g b u12):=by show GR g b u12;rw [hn];exact HG.out
            replace HD:Hid (VP D m y1 y2 y3 P Q u12):=by show VP D _ _ _ _ _ _ u12;rw [hn];exact HD.out
            replace HD2:Hid (VP D2 m2 z1 z2 z3 P2 Q2 u12):=by show VP D2 _ _ _ _ _ _ u12;rw [hn];exact HD2.out
            replace HW:Hid (w.grownBy u12 (some b)):=by show w.grownBy u12 (some b);rw [hn];exact gb_drew HW.out _
            clear hn
            have CF1:Hid (∀w,VS b s K3 0 c3 w->Calls Tryz.prog 56 #[.pointer (some ⟨b,0,none⟩),.int .i64 2,.int .i64 (K3:Int)] w fun e w'=>e=.returned (.tuple #[])/\VS b s K3 2 K3 w'/\w.grownBy w' (some b)):=fun w h=>CF.out K3 c3 2 K3 w h
            have e0:u12.cell? ⟨g,0,none⟩=some (.pointer (some ⟨b,0,none⟩)):=HG.out
            have e1:=HV.out.c1
            go_wp2_with (fail)
            go_region_held3 (fun w'=>w'.cell? ⟨g,0,none⟩=some (.pointer (some ⟨b,0,none⟩))/\w'.cell? ⟨b,1,none⟩=some (.int .i64 ((K3:Nat):Int))) (first | (simp only [cell_drew];exact ⟨e0,e1⟩) | exact hS1) (first | (go_at_call 56;refine (CF1.out _ (by first | exact HV.out | exact VS.drew HV.out 1)).mono ?_;rintro e u13 ⟨rfl,hv,hg11⟩;have hS1:u13.cell? ⟨g,0,none⟩=some (.pointer (some ⟨b,0,none⟩))/\u13.cell? ⟨b,1,none⟩=some (.int .i64 ((K3:Nat):Int)):=⟨GR.growb (b:=b) HG.out (gb_undrew hg11) HB.out.2.2.2,hv.c1⟩))
            have hg:=gb_undrew hg11
            clear hg11 e0 e1 hS1
            replace HV:Hid (VS b s (K3) 2 (K3) u13):=hv
            replace HG:Hid (GR g b u13):=HG.out.growb hg HB.out.2.2.2
            replace HD:Hid (VP D m y1 y2 y3 P Q u13):=HD.out.grow hg HDB.out.2.1
            replace HD2:Hid (VP D2 m2 z1 z2 z3 P2 Q2 u13):=HD2.out.grow hg HDB2.out.2
            replace HW:Hid (w.grownBy u13 (some b)):=gb_trans HW.out hg
            clear hv hg
            obtain ⟨k0,k1,k2,k3,k4,k5⟩:=HD.out.cells
            obtain ⟨r0,r1,r2,r3,r4,r5⟩:=HD2.out.cells
            go_wp2
            go_ret
            have hga:u13.grownBy (u13.alloc (.cells #[.int .i64 7,.int .i64 m,.int .i64 y1,.int .i64 y2,.int .i64 y3,.string P,.string Q,.int .i64 2,.int .i64 m2,.int .i64 z1,.int .i64 z2,.int .i64 z3,.string P2,.string Q2] 84)) none:=gb_alloc (gb_refl _ none) _
            exact ⟨_,2,2,[⟨7,m,y1,y2,y3,P,Q⟩,⟨2,m2,z1,z2,z3,P2,Q2⟩],K3,K3,rfl,by rw [HZ.out];exact HV.out.grow hga (by simp),OT.two HW.out.size (heap_alloc_new _ _),gb_trans HW.out (gb_weak hga _),fun h=>by rw [HZ.out] at h;exact absurd h (by simp),fun _=>by rw [HZ.out]⟩
          ·have HEz:Hid (¬ E2=0):=hE2
           have HZ:Hid (R=(E2,c3,acc.map teOf)):=by show R=_;rw [HBC.out,if_neg hE2,HQ3.out.2 hE2]
           clear hE2
           have CB1:Hid (∀w,GR g b w->VS b s (j3) E2 (c3) w->Calls Tryz.prog 34 #[.pointer (some ⟨g,0,none⟩)] w fun e w'=>e=.returned (.bool false)/\∃n,w'=w.drewN n):=fun w h1 h2=>CBL.out (j3) E2 (c3) w HEz.out h1 h2
           go_wp2_with (first | (go_at_call 34;refine (CB1.out _ HG.out HV.out).mono ?_))
           rintro e u10 ⟨rfl,n,hn⟩
           replace HV:Hid (VS b s (j3) E2 (c3) u10):=by show VS _ _ _ _ _ u10;rw [hn];exact HV.out.drew _
           replace HG:Hid (GR g b u10):=by show GR g b u10;rw [hn];exact HG.out
           replace HD:Hid (VP D m y1 y2 y3 P Q u10):=by show VP D _ _ _ _ _ _ u10;rw [hn];exact HD.out
           replace HD2:Hid (VP D2 m2 z1 z2 z3 P2 Q2 u10):=by show VP D2 _ _ _ _ _ _ u10;rw [hn];exact HD2.out
           replace HW:Hid (w.grownBy u10 (some b)):=by show w.grownBy u10 (some b);rw [hn];exact gb_drew HW.out _
           clear hn
           clear hW2 hD2
           have CE3:Hid (∀w,GR g b w->VS b s (j3) E2 (c3) w->Calls Tryz.prog 61 #[.pointer (some ⟨g,0,none⟩)] w fun e w'=>e=.returned (.bool true)/\∃n,w'=w.drewN n):=fun w h1 h2=>CEL.out (j3) E2 (c3) w HEz.out h1 h2
           go_wp2_with (first | (go_at_call 61;refine (CE3.out _ HG.out HV.out).mono ?_))
           rintro e u12 ⟨rfl,n,hn⟩
           replace HV:Hid (VS b s (j3) E2 (c3) u12):=by show VS _ _ _ _ _ u12;rw [hn];exact HV.out.drew _
           replace HG:Hid (GR g b u12):=by show GR g b u12;rw [hn];exact HG.out
           replace HD:Hid (VP D m y1 y2 y3 P Q u12):=by show VP D _ _ _ _ _ _ u12;rw [hn];exact HD.out
           replace HD2:Hid (VP D2 m2 z1 z2 z3 P2 Q2 u12):=by show VP D2 _ _ _ _ _ _ u12;rw [hn];exact HD2.out
           replace HW:Hid (w.grownBy u12 (some b)):=by show w.grownBy u12 (some b);rw [hn];exact gb_drew HW.out _
           clear hn
           obtain ⟨k0,k1,k2,k3,k4,k5⟩:=HD.out.cells
           obtain ⟨r0,r1,r2,r3,r4,r5⟩:=HD2.out.cells
           go_wp2
           go_ret
           have hga:u12.grownBy (u12.alloc (.cells #[.int .i64 7,.int .i64 m,.int .i64 y1,.int .i64 y2,.int .i64 y3,.string P,.string Q,.int .i64 2,.int .i64 m2,.int .i64 z1,.int .i64 z2,.int .i64 z3,.string P2,.string Q2] 84)) none:=gb_alloc (gb_refl _ none) _
           exact ⟨_,2,2,[⟨7,m,y1,y2,y3,P,Q⟩,⟨2,m2,z1,z2,z3,P2,Q2⟩],j3,c3,rfl,by rw [HZ.out];exact HV.out.grow hga (by simp),OT.two HW.out.size (heap_alloc_new _ _),gb_trans HW.out (gb_weak hga _),fun h=>by rw [HZ.out] at h;exact absurd h HEz.out,fun _=>by rw [HZ.out]⟩
      ·have HSN:Hid (¬ sg < 0):=hsn
       cases ap with
       | false =>
        obtain ⟨k0,k1,k2,k3,k4,k5⟩:=HD.out.cells
        have hinfo:=infoTe
        obtain ⟨i1,hj0,hjj⟩:=Option.map_eq_some_iff.1 hinfo
        have hy0:i1.zero=some (.agg #[.int .i64 0,.int .i64 0,.int .i64 0,.int .i64 0,.int .i64 0,.string ⟨#[]⟩,.string ⟨#[]⟩]):=congrArg (·.1) hjj
        have hy1:i1.size=7:=congrArg (·.2.1) hjj
        have hyb:i1.bytes=72:=congrArg (·.2.2) hjj
        clear hjj hinfo
        obtain ⟨tq,htq⟩:∃tq:Tq,tq=⟨sg,m,y1,y2,y3,P,Q⟩:=⟨_,rfl⟩
        have HTQ:Hid (tq=⟨sg,m,y1,y2,y3,P,Q⟩):=htq
        have htc:tqC tq=[.int .i64 (sg),.int .i64 m,.int .i64 y1,.int .i64 y2,.int .i64 y3,.string P,.string Q]:=by rw [htq];rfl
        have HTC:Hid (tqC tq=[.int .i64 (sg),.int .i64 m,.int .i64 y1,.int .i64 y2,.int .i64 y3,.string P,.string Q]):=htc
        clear htq htc
        go_wp2_with (first | (at_builtin;refine wpList_append_own _ rfl _ _ 53 rfl B 84 i1 _ 7 72 Tryz.underlying53 hj0 hy0 hy1 hyb rfl (by decide) _ _ _ rfl (by have h:=HO.out;unfold OT at h;rw [HN0.out.1] at h;exact h.alloc _) _ 1 1 (tqC tq) rfl (by rw [HTC.out];rfl) (by rw [HTC.out];exact World.news_of_block (heap_alloc_new _ _)) (tq_one tq) (by unfold maxLen;have:=HN0.out;omega) (by have:=HN0.out;omega) (by have h1:=HW.out.size;rw [HB.out.1] at h1;simp;omega) ?_;intro v' u9 hown hgrow _))
        have hga:u4.grownBy (u4.alloc (.cells #[.int .i64 (sg),.int .i64 m,.int .i64 y1,.int .i64 y2,.int .i64 y3,.string P,.string Q] 84)) none:=gb_alloc (gb_refl _ none) _
        have hfar:=HO.out.far
        have HON:Hid (OT u9 B v' (acc++[tq])):=by show OT u9 B v' _;unfold OT;rw [List.length_append,List.flatMap_append,HN0.out.1];simpa using hown
        replace HV:=(HV.out.grow hga (by simp)).grow hgrow (fun e=>by have:=hfar b e.symm;have:=HB.out;omega)
        replace HG:Hid (GR g b u9):=(HG.out.grow hga).growr hgrow (fun e=>by have:=hfar g e.symm;have:=HB.out;omega)
        replace HW:Hid (w.grownBy u9 (some b)):=gb_rowb (gb_trans HW.out (gb_weak hga _)) hgrow (fun q hq=>by rw [HB.out.1];exact hfar q hq)
        have HLN:Hid ((acc++[tq]).length<=1000):=by show _<=_;rw [List.length_append,HN0.out.1];have:=HJ.out;have:=HLL.out.2;first | (simp;omega) | simp
        obtain ⟨o9,c9,hvn⟩:=HON.out.slice
        obtain ⟨n9,hn9⟩:∃n9,(acc++[tq]).length=n9:=⟨_,rfl⟩
        rw [hn9] at hvn
        rw [hvn] at HON
        try rw [hvn]
        clear hn9
        clear hown hgrow hga hfar hj0 hy0 hy1 hyb k0 k1 k2 k3 k4 k5 hvn
        have HVh:Hid (VS b s K 0 c2 u9):=HV
        clear HV
        cases hen:endsAt l K with
        | true =>
         have CE2:Hid (∀w,GR g b w->VS b s K 0 c2 w->Calls Tryz.prog 61 #[.pointer (some ⟨g,0,none⟩)] w fun e w'=>e=.returned (.bool true)/\∃n,w'=w.drewN n):=fun w h1 h2=>by have:=CE.out K c2 w HK.out.2 h1 h2;rw [hen] at this;exact this
         have HNX:Hid (R=dset l f K ((acc++[tq]).map teOf)):=by
          show R=_
          rw [List.map_append,show [tq].map teOf=[⟨signOr sg,p⟩] by rw [HTQ.out];simp only [List.map_cons,List.map_nil];rw [te_of (p:=p) _ HQ.out.1 HQ.out.2.1 HQ.out.2.2.1 HQ.out.2.2.2.1 HQ.out.2.2.2.2];unfold signOr;rw [if_neg (by have:=HSN.out;omega)]]
          exact MORE.out (by first | trivial | rfl) (fun h=>by have:=HSN.out;have:=h.1.1;omega) (fun h=>h.2 hen)
         have HTK:Hid (∀x ∈ acc++[tq],TqOk x):=by
          intro x hx
          rcases List.mem_append.1 hx with h | h
          ·exact HOK.out x h
          ·rw [List.mem_singleton.1 h,HTQ.out];exact tq_ok (p:=p) _ (by have:=HSN.out;have:=HS1.out;omega) HP.out.2.2 HP2.out HQ.out.1 HQ.out.2.1 HQ.out.2.2.1 HQ.out.2.2.2.1 HQ.out.2.2.2.2
         clear hen
         go_wp2_with (first | (go_at_call 61;refine (CE2.out _ HG.out HVh.out).mono ?_))
         rintro e u10 ⟨rfl,n,hn⟩
         have HF:Hid (VS b s K 0 c2 u10/\GR g b u10/\OT u10 B (.slice o9 n9 c9) (acc++[tq])/\w.grownBy u10 (some b)):=by
          rw [hn];exact ⟨HVh.out.drew _,HG.out,HON.out,gb_drew HW.out _⟩
         clear hn
         go_wp2
         go_roundw
         case rel=>exact DRel.ok (f:=f) HF.out.1 HF.out.2.1 HF.out.2.2.1 HF.out.2.2.2 HLN.out HK.out.2 (by rw [List.length_append,HN0.out.1];have:=HJ.out;have:=HS2.out;have:=HP.out;have:=HK.out;first | (simp;omega) | simp) (by have:=HJ.out;have:=HS2.out;have:=HP.out;have:=HK.out;omega) HNX.out.symm HTK.out
         case measure=>rw [HM.out,HF.out.1.meas0];have:=HJ.out;have:=HS2.out;have:=HP.out;have:=HK.out;omega
        | false =>
         have CE2:Hid (∀w,GR g b w->VS b s K 0 c2 w->Calls Tryz.prog 61 #[.pointer (some ⟨g,0,none⟩)] w fun e w'=>e=.returned (.bool false)/\∃n,w'=w.drewN n):=fun w h1 h2=>by have:=CE.out K c2 w HK.out.2 h1 h2;rw [hen] at this;exact this
         have HZ:Hid (R=(2,K,acc.map teOf)):=GAP.out (by first | trivial | rfl) (of_decide_eq_false HAP.out) (by rw [hen];decide)
         clear hen
         go_wp2_with (first | (go_at_call 61;refine (CE2.out _ HG.out HVh.out).mono ?_))
         rintro e u10 ⟨rfl,n,hn⟩
         have HF:Hid (VS b s K 0 c2 u10/\GR g b u10/\OT u10 B (.slice o9 n9 c9) (acc++[tq])/\w.grownBy u10 (some b)):=by
          rw [hn];exact ⟨HVh.out.drew _,HG.out,HON.out,gb_drew HW.out _⟩
         clear hn
         have CF1:Hid (∀w,VS b s K 0 c2 w->Calls Tryz.prog 56 #[.pointer (some ⟨b,0,none⟩),.int .i64 2,.int .i64 (K:Int)] w fun e w'=>e=.returned (.tuple #[])/\VS b s K 2 K w'/\w.grownBy w' (some b)):=fun w h=>CF.out K c2 2 K w h
         have e0:u10.cell? ⟨g,0,none⟩=some (.pointer (some ⟨b,0,none⟩)):=HF.out.2.1
         have e1:=(HF.out.1).c1
         go_wp2_with (fail)
         go_region_held3 (fun w'=>w'.cell? ⟨g,0,none⟩=some (.pointer (some ⟨b,0,none⟩))/\w'.cell? ⟨b,1,none⟩=some (.int .i64 (K:Int))) (first | (simp only [cell_drew];exact ⟨e0,e1⟩) | exact hS1) (first | (go_at_call 56;refine (CF1.out _ (by first | exact HF.out.1 | exact VS.drew HF.out.1 1)).mono ?_;rintro e u11 ⟨rfl,hv11,hg11⟩;have hS1:u11.cell? ⟨g,0,none⟩=some (.pointer (some ⟨b,0,none⟩))/\u11.cell? ⟨b,1,none⟩=some (.int .i64 (K:Int)):=⟨GR.growb (b:=b) HF.out.2.1 (gb_undrew hg11) HB.out.2.2.2,hv11.c1⟩))
         have HVF:Hid (VS b s K 2 K u11):=hv11
         have hg11':=gb_undrew hg11
         have HFF:Hid (GR g b u11/\OT u11 B (.slice o9 n9 c9) (acc++[tq])/\w.grownBy u11 (some b)):=⟨HF.out.2.1.growb hg11' HB.out.2.2.2,HF.out.2.2.1.growb hg11' HB.out.2.1,gb_trans HF.out.2.2.2 hg11'⟩
         clear hv11 hg11 hg11' e0 e1 hS1
         go_wp2
         go_roundw
         case rel=>exact DRel.bad HVF.out HFF.out.1 HFF.out.2.1 HFF.out.2.2 HLN.out (by decide) (by rw [HZ.out]) (by rw [HZ.out])
         case measure=>rw [HM.out,HVF.out.measE (by decide)];have:=HJ.out;omega
       | true =>
        obtain ⟨k0,k1,k2,k3,k4,k5⟩:=HD.out.cells
        have hinfo:=infoTe
        obtain ⟨i1,hj0,hjj⟩:=Option.map_eq_some_iff.1 hinfo
        have hy0:i1.zero=some (.agg #[.int .i64 0,.int .i64 0,.int .i64 0,.int .i64 0,.int .i64 0,.string ⟨#[]⟩,.string ⟨#[]⟩]):=congrArg (·.1) hjj
        have hy1:i1.size=7:=congrArg (·.2.1) hjj
        have hyb:i1.bytes=72:=congrArg (·.2.2) hjj
        clear hjj hinfo
        obtain ⟨tq,htq⟩:∃tq:Tq,tq=⟨sg,m,y1,y2,y3,P,Q⟩:=⟨_,rfl⟩
        have HTQ:Hid (tq=⟨sg,m,y1,y2,y3,P,Q⟩):=htq
        have htc:tqC tq=[.int .i64 (sg),.int .i64 m,.int .i64 y1,.int .i64 y2,.int .i64 y3,.string P,.string Q]:=by rw [htq];rfl
        have HTC:Hid (tqC tq=[.int .i64 (sg),.int .i64 m,.int .i64 y1,.int .i64 y2,.int .i64 y3,.string P,.string Q]):=htc
        clear htq htc
        go_wp2_with (first | (at_builtin;refine wpList_append_own _ rfl _ _ 53 rfl B 84 i1 _ 7 72 Tryz.underlying53 hj0 hy0 hy1 hyb rfl (by decide) _ _ _ rfl (by have h:=HO.out;unfold OT at h;rw [HN0.out.1] at h;exact h.alloc _) _ 1 1 (tqC tq) rfl (by rw [HTC.out];rfl) (by rw [HTC.out];exact World.news_of_block (heap_alloc_new _ _)) (tq_one tq) (by unfold maxLen;have:=HN0.out;omega) (by have:=HN0.out;omega) (by have h1:=HW.out.size;rw [HB.out.1] at h1;simp;omega) ?_;intro v' u9 hown hgrow _))
        have hga:u4.grownBy (u4.alloc (.cells #[.int .i64 (sg),.int .i64 m,.int .i64 y1,.int .i64 y2,.int .i64 y3,.string P,.string Q] 84)) none:=gb_alloc (gb_refl _ none) _
        have hfar:=HO.out.far
        have HON:Hid (OT u9 B v' (acc++[tq])):=by show OT u9 B v' _;unfold OT;rw [List.length_append,List.flatMap_append,HN0.out.1];simpa using hown
        replace HV:=(HV.out.grow hga (by simp)).grow hgrow (fun e=>by have:=hfar b e.symm;have:=HB.out;omega)
        replace HG:Hid (GR g b u9):=(HG.out.grow hga).growr hgrow (fun e=>by have:=hfar g e.symm;have:=HB.out;omega)
        replace HW:Hid (w.grownBy u9 (some b)):=gb_rowb (gb_trans HW.out (gb_weak hga _)) hgrow (fun q hq=>by rw [HB.out.1];exact hfar q hq)
        have HLN:Hid ((acc++[tq]).length<=1000):=by show _<=_;rw [List.length_append,HN0.out.1];have:=HJ.out;have:=HLL.out.2;first | (simp;omega) | simp
        obtain ⟨o9,c9,hvn⟩:=HON.out.slice
        obtain ⟨n9,hn9⟩:∃n9,(acc++[tq]).length=n9:=⟨_,rfl⟩
        rw [hn9] at hvn
        rw [hvn] at HON
        try rw [hvn]
        clear hn9
        clear hown hgrow hga hfar hj0 hy0 hy1 hyb k0 k1 k2 k3 k4 k5 hvn
        have HVh:Hid (VS b s K 0 c2 u9):=HV
        clear HV
        have HNX:Hid (R=dset l f K ((acc++[tq]).map teOf)):=by
         show R=_
         rw [List.map_append,show [tq].map teOf=[⟨signOr sg,p⟩] by rw [HTQ.out];simp only [List.map_cons,List.map_nil];rw [te_of (p:=p) _ HQ.out.1 HQ.out.2.1 HQ.out.2.2.1 HQ.out.2.2.2.1 HQ.out.2.2.2.2];unfold signOr;rw [if_neg (by have:=HSN.out;omega)]]
         exact MORE.out (by first | trivial | rfl) (fun h=>by have:=HSN.out;have:=h.1.1;omega) (fun h=>h.1 (of_decide_eq_true HAP.out))
        have HTK:Hid (∀x ∈ acc++[tq],TqOk x):=by
         intro x hx
         rcases List.mem_append.1 hx with h | h
         ·exact HOK.out x h
         ·rw [List.mem_singleton.1 h,HTQ.out];exact tq_ok (p:=p) _ (by have:=HSN.out;have:=HS1.out;omega) HP.out.2.2 HP2.out HQ.out.1 HQ.out.2.1 HQ.out.2.2.1 HQ.out.2.2.2.1 HQ.out.2.2.2.2
        have HF:Hid (VS b s K 0 c2 u9/\GR g b u9/\OT u9 B (.slice o9 n9 c9) (acc++[tq])/\w.grownBy u9 (some b)):=⟨HVh.out,HG.out,HON.out,HW.out⟩
        go_wp2
        go_roundw
        case rel=>exact DRel.ok (f:=f) HF.out.1 HF.out.2.1 HF.out.2.2.1 HF.out.2.2.2 HLN.out HK.out.2 (by rw [List.length_append,HN0.out.1];have:=HJ.out;have:=HS2.out;have:=HP.out;have:=HK.out;first | (simp;omega) | simp) (by have:=HJ.out;have:=HS2.out;have:=HP.out;have:=HK.out;omega) HNX.out.symm HTK.out
        case measure=>rw [HM.out,HF.out.1.meas0];have:=HJ.out;have:=HS2.out;have:=HP.out;have:=HK.out;omega
    ·have HEz:Hid (¬ E1=0):=hE1
     have HZ:Hid (R=(E1,c2,acc.map teOf)):=by show R=_;rw [BAD.out hE1,HQK.out.2 hE1]
     clear hE1 BAD MORE GAP BTW
     by_cases hsn:sg < 0
     ·cases hlz:decide (n0=0) with
      | false =>
       have hlen:((n0:Int) == 0)=false:=by have:=of_decide_eq_false hlz;simp;omega
       clear hlz
       have CB1:Hid (∀w,GR g b w->VS b s (j2) E1 (c2) w->Calls Tryz.prog 34 #[.pointer (some ⟨g,0,none⟩)] w fun e w'=>e=.returned (.bool false)/\∃n,w'=w.drewN n):=fun w h1 h2=>CBL.out (j2) E1 (c2) w HEz.out h1 h2
       go_wp2_with (first | (go_at_call 34;refine (CB1.out _ HG.out HV.out).mono ?_))
       rintro e u4 ⟨rfl,n,hn⟩
       replace HV:Hid (VS b s (j2) E1 (c2) u4):=by show VS _ _ _ _ _ u4;rw [hn];exact HV.out.drew _
       replace HG:Hid (GR g b u4):=by show GR g b u4;rw [hn];exact HG.out
       replace HO:Hid (OT u4 B (.slice o n0 c0) acc):=by show OT u4 B _ _;rw [hn];exact HO.out
       replace HD:Hid (VP D m y1 y2 y3 P Q u4):=by show VP D _ _ _ _ _ _ u4;rw [hn];exact HD.out
       replace HW:Hid (w.grownBy u4 (some b)):=by show w.grownBy u4 (some b);rw [hn];exact gb_drew HW.out _
       clear hn
       obtain ⟨k0,k1,k2,k3,k4,k5⟩:=HD.out.cells
       have hinfo:=infoTe
       obtain ⟨i1,hj0,hjj⟩:=Option.map_eq_some_iff.1 hinfo
       have hy0:i1.zero=some (.agg #[.int .i64 0,.int .i64 0,.int .i64 0,.int .i64 0,.int .i64 0,.string ⟨#[]⟩,.string ⟨#[]⟩]):=congrArg (·.1) hjj
       have hy1:i1.size=7:=congrArg (·.2.1) hjj
       have hyb:i1.bytes=72:=congrArg (·.2.2) hjj
       clear hjj hinfo
       obtain ⟨tq,htq⟩:∃tq:Tq,tq=⟨0,m,y1,y2,y3,P,Q⟩:=⟨_,rfl⟩
       have HTQ:Hid (tq=⟨0,m,y1,y2,y3,P,Q⟩):=htq
       have htc:tqC tq=[.int .i64 (0),.int .i64 m,.int .i64 y1,.int .i64 y2,.int .i64 y3,.string P,.string Q]:=by rw [htq];rfl
       have HTC:Hid (tqC tq=[.int .i64 (0),.int .i64 m,.int .i64 y1,.int .i64 y2,.int .i64 y3,.string P,.string Q]):=htc
       clear htq htc
       go_wp2_with (first | (at_builtin;refine wpList_append_own _ rfl _ _ 53 rfl B 84 i1 _ 7 72 Tryz.underlying53 hj0 hy0 hy1 hyb rfl (by decide) _ _ _ rfl (by have h:=HO.out;unfold OT at h;rw [HN0.out.1] at h;exact h.alloc _) _ 1 1 (tqC tq) rfl (by rw [HTC.out];rfl) (by rw [HTC.out];exact World.news_of_block (heap_alloc_new _ _)) (tq_one tq) (by unfold maxLen;have:=HN0.out;omega) (by have:=HN0.out;omega) (by have h1:=HW.out.size;rw [HB.out.1] at h1;simp;omega) ?_;intro v' u9 hown hgrow _))
       have hga:u4.grownBy (u4.alloc (.cells #[.int .i64 (0),.int .i64 m,.int .i64 y1,.int .i64 y2,.int .i64 y3,.string P,.string Q] 84)) none:=gb_alloc (gb_refl _ none) _
       have hfar:=HO.out.far
       have HON:Hid (OT u9 B v' (acc++[tq])):=by show OT u9 B v' _;unfold OT;rw [List.length_append,List.flatMap_append,HN0.out.1];simpa using hown
       replace HV:=(HV.out.grow hga (by simp)).grow hgrow (fun e=>by have:=hfar b e.symm;have:=HB.out;omega)
       replace HG:Hid (GR g b u9):=(HG.out.grow hga).growr hgrow (fun e=>by have:=hfar g e.symm;have:=HB.out;omega)
       replace HW:Hid (w.grownBy u9 (some b)):=gb_rowb (gb_trans HW.out (gb_weak hga _)) hgrow (fun q hq=>by rw [HB.out.1];exact hfar q hq)
       have HLN:Hid ((acc++[tq]).length<=1000):=by show _<=_;rw [List.length_append,HN0.out.1];have:=HJ.out;have:=HLL.out.2;first | (simp;omega) | simp
       obtain ⟨o9,c9,hvn⟩:=HON.out.slice
       obtain ⟨n9,hn9⟩:∃n9,(acc++[tq]).length=n9:=⟨_,rfl⟩
       rw [hn9] at hvn
       rw [hvn] at HON
       try rw [hvn]
       clear hn9
       clear hown hgrow hga hfar hj0 hy0 hy1 hyb k0 k1 k2 k3 k4 k5 hvn
       have HVh:Hid (VS b s j2 E1 c2 u9):=HV
       clear HV
       have CE2:Hid (∀w,GR g b w->VS b s j2 E1 c2 w->Calls Tryz.prog 61 #[.pointer (some ⟨g,0,none⟩)] w fun e w'=>e=.returned (.bool true)/\∃n,w'=w.drewN n):=fun w h1 h2=>CEL.out j2 E1 c2 w HEz.out h1 h2
       go_wp2_with (first | (go_at_call 61;refine (CE2.out _ HG.out HVh.out).mono ?_))
       rintro e u10 ⟨rfl,n,hn⟩
       have HF:Hid (VS b s j2 E1 c2 u10/\GR g b u10/\OT u10 B (.slice o9 n9 c9) (acc++[tq])/\w.grownBy u10 (some b)):=by
        rw [hn];exact ⟨HVh.out.drew _,HG.out,HON.out,gb_drew HW.out _⟩
       clear hn
       go_wp2
       go_roundw
       case rel=>exact DRel.bad HF.out.1 HF.out.2.1 HF.out.2.2.1 HF.out.2.2.2 HLN.out HEz.out (by rw [HZ.out]) (by rw [HZ.out])
       case measure=>rw [HM.out,HF.out.1.measE HEz.out];have:=HJ.out;omega
      | true =>
       have hn0:n0=0:=of_decide_eq_true hlz
       subst hn0
       clear hlz
       have CB1:Hid (∀w,GR g b w->VS b s (j2) E1 (c2) w->Calls Tryz.prog 34 #[.pointer (some ⟨g,0,none⟩)] w fun e w'=>e=.returned (.bool false)/\∃n,w'=w.drewN n):=fun w h1 h2=>CBL.out (j2) E1 (c2) w HEz.out h1 h2
       go_wp2_with (first | (go_at_call 34;refine (CB1.out _ HG.out HV.out).mono ?_))
       rintro e u4 ⟨rfl,n,hn⟩
       replace HV:Hid (VS b s (j2) E1 (c2) u4):=by show VS _ _ _ _ _ u4;rw [hn];exact HV.out.drew _
       replace HG:Hid (GR g b u4):=by show GR g b u4;rw [hn];exact HG.out
       replace HO:Hid (OT u4 B (.slice o 0 c0) acc):=by show OT u4 B _ _;rw [hn];exact HO.out
       replace HD:Hid (VP D m y1 y2 y3 P Q u4):=by show VP D _ _ _ _ _ _ u4;rw [hn];exact HD.out
       replace HW:Hid (w.grownBy u4 (some b)):=by show w.grownBy u4 (some b);rw [hn];exact gb_drew HW.out _
       clear hn
       obtain ⟨k0,k1,k2,k3,k4,k5⟩:=HD.out.cells
       have hinfo:=infoTe
       obtain ⟨i1,hj0,hjj⟩:=Option.map_eq_some_iff.1 hinfo
       have hy0:i1.zero=some (.agg #[.int .i64 0,.int .i64 0,.int .i64 0,.int .i64 0,.int .i64 0,.string ⟨#[]⟩,.string ⟨#[]⟩]):=congrArg (·.1) hjj
       have hy1:i1.size=7:=congrArg (·.2.1) hjj
       have hyb:i1.bytes=72:=congrArg (·.2.2) hjj
       clear hjj hinfo
       obtain ⟨tq,htq⟩:∃tq:Tq,tq=⟨0,m,y1,y2,y3,P,Q⟩:=⟨_,rfl⟩
       have HTQ:Hid (tq=⟨0,m,y1,y2,y3,P,Q⟩):=htq
       have htc:tqC tq=[.int .i64 (0),.int .i64 m,.int .i64 y1,.int .i64 y2,.int .i64 y3,.string P,.string Q]:=by rw [htq];rfl
       have HTC:Hid (tqC tq=[.int .i64 (0),.int .i64 m,.int .i64 y1,.int .i64 y2,.int .i64 y3,.string P,.string Q]):=htc
       clear htq htc
       go_wp2_with (first | (at_builtin;refine wpList_append_own _ rfl _ _ 53 rfl B 84 i1 _ 7 72 Tryz.underlying53 hj0 hy0 hy1 hyb rfl (by decide) _ _ _ rfl (by have h:=HO.out;unfold OT at h;rw [HN0.out.1] at h;exact h.alloc _) _ 1 1 (tqC tq) rfl (by rw [HTC.out];rfl) (by rw [HTC.out];exact World.news_of_block (heap_alloc_new _ _)) (tq_one tq) (by unfold maxLen;have:=HN0.out;omega) (by have:=HN0.out;omega) (by have h1:=HW.out.size;rw [HB.out.1] at h1;simp;omega) ?_;intro v' u9 hown hgrow _))
       have hga:u4.grownBy (u4.alloc (.cells #[.int .i64 (0),.int .i64 m,.int .i64 y1,.int .i64 y2,.int .i64 y3,.string P,.string Q] 84)) none:=gb_alloc (gb_refl _ none) _
       have hfar:=HO.out.far
       have HON:Hid (OT u9 B v' (acc++[tq])):=by show OT u9 B v' _;unfold OT;rw [List.length_append,List.flatMap_append,HN0.out.1];simpa using hown
       replace HV:=(HV.out.grow hga (by simp)).grow hgrow (fun e=>by have:=hfar b e.symm;have:=HB.out;omega)
       replace HG:Hid (GR g b u9):=(HG.out.grow hga).growr hgrow (fun e=>by have:=hfar g e.symm;have:=HB.out;omega)
       replace HW:Hid (w.grownBy u9 (some b)):=gb_rowb (gb_trans HW.out (gb_weak hga _)) hgrow (fun q hq=>by rw [HB.out.1];exact hfar q hq)
       have HLN:Hid ((acc++[tq]).length<=1000):=by show _<=_;rw [List.length_append,HN0.out.1];have:=HJ.out;have:=HLL.out.2;first | (simp;omega) | simp
       obtain ⟨o9,c9,hvn⟩:=HON.out.slice
       obtain ⟨n9,hn9⟩:∃n9,(acc++[tq]).length=n9:=⟨_,rfl⟩
       rw [hn9] at hvn
       rw [hvn] at HON
       try rw [hvn]
       clear hn9
       clear hown hgrow hga hfar hj0 hy0 hy1 hyb k0 k1 k2 k3 k4 k5 hvn
       have HVh:Hid (VS b s j2 E1 c2 u9):=HV
       clear HV
       have CE2:Hid (∀w,GR g b w->VS b s j2 E1 c2 w->Calls Tryz.prog 61 #[.pointer (some ⟨g,0,none⟩)] w fun e w'=>e=.returned (.bool true)/\∃n,w'=w.drewN n):=fun w h1 h2=>CEL.out j2 E1 c2 w HEz.out h1 h2
       go_wp2_with (first | (go_at_call 61;refine (CE2.out _ HG.out HVh.out).mono ?_))
       rintro e u10 ⟨rfl,n,hn⟩
       have HF:Hid (VS b s j2 E1 c2 u10/\GR g b u10/\OT u10 B (.slice o9 n9 c9) (acc++[tq])/\w.grownBy u10 (some b)):=by
        rw [hn];exact ⟨HVh.out.drew _,HG.out,HON.out,gb_drew HW.out _⟩
       clear hn
       go_wp2
       go_roundw
       case rel=>exact DRel.bad HF.out.1 HF.out.2.1 HF.out.2.2.1 HF.out.2.2.2 HLN.out HEz.out (by rw [HZ.out]) (by rw [HZ.out])
       case measure=>rw [HM.out,HF.out.1.measE HEz.out];have:=HJ.out;omega
     ·have CB1:Hid (∀w,GR g b w->VS b s (j2) E1 (c2) w->Calls Tryz.prog 34 #[.pointer (some ⟨g,0,none⟩)] w fun e w'=>e=.returned (.bool false)/\∃n,w'=w.drewN n):=fun w h1 h2=>CBL.out (j2) E1 (c2) w HEz.out h1 h2
      go_wp2_with (first | (go_at_call 34;refine (CB1.out _ HG.out HV.out).mono ?_))
      rintro e u4 ⟨rfl,n,hn⟩
      replace HV:Hid (VS b s (j2) E1 (c2) u4):=by show VS _ _ _ _ _ u4;rw [hn];exact HV.out.drew _
      replace HG:Hid (GR g b u4):=by show GR g b u4;rw [hn];exact HG.out
      replace HO:Hid (OT u4 B (.slice o n0 c0) acc):=by show OT u4 B _ _;rw [hn];exact HO.out
      replace HD:Hid (VP D m y1 y2 y3 P Q u4):=by show VP D _ _ _ _ _ _ u4;rw [hn];exact HD.out
      replace HW:Hid (w.grownBy u4 (some b)):=by show w.grownBy u4 (some b);rw [hn];exact gb_drew HW.out _
      clear hn
      obtain ⟨k0,k1,k2,k3,k4,k5⟩:=HD.out.cells
      have hinfo:=infoTe
      obtain ⟨i1,hj0,hjj⟩:=Option.map_eq_some_iff.1 hinfo
      have hy0:i1.zero=some (.agg #[.int .i64 0,.int .i64 0,.int .i64 0,.int .i64 0,.int .i64 0,.string ⟨#[]⟩,.string ⟨#[]⟩]):=congrArg (·.1) hjj
      have hy1:i1.size=7:=congrArg (·.2.1) hjj
      have hyb:i1.bytes=72:=congrArg (·.2.2) hjj
      clear hjj hinfo
      obtain ⟨tq,htq⟩:∃tq:Tq,tq=⟨sg,m,y1,y2,y3,P,Q⟩:=⟨_,rfl⟩
      have HTQ:Hid (tq=⟨sg,m,y1,y2,y3,P,Q⟩):=htq
      have htc:tqC tq=[.int .i64 (sg),.int .i64 m,.int .i64 y1,.int .i64 y2,.int .i64 y3,.string P,.string Q]:=by rw [htq];rfl
      have HTC:Hid (tqC tq=[.int .i64 (sg),.int .i64 m,.int .i64 y1,.int .i64 y2,.int .i64 y3,.string P,.string Q]):=htc
      clear htq htc
      go_wp2_with (first | (at_builtin;refine wpList_append_own _ rfl _ _ 53 rfl B 84 i1 _ 7 72 Tryz.underlying53 hj0 hy0 hy1 hyb rfl (by decide) _ _ _ rfl (by have h:=HO.out;unfold OT at h;rw [HN0.out.1] at h;exact h.alloc _) _ 1 1 (tqC tq) rfl (by rw [HTC.out];rfl) (by rw [HTC.out];exact World.news_of_block (heap_alloc_new _ _)) (tq_one tq) (by unfold maxLen;have:=HN0.out;omega) (by have:=HN0.out;omega) (by have h1:=HW.out.size;rw [HB.out.1] at h1;simp;omega) ?_;intro v' u9 hown hgrow _))
      have hga:u4.grownBy (u4.alloc (.cells #[.int .i64 (sg),.int .i64 m,.int .i64 y1,.int .i64 y2,.int .i64 y3,.string P,.string Q] 84)) none:=gb_alloc (gb_refl _ none) _
      have hfar:=HO.out.far
      have HON:Hid (OT u9 B v' (acc++[tq])):=by show OT u9 B v' _;unfold OT;rw [List.length_append,List.flatMap_append,HN0.out.1];simpa using hown
      replace HV:=(HV.out.grow hga (by simp)).grow hgrow (fun e=>by have:=hfar b e.symm;have:=HB.out;omega)
      replace HG:Hid (GR g b u9):=(HG.out.grow hga).growr hgrow (fun e=>by have:=hfar g e.symm;have:=HB.out;omega)
      replace HW:Hid (w.grownBy u9 (some b)):=gb_rowb (gb_trans HW.out (gb_weak hga _)) hgrow (fun q hq=>by rw [HB.out.1];exact hfar q hq)
      have HLN:Hid ((acc++[tq]).length<=1000):=by show _<=_;rw [List.length_append,HN0.out.1];have:=HJ.out;have:=HLL.out.2;first | (simp;omega) | simp
      obtain ⟨o9,c9,hvn⟩:=HON.out.slice
      obtain ⟨n9,hn9⟩:∃n9,(acc++[tq]).length=n9:=⟨_,rfl⟩
      rw [hn9] at hvn
      rw [hvn] at HON
      try rw [hvn]
      clear hn9
      clear hown hgrow hga hfar hj0 hy0 hy1 hyb k0 k1 k2 k3 k4 k5 hvn
      have HVh:Hid (VS b s j2 E1 c2 u9):=HV
      clear HV
      have CE2:Hid (∀w,GR g b w->VS b s j2 E1 c2 w->Calls Tryz.prog 61 #[.pointer (some ⟨g,0,none⟩)] w fun e w'=>e=.returned (.bool true)/\∃n,w'=w.drewN n):=fun w h1 h2=>CEL.out j2 E1 c2 w HEz.out h1 h2
      go_wp2_with (first | (go_at_call 61;refine (CE2.out _ HG.out HVh.out).mono ?_))
      rintro e u10 ⟨rfl,n,hn⟩
      have HF:Hid (VS b s j2 E1 c2 u10/\GR g b u10/\OT u10 B (.slice o9 n9 c9) (acc++[tq])/\w.grownBy u10 (some b)):=by
       rw [hn];exact ⟨HVh.out.drew _,HG.out,HON.out,gb_drew HW.out _⟩
      clear hn
      go_wp2
      go_roundw
      case rel=>exact DRel.bad HF.out.1 HF.out.2.1 HF.out.2.2.1 HF.out.2.2.2 HLN.out HEz.out (by rw [HZ.out]) (by rw [HZ.out])
      case measure=>rw [HM.out,HF.out.1.measE HEz.out];have:=HJ.out;omega
  ·have CE1:Hid (∀w,GR g b w->VS b s j E c w->Calls Tryz.prog 61 #[.pointer (some ⟨g,0,none⟩)] w fun e w'=>e=.returned (.bool true)/\∃n,w'=w.drewN n):=fun w h1 h2=>CEL.out j E c w hE h1 h2
   have HE:Hid (¬ E=0/\R.1=E/\R.2.1=c):=⟨hE,hR1,hR2⟩
   clear hE hR1 hR2
   go_wp2_with (first | (go_at_call 61;refine (CE1.out _ HG.out HV.out).mono ?_))
   rintro e u1 ⟨rfl,n,hn⟩
   replace HV:Hid (VS b s (j) E (c) u1):=by show VS _ _ _ _ _ u1;rw [hn];exact HV.out.drew _
   replace HG:Hid (GR g b u1):=by show GR g b u1;rw [hn];exact HG.out
   replace HO:Hid (OT u1 B (.slice o n0 c0) acc):=by show OT u1 B _ _;rw [hn];exact HO.out
   replace HW:Hid (w.grownBy u1 (some b)):=by show w.grownBy u1 (some b);rw [hn];exact gb_drew HW.out _
   clear hn
   go_wp2
   go_ret
   exact ⟨o,n0,c0,acc,j,c,rfl,by rw [HE.out.2.1];exact HV.out,by rw [HB.out.1];exact HO.out,HW.out,fun h=>absurd (HE.out.2.1.symm.trans h) HE.out.1,fun _=>HE.out.2.2.symm⟩
end Go.Proofs.YtonfldbigenfhaaGreatDoor
