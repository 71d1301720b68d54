import Derived.Test.YtiinliaoojfjaaaGreatDoorF38
import Derived.Test.YtiinliaoojfjaaaGreatDoorF36
set_option linter.all false
set_option maxRecDepth 100000
set_option maxHeartbeats 0
open Go.Proofs.Tryz
namespace Go.Proofs.YtiinliaoojfjaaaGreatDoor
open Go.RowKit
structure Tq where
 sg:Int
 m:Int
 a:Int
 b:Int
 c:Int
 p:ByteArray
 q:ByteArray
def jh(t:Tq):List Value:=[.int .i64 t.sg,.int .i64 t.m,.int .i64 t.a,.int .i64 t.b,.int .i64 t.c,.string t.p,.string t.q]
def cO(t:Tq):Te:=⟨t.sg,⟨t.m.toNat,t.a,t.b,t.c,t.p.data.toList⟩⟩
structure jL(t:Tq):Prop where
 s0:0<=t.sg/\t.sg<=7
 m0:0<=t.m/\t.m<=3
 ok:eQ (cO t).p
 sm:t.p.size<=200
theorem zM(t:Tq):∀u∈jh t,u.oneCell'=true:=by
 intro u hu;simp only[jh,List.mem_cons,List.not_mem_nil,or_false]at hu
 rcases hu with rfl|rfl|rfl|rfl|rfl|rfl|rfl<;>rfl
theorem zO:(prog.info? 107).map (fun i=>(i.zero,i.size,i.bytes))=some (some (.agg #[.int .i64 0,.int .i64 0,.int .i64 0,.int .i64 0,.int .i64 0,.string ⟨#[]⟩,.string ⟨#[]⟩]),7,72):=by kernel_rfl
def OT(w:World)(base:Nat)(sl:Value)(L:List Tq):Prop:=w.ownsRow base 107 7 sl L.length (L.flatMap jh)
theorem OT.growb{w w':World}{base:Nat}{sl:Value}{L:List Tq}{b:Nat}(h:OT w base sl L)(hg:w.grownBy w' (some b))(hb:b<base):OT w' base sl L:=by
 refine⟨h.1,?_⟩
 rcases h.2 with hn|⟨g,cap,cur,hv,hbg,hc,rest⟩
 ·exact Or.inl hn
 ·refine Or.inr ⟨g,cap,cur,hv,hbg,?_,rest⟩;rw[hg.block g ((aC hc)) (by simp;omega)];exact hc
theorem OT.grow{w w':World}{base:Nat}{sl:Value}{L:List Tq}(h:OT w base sl L)(hg:w.grownBy w' none):OT w' base sl L:=rM h hg
theorem OT.base{w:World}{base base':Nat}{sl:Value}{L:List Tq}(h:OT w base sl L)(hb:base'<=base):OT w base' sl L:=by
 refine⟨h.1,?_⟩
 rcases h.2 with hn|⟨g,cap,cur,hv,hbg,rest⟩
 ·exact Or.inl hn
 ·exact Or.inr ⟨g,cap,cur,hv,Nat.le_trans hb hbg,rest⟩
theorem OT.slice{w:World}{base:Nat}{sl:Value}{L:List Tq}(h:OT w base sl L):∃o c,sl=.slice o L.length c:=by
 rcases h.2 with⟨h1,h2⟩|⟨g,cap,cur,hv,_⟩
 ·exact⟨_,_,by rw[h1,h2]⟩
 ·exact⟨_,_,hv⟩
theorem OT.far{w:World}{base:Nat}{sl:Value}{L:List Tq}(h:OT w base sl L):∀q,sl.ownBlock=some q->base<=q:=by
 intro q hq
 rcases h.2 with⟨h1,_⟩|⟨g,cap,cur,hv,hb,_⟩
 ·rw[h1]at hq;cases hq
 ·rw[hv]at hq;simp only[Value.ownBlock,Option.some.injEq]at hq;omega
theorem OT.two{w:World}{base g:Nat}{x y:Tq}(hb:base<=g)(h:w.heap[g]?=some (.cells #[.int .i64 x.sg,.int .i64 x.m,.int .i64 x.a,.int .i64 x.b,.int .i64 x.c,.string x.p,.string x.q,.int .i64 y.sg,.int .i64 y.m,.int .i64 y.a,.int .i64 y.b,.int .i64 y.c,.string y.p,.string y.q] 107 (0,0))):OT w base (.slice (some ⟨g,0,none⟩) 2 2) [x,y] :=
 ⟨rfl,Or.inr ⟨g,2,_,rfl,hb,h,Nat.le_refl _,by decide,rfl,rfl⟩⟩
theorem VS.grow{b:Nat}{s:ByteArray}{i:Nat}{E:Int}{a:Nat}{w w':World}{row:Option Nat}(h:VS b s i E a w)(hg:w.grownBy w' row)(hn:some b≠row):VS b s i E a w':=by
 unfold VS at h ⊢;rw[hg.block b ((aC h)) hn];exact h
theorem GR.growr{g b:Nat}{w w':World}{row:Option Nat}(h:GR g b w)(hg:w.grownBy w' row)(hn:some g≠row):GR g b w':=hg.cell h hn
theorem VP.growr{v:Nat}{m y1 y2 y3:Int}{x4 x5:ByteArray}{w w':World}{row:Option Nat}(h:VP v m y1 y2 y3 x4 x5 w)(hg:w.grownBy w' row)(hn:some v≠row):VP v m y1 y2 y3 x4 x5 w':=by
 unfold VP at h ⊢;rw[hg.block v ((aC h)) hn];exact h
def errOf(b:Nat)(w:World):Int:=match w.cell? ⟨b,2,none⟩ with|some (.int .i64 x)=>x|_=>0
theorem VS.err{b:Nat}{s:ByteArray}{i:Nat}{E:Int}{a:Nat}{w:World}(h:VS b s i E a w):errOf b w=E:=by unfold errOf;rw[h.c2]
def meas(b n:Nat)(w:World):Nat:=if errOf b w=0 then n+1-placeOf b w else 0
theorem VS.meas0{b:Nat}{s:ByteArray}{i:Nat}{a:Nat}{w:World}(h:VS b s i 0 a w)(n:Nat):meas b n w=n+1-i:=by unfold meas;rw[h.err,if_pos rfl,h.place]
theorem VS.measE{b:Nat}{s:ByteArray}{i:Nat}{E:Int}{a:Nat}{w:World}(h:VS b s i E a w)(hE:¬E=0)(n:Nat):meas b n w=0:=by unfold meas;rw[h.err,if_neg hE]
theorem agG{l:List UInt8}{f i:Nat}{acc:List Te}(h:dJ l i=true):fC l (f+1) i acc=(0,i,acc):=by unfold fC;rw[if_pos h]
theorem agH{l:List UInt8}{f i:Nat}{acc:List Te}(h:¬dJ l i=true)(hr:¬(au l (az l i).2).1=0):fC l (f+1) i acc=((au l (az l i).2).1,(au l (az l i).2).2.1,acc):=by
 unfold fC;rw[if_neg h,if_neg hr]
theorem agI{l:List UInt8}{f i:Nat}{acc:List Te}(h:¬dJ l i=true)(hr:(au l (az l i).2).1=0)
  (hb:¬(((az l i).1<0/\acc=[])/\(au l (az l i).2).2.1<aj l (au l (az l i).2).2.1/\l[aj l (au l (az l i).2).2.1]?=some 45))
  (hg:¬(¬(au l (az l i).2).2.1<aj l (au l (az l i).2).2.1/\¬dJ l (aj l (au l (az l i).2).2.1)=true)) :
  fC l (f+1) i acc=fC l f (aj l (au l (az l i).2).2.1) (acc++[⟨gI (az l i).1,(au l (az l i).2).2.2⟩]):=by
 rw[fC,if_neg h,if_pos hr,if_neg hb,if_neg hg]
theorem agJ{l:List UInt8}{f i:Nat}{acc:List Te}(h:¬dJ l i=true)(hr:(au l (az l i).2).1=0)
  (hg1:¬(au l (az l i).2).2.1<aj l (au l (az l i).2).2.1) (hg2:¬dJ l (aj l (au l (az l i).2).2.1)=true) :
  fC l (f+1) i acc=(2,aj l (au l (az l i).2).2.1,acc):=by
 rw[fC,if_neg h,if_pos hr,if_neg (fun hb=>hg1 hb.2.1),if_pos ⟨hg1,hg2⟩]
theorem agK{l:List UInt8}{f i:Nat}{acc:List Te}(h:¬dJ l i=true)(hr:(au l (az l i).2).1=0)
  (hb:((az l i).1<0/\acc=[])/\(au l (az l i).2).2.1<aj l (au l (az l i).2).2.1/\l[aj l (au l (az l i).2).2.1]?=some 45) :
  fC l (f+1) i acc=(if aj l (aj l (au l (az l i).2).2.1+1)=aj l (au l (az l i).2).2.1+1 then(2,aj l (au l (az l i).2).2.1+1,acc) else
    if(au l (aj l (aj l (au l (az l i).2).2.1+1))).1=0 then
     (if dJ l (aj l (au l (aj l (aj l (au l (az l i).2).2.1+1))).2.1)=true then(0,aj l (au l (aj l (aj l (au l (az l i).2).2.1+1))).2.1,[⟨7,(au l (az l i).2).2.2⟩,⟨2,(au l (aj l (aj l (au l (az l i).2).2.1+1))).2.2⟩])
     else(2,aj l (au l (aj l (aj l (au l (az l i).2).2.1+1))).2.1,acc))
    else((au l (aj l (aj l (au l (az l i).2).2.1+1))).1,(au l (aj l (aj l (au l (az l i).2).2.1+1))).2.1,acc)):=by
 rw[fC,if_neg h,if_pos hr,if_pos hb]
def Om(b:Nat)(s:ByteArray)(R:Int × Nat × List Te)(w:World)(e:Ending)(w':World):Prop :=
 ∃(o:Option Addr) (n k:Nat) (acc:List Tq) (j c:Nat),e=.returned (.slice o n k)/\VS b s j R.1 c w'/\OT w' w.heap.size (.slice o n k) acc/\w.grownBy w' (some b)/\(R.1=0->acc.map cO=R.2.2/\j=R.2.1/\∀x∈acc,jL x)/\(¬R.1=0->c=R.2.1)
theorem zQ{m y1 y2 y3:Int}{P Q:ByteArray}{p:Pa}(sg:Int)(h1:m=(p.n:Int))(h2:y1=p.a)(h3:y2=p.b)(h4:y3=p.c)(h5:P=⟨p.pre.toArray⟩):cO ⟨sg,m,y1,y2,y3,P,Q⟩=⟨sg,p⟩:=by
 subst h1 h2 h3 h4 h5;unfold cO;simp
theorem Dq{m y1 y2 y3:Int}{P Q:ByteArray}{p:Pa}(sg:Int)(hs:0<=sg/\sg<=7)(hp:eQ p)(hl:p.pre.length<=200)(h1:m=(p.n:Int))(h2:y1=p.a)(h3:y2=p.b)(h4:y3=p.c)(h5:P=⟨p.pre.toArray⟩):jL ⟨sg,m,y1,y2,y3,P,Q⟩:=by
 have e:=zQ (Q:=Q) sg h1 h2 h3 h4 h5;refine⟨hs,?_,?_,?_⟩
 ·have:=hp.n3;simp only[];omega
 ·rw[e];exact hp
 ·simp only[];rw[h5];show p.pre.toArray.size<=_;simpa using hl
def DRel(b g B:Nat)(s:ByteArray)(l:List UInt8)(R:Int × Nat × List Te)(w:World)(vl:Value)(wr:World):Prop :=
 ∃(f j c:Nat) (E:Int) (acc:List Tq),VS b s j E c wr/\GR g b wr/\OT wr B vl acc/\w.grownBy wr (some b)/\acc.length<=1000 ∧
  ((E=0/\j<=s.size/\acc.length<=j/\l.length<f+j/\fC l f j (acc.map cO)=R/\∀x∈acc,jL x)\/(¬E=0/\R.1=E/\R.2.1=c))
theorem DRel.ok{b g B:Nat}{s:ByteArray}{l:List UInt8}{R:Int × Nat × List Te}{w:World}{vl:Value}{wr:World}{f j c:Nat}{acc:List Tq}(h1:VS b s j 0 c wr)(h2:GR g b wr)(h3:OT wr B vl acc)(h4:w.grownBy wr (some b))(h5:acc.length<=1000)(h6:j<=s.size)(h7:acc.length<=j)(h8:l.length<f+j)(h9:fC l f j (acc.map cO)=R)(h10:∀x∈acc,jL x):DRel b g B s l R w vl wr :=
 ⟨f,j,c,0,acc,h1,h2,h3,h4,h5,Or.inl ⟨rfl,h6,h7,h8,h9,h10⟩⟩
theorem DRel.bad{b g B:Nat}{s:ByteArray}{l:List UInt8}{R:Int × Nat × List Te}{w:World}{vl:Value}{wr:World}{j c:Nat}{E:Int}{acc:List Tq}(h1:VS b s j E c wr)(h2:GR g b wr)(h3:OT wr B vl acc)(h4:w.grownBy wr (some b))(h5:acc.length<=1000)(h6:¬E=0)(h7:R.1=E)(h8:R.2.1=c):DRel b g B s l R w vl wr :=
 ⟨0,j,c,E,acc,h1,h2,h3,h4,h5,Or.inr ⟨h6,h7,h8⟩⟩
theorem agL(g b:Nat)(s:ByteArray)(i:Nat)(a:Nat)(w:World)(hi:i<=s.size)(hgb:g≠b)(hg:GR g b w)(h:VS b s i 0 a w)(hs:s.size<=200) :
  Calls prog 43 #[.pointer (some ⟨g,0,none⟩)] w (Om b s (fC s.data.toList (s.data.toList.length+1) i []) w):=by
 obtain⟨l,hl⟩:=zN (s.data.toList);have hll:l.length=s.size:=by rw[<-hl];simp
 have bM:Hd (l.length=s.size/\s.size<=200):=⟨hll,hs⟩;have CE:Hd (∀i a w,i<=s.size->GR g b w->VS b s i 0 a w->Calls prog 74 #[.pointer (some ⟨g,0,none⟩)] w fun e w'=>e=.returned (.bool (dJ l i))/\∃n,w'=w.drewN n):=fun i a w hi h1 h2=>by rw[<-hl];exact afv g b s i a w hi h1 h2 (by omega)
 have Dt:Hd (∀(i:Nat) (E:Int) (a:Nat) w,¬E=0->GR g b w->VS b s i E a w->Calls prog 74 #[.pointer (some ⟨g,0,none⟩)] w fun e w'=>e=.returned (.bool true)/\∃n,w'=w.drewN n):=fun i E a w hE h1 h2=>afu g b s i E a w hE h1 h2
 have CS:Hd (∀i a w,i<=s.size->GR g b w->VS b s i 0 a w->Calls prog 75 #[.pointer (some ⟨g,0,none⟩)] w fun e w'=>e=.returned (.int .i64 (az l i).1)/\VS b s (az l i).2 0 a w'/\w.grownBy w' (some b)):=fun i a w hi h1 h2=>by rw[<-hl];exact agw g b s i a w hi hgb h1 h2 (by omega)
 have CP:Hd (∀i a w,i<=s.size->GR g b w->VS b s i 0 a w->Calls prog 76 #[.pointer (some ⟨g,0,none⟩)] w (WN b s (au l i) w)):=fun i a w hi h1 h2=>by rw[<-hl];exact agt g b s i a w hi hgb h1 h2 (by omega)
 have CPL:Hd (∀(i:Nat) (E:Int) (a:Nat) w,¬E=0->i<=s.size->GR g b w->VS b s i E a w->Calls prog 76 #[.pointer (some ⟨g,0,none⟩)] w (WO b s E a w)):=fun i E a w hE hi h1 h2=>ags g b s i E a w hE hi hgb h1 h2 (by omega)
 have CB:Hd (∀i a w,i<=s.size->GR g b w->VS b s i 0 a w->Calls prog 42 #[.pointer (some ⟨g,0,none⟩)] w fun e w'=>e=.returned (.bool (decide (i<aj l i)))/\VS b s (aj l i) 0 a w'/\w.grownBy w' (some b)):=fun i a w hi h1 h2=>by rw[<-hl];exact V5 g b s i a w hi hgb h1 h2 (by omega)
 have FX:Hd (∀(i:Nat) (E:Int) (a:Nat) w,¬E=0->GR g b w->VS b s i E a w->Calls prog 42 #[.pointer (some ⟨g,0,none⟩)] w fun e w'=>e=.returned (.bool false)/\∃n,w'=w.drewN n):=fun i E a w hE h1 h2=>aft g b s i E a w hE h1 h2
 have CI:Hd (∀i a w,i<=s.size->GR g b w->VS b s i 0 a w->Calls prog 44 #[.pointer (some ⟨g,0,none⟩),.string ⟨#[45]⟩] w fun e w'=>e=.returned (.bool (decide (l[i]?=some 45)))/\∃n,w'=w.drewN n):=fun i a w hi h1 h2=>by rw[<-hl];exact IX g b s i 45 a w hi h1 h2 (by omega)
 have CF:=ae (ul b s);have jy:Hd (∀i,i<=s.size->i<=aj l i/\aj l i<=s.size):=fun i hi=>⟨sG l i,by have:=qV l i (by rw[hll];exact hi);rw[hll]at this;exact this⟩
 have kQ:Hd (∀i,i<=s.size->i<=(az l i).2/\(az l i).2<=s.size):=fun i hi=>by have:=Fh l i (by rw[hll];exact hi);rw[hll]at this;exact this
 have Di:Hd (∀i,i<=s.size->(au l i).1=0->i<(au l i).2.1/\(au l i).2.1<=s.size/\eQ (au l i).2.2):=fun i hi h0=>by
  have pp:=Fg l i (by rw[hll];exact hi) h0;exact⟨pp.1,by rw[<-hll];exact pp.2,IA l i (by rw[hll];exact hi) h0⟩
 have iT:Hd (∀i,(au l i).2.2.pre.length<=200):=fun i=>by have:=MQ l i;omega
 have HG:=ae hg;have HV:=ae h;have mV:=ae hi;obtain⟨B,hB⟩:=zN (w.heap.size);have HB:Hd (w.heap.size=B/\b<B/\g<B/\g≠b):=⟨hB,by rw[<-hB];exact(aC h),by rw[<-hB];exact GR.lt hg,hgb⟩;rw[hl];obtain⟨R,hR⟩:=zN (fC l (l.length+1) i []);have HR0:=ae hR;rw[hR];clear hl hll hR h hs hi hB hg hgb;go_enter func43,ntmps43;go_wp2;go_loopw [3] (fun vl wr=>DRel b g B s l R w vl wr) (fun _ wr=>meas b s.size wr)
 case atStart=>exact DRel.ok (f:=l.length+1) (acc:=[]) HV.o HG.o (show OT w B (.slice none 0 0) [] from World.ownsRow_nil _ _ _ _) (ai _ _) (Nat.zero_le _) mV.o (Nat.zero_le _) (by omega) HR0.o (fun x hx=>by cases hx)
 case round =>
  obtain⟨f,j,c,E,acc,hv,hgr,hot,hgw,hal,hcase⟩:=hrel;clear HV HG HR0;obtain⟨o,c0,rfl⟩:=hot.slice;obtain⟨n0,hn0⟩:=zN (acc.length);have HV:=ae hv;have HG:=ae hgr;rw[hn0]at hot;have HO:=ae hot;have dM:Hd (acc.length=n0/\n0<=1000):=⟨hn0,by omega⟩;have HW:=ae hgw;rw[hn0];clear hv hgr hot hgw hal hn0
  rcases hcase with⟨rfl,hj,haj,hf,hds,hok⟩|⟨hE,hR1,hR2⟩
  ·have HJ:Hd (j<=s.size/\n0<=j/\l.length<f+j):=⟨hj,by have:=dM.o.1;omega,hf⟩;have wO:=ae hds;have gJ:=ae hok;clear hj haj hf hds hok;obtain⟨f,rfl⟩:∃f',f=f'+1:=by
    cases f with
    | zero=>have:=bM.o.1;have:=HJ.o;omega
    | succ f=>exact⟨f,rfl⟩
   have HM:=ae (HV.o.meas0 s.size)
   cases hen:dJ l j with
   | true =>
    have FY:Hd (∀w,GR g b w->VS b s j 0 c w->Calls prog 74 #[.pointer (some ⟨g,0,none⟩)] w fun e w'=>e=.returned (.bool true)/\∃n,w'=w.drewN n):=fun w h1 h2=>by have:=CE.o j c w HJ.o.1 h1 h2;rw[hen]at this;exact this
    have HZ:Hd (R=(0,j,acc.map cO)):=by show R=_;rw[<-wO.o];exact agG hen
    clear hen;go_wp2_with (go_at_call 74;refine(FY.o _ HG.o HV.o).mono ?_);rintro e u1 ⟨rfl,n,hn⟩;replace HV:Hd (VS b s (j) 0 (c) u1):=by show VS _ _ _ _ _ u1;rw[hn];exact HV.o.drew _
    replace HG:Hd (GR g b u1):=by show GR g b u1;rw[hn];exact HG.o
    replace HO:Hd (OT u1 B (.slice o n0 c0) acc):=by show OT u1 B _ _;rw[hn];exact HO.o
    replace HW:Hd (w.grownBy u1 (some b)):=by show w.grownBy u1 (some b);rw[hn];exact aH HW.o _
    clear hn;go_wp2;go_ret;rw[HZ.o];exact⟨o,n0,c0,acc,j,c,rfl,HV.o,by rw[HB.o.1];exact HO.o,HW.o,fun _=>⟨rfl,rfl,gJ.o⟩,fun h=>absurd rfl h⟩
   | false =>
    have FY:Hd (∀w,GR g b w->VS b s j 0 c w->Calls prog 74 #[.pointer (some ⟨g,0,none⟩)] w fun e w'=>e=.returned (.bool false)/\∃n,w'=w.drewN n):=fun w h1 h2=>by have:=CE.o j c w HJ.o.1 h1 h2;rw[hen]at this;exact this
    have hen':¬dJ l j=true:=by rw[hen];decide
    have BAD:Hd (¬(au l (az l j).2).1=0->R=((au l (az l j).2).1,(au l (az l j).2).2.1,acc.map cO)):=fun h=>by rw[<-wO.o];exact agH hen' h
    have MORE:Hd ((au l (az l j).2).1=0->¬(((az l j).1<0/\acc.map cO=[])/\(au l (az l j).2).2.1<aj l (au l (az l j).2).2.1/\l[aj l (au l (az l j).2).2.1]?=some 45)->¬(¬(au l (az l j).2).2.1<aj l (au l (az l j).2).2.1/\¬dJ l (aj l (au l (az l j).2).2.1)=true)->R=fC l f (aj l (au l (az l j).2).2.1) (acc.map cO++[⟨gI (az l j).1,(au l (az l j).2).2.2⟩])):=fun h1 h2 h3=>by rw[<-wO.o];exact agI hen' h1 h2 h3
    have GAP:Hd ((au l (az l j).2).1=0->¬(au l (az l j).2).2.1<aj l (au l (az l j).2).2.1->¬dJ l (aj l (au l (az l j).2).2.1)=true->R=(2,aj l (au l (az l j).2).2.1,acc.map cO)):=fun h1 h2 h3=>by rw[<-wO.o];exact agJ hen' h1 h2 h3
    have BTW:Hd ((au l (az l j).2).1=0->((az l j).1<0/\acc.map cO=[])/\(au l (az l j).2).2.1<aj l (au l (az l j).2).2.1/\l[aj l (au l (az l j).2).2.1]?=some 45->R=(if aj l (aj l (au l (az l j).2).2.1+1)=aj l (au l (az l j).2).2.1+1 then(2,aj l (au l (az l j).2).2.1+1,acc.map cO) else if(au l (aj l (aj l (au l (az l j).2).2.1+1))).1=0 then(if dJ l (aj l (au l (aj l (aj l (au l (az l j).2).2.1+1))).2.1)=true then(0,aj l (au l (aj l (aj l (au l (az l j).2).2.1+1))).2.1,[⟨7,(au l (az l j).2).2.2⟩,⟨2,(au l (aj l (aj l (au l (az l j).2).2.1+1))).2.2⟩]) else(2,aj l (au l (aj l (aj l (au l (az l j).2).2.1+1))).2.1,acc.map cO)) else((au l (aj l (aj l (au l (az l j).2).2.1+1))).1,(au l (aj l (aj l (au l (az l j).2).2.1+1))).2.1,acc.map cO))):=fun h1 h2=>by rw[<-wO.o];exact agK hen' h1 h2
    have zS:=ae (fun w (h1:GR g b w) (h2:VS b s j 0 c w)=>CS.o j c w HJ.o.1 h1 h2);have pF:=ae (U0 l j);have HS2:=ae (kQ.o j HJ.o.1);obtain⟨sg,j1,hsg⟩:∃sg j1,az l j=(sg,j1):=⟨_,_,rfl⟩;rw[hsg]at BAD MORE GAP BTW zS pF HS2;simp only[]at BAD MORE GAP BTW zS pF HS2;have Du:=ae (fun w (h1:GR g b w) (h2:VS b s j1 0 c w)=>CP.o j1 c w HS2.o.2 h1 h2);have pq:=ae (Di.o j1 HS2.o.2);have HP2:=ae (iT.o j1);obtain⟨E1,J,p,hR⟩:∃E1 J p,au l j1=(E1,J,p):=⟨_,_,_,rfl⟩;rw[hR]at BAD MORE GAP BTW Du pq HP2;simp only[]at BAD MORE GAP BTW pq HP2;clear hen hen' hsg hR wO;go_wp2_with (go_at_call 74;refine(FY.o _ HG.o HV.o).mono ?_);rintro e u1 ⟨rfl,n,hn⟩;replace HV:Hd (VS b s (j) 0 (c) u1):=by show VS _ _ _ _ _ u1;rw[hn];exact HV.o.drew _
    replace HG:Hd (GR g b u1):=by show GR g b u1;rw[hn];exact HG.o
    replace HO:Hd (OT u1 B (.slice o n0 c0) acc):=by show OT u1 B _ _;rw[hn];exact HO.o
    replace HW:Hd (w.grownBy u1 (some b)):=by show w.grownBy u1 (some b);rw[hn];exact aH HW.o _
    clear hn;go_wp2_with (go_at_call 75;refine(zS.o _ HG.o HV.o).mono ?_);rintro e u2 ⟨rfl,hv,hg⟩;replace HV:=ae hv;replace HG:=ae (HG.o.growb hg HB.o.2.2.2);replace HO:=ae (HO.o.growb hg HB.o.2.1);replace HW:=ae (ag HW.o hg);clear hv hg;go_wp2_with (first|(go_at_call 76;refine(Du.o _ HG.o HV.o).mono ?_));rintro e u3 ⟨m,y1,y2,y3,P,Q,j2,c2,rfl,hv,hg,hok,herr⟩;replace HV:Hd (VS b s (j2) E1 (c2) u3):=hv;replace HG:=ae (HG.o.growb hg HB.o.2.2.2);replace HO:=ae (HO.o.growb hg HB.o.2.1);replace HW:=ae (ag HW.o hg);clear hv hg;have Xc:Hd ((E1=0->j2=J/\m=(p.n:Int)/\y1=p.a/\y2=p.b/\y3=p.c/\P=⟨p.pre.toArray⟩)/\(¬E1=0->c2=J)):=⟨hok,herr⟩;clear hok herr;obtain⟨D,hD⟩:=zN (u3.heap.size);obtain⟨W,hW⟩:=zN (u3.alloc (.cells #[.int .i64 m,.int .i64 y1,.int .i64 y2,.int .i64 y3,.string P,.string Q] 105));have hgW:u3.grownBy W none:=by rw[<-hW];exact ak (ai u3 none) _
    have HD:Hd (VP D m y1 y2 y3 P Q W):=by show W.heap[D]?=_;rw[<-hW,<-hD];exact heap_alloc_new u3 _
    have nz:Hd (B<=D/\D≠b/\D≠g):=by have h1:=HW.o.size;have h2:=HB.o;rw[h2.1,hD]at h1;refine⟨h1,?_,?_⟩<;>omega
    replace HV:=ae (HV.o.grow hgW (by simp));replace HG:=ae (HG.o.grow hgW);replace HO:=ae (HO.o.grow hgW);replace HW:=ae (ag HW.o (dA hgW _));clear hgW
    by_cases hE1:E1=0
    ·subst hE1;obtain⟨q1,q2,q3,q4,q5,q6⟩:=Xc.o.1 rfl;obtain⟨z1,z2,z3⟩:=pq.o rfl;have HQ:Hd (m=(p.n:Int)/\y1=p.a/\y2=p.b/\y3=p.c/\P=⟨p.pre.toArray⟩):=⟨q2,q3,q4,q5,q6⟩;have HP:Hd (j1<J/\J<=s.size/\eQ p):=⟨z1,z2,z3⟩;subst q1;clear q2 q3 q4 q5 q6 z1 z2 z3;have l7:=ae (fun w (h1:GR g b w) (h2:VS b s j2 0 c2 w)=>CB.o j2 c2 w HP.o.2.1 h1 h2);have HK:=ae (jy.o j2 HP.o.2.1);obtain⟨K,hK⟩:=zN (aj l j2);rw[hK]at MORE GAP BTW l7 HK;clear hK BAD;obtain⟨ap,hap⟩:=zN (decide (j2<K));rw[hap]at l7;have lZ:=ae hap;clear hap;go_wp2_with (go_at_call 42;refine(l7.o _ HG.o HV.o).mono ?_);rintro e u4 ⟨rfl,hv,hg⟩;replace HV:=ae hv;replace HG:=ae (HG.o.growb hg HB.o.2.2.2);replace HO:=ae (HO.o.growb hg HB.o.2.1);replace HD:=ae (HD.o.grow hg nz.o.2.1);replace HW:=ae (ag HW.o hg);clear hv hg;clear hW hD
     by_cases h4:n0=0/\sg<0
     ·obtain⟨hn0,hsn⟩:=h4;have Xd:Hd (acc.map cO=[]):=by show _=_;rw[List.map_eq_nil_iff];exact List.length_eq_zero_iff.1 (dM.o.1.trans hn0)
      subst hn0;have eP:=ae hsn
      cases ap with
      | false =>
       obtain⟨k0,k1,k2,k3,k4,k5⟩:=HD.o.cells;have hinfo:=zO;obtain⟨i1,hj0,hjj⟩:=Option.map_eq_some_iff.1 hinfo;have hy0:i1.zero=some (.agg #[.int .i64 0,.int .i64 0,.int .i64 0,.int .i64 0,.int .i64 0,.string ⟨#[]⟩,.string ⟨#[]⟩]):=congrArg (·.1) hjj;have hy1:i1.size=7:=congrArg (·.2.1) hjj;have hyb:i1.bytes=72:=congrArg (·.2.2) hjj;clear hjj hinfo;obtain⟨tq,gK⟩:∃tq:Tq,tq=⟨0,m,y1,y2,y3,P,Q⟩:=⟨_,rfl⟩;have pJ:=ae gK;have htc:jh tq=[.int .i64 (0),.int .i64 m,.int .i64 y1,.int .i64 y2,.int .i64 y3,.string P,.string Q]:=by rw[gK];rfl
       have kJ:=ae htc;clear gK htc;go_wp2_with (first|(at_builtin;refine wpList_append_own _ rfl _ _ 96 rfl B 107 i1 _ 7 72 underlying96 hj0 hy0 hy1 hyb rfl (by decide) _ _ _ rfl (by have h:=HO.o;unfold OT at h;rw[dM.o.1]at h;exact h.alloc _) _ 1 1 (jh tq) rfl (by rw[kJ.o];rfl) (by rw[kJ.o];exact World.news_of_block (heap_alloc_new _ _)) (zM tq) (by unfold maxLen;have:=dM.o;omega) (by have:=dM.o;omega) (by have h1:=HW.o.size;rw[HB.o.1]at h1;simp;omega) ?_;intro v' u9 hown hgrow _));have hga:u4.grownBy (u4.alloc (.cells #[.int .i64 (0),.int .i64 m,.int .i64 y1,.int .i64 y2,.int .i64 y3,.string P,.string Q] 107)) none:=ak (ai _ none) _;have bP:=HO.o.far;have bH:Hd (OT u9 B v' (acc++[tq])):=by show OT u9 B v' _;unfold OT;rw[List.length_append,List.flatMap_append,dM.o.1];simpa using hown
       replace HV:=(HV.o.grow hga (by simp)).grow hgrow (fun e=>by have:=bP b e.symm;have:=HB.o;omega);replace HG:=ae ((HG.o.grow hga).growr hgrow (fun e=>by have:=bP g e.symm;have:=HB.o;omega));replace HW:=ae (yt (ag HW.o (dA hga _)) hgrow (fun q hq=>by rw[HB.o.1];exact bP q hq));have bW:Hd ((acc++[tq]).length<=1000):=by show _<=_;rw[List.length_append,dM.o.1];have:=HJ.o;have:=bM.o.2;first|(simp;omega)|simp
       obtain⟨o9,c9,hvn⟩:=bH.o.slice;obtain⟨n9,kK⟩:=zN ((acc++[tq]).length);rw[kK]at hvn;rw[hvn]at bH
       try rw[hvn]
       clear kK;clear hown hgrow hga bP hj0 hy0 hy1 hyb k0 k1 k2 k3 k4 k5 hvn;have jA:=ae HV;clear HV
       cases hen:dJ l K with
       | true =>
        have qy:Hd (∀w,GR g b w->VS b s K 0 c2 w->Calls prog 74 #[.pointer (some ⟨g,0,none⟩)] w fun e w'=>e=.returned (.bool true)/\∃n,w'=w.drewN n):=fun w h1 h2=>by have:=CE.o K c2 w HK.o.2 h1 h2;rw[hen]at this;exact this
        have bC:Hd (R=fC l f K ((acc++[tq]).map cO)):=by
         show R=_;rw[List.map_append,show[tq].map cO=[⟨gI sg,p⟩] by rw[pJ.o];simp only[List.map_cons,List.map_nil];rw[zQ (p:=p) _ HQ.o.1 HQ.o.2.1 HQ.o.2.2.1 HQ.o.2.2.2.1 HQ.o.2.2.2.2];unfold gI;rw[if_pos eP.o]];exact MORE.o (by first|trivial|rfl) (fun h=>absurd h.2.1 (of_decide_eq_false lZ.o)) (fun h=>h.2 hen)
        have iU:Hd (∀x∈acc++[tq],jL x):=by
         intro x hx
         rcases List.mem_append.1 hx with h|h
         ·exact gJ.o x h
         ·rw[List.mem_singleton.1 h,pJ.o];exact Dq (p:=p) _ (by omega) HP.o.2.2 HP2.o HQ.o.1 HQ.o.2.1 HQ.o.2.2.1 HQ.o.2.2.2.1 HQ.o.2.2.2.2
        clear hen;go_wp2_with (go_at_call 74;refine(qy.o _ HG.o jA.o).mono ?_);rintro e u10 ⟨rfl,n,hn⟩;have HF:Hd (VS b s K 0 c2 u10/\GR g b u10/\OT u10 B (.slice o9 n9 c9) (acc++[tq])/\w.grownBy u10 (some b)):=by
         rw[hn];exact⟨jA.o.drew _,HG.o,bH.o,aH HW.o _⟩
        clear hn;go_wp2;go_roundw
        case rel=>exact DRel.ok (f:=f) HF.o.1 HF.o.2.1 HF.o.2.2.1 HF.o.2.2.2 bW.o HK.o.2 (by rw[List.length_append,dM.o.1];have:=HJ.o;have:=HS2.o;have:=HP.o;have:=HK.o;first|(simp;omega)|simp) (by have:=HJ.o;have:=HS2.o;have:=HP.o;have:=HK.o;omega) bC.o.symm iU.o
        case measure=>rw[HM.o,HF.o.1.meas0];have:=HJ.o;have:=HS2.o;have:=HP.o;have:=HK.o;omega
       | false =>
        have qy:Hd (∀w,GR g b w->VS b s K 0 c2 w->Calls prog 74 #[.pointer (some ⟨g,0,none⟩)] w fun e w'=>e=.returned (.bool false)/\∃n,w'=w.drewN n):=fun w h1 h2=>by have:=CE.o K c2 w HK.o.2 h1 h2;rw[hen]at this;exact this
        have HZ:=ae (GAP.o (by first|trivial|rfl) (of_decide_eq_false lZ.o) (by rw[hen];decide));clear hen;go_wp2_with (go_at_call 74;refine(qy.o _ HG.o jA.o).mono ?_);rintro e u10 ⟨rfl,n,hn⟩;have HF:Hd (VS b s K 0 c2 u10/\GR g b u10/\OT u10 B (.slice o9 n9 c9) (acc++[tq])/\w.grownBy u10 (some b)):=by
         rw[hn];exact⟨jA.o.drew _,HG.o,bH.o,aH HW.o _⟩
        clear hn;have zT:=ae (CF.o K c2 2 K);have e0:u10.cell? ⟨g,0,none⟩=some (.pointer (some ⟨b,0,none⟩)):=HF.o.2.1;have e1:=(HF.o.1).c1;go_wp2_with (fail)
        go_region_held3 (fun w'=>w'.cell? ⟨g,0,none⟩=some (.pointer (some ⟨b,0,none⟩))/\w'.cell? ⟨b,1,none⟩=some (.int .i64 (K:Int))) (first|(simp only[lh];exact⟨e0,e1⟩)|exact hS1) (first|(go_at_call 48;refine(zT.o _ (by first|exact HF.o.1|exact VS.drew HF.o.1 1)).mono ?_;rintro e u11 ⟨rfl,zU,iE⟩;have hS1:u11.cell? ⟨g,0,none⟩=some (.pointer (some ⟨b,0,none⟩))/\u11.cell? ⟨b,1,none⟩=some (.int .i64 (K:Int)):=⟨GR.growb (b:=b) HF.o.2.1 (dF iE) HB.o.2.2.2,zU.c1⟩))
        have iZ:=ae zU;have wP:=dF iE;have uG:Hd (GR g b u11/\OT u11 B (.slice o9 n9 c9) (acc++[tq])/\w.grownBy u11 (some b)):=⟨HF.o.2.1.growb wP HB.o.2.2.2,HF.o.2.2.1.growb wP HB.o.2.1,ag HF.o.2.2.2 wP⟩;clear zU iE wP e0 e1 hS1;go_wp2;go_roundw
        case rel=>exact DRel.bad iZ.o uG.o.1 uG.o.2.1 uG.o.2.2 bW.o (by decide) (by rw[HZ.o]) (by rw[HZ.o])
        case measure=>rw[HM.o,iZ.o.measE (by decide)];have:=HJ.o;omega
      | true =>
       cases nO:decide (l[K]?=some 45) with
       | false =>
        have wQ:Hd (∀w,GR g b w->VS b s K 0 c2 w->Calls prog 44 #[.pointer (some ⟨g,0,none⟩),.string ⟨#[45]⟩] w fun e w'=>e=.returned (.bool (false))/\∃n,w'=w.drewN n):=fun w h1 h2=>by have:=CI.o K c2 w HK.o.2 h1 h2;rw[nO]at this;exact this
        have jW:=ae ((of_decide_eq_false nO:¬l[K]?=some 45));clear nO;go_wp2_with (go_at_call 44;refine(wQ.o _ HG.o HV.o).mono ?_);rintro e u5 ⟨rfl,n,hn⟩;replace HV:Hd (VS b s (K) 0 (c2) u5):=by show VS _ _ _ _ _ u5;rw[hn];exact HV.o.drew _
        replace HG:Hd (GR g b u5):=by show GR g b u5;rw[hn];exact HG.o
        replace HO:Hd (OT u5 B (.slice o 0 c0) acc):=by show OT u5 B _ _;rw[hn];exact HO.o
        replace HD:Hd (VP D m y1 y2 y3 P Q u5):=by show VP D _ _ _ _ _ _ u5;rw[hn];exact HD.o
        replace HW:Hd (w.grownBy u5 (some b)):=by show w.grownBy u5 (some b);rw[hn];exact aH HW.o _
        clear hn;obtain⟨k0,k1,k2,k3,k4,k5⟩:=HD.o.cells;have hinfo:=zO;obtain⟨i1,hj0,hjj⟩:=Option.map_eq_some_iff.1 hinfo;have hy0:i1.zero=some (.agg #[.int .i64 0,.int .i64 0,.int .i64 0,.int .i64 0,.int .i64 0,.string ⟨#[]⟩,.string ⟨#[]⟩]):=congrArg (·.1) hjj;have hy1:i1.size=7:=congrArg (·.2.1) hjj;have hyb:i1.bytes=72:=congrArg (·.2.2) hjj;clear hjj hinfo;obtain⟨tq,gK⟩:∃tq:Tq,tq=⟨0,m,y1,y2,y3,P,Q⟩:=⟨_,rfl⟩;have pJ:=ae gK;have htc:jh tq=[.int .i64 (0),.int .i64 m,.int .i64 y1,.int .i64 y2,.int .i64 y3,.string P,.string Q]:=by rw[gK];rfl
        have kJ:=ae htc;clear gK htc;go_wp2_with (first|(at_builtin;refine wpList_append_own _ rfl _ _ 96 rfl B 107 i1 _ 7 72 underlying96 hj0 hy0 hy1 hyb rfl (by decide) _ _ _ rfl (by have h:=HO.o;unfold OT at h;rw[dM.o.1]at h;exact h.alloc _) _ 1 1 (jh tq) rfl (by rw[kJ.o];rfl) (by rw[kJ.o];exact World.news_of_block (heap_alloc_new _ _)) (zM tq) (by unfold maxLen;have:=dM.o;omega) (by have:=dM.o;omega) (by have h1:=HW.o.size;rw[HB.o.1]at h1;simp;omega) ?_;intro v' u9 hown hgrow _));have hga:u5.grownBy (u5.alloc (.cells #[.int .i64 (0),.int .i64 m,.int .i64 y1,.int .i64 y2,.int .i64 y3,.string P,.string Q] 107)) none:=ak (ai _ none) _;have bP:=HO.o.far;have bH:Hd (OT u9 B v' (acc++[tq])):=by show OT u9 B v' _;unfold OT;rw[List.length_append,List.flatMap_append,dM.o.1];simpa using hown
        replace HV:=(HV.o.grow hga (by simp)).grow hgrow (fun e=>by have:=bP b e.symm;have:=HB.o;omega);replace HG:=ae ((HG.o.grow hga).growr hgrow (fun e=>by have:=bP g e.symm;have:=HB.o;omega));replace HW:=ae (yt (ag HW.o (dA hga _)) hgrow (fun q hq=>by rw[HB.o.1];exact bP q hq));have bW:Hd ((acc++[tq]).length<=1000):=by show _<=_;rw[List.length_append,dM.o.1];have:=HJ.o;have:=bM.o.2;first|(simp;omega)|simp
        obtain⟨o9,c9,hvn⟩:=bH.o.slice;obtain⟨n9,kK⟩:=zN ((acc++[tq]).length);rw[kK]at hvn;rw[hvn]at bH
        try rw[hvn]
        clear kK;clear hown hgrow hga bP hj0 hy0 hy1 hyb k0 k1 k2 k3 k4 k5 hvn;have jA:=ae HV;clear HV;have bC:Hd (R=fC l f K ((acc++[tq]).map cO)):=by
         show R=_;rw[List.map_append,show[tq].map cO=[⟨gI sg,p⟩] by rw[pJ.o];simp only[List.map_cons,List.map_nil];rw[zQ (p:=p) _ HQ.o.1 HQ.o.2.1 HQ.o.2.2.1 HQ.o.2.2.2.1 HQ.o.2.2.2.2];unfold gI;rw[if_pos eP.o]];exact MORE.o (by first|trivial|rfl) (fun h=>jW.o h.2.2) (fun h=>h.1 (of_decide_eq_true lZ.o))
        have iU:Hd (∀x∈acc++[tq],jL x):=by
         intro x hx
         rcases List.mem_append.1 hx with h|h
         ·exact gJ.o x h
         ·rw[List.mem_singleton.1 h,pJ.o];exact Dq (p:=p) _ (by omega) HP.o.2.2 HP2.o HQ.o.1 HQ.o.2.1 HQ.o.2.2.1 HQ.o.2.2.2.1 HQ.o.2.2.2.2
        have HF:Hd (VS b s K 0 c2 u9/\GR g b u9/\OT u9 B (.slice o9 n9 c9) (acc++[tq])/\w.grownBy u9 (some b)):=⟨jA.o,HG.o,bH.o,HW.o⟩;go_wp2;go_roundw
        case rel=>exact DRel.ok (f:=f) HF.o.1 HF.o.2.1 HF.o.2.2.1 HF.o.2.2.2 bW.o HK.o.2 (by rw[List.length_append,dM.o.1];have:=HJ.o;have:=HS2.o;have:=HP.o;have:=HK.o;first|(simp;omega)|simp) (by have:=HJ.o;have:=HS2.o;have:=HP.o;have:=HK.o;omega) bC.o.symm iU.o
        case measure=>rw[HM.o,HF.o.1.meas0];have:=HJ.o;have:=HS2.o;have:=HP.o;have:=HK.o;omega
       | true =>
        have wQ:Hd (∀w,GR g b w->VS b s K 0 c2 w->Calls prog 44 #[.pointer (some ⟨g,0,none⟩),.string ⟨#[45]⟩] w fun e w'=>e=.returned (.bool (true))/\∃n,w'=w.drewN n):=fun w h1 h2=>by have:=CI.o K c2 w HK.o.2 h1 h2;rw[nO]at this;exact this
        have Dl:=ae ((of_decide_eq_true nO:l[K]?=some 45));clear nO;go_wp2_with (go_at_call 44;refine(wQ.o _ HG.o HV.o).mono ?_);rintro e u5 ⟨rfl,n,hn⟩;replace HV:Hd (VS b s (K) 0 (c2) u5):=by show VS _ _ _ _ _ u5;rw[hn];exact HV.o.drew _
        replace HG:Hd (GR g b u5):=by show GR g b u5;rw[hn];exact HG.o
        replace HO:Hd (OT u5 B (.slice o 0 c0) acc):=by show OT u5 B _ _;rw[hn];exact HO.o
        replace HD:Hd (VP D m y1 y2 y3 P Q u5):=by show VP D _ _ _ _ _ _ u5;rw[hn];exact HD.o
        replace HW:Hd (w.grownBy u5 (some b)):=by show w.grownBy u5 (some b);rw[hn];exact aH HW.o _
        clear hn;have hb:=BTW.o (by first|trivial|rfl) ⟨⟨eP.o,Xd.o⟩,of_decide_eq_true lZ.o,Dl.o⟩;have gG:Hd (K+1<=s.size):=by have:=kU Dl.o;rw[bM.o.1]at this;exact this
        have gV:=ae (jy.o (K+1) gG.o);have Dv:=ae (fun w (h1:GR g b w) (h2:VS b s (K+1) 0 c2 w)=>CB.o (K+1) c2 w gG.o h1 h2);obtain⟨K2,hK2⟩:=zN (aj l (K+1));rw[hK2]at hb gV Dv;have lV:Hd (R=_):=hb;clear hb hK2;have hwr:IntKind.i64.wrap ((K:Int)+1)=(K:Int)+1:=by rw[IntKind.wrap_i64];have:=gG.o;have:=bM.o.2;omega
        have b1:=HV.o.c1;have bf:=HV.o.f1;have g0:u5.cell? ⟨g,0,none⟩=some (.pointer (some ⟨b,0,none⟩)):=HG.o;go_wp2_with (fail);obtain⟨u6,hq⟩:=zN (u5.setCell ⟨b,1,none⟩ (.int .i64 ((K:Int)+1)));replace HV:Hd (VS b s (K+1) 0 c2 u6):=by show VS _ _ _ _ _ u6;rw[<-hq,show((K:Int)+1)=((K+1:Nat):Int) by omega];exact HV.o.set1 _
        replace HG:Hd (GR g b u6):=by show GR g b u6;rw[<-hq];exact HG.o.other HB.o.2.2.2 _ _
        replace HD:Hd (VP D m y1 y2 y3 P Q u6):=by show VP D _ _ _ _ _ _ u6;rw[<-hq];exact HD.o.other nz.o.2.1 _ _
        replace HW:Hd (w.grownBy u6 (some b)):=by show w.grownBy u6 (some b);rw[<-hq];exact bI HW.o _ _
        try rw[hq]
        clear hq b1 bf g0 hwr
        by_cases hm:K2=K+1
        ·rw[decide_eq_false (by omega)]at Dv;have HZ:Hd (R=(2,K+1,acc.map cO)):=by show R=_;rw[lV.o,if_pos hm]
         rw[hm]at Dv;clear hm lV;refine(Dv.o _ HG.o HV.o).mono ?_;rintro e u7 ⟨rfl,hv,hg⟩;replace HV:=ae hv;replace HG:=ae (HG.o.growb hg HB.o.2.2.2);replace HD:=ae (HD.o.grow hg nz.o.2.1);replace HW:=ae (ag HW.o hg);clear hv hg;have zT:=ae (CF.o (K+1) c2 2 (K+1));have e0:u7.cell? ⟨g,0,none⟩=some (.pointer (some ⟨b,0,none⟩)):=HG.o;have e1:=HV.o.c1;go_wp2_with (fail)
         go_region_held3 (fun w'=>w'.cell? ⟨g,0,none⟩=some (.pointer (some ⟨b,0,none⟩))/\w'.cell? ⟨b,1,none⟩=some (.int .i64 ((K+1:Nat):Int))) (first|(simp only[lh];exact⟨e0,e1⟩)|exact hS1) (first|(go_at_call 48;refine(zT.o _ (by first|exact HV.o|exact VS.drew HV.o 1)).mono ?_;rintro e u8 ⟨rfl,hv,iE⟩;have hS1:u8.cell? ⟨g,0,none⟩=some (.pointer (some ⟨b,0,none⟩))/\u8.cell? ⟨b,1,none⟩=some (.int .i64 ((K+1:Nat):Int)):=⟨GR.growb (b:=b) HG.o (dF iE) HB.o.2.2.2,hv.c1⟩))
         have hg:=dF iE;clear iE e0 e1 hS1;replace HV:=ae hv;replace HG:=ae (HG.o.growb hg HB.o.2.2.2);replace HD:=ae (HD.o.grow hg nz.o.2.1);replace HW:=ae (ag HW.o hg);clear hv hg;have fM:Hd (¬(2:Int)=0):=by show ¬_;decide
         have Ja:=ae (fun w (h1:GR g b w) (h2:VS b s (K+1) 2 (K+1) w)=>CPL.o (K+1) 2 (K+1) w fM.o gG.o h1 h2);go_wp2_with (first|(go_at_call 76;refine(Ja.o _ HG.o HV.o).mono ?_));rintro e u9 ⟨m2,z1,z2,z3,P2,Q2,j3,rfl,hv,hg,hj3⟩;replace HV:=ae hv;replace HG:=ae (HG.o.growb hg HB.o.2.2.2);replace HD:=ae (HD.o.grow hg nz.o.2.1);replace HW:=ae (ag HW.o hg);clear hv hg;clear hj3;obtain⟨D2,hD2⟩:=zN (u9.heap.size);obtain⟨W2,hW2⟩:=zN (u9.alloc (.cells #[.int .i64 m2,.int .i64 z1,.int .i64 z2,.int .i64 z3,.string P2,.string Q2] 105));have hgW:u9.grownBy W2 none:=by rw[<-hW2];exact ak (ai u9 none) _
         have HD2:Hd (VP D2 m2 z1 z2 z3 P2 Q2 W2):=by show W2.heap[D2]?=_;rw[<-hW2,<-hD2];exact heap_alloc_new u9 _
         have Oo:Hd (B<=D2/\D2≠b):=by have h1:=HW.o.size;have h2:=HB.o;rw[h2.1,hD2]at h1;refine⟨h1,?_⟩;omega
         replace HV:=ae (HV.o.grow hgW (by simp));replace HG:=ae (HG.o.grow hgW);replace HD:=ae (HD.o.grow0 hgW);replace HW:=ae (ag HW.o (dA hgW _));clear hgW;have l7:=ae (fun w (h1:GR g b w) (h2:VS b s (j3) 2 (K+1) w)=>FX.o (j3) 2 (K+1) w fM.o h1 h2);go_wp2_with (go_at_call 42;refine(l7.o _ HG.o HV.o).mono ?_);rintro e u10 ⟨rfl,n,hn⟩;replace HV:Hd (VS b s (j3) 2 (K+1) u10):=by show VS _ _ _ _ _ u10;rw[hn];exact HV.o.drew _
         replace HG:Hd (GR g b u10):=by show GR g b u10;rw[hn];exact HG.o
         replace HD:Hd (VP D m y1 y2 y3 P Q u10):=by show VP D _ _ _ _ _ _ u10;rw[hn];exact HD.o
         replace HD2:Hd (VP D2 m2 z1 z2 z3 P2 Q2 u10):=by show VP D2 _ _ _ _ _ _ u10;rw[hn];exact HD2.o
         replace HW:Hd (w.grownBy u10 (some b)):=by show w.grownBy u10 (some b);rw[hn];exact aH HW.o _
         clear hn;clear hW2 hD2;have zV:=ae (fun w (h1:GR g b w) (h2:VS b s (j3) 2 (K+1) w)=>Dt.o (j3) 2 (K+1) w fM.o h1 h2);go_wp2_with (go_at_call 74;refine(zV.o _ HG.o HV.o).mono ?_);rintro e u12 ⟨rfl,n,hn⟩;replace HV:Hd (VS b s (j3) 2 (K+1) u12):=by show VS _ _ _ _ _ u12;rw[hn];exact HV.o.drew _
         replace HG:Hd (GR g b u12):=by show GR g b u12;rw[hn];exact HG.o
         replace HD:Hd (VP D m y1 y2 y3 P Q u12):=by show VP D _ _ _ _ _ _ u12;rw[hn];exact HD.o
         replace HD2:Hd (VP D2 m2 z1 z2 z3 P2 Q2 u12):=by show VP D2 _ _ _ _ _ _ u12;rw[hn];exact HD2.o
         replace HW:Hd (w.grownBy u12 (some b)):=by show w.grownBy u12 (some b);rw[hn];exact aH HW.o _
         clear hn;obtain⟨k0,k1,k2,k3,k4,k5⟩:=HD.o.cells;obtain⟨r0,r1,r2,r3,r4,r5⟩:=HD2.o.cells;go_wp2;go_ret;have hga:u12.grownBy (u12.alloc (.cells #[.int .i64 7,.int .i64 m,.int .i64 y1,.int .i64 y2,.int .i64 y3,.string P,.string Q,.int .i64 2,.int .i64 m2,.int .i64 z1,.int .i64 z2,.int .i64 z3,.string P2,.string Q2] 107)) none:=ak (ai _ none) _;exact⟨_,2,2,[⟨7,m,y1,y2,y3,P,Q⟩,⟨2,m2,z1,z2,z3,P2,Q2⟩],j3,K+1,rfl,by rw[HZ.o];exact HV.o.grow hga (by simp),OT.two HW.o.size (heap_alloc_new _ _),ag HW.o (dA hga _),fun h=>by rw[HZ.o]at h;exact absurd h (by simp),fun _=>by rw[HZ.o]⟩
        ·rw[decide_eq_true (by have:=gV.o;omega)]at Dv;have ay:Hd (R=if(au l K2).1=0 then(if dJ l (aj l (au l K2).2.1)=true then(0,aj l (au l K2).2.1,[⟨7,p⟩,⟨2,(au l K2).2.2⟩]) else(2,aj l (au l K2).2.1,acc.map cO)) else((au l K2).1,(au l K2).2.1,acc.map cO)):=by show R=_;rw[lV.o,if_neg hm]
         have Ja:=ae (fun w (h1:GR g b w) (h2:VS b s K2 0 c2 w)=>CP.o K2 c2 w gV.o.2 h1 h2);have Oq:=ae (Di.o K2 gV.o.2);have zh:=ae (iT.o K2);obtain⟨E2,J2,q,hR2⟩:∃E2 J2 q,au l K2=(E2,J2,q):=⟨_,_,_,rfl⟩;rw[hR2]at ay Ja Oq zh;simp only[]at ay Oq zh;clear hR2 hm lV;refine(Dv.o _ HG.o HV.o).mono ?_;rintro e u7 ⟨rfl,hv,hg⟩;replace HV:=ae hv;replace HG:=ae (HG.o.growb hg HB.o.2.2.2);replace HD:=ae (HD.o.grow hg nz.o.2.1);replace HW:=ae (ag HW.o hg);clear hv hg;go_wp2_with (go_at_call 76;refine(Ja.o _ HG.o HV.o).mono ?_);rintro e u9 ⟨m2,z1,z2,z3,P2,Q2,j3,c3,rfl,hv,hg,hok,herr⟩;replace HV:Hd (VS b s (j3) E2 (c3) u9):=hv;replace HG:=ae (HG.o.growb hg HB.o.2.2.2);replace HD:=ae (HD.o.grow hg nz.o.2.1);replace HW:=ae (ag HW.o hg);clear hv hg;have Xe:Hd ((E2=0->j3=J2/\m2=(q.n:Int)/\z1=q.a/\z2=q.b/\z3=q.c/\P2=⟨q.pre.toArray⟩)/\(¬E2=0->c3=J2)):=⟨hok,herr⟩
         clear hok herr;obtain⟨D2,hD2⟩:=zN (u9.heap.size);obtain⟨W2,hW2⟩:=zN (u9.alloc (.cells #[.int .i64 m2,.int .i64 z1,.int .i64 z2,.int .i64 z3,.string P2,.string Q2] 105));have hgW:u9.grownBy W2 none:=by rw[<-hW2];exact ak (ai u9 none) _
         have HD2:Hd (VP D2 m2 z1 z2 z3 P2 Q2 W2):=by show W2.heap[D2]?=_;rw[<-hW2,<-hD2];exact heap_alloc_new u9 _
         have Oo:Hd (B<=D2/\D2≠b):=by have h1:=HW.o.size;have h2:=HB.o;rw[h2.1,hD2]at h1;refine⟨h1,?_⟩;omega
         replace HV:=ae (HV.o.grow hgW (by simp));replace HG:=ae (HG.o.grow hgW);replace HD:=ae (HD.o.grow0 hgW);replace HW:=ae (ag HW.o (dA hgW _));clear hgW
         by_cases hE2:E2=0
         ·subst hE2;obtain⟨f1,f2,f3,f4,f5,f6⟩:=Xe.o.1 rfl;obtain⟨h1,h2,h3⟩:=Oq.o rfl;have uK:Hd (m2=(q.n:Int)/\z1=q.a/\z2=q.b/\z3=q.c/\P2=⟨q.pre.toArray⟩):=⟨f2,f3,f4,f5,f6⟩;have HX:Hd (J2<=s.size/\eQ q):=⟨h2,h3⟩;subst f1;clear f2 f3 f4 f5 f6 h1 h2 h3;rw[if_pos rfl]at ay;have Ot:=ae (fun w (h1:GR g b w) (h2:VS b s j3 0 c3 w)=>CB.o j3 c3 w HX.o.1 h1 h2);have jf:=ae ((jy.o j3 HX.o.1).2);obtain⟨K3,hK3⟩:=zN (aj l j3);rw[hK3]at Ot jf ay;obtain⟨ap3,Xf⟩:=zN (decide (j3<K3));rw[Xf]at Ot;clear hK3 Xf;go_wp2_with (go_at_call 42;refine(Ot.o _ HG.o HV.o).mono ?_);rintro e u10 ⟨rfl,hv,hg⟩;replace HV:=ae hv;replace HG:=ae (HG.o.growb hg HB.o.2.2.2);replace HD:=ae (HD.o.grow hg nz.o.2.1);replace HD2:=ae (HD2.o.grow hg Oo.o.2);replace HW:=ae (ag HW.o hg);clear hv hg;clear hW2 hD2
          cases hen3:dJ l K3 with
          | true =>
           have HZ:Hd (R=(0,K3,[⟨7,p⟩,⟨2,q⟩])):=by show R=_;rw[ay.o,if_pos hen3]
           have zV:Hd (∀w,GR g b w->VS b s K3 0 c3 w->Calls prog 74 #[.pointer (some ⟨g,0,none⟩)] w fun e w'=>e=.returned (.bool true)/\∃n,w'=w.drewN n):=fun w h1 h2=>by have:=CE.o K3 c3 w jf.o h1 h2;rw[hen3]at this;exact this
           clear hen3;go_wp2_with (go_at_call 74;refine(zV.o _ HG.o HV.o).mono ?_);rintro e u12 ⟨rfl,n,hn⟩;replace HV:Hd (VS b s (K3) 0 (c3) u12):=by show VS _ _ _ _ _ u12;rw[hn];exact HV.o.drew _
           replace HG:Hd (GR g b u12):=by show GR g b u12;rw[hn];exact HG.o
           replace HD:Hd (VP D m y1 y2 y3 P Q u12):=by show VP D _ _ _ _ _ _ u12;rw[hn];exact HD.o
           replace HD2:Hd (VP D2 m2 z1 z2 z3 P2 Q2 u12):=by show VP D2 _ _ _ _ _ _ u12;rw[hn];exact HD2.o
           replace HW:Hd (w.grownBy u12 (some b)):=by show w.grownBy u12 (some b);rw[hn];exact aH HW.o _
           clear hn;obtain⟨k0,k1,k2,k3,k4,k5⟩:=HD.o.cells;obtain⟨r0,r1,r2,r3,r4,r5⟩:=HD2.o.cells;go_wp2;go_ret;have hga:u12.grownBy (u12.alloc (.cells #[.int .i64 7,.int .i64 m,.int .i64 y1,.int .i64 y2,.int .i64 y3,.string P,.string Q,.int .i64 2,.int .i64 m2,.int .i64 z1,.int .i64 z2,.int .i64 z3,.string P2,.string Q2] 107)) none:=ak (ai _ none) _;exact⟨_,2,2,[⟨7,m,y1,y2,y3,P,Q⟩,⟨2,m2,z1,z2,z3,P2,Q2⟩],K3,c3,rfl,by rw[HZ.o];exact HV.o.grow hga (by simp),OT.two HW.o.size (heap_alloc_new _ _),ag HW.o (dA hga _),fun _=>(by
            rw[HZ.o];refine⟨?_,rfl,?_⟩
            ·simp only[List.map_cons,List.map_nil];rw[zQ (p:=p) 7 HQ.o.1 HQ.o.2.1 HQ.o.2.2.1 HQ.o.2.2.2.1 HQ.o.2.2.2.2,zQ (p:=q) 2 uK.o.1 uK.o.2.1 uK.o.2.2.1 uK.o.2.2.2.1 uK.o.2.2.2.2]
            ·intro x hx;simp only[List.mem_cons,List.not_mem_nil,or_false]at hx
             rcases hx with rfl|rfl
             ·exact Dq (p:=p) 7 (by decide) HP.o.2.2 HP2.o HQ.o.1 HQ.o.2.1 HQ.o.2.2.1 HQ.o.2.2.2.1 HQ.o.2.2.2.2
             ·exact Dq (p:=q) 2 (by decide) HX.o.2 zh.o uK.o.1 uK.o.2.1 uK.o.2.2.1 uK.o.2.2.2.1 uK.o.2.2.2.2),fun h=>absurd (by rw[HZ.o]) h⟩
          | false =>
           have HZ:Hd (R=(2,K3,acc.map cO)):=by show R=_;rw[ay.o,if_neg (by rw[hen3];decide)]
           have zV:Hd (∀w,GR g b w->VS b s K3 0 c3 w->Calls prog 74 #[.pointer (some ⟨g,0,none⟩)] w fun e w'=>e=.returned (.bool false)/\∃n,w'=w.drewN n):=fun w h1 h2=>by have:=CE.o K3 c3 w jf.o h1 h2;rw[hen3]at this;exact this
           clear hen3;go_wp2_with (go_at_call 74;refine(zV.o _ HG.o HV.o).mono ?_);rintro e u12 ⟨rfl,n,hn⟩;replace HV:Hd (VS b s (K3) 0 (c3) u12):=by show VS _ _ _ _ _ u12;rw[hn];exact HV.o.drew _
           replace HG:Hd (GR g b u12):=by show GR g b u12;rw[hn];exact HG.o
           replace HD:Hd (VP D m y1 y2 y3 P Q u12):=by show VP D _ _ _ _ _ _ u12;rw[hn];exact HD.o
           replace HD2:Hd (VP D2 m2 z1 z2 z3 P2 Q2 u12):=by show VP D2 _ _ _ _ _ _ u12;rw[hn];exact HD2.o
           replace HW:Hd (w.grownBy u12 (some b)):=by show w.grownBy u12 (some b);rw[hn];exact aH HW.o _
           clear hn;have zT:=ae (CF.o K3 c3 2 K3);have e0:u12.cell? ⟨g,0,none⟩=some (.pointer (some ⟨b,0,none⟩)):=HG.o;have e1:=HV.o.c1;go_wp2_with (fail)
           go_region_held3 (fun w'=>w'.cell? ⟨g,0,none⟩=some (.pointer (some ⟨b,0,none⟩))/\w'.cell? ⟨b,1,none⟩=some (.int .i64 ((K3:Nat):Int))) (first|(simp only[lh];exact⟨e0,e1⟩)|exact hS1) (first|(go_at_call 48;refine(zT.o _ (by first|exact HV.o|exact VS.drew HV.o 1)).mono ?_;rintro e u13 ⟨rfl,hv,iE⟩;have hS1:u13.cell? ⟨g,0,none⟩=some (.pointer (some ⟨b,0,none⟩))/\u13.cell? ⟨b,1,none⟩=some (.int .i64 ((K3:Nat):Int)):=⟨GR.growb (b:=b) HG.o (dF iE) HB.o.2.2.2,hv.c1⟩))
           have hg:=dF iE;clear iE e0 e1 hS1;replace HV:=ae hv;replace HG:=ae (HG.o.growb hg HB.o.2.2.2);replace HD:=ae (HD.o.grow hg nz.o.2.1);replace HD2:=ae (HD2.o.grow hg Oo.o.2);replace HW:=ae (ag HW.o hg);clear hv hg;obtain⟨k0,k1,k2,k3,k4,k5⟩:=HD.o.cells;obtain⟨r0,r1,r2,r3,r4,r5⟩:=HD2.o.cells;go_wp2;go_ret;have hga:u13.grownBy (u13.alloc (.cells #[.int .i64 7,.int .i64 m,.int .i64 y1,.int .i64 y2,.int .i64 y3,.string P,.string Q,.int .i64 2,.int .i64 m2,.int .i64 z1,.int .i64 z2,.int .i64 z3,.string P2,.string Q2] 107)) none:=ak (ai _ none) _;exact⟨_,2,2,[⟨7,m,y1,y2,y3,P,Q⟩,⟨2,m2,z1,z2,z3,P2,Q2⟩],K3,K3,rfl,by rw[HZ.o];exact HV.o.grow hga (by simp),OT.two HW.o.size (heap_alloc_new _ _),ag HW.o (dA hga _),fun h=>by rw[HZ.o]at h;exact absurd h (by simp),fun _=>by rw[HZ.o]⟩
         ·have fM:=ae hE2;have HZ:Hd (R=(E2,c3,acc.map cO)):=by show R=_;rw[ay.o,if_neg hE2,Xe.o.2 hE2]
          clear hE2;have l7:=ae (fun w (h1:GR g b w) (h2:VS b s (j3) E2 (c3) w)=>FX.o (j3) E2 (c3) w fM.o h1 h2);go_wp2_with (go_at_call 42;refine(l7.o _ HG.o HV.o).mono ?_);rintro e u10 ⟨rfl,n,hn⟩;replace HV:Hd (VS b s (j3) E2 (c3) u10):=by show VS _ _ _ _ _ u10;rw[hn];exact HV.o.drew _
          replace HG:Hd (GR g b u10):=by show GR g b u10;rw[hn];exact HG.o
          replace HD:Hd (VP D m y1 y2 y3 P Q u10):=by show VP D _ _ _ _ _ _ u10;rw[hn];exact HD.o
          replace HD2:Hd (VP D2 m2 z1 z2 z3 P2 Q2 u10):=by show VP D2 _ _ _ _ _ _ u10;rw[hn];exact HD2.o
          replace HW:Hd (w.grownBy u10 (some b)):=by show w.grownBy u10 (some b);rw[hn];exact aH HW.o _
          clear hn;clear hW2 hD2;have zV:=ae (fun w (h1:GR g b w) (h2:VS b s (j3) E2 (c3) w)=>Dt.o (j3) E2 (c3) w fM.o h1 h2);go_wp2_with (go_at_call 74;refine(zV.o _ HG.o HV.o).mono ?_);rintro e u12 ⟨rfl,n,hn⟩;replace HV:Hd (VS b s (j3) E2 (c3) u12):=by show VS _ _ _ _ _ u12;rw[hn];exact HV.o.drew _
          replace HG:Hd (GR g b u12):=by show GR g b u12;rw[hn];exact HG.o
          replace HD:Hd (VP D m y1 y2 y3 P Q u12):=by show VP D _ _ _ _ _ _ u12;rw[hn];exact HD.o
          replace HD2:Hd (VP D2 m2 z1 z2 z3 P2 Q2 u12):=by show VP D2 _ _ _ _ _ _ u12;rw[hn];exact HD2.o
          replace HW:Hd (w.grownBy u12 (some b)):=by show w.grownBy u12 (some b);rw[hn];exact aH HW.o _
          clear hn;obtain⟨k0,k1,k2,k3,k4,k5⟩:=HD.o.cells;obtain⟨r0,r1,r2,r3,r4,r5⟩:=HD2.o.cells;go_wp2;go_ret;have hga:u12.grownBy (u12.alloc (.cells #[.int .i64 7,.int .i64 m,.int .i64 y1,.int .i64 y2,.int .i64 y3,.string P,.string Q,.int .i64 2,.int .i64 m2,.int .i64 z1,.int .i64 z2,.int .i64 z3,.string P2,.string Q2] 107)) none:=ak (ai _ none) _;exact⟨_,2,2,[⟨7,m,y1,y2,y3,P,Q⟩,⟨2,m2,z1,z2,z3,P2,Q2⟩],j3,c3,rfl,by rw[HZ.o];exact HV.o.grow hga (by simp),OT.two HW.o.size (heap_alloc_new _ _),ag HW.o (dA hga _),fun h=>by rw[HZ.o]at h;exact absurd h fM.o,fun _=>by rw[HZ.o]⟩
     ·rcases(show(¬n0=0/\sg<0)\/(¬n0=0/\¬sg<0)\/(n0=0/\¬sg<0) by omega) with⟨hz,hsn⟩|⟨hz,hsn⟩|⟨hz,hsn⟩
      all_goals (
       clear h4
       first
        | (subst hz;have Xd:Hd (acc.map cO=[]):=(by show _=_;rw[List.map_eq_nil_iff];exact List.length_eq_zero_iff.1 dM.o.1))
        | (have Xg:Hd (¬acc.map cO=[]):=(by show ¬_;intro h;rw[List.map_eq_nil_iff]at h;have h2:=dM.o.1;rw[h]at h2;exact hz h2.symm);have hlen:((n0:Int) == 0)=false:=(by simp;omega);clear hz)
       have eP:=ae hsn
       cases ap with
       | false =>
        obtain⟨k0,k1,k2,k3,k4,k5⟩:=HD.o.cells;have hinfo:=zO;obtain⟨i1,hj0,hjj⟩:=Option.map_eq_some_iff.1 hinfo;have hy0:i1.zero=some (.agg #[.int .i64 0,.int .i64 0,.int .i64 0,.int .i64 0,.int .i64 0,.string ⟨#[]⟩,.string ⟨#[]⟩]):=congrArg (·.1) hjj;have hy1:i1.size=7:=congrArg (·.2.1) hjj;have hyb:i1.bytes=72:=congrArg (·.2.2) hjj;clear hjj hinfo
        first|(have h0:sg<0:=eP.o;obtain⟨tq,gK⟩:∃tq:Tq,tq=⟨0,m,y1,y2,y3,P,Q⟩:=⟨_,rfl⟩;have htc:jh tq=[.int .i64 (0),.int .i64 m,.int .i64 y1,.int .i64 y2,.int .i64 y3,.string P,.string Q]:=(by rw[gK];rfl);clear h0)|(obtain⟨tq,gK⟩:∃tq:Tq,tq=⟨sg,m,y1,y2,y3,P,Q⟩:=⟨_,rfl⟩;have htc:jh tq=[.int .i64 (sg),.int .i64 m,.int .i64 y1,.int .i64 y2,.int .i64 y3,.string P,.string Q]:=(by rw[gK];rfl))
        have pJ:=ae gK;have kJ:=ae htc;clear gK htc;go_wp2_with (first|(at_builtin;refine wpList_append_own _ rfl _ _ 96 rfl B 107 i1 _ 7 72 underlying96 hj0 hy0 hy1 hyb rfl (by decide) _ _ _ rfl (by have h:=HO.o;unfold OT at h;rw[dM.o.1]at h;exact h.alloc _) _ 1 1 (jh tq) rfl (by rw[kJ.o];rfl) (by rw[kJ.o];exact World.news_of_block (heap_alloc_new _ _)) (zM tq) (by unfold maxLen;have:=dM.o;omega) (by have:=dM.o;omega) (by have h1:=HW.o.size;rw[HB.o.1]at h1;simp;omega) ?_;intro v' u9 hown hgrow _))
        first|(have h0:sg<0:=eP.o;have hga:u4.grownBy (u4.alloc (.cells #[.int .i64 (0),.int .i64 m,.int .i64 y1,.int .i64 y2,.int .i64 y3,.string P,.string Q] 107)) none:=ak (ai _ none) _;clear h0)|(have hga:u4.grownBy (u4.alloc (.cells #[.int .i64 (sg),.int .i64 m,.int .i64 y1,.int .i64 y2,.int .i64 y3,.string P,.string Q] 107)) none:=ak (ai _ none) _)
        have bP:=HO.o.far;have bH:Hd (OT u9 B v' (acc++[tq])):=by show OT u9 B v' _;unfold OT;rw[List.length_append,List.flatMap_append,dM.o.1];simpa using hown
        replace HV:=(HV.o.grow hga (by simp)).grow hgrow (fun e=>by have:=bP b e.symm;have:=HB.o;omega);replace HG:=ae ((HG.o.grow hga).growr hgrow (fun e=>by have:=bP g e.symm;have:=HB.o;omega));replace HW:=ae (yt (ag HW.o (dA hga _)) hgrow (fun q hq=>by rw[HB.o.1];exact bP q hq));have bW:Hd ((acc++[tq]).length<=1000):=by show _<=_;rw[List.length_append,dM.o.1];have:=HJ.o;have:=bM.o.2;first|(simp;omega)|simp
        obtain⟨o9,c9,hvn⟩:=bH.o.slice;obtain⟨n9,kK⟩:=zN ((acc++[tq]).length);rw[kK]at hvn;rw[hvn]at bH
        try rw[hvn]
        clear kK;clear hown hgrow hga bP hj0 hy0 hy1 hyb k0 k1 k2 k3 k4 k5 hvn;have jA:=ae HV;clear HV
        cases hen:dJ l K with
        | true =>
         have qy:Hd (∀w,GR g b w->VS b s K 0 c2 w->Calls prog 74 #[.pointer (some ⟨g,0,none⟩)] w fun e w'=>e=.returned (.bool true)/\∃n,w'=w.drewN n):=fun w h1 h2=>by have:=CE.o K c2 w HK.o.2 h1 h2;rw[hen]at this;exact this
         have bC:Hd (R=fC l f K ((acc++[tq]).map cO)):=by
          show R=_;rw[List.map_append,show[tq].map cO=[⟨gI sg,p⟩] by rw[pJ.o];simp only[List.map_cons,List.map_nil];rw[zQ (p:=p) _ HQ.o.1 HQ.o.2.1 HQ.o.2.2.1 HQ.o.2.2.2.1 HQ.o.2.2.2.2];unfold gI;first|rw[if_pos eP.o]|rw[if_neg (by have:=eP.o;omega)]];exact MORE.o (by first|trivial|rfl) (fun h=>by first|exact Xg.o h.1.2|(have:=eP.o;have:=h.1.1;omega)) (fun h=>h.2 hen)
         have iU:Hd (∀x∈acc++[tq],jL x):=by
          intro x hx
          rcases List.mem_append.1 hx with h|h
          ·exact gJ.o x h
          ·rw[List.mem_singleton.1 h,pJ.o];exact Dq (p:=p) _ (by have:=eP.o;have:=pF.o;omega) HP.o.2.2 HP2.o HQ.o.1 HQ.o.2.1 HQ.o.2.2.1 HQ.o.2.2.2.1 HQ.o.2.2.2.2
         clear hen;go_wp2_with (go_at_call 74;refine(qy.o _ HG.o jA.o).mono ?_);rintro e u10 ⟨rfl,n,hn⟩;have HF:Hd (VS b s K 0 c2 u10/\GR g b u10/\OT u10 B (.slice o9 n9 c9) (acc++[tq])/\w.grownBy u10 (some b)):=by
          rw[hn];exact⟨jA.o.drew _,HG.o,bH.o,aH HW.o _⟩
         clear hn;go_wp2;go_roundw
         case rel=>exact DRel.ok (f:=f) HF.o.1 HF.o.2.1 HF.o.2.2.1 HF.o.2.2.2 bW.o HK.o.2 (by rw[List.length_append,dM.o.1];have:=HJ.o;have:=HS2.o;have:=HP.o;have:=HK.o;first|(simp;omega)|simp) (by have:=HJ.o;have:=HS2.o;have:=HP.o;have:=HK.o;omega) bC.o.symm iU.o
         case measure=>rw[HM.o,HF.o.1.meas0];have:=HJ.o;have:=HS2.o;have:=HP.o;have:=HK.o;omega
        | false =>
         have qy:Hd (∀w,GR g b w->VS b s K 0 c2 w->Calls prog 74 #[.pointer (some ⟨g,0,none⟩)] w fun e w'=>e=.returned (.bool false)/\∃n,w'=w.drewN n):=fun w h1 h2=>by have:=CE.o K c2 w HK.o.2 h1 h2;rw[hen]at this;exact this
         have HZ:=ae (GAP.o (by first|trivial|rfl) (of_decide_eq_false lZ.o) (by rw[hen];decide));clear hen;go_wp2_with (go_at_call 74;refine(qy.o _ HG.o jA.o).mono ?_);rintro e u10 ⟨rfl,n,hn⟩;have HF:Hd (VS b s K 0 c2 u10/\GR g b u10/\OT u10 B (.slice o9 n9 c9) (acc++[tq])/\w.grownBy u10 (some b)):=by
          rw[hn];exact⟨jA.o.drew _,HG.o,bH.o,aH HW.o _⟩
         clear hn;have zT:=ae (CF.o K c2 2 K);have e0:u10.cell? ⟨g,0,none⟩=some (.pointer (some ⟨b,0,none⟩)):=HF.o.2.1;have e1:=(HF.o.1).c1;go_wp2_with (fail)
         go_region_held3 (fun w'=>w'.cell? ⟨g,0,none⟩=some (.pointer (some ⟨b,0,none⟩))/\w'.cell? ⟨b,1,none⟩=some (.int .i64 (K:Int))) (first|(simp only[lh];exact⟨e0,e1⟩)|exact hS1) (first|(go_at_call 48;refine(zT.o _ (by first|exact HF.o.1|exact VS.drew HF.o.1 1)).mono ?_;rintro e u11 ⟨rfl,zU,iE⟩;have hS1:u11.cell? ⟨g,0,none⟩=some (.pointer (some ⟨b,0,none⟩))/\u11.cell? ⟨b,1,none⟩=some (.int .i64 (K:Int)):=⟨GR.growb (b:=b) HF.o.2.1 (dF iE) HB.o.2.2.2,zU.c1⟩))
         have iZ:=ae zU;have wP:=dF iE;have uG:Hd (GR g b u11/\OT u11 B (.slice o9 n9 c9) (acc++[tq])/\w.grownBy u11 (some b)):=⟨HF.o.2.1.growb wP HB.o.2.2.2,HF.o.2.2.1.growb wP HB.o.2.1,ag HF.o.2.2.2 wP⟩;clear zU iE wP e0 e1 hS1;go_wp2;go_roundw
         case rel=>exact DRel.bad iZ.o uG.o.1 uG.o.2.1 uG.o.2.2 bW.o (by decide) (by rw[HZ.o]) (by rw[HZ.o])
         case measure=>rw[HM.o,iZ.o.measE (by decide)];have:=HJ.o;omega
       | true =>
        obtain⟨k0,k1,k2,k3,k4,k5⟩:=HD.o.cells;have hinfo:=zO;obtain⟨i1,hj0,hjj⟩:=Option.map_eq_some_iff.1 hinfo;have hy0:i1.zero=some (.agg #[.int .i64 0,.int .i64 0,.int .i64 0,.int .i64 0,.int .i64 0,.string ⟨#[]⟩,.string ⟨#[]⟩]):=congrArg (·.1) hjj;have hy1:i1.size=7:=congrArg (·.2.1) hjj;have hyb:i1.bytes=72:=congrArg (·.2.2) hjj;clear hjj hinfo
        first|(have h0:sg<0:=eP.o;obtain⟨tq,gK⟩:∃tq:Tq,tq=⟨0,m,y1,y2,y3,P,Q⟩:=⟨_,rfl⟩;have htc:jh tq=[.int .i64 (0),.int .i64 m,.int .i64 y1,.int .i64 y2,.int .i64 y3,.string P,.string Q]:=(by rw[gK];rfl);clear h0)|(obtain⟨tq,gK⟩:∃tq:Tq,tq=⟨sg,m,y1,y2,y3,P,Q⟩:=⟨_,rfl⟩;have htc:jh tq=[.int .i64 (sg),.int .i64 m,.int .i64 y1,.int .i64 y2,.int .i64 y3,.string P,.string Q]:=(by rw[gK];rfl))
        have pJ:=ae gK;have kJ:=ae htc;clear gK htc;go_wp2_with (first|(at_builtin;refine wpList_append_own _ rfl _ _ 96 rfl B 107 i1 _ 7 72 underlying96 hj0 hy0 hy1 hyb rfl (by decide) _ _ _ rfl (by have h:=HO.o;unfold OT at h;rw[dM.o.1]at h;exact h.alloc _) _ 1 1 (jh tq) rfl (by rw[kJ.o];rfl) (by rw[kJ.o];exact World.news_of_block (heap_alloc_new _ _)) (zM tq) (by unfold maxLen;have:=dM.o;omega) (by have:=dM.o;omega) (by have h1:=HW.o.size;rw[HB.o.1]at h1;simp;omega) ?_;intro v' u9 hown hgrow _))
        first|(have h0:sg<0:=eP.o;have hga:u4.grownBy (u4.alloc (.cells #[.int .i64 (0),.int .i64 m,.int .i64 y1,.int .i64 y2,.int .i64 y3,.string P,.string Q] 107)) none:=ak (ai _ none) _;clear h0)|(have hga:u4.grownBy (u4.alloc (.cells #[.int .i64 (sg),.int .i64 m,.int .i64 y1,.int .i64 y2,.int .i64 y3,.string P,.string Q] 107)) none:=ak (ai _ none) _)
        have bP:=HO.o.far;have bH:Hd (OT u9 B v' (acc++[tq])):=by show OT u9 B v' _;unfold OT;rw[List.length_append,List.flatMap_append,dM.o.1];simpa using hown
        replace HV:=(HV.o.grow hga (by simp)).grow hgrow (fun e=>by have:=bP b e.symm;have:=HB.o;omega);replace HG:=ae ((HG.o.grow hga).growr hgrow (fun e=>by have:=bP g e.symm;have:=HB.o;omega));replace HW:=ae (yt (ag HW.o (dA hga _)) hgrow (fun q hq=>by rw[HB.o.1];exact bP q hq));have bW:Hd ((acc++[tq]).length<=1000):=by show _<=_;rw[List.length_append,dM.o.1];have:=HJ.o;have:=bM.o.2;first|(simp;omega)|simp
        obtain⟨o9,c9,hvn⟩:=bH.o.slice;obtain⟨n9,kK⟩:=zN ((acc++[tq]).length);rw[kK]at hvn;rw[hvn]at bH
        try rw[hvn]
        clear kK;clear hown hgrow hga bP hj0 hy0 hy1 hyb k0 k1 k2 k3 k4 k5 hvn;have jA:=ae HV;clear HV;have bC:Hd (R=fC l f K ((acc++[tq]).map cO)):=by
         show R=_;rw[List.map_append,show[tq].map cO=[⟨gI sg,p⟩] by rw[pJ.o];simp only[List.map_cons,List.map_nil];rw[zQ (p:=p) _ HQ.o.1 HQ.o.2.1 HQ.o.2.2.1 HQ.o.2.2.2.1 HQ.o.2.2.2.2];unfold gI;first|rw[if_pos eP.o]|rw[if_neg (by have:=eP.o;omega)]];exact MORE.o (by first|trivial|rfl) (fun h=>by first|exact Xg.o h.1.2|(have:=eP.o;have:=h.1.1;omega)) (fun h=>h.1 (of_decide_eq_true lZ.o))
        have iU:Hd (∀x∈acc++[tq],jL x):=by
         intro x hx
         rcases List.mem_append.1 hx with h|h
         ·exact gJ.o x h
         ·rw[List.mem_singleton.1 h,pJ.o];exact Dq (p:=p) _ (by have:=eP.o;have:=pF.o;omega) HP.o.2.2 HP2.o HQ.o.1 HQ.o.2.1 HQ.o.2.2.1 HQ.o.2.2.2.1 HQ.o.2.2.2.2
        have HF:Hd (VS b s K 0 c2 u9/\GR g b u9/\OT u9 B (.slice o9 n9 c9) (acc++[tq])/\w.grownBy u9 (some b)):=⟨jA.o,HG.o,bH.o,HW.o⟩;go_wp2;go_roundw
        case rel=>exact DRel.ok (f:=f) HF.o.1 HF.o.2.1 HF.o.2.2.1 HF.o.2.2.2 bW.o HK.o.2 (by rw[List.length_append,dM.o.1];have:=HJ.o;have:=HS2.o;have:=HP.o;have:=HK.o;first|(simp;omega)|simp) (by have:=HJ.o;have:=HS2.o;have:=HP.o;have:=HK.o;omega) bC.o.symm iU.o
        case measure=>rw[HM.o,HF.o.1.meas0];have:=HJ.o;have:=HS2.o;have:=HP.o;have:=HK.o;omega)
    ·have fM:=ae hE1;have HZ:Hd (R=(E1,c2,acc.map cO)):=by show R=_;rw[BAD.o hE1,Xc.o.2 hE1]
     clear hE1 BAD MORE GAP BTW
     by_cases hsn:sg<0
     ·cases hlz:decide (n0=0) with
      | false =>
       have hlen:((n0:Int) == 0)=false:=by have:=of_decide_eq_false hlz;simp;omega
       clear hlz;have l7:=ae (fun w (h1:GR g b w) (h2:VS b s (j2) E1 (c2) w)=>FX.o (j2) E1 (c2) w fM.o h1 h2);go_wp2_with (go_at_call 42;refine(l7.o _ HG.o HV.o).mono ?_);rintro e u4 ⟨rfl,n,hn⟩;replace HV:Hd (VS b s (j2) E1 (c2) u4):=by show VS _ _ _ _ _ u4;rw[hn];exact HV.o.drew _
       replace HG:Hd (GR g b u4):=by show GR g b u4;rw[hn];exact HG.o
       replace HO:Hd (OT u4 B (.slice o n0 c0) acc):=by show OT u4 B _ _;rw[hn];exact HO.o
       replace HD:Hd (VP D m y1 y2 y3 P Q u4):=by show VP D _ _ _ _ _ _ u4;rw[hn];exact HD.o
       replace HW:Hd (w.grownBy u4 (some b)):=by show w.grownBy u4 (some b);rw[hn];exact aH HW.o _
       clear hn;obtain⟨k0,k1,k2,k3,k4,k5⟩:=HD.o.cells;have hinfo:=zO;obtain⟨i1,hj0,hjj⟩:=Option.map_eq_some_iff.1 hinfo;have hy0:i1.zero=some (.agg #[.int .i64 0,.int .i64 0,.int .i64 0,.int .i64 0,.int .i64 0,.string ⟨#[]⟩,.string ⟨#[]⟩]):=congrArg (·.1) hjj;have hy1:i1.size=7:=congrArg (·.2.1) hjj;have hyb:i1.bytes=72:=congrArg (·.2.2) hjj;clear hjj hinfo;obtain⟨tq,gK⟩:∃tq:Tq,tq=⟨0,m,y1,y2,y3,P,Q⟩:=⟨_,rfl⟩;have pJ:=ae gK;have htc:jh tq=[.int .i64 (0),.int .i64 m,.int .i64 y1,.int .i64 y2,.int .i64 y3,.string P,.string Q]:=by rw[gK];rfl
       have kJ:=ae htc;clear gK htc;go_wp2_with (first|(at_builtin;refine wpList_append_own _ rfl _ _ 96 rfl B 107 i1 _ 7 72 underlying96 hj0 hy0 hy1 hyb rfl (by decide) _ _ _ rfl (by have h:=HO.o;unfold OT at h;rw[dM.o.1]at h;exact h.alloc _) _ 1 1 (jh tq) rfl (by rw[kJ.o];rfl) (by rw[kJ.o];exact World.news_of_block (heap_alloc_new _ _)) (zM tq) (by unfold maxLen;have:=dM.o;omega) (by have:=dM.o;omega) (by have h1:=HW.o.size;rw[HB.o.1]at h1;simp;omega) ?_;intro v' u9 hown hgrow _));have hga:u4.grownBy (u4.alloc (.cells #[.int .i64 (0),.int .i64 m,.int .i64 y1,.int .i64 y2,.int .i64 y3,.string P,.string Q] 107)) none:=ak (ai _ none) _;have bP:=HO.o.far;have bH:Hd (OT u9 B v' (acc++[tq])):=by show OT u9 B v' _;unfold OT;rw[List.length_append,List.flatMap_append,dM.o.1];simpa using hown
       replace HV:=(HV.o.grow hga (by simp)).grow hgrow (fun e=>by have:=bP b e.symm;have:=HB.o;omega);replace HG:=ae ((HG.o.grow hga).growr hgrow (fun e=>by have:=bP g e.symm;have:=HB.o;omega));replace HW:=ae (yt (ag HW.o (dA hga _)) hgrow (fun q hq=>by rw[HB.o.1];exact bP q hq));have bW:Hd ((acc++[tq]).length<=1000):=by show _<=_;rw[List.length_append,dM.o.1];have:=HJ.o;have:=bM.o.2;first|(simp;omega)|simp
       obtain⟨o9,c9,hvn⟩:=bH.o.slice;obtain⟨n9,kK⟩:=zN ((acc++[tq]).length);rw[kK]at hvn;rw[hvn]at bH
       try rw[hvn]
       clear kK;clear hown hgrow hga bP hj0 hy0 hy1 hyb k0 k1 k2 k3 k4 k5 hvn;have jA:=ae HV;clear HV;have qy:=ae (fun w (h1:GR g b w) (h2:VS b s j2 E1 c2 w)=>Dt.o j2 E1 c2 w fM.o h1 h2);go_wp2_with (go_at_call 74;refine(qy.o _ HG.o jA.o).mono ?_);rintro e u10 ⟨rfl,n,hn⟩;have HF:Hd (VS b s j2 E1 c2 u10/\GR g b u10/\OT u10 B (.slice o9 n9 c9) (acc++[tq])/\w.grownBy u10 (some b)):=by
        rw[hn];exact⟨jA.o.drew _,HG.o,bH.o,aH HW.o _⟩
       clear hn;go_wp2;go_roundw
       case rel=>exact DRel.bad HF.o.1 HF.o.2.1 HF.o.2.2.1 HF.o.2.2.2 bW.o fM.o (by rw[HZ.o]) (by rw[HZ.o])
       case measure=>rw[HM.o,HF.o.1.measE fM.o];have:=HJ.o;omega
      | true =>
       have hn0:=of_decide_eq_true hlz;subst hn0;clear hlz;have l7:=ae (fun w (h1:GR g b w) (h2:VS b s (j2) E1 (c2) w)=>FX.o (j2) E1 (c2) w fM.o h1 h2);go_wp2_with (go_at_call 42;refine(l7.o _ HG.o HV.o).mono ?_);rintro e u4 ⟨rfl,n,hn⟩;replace HV:Hd (VS b s (j2) E1 (c2) u4):=by show VS _ _ _ _ _ u4;rw[hn];exact HV.o.drew _
       replace HG:Hd (GR g b u4):=by show GR g b u4;rw[hn];exact HG.o
       replace HO:Hd (OT u4 B (.slice o 0 c0) acc):=by show OT u4 B _ _;rw[hn];exact HO.o
       replace HD:Hd (VP D m y1 y2 y3 P Q u4):=by show VP D _ _ _ _ _ _ u4;rw[hn];exact HD.o
       replace HW:Hd (w.grownBy u4 (some b)):=by show w.grownBy u4 (some b);rw[hn];exact aH HW.o _
       clear hn;obtain⟨k0,k1,k2,k3,k4,k5⟩:=HD.o.cells;have hinfo:=zO;obtain⟨i1,hj0,hjj⟩:=Option.map_eq_some_iff.1 hinfo;have hy0:i1.zero=some (.agg #[.int .i64 0,.int .i64 0,.int .i64 0,.int .i64 0,.int .i64 0,.string ⟨#[]⟩,.string ⟨#[]⟩]):=congrArg (·.1) hjj;have hy1:i1.size=7:=congrArg (·.2.1) hjj;have hyb:i1.bytes=72:=congrArg (·.2.2) hjj;clear hjj hinfo;obtain⟨tq,gK⟩:∃tq:Tq,tq=⟨0,m,y1,y2,y3,P,Q⟩:=⟨_,rfl⟩;have pJ:=ae gK;have htc:jh tq=[.int .i64 (0),.int .i64 m,.int .i64 y1,.int .i64 y2,.int .i64 y3,.string P,.string Q]:=by rw[gK];rfl
       have kJ:=ae htc;clear gK htc;go_wp2_with (first|(at_builtin;refine wpList_append_own _ rfl _ _ 96 rfl B 107 i1 _ 7 72 underlying96 hj0 hy0 hy1 hyb rfl (by decide) _ _ _ rfl (by have h:=HO.o;unfold OT at h;rw[dM.o.1]at h;exact h.alloc _) _ 1 1 (jh tq) rfl (by rw[kJ.o];rfl) (by rw[kJ.o];exact World.news_of_block (heap_alloc_new _ _)) (zM tq) (by unfold maxLen;have:=dM.o;omega) (by have:=dM.o;omega) (by have h1:=HW.o.size;rw[HB.o.1]at h1;simp;omega) ?_;intro v' u9 hown hgrow _));have hga:u4.grownBy (u4.alloc (.cells #[.int .i64 (0),.int .i64 m,.int .i64 y1,.int .i64 y2,.int .i64 y3,.string P,.string Q] 107)) none:=ak (ai _ none) _;have bP:=HO.o.far;have bH:Hd (OT u9 B v' (acc++[tq])):=by show OT u9 B v' _;unfold OT;rw[List.length_append,List.flatMap_append,dM.o.1];simpa using hown
       replace HV:=(HV.o.grow hga (by simp)).grow hgrow (fun e=>by have:=bP b e.symm;have:=HB.o;omega);replace HG:=ae ((HG.o.grow hga).growr hgrow (fun e=>by have:=bP g e.symm;have:=HB.o;omega));replace HW:=ae (yt (ag HW.o (dA hga _)) hgrow (fun q hq=>by rw[HB.o.1];exact bP q hq));have bW:Hd ((acc++[tq]).length<=1000):=by show _<=_;rw[List.length_append,dM.o.1];have:=HJ.o;have:=bM.o.2;first|(simp;omega)|simp
       obtain⟨o9,c9,hvn⟩:=bH.o.slice;obtain⟨n9,kK⟩:=zN ((acc++[tq]).length);rw[kK]at hvn;rw[hvn]at bH
       try rw[hvn]
       clear kK;clear hown hgrow hga bP hj0 hy0 hy1 hyb k0 k1 k2 k3 k4 k5 hvn;have jA:=ae HV;clear HV;have qy:=ae (fun w (h1:GR g b w) (h2:VS b s j2 E1 c2 w)=>Dt.o j2 E1 c2 w fM.o h1 h2);go_wp2_with (go_at_call 74;refine(qy.o _ HG.o jA.o).mono ?_);rintro e u10 ⟨rfl,n,hn⟩;have HF:Hd (VS b s j2 E1 c2 u10/\GR g b u10/\OT u10 B (.slice o9 n9 c9) (acc++[tq])/\w.grownBy u10 (some b)):=by
        rw[hn];exact⟨jA.o.drew _,HG.o,bH.o,aH HW.o _⟩
       clear hn;go_wp2;go_roundw
       case rel=>exact DRel.bad HF.o.1 HF.o.2.1 HF.o.2.2.1 HF.o.2.2.2 bW.o fM.o (by rw[HZ.o]) (by rw[HZ.o])
       case measure=>rw[HM.o,HF.o.1.measE fM.o];have:=HJ.o;omega
     ·have l7:=ae (fun w (h1:GR g b w) (h2:VS b s (j2) E1 (c2) w)=>FX.o (j2) E1 (c2) w fM.o h1 h2);go_wp2_with (go_at_call 42;refine(l7.o _ HG.o HV.o).mono ?_);rintro e u4 ⟨rfl,n,hn⟩;replace HV:Hd (VS b s (j2) E1 (c2) u4):=by show VS _ _ _ _ _ u4;rw[hn];exact HV.o.drew _
      replace HG:Hd (GR g b u4):=by show GR g b u4;rw[hn];exact HG.o
      replace HO:Hd (OT u4 B (.slice o n0 c0) acc):=by show OT u4 B _ _;rw[hn];exact HO.o
      replace HD:Hd (VP D m y1 y2 y3 P Q u4):=by show VP D _ _ _ _ _ _ u4;rw[hn];exact HD.o
      replace HW:Hd (w.grownBy u4 (some b)):=by show w.grownBy u4 (some b);rw[hn];exact aH HW.o _
      clear hn;obtain⟨k0,k1,k2,k3,k4,k5⟩:=HD.o.cells;have hinfo:=zO;obtain⟨i1,hj0,hjj⟩:=Option.map_eq_some_iff.1 hinfo;have hy0:i1.zero=some (.agg #[.int .i64 0,.int .i64 0,.int .i64 0,.int .i64 0,.int .i64 0,.string ⟨#[]⟩,.string ⟨#[]⟩]):=congrArg (·.1) hjj;have hy1:i1.size=7:=congrArg (·.2.1) hjj;have hyb:i1.bytes=72:=congrArg (·.2.2) hjj;clear hjj hinfo;obtain⟨tq,gK⟩:∃tq:Tq,tq=⟨sg,m,y1,y2,y3,P,Q⟩:=⟨_,rfl⟩;have pJ:=ae gK;have htc:jh tq=[.int .i64 (sg),.int .i64 m,.int .i64 y1,.int .i64 y2,.int .i64 y3,.string P,.string Q]:=by rw[gK];rfl
      have kJ:=ae htc;clear gK htc;go_wp2_with (first|(at_builtin;refine wpList_append_own _ rfl _ _ 96 rfl B 107 i1 _ 7 72 underlying96 hj0 hy0 hy1 hyb rfl (by decide) _ _ _ rfl (by have h:=HO.o;unfold OT at h;rw[dM.o.1]at h;exact h.alloc _) _ 1 1 (jh tq) rfl (by rw[kJ.o];rfl) (by rw[kJ.o];exact World.news_of_block (heap_alloc_new _ _)) (zM tq) (by unfold maxLen;have:=dM.o;omega) (by have:=dM.o;omega) (by have h1:=HW.o.size;rw[HB.o.1]at h1;simp;omega) ?_;intro v' u9 hown hgrow _));have hga:u4.grownBy (u4.alloc (.cells #[.int .i64 (sg),.int .i64 m,.int .i64 y1,.int .i64 y2,.int .i64 y3,.string P,.string Q] 107)) none:=ak (ai _ none) _;have bP:=HO.o.far;have bH:Hd (OT u9 B v' (acc++[tq])):=by show OT u9 B v' _;unfold OT;rw[List.length_append,List.flatMap_append,dM.o.1];simpa using hown
      replace HV:=(HV.o.grow hga (by simp)).grow hgrow (fun e=>by have:=bP b e.symm;have:=HB.o;omega);replace HG:=ae ((HG.o.grow hga).growr hgrow (fun e=>by have:=bP g e.symm;have:=HB.o;omega));replace HW:=ae (yt (ag HW.o (dA hga _)) hgrow (fun q hq=>by rw[HB.o.1];exact bP q hq));have bW:Hd ((acc++[tq]).length<=1000):=by show _<=_;rw[List.length_append,dM.o.1];have:=HJ.o;have:=bM.o.2;first|(simp;omega)|simp
      obtain⟨o9,c9,hvn⟩:=bH.o.slice;obtain⟨n9,kK⟩:=zN ((acc++[tq]).length);rw[kK]at hvn;rw[hvn]at bH
      try rw[hvn]
      clear kK;clear hown hgrow hga bP hj0 hy0 hy1 hyb k0 k1 k2 k3 k4 k5 hvn;have jA:=ae HV;clear HV;have qy:=ae (fun w (h1:GR g b w) (h2:VS b s j2 E1 c2 w)=>Dt.o j2 E1 c2 w fM.o h1 h2);go_wp2_with (go_at_call 74;refine(qy.o _ HG.o jA.o).mono ?_);rintro e u10 ⟨rfl,n,hn⟩;have HF:Hd (VS b s j2 E1 c2 u10/\GR g b u10/\OT u10 B (.slice o9 n9 c9) (acc++[tq])/\w.grownBy u10 (some b)):=by
       rw[hn];exact⟨jA.o.drew _,HG.o,bH.o,aH HW.o _⟩
      clear hn;go_wp2;go_roundw
      case rel=>exact DRel.bad HF.o.1 HF.o.2.1 HF.o.2.2.1 HF.o.2.2.2 bW.o fM.o (by rw[HZ.o]) (by rw[HZ.o])
      case measure=>rw[HM.o,HF.o.1.measE fM.o];have:=HJ.o;omega
  ·have FY:=ae (fun w (h1:GR g b w) (h2:VS b s j E c w)=>Dt.o j E c w hE h1 h2);have HE:Hd (¬E=0/\R.1=E/\R.2.1=c):=⟨hE,hR1,hR2⟩;clear hE hR1 hR2;go_wp2_with (go_at_call 74;refine(FY.o _ HG.o HV.o).mono ?_);rintro e u1 ⟨rfl,n,hn⟩;replace HV:Hd (VS b s (j) E (c) u1):=by show VS _ _ _ _ _ u1;rw[hn];exact HV.o.drew _
   replace HG:Hd (GR g b u1):=by show GR g b u1;rw[hn];exact HG.o
   replace HO:Hd (OT u1 B (.slice o n0 c0) acc):=by show OT u1 B _ _;rw[hn];exact HO.o
   replace HW:Hd (w.grownBy u1 (some b)):=by show w.grownBy u1 (some b);rw[hn];exact aH HW.o _
   clear hn;go_wp2;go_ret;exact⟨o,n0,c0,acc,j,c,rfl,by rw[HE.o.2.1];exact HV.o,by rw[HB.o.1];exact HO.o,HW.o,fun h=>absurd (HE.o.2.1.symm.trans h) HE.o.1,fun _=>HE.o.2.2.symm⟩
end Go.Proofs.YtiinliaoojfjaaaGreatDoor
