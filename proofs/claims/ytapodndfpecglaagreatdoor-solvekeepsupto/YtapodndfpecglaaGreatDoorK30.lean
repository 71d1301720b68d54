import Derived.Test.YtapodndfpecglaaGreatDoorK29
import Derived.Test.YtapodndfpecglaaGreatDoorK28
set_option linter.all false
set_option maxRecDepth 100000
set_option maxHeartbeats 0
open Go.Proofs.Tryz
namespace Go.Proofs.YtapodndfpecglaaGreatDoor
open Go.RowKit
structure Tq where
 sg:Int
 m:Int
 a:Int
 b:Int
 c:Int
 p:ByteArray
 q:ByteArray
def iT(t:Tq):List Value:=[.int .i64 t.sg,.int .i64 t.m,.int .i64 t.a,.int .i64 t.b,.int .i64 t.c,.string t.p,.string t.q]
def bU(t:Tq):Te:=⟨t.sg,⟨t.m.toNat,t.a,t.b,t.c,t.p.data.toList⟩⟩
structure jH(t:Tq):Prop where
 s0:0<=t.sg/\t.sg<=7
 m0:0<=t.m/\t.m<=3
 ok:ed (bU t).p
 sm:t.p.size<=200
theorem xu(t:Tq):∀u∈iT t,u.oneCell'=true:=by
 intro u hu;simp only[iT,List.mem_cons,List.not_mem_nil,or_false]at hu
 rcases hu with rfl|rfl|rfl|rfl|rfl|rfl|rfl<;>rfl
theorem xw:(prog.info? 141).map (fun i=>(i.zero,i.size,i.bytes))=some (some (.agg #[.int .i64 0,.int .i64 0,.int .i64 0,.int .i64 0,.int .i64 0,.string ⟨#[]⟩,.string ⟨#[]⟩]),7,72):=by kernel_rfl
def OT(w:World)(base:Nat)(sl:Value)(L:List Tq):Prop:=w.ownsRow base 141 7 sl L.length (L.flatMap iT)
theorem OT.growb{w w':World}{base:Nat}{sl:Value}{L:List Tq}{b:Nat}(h:OT w base sl L)(hg:w.grownBy w' (some b))(hb:b<base):OT w' base sl L:=by
 refine⟨h.1,?_⟩
 rcases h.2 with hn|⟨g,cap,cur,hv,hbg,hc,rest⟩
 ·exact Or.inl hn
 ·refine Or.inr ⟨g,cap,cur,hv,hbg,?_,rest⟩;rw[hg.block g ((aA hc)) (by simp;omega)];exact hc
theorem OT.grow{w w':World}{base:Nat}{sl:Value}{L:List Tq}(h:OT w base sl L)(hg:w.grownBy w' none):OT w' base sl L:=oN h hg
theorem OT.base{w:World}{base base':Nat}{sl:Value}{L:List Tq}(h:OT w base sl L)(hb:base'<=base):OT w base' sl L:=by
 refine⟨h.1,?_⟩
 rcases h.2 with hn|⟨g,cap,cur,hv,hbg,rest⟩
 ·exact Or.inl hn
 ·exact Or.inr ⟨g,cap,cur,hv,Nat.le_trans hb hbg,rest⟩
theorem OT.slice{w:World}{base:Nat}{sl:Value}{L:List Tq}(h:OT w base sl L):∃o c,sl=.slice o L.length c:=by
 rcases h.2 with⟨h1,h2⟩|⟨g,cap,cur,hv,_⟩
 ·exact⟨_,_,by rw[h1,h2]⟩
 ·exact⟨_,_,hv⟩
theorem OT.far{w:World}{base:Nat}{sl:Value}{L:List Tq}(h:OT w base sl L):∀q,sl.ownBlock=some q->base<=q:=by
 intro q hq
 rcases h.2 with⟨h1,_⟩|⟨g,cap,cur,hv,hb,_⟩
 ·rw[h1]at hq;cases hq
 ·rw[hv]at hq;simp only[Value.ownBlock,Option.some.injEq]at hq;omega
theorem OT.two{w:World}{base g:Nat}{x y:Tq}(hb:base<=g)(h:w.heap[g]?=some (.cells #[.int .i64 x.sg,.int .i64 x.m,.int .i64 x.a,.int .i64 x.b,.int .i64 x.c,.string x.p,.string x.q,.int .i64 y.sg,.int .i64 y.m,.int .i64 y.a,.int .i64 y.b,.int .i64 y.c,.string y.p,.string y.q] 141 (0,0))):OT w base (.slice (some ⟨g,0,none⟩) 2 2) [x,y] :=
 ⟨rfl,Or.inr ⟨g,2,_,rfl,hb,h,Nat.le_refl _,by decide,rfl,rfl⟩⟩
theorem VS.grow{b:Nat}{s:ByteArray}{i:Nat}{E:Int}{a:Nat}{w w':World}{row:Option Nat}(h:VS b s i E a w)(hg:w.grownBy w' row)(hn:some b≠row):VS b s i E a w':=by
 unfold VS at h ⊢;rw[hg.block b ((aA h)) hn];exact h
theorem GR.growr{g b:Nat}{w w':World}{row:Option Nat}(h:GR g b w)(hg:w.grownBy w' row)(hn:some g≠row):GR g b w':=hg.cell h hn
theorem VP.growr{v:Nat}{m y1 y2 y3:Int}{x4 x5:ByteArray}{w w':World}{row:Option Nat}(h:VP v m y1 y2 y3 x4 x5 w)(hg:w.grownBy w' row)(hn:some v≠row):VP v m y1 y2 y3 x4 x5 w':=by
 unfold VP at h ⊢;rw[hg.block v ((aA h)) hn];exact h
def errOf(b:Nat)(w:World):Int:=match w.cell? ⟨b,2,none⟩ with|some (.int .i64 x)=>x|_=>0
theorem VS.err{b:Nat}{s:ByteArray}{i:Nat}{E:Int}{a:Nat}{w:World}(h:VS b s i E a w):errOf b w=E:=by unfold errOf;rw[h.c2]
def meas(b n:Nat)(w:World):Nat:=if errOf b w=0 then n+1-placeOf b w else 0
theorem VS.meas0{b:Nat}{s:ByteArray}{i:Nat}{a:Nat}{w:World}(h:VS b s i 0 a w)(n:Nat):meas b n w=n+1-i:=by unfold meas;rw[h.err,if_pos rfl,h.place]
theorem VS.measE{b:Nat}{s:ByteArray}{i:Nat}{E:Int}{a:Nat}{w:World}(h:VS b s i E a w)(hE:¬E=0)(n:Nat):meas b n w=0:=by unfold meas;rw[h.err,if_neg hE]
theorem acY{l:List UInt8}{f i:Nat}{acc:List Te}(h:dD l i=true):eF l (f+1) i acc=(0,i,acc):=by unfold eF;rw[if_pos h]
theorem acZ{l:List UInt8}{f i:Nat}{acc:List Te}(h:¬dD l i=true)(hr:¬(ay l (ax l i).2).1=0):eF l (f+1) i acc=((ay l (ax l i).2).1,(ay l (ax l i).2).2.1,acc):=by
 unfold eF;rw[if_neg h,if_neg hr]
theorem ac0{l:List UInt8}{f i:Nat}{acc:List Te}(h:¬dD l i=true)(hr:(ay l (ax l i).2).1=0)
  (hb:¬(((ax l i).1<0/\acc=[])/\(ay l (ax l i).2).2.1<aj l (ay l (ax l i).2).2.1/\l[aj l (ay l (ax l i).2).2.1]?=some 45))
  (hg:¬(¬(ay l (ax l i).2).2.1<aj l (ay l (ax l i).2).2.1/\¬dD l (aj l (ay l (ax l i).2).2.1)=true)) :
  eF l (f+1) i acc=eF l f (aj l (ay l (ax l i).2).2.1) (acc++[⟨fP (ax l i).1,(ay l (ax l i).2).2.2⟩]):=by
 rw[eF,if_neg h,if_pos hr,if_neg hb,if_neg hg]
theorem ac1{l:List UInt8}{f i:Nat}{acc:List Te}(h:¬dD l i=true)(hr:(ay l (ax l i).2).1=0)
  (hg1:¬(ay l (ax l i).2).2.1<aj l (ay l (ax l i).2).2.1) (hg2:¬dD l (aj l (ay l (ax l i).2).2.1)=true) :
  eF l (f+1) i acc=(2,aj l (ay l (ax l i).2).2.1,acc):=by
 rw[eF,if_neg h,if_pos hr,if_neg (fun hb=>hg1 hb.2.1),if_pos ⟨hg1,hg2⟩]
theorem ac2{l:List UInt8}{f i:Nat}{acc:List Te}(h:¬dD l i=true)(hr:(ay l (ax l i).2).1=0)
  (hb:((ax l i).1<0/\acc=[])/\(ay l (ax l i).2).2.1<aj l (ay l (ax l i).2).2.1/\l[aj l (ay l (ax l i).2).2.1]?=some 45) :
  eF l (f+1) i acc=(if aj l (aj l (ay l (ax l i).2).2.1+1)=aj l (ay l (ax l i).2).2.1+1 then(2,aj l (ay l (ax l i).2).2.1+1,acc) else
    if(ay l (aj l (aj l (ay l (ax l i).2).2.1+1))).1=0 then
     (if dD l (aj l (ay l (aj l (aj l (ay l (ax l i).2).2.1+1))).2.1)=true then(0,aj l (ay l (aj l (aj l (ay l (ax l i).2).2.1+1))).2.1,[⟨7,(ay l (ax l i).2).2.2⟩,⟨2,(ay l (aj l (aj l (ay l (ax l i).2).2.1+1))).2.2⟩])
     else(2,aj l (ay l (aj l (aj l (ay l (ax l i).2).2.1+1))).2.1,acc))
    else((ay l (aj l (aj l (ay l (ax l i).2).2.1+1))).1,(ay l (aj l (aj l (ay l (ax l i).2).2.1+1))).2.1,acc)):=by
 rw[eF,if_neg h,if_pos hr,if_pos hb]
def JF(b:Nat)(s:ByteArray)(R:Int × Nat × List Te)(w:World)(e:Ending)(w':World):Prop :=
 ∃(o:Option Addr) (n k:Nat) (acc:List Tq) (j c:Nat),e=.returned (.slice o n k)/\VS b s j R.1 c w'/\OT w' w.heap.size (.slice o n k) acc/\w.grownBy w' (some b)/\(R.1=0->acc.map bU=R.2.2/\j=R.2.1/\∀x∈acc,jH x)/\(¬R.1=0->c=R.2.1)
theorem xx{m y1 y2 y3:Int}{P Q:ByteArray}{p:Pa}(sg:Int)(h1:m=(p.n:Int))(h2:y1=p.a)(h3:y2=p.b)(h4:y3=p.c)(h5:P=⟨p.pre.toArray⟩):bU ⟨sg,m,y1,y2,y3,P,Q⟩=⟨sg,p⟩:=by
 subst h1 h2 h3 h4 h5;unfold bU;simp
theorem zJ{m y1 y2 y3:Int}{P Q:ByteArray}{p:Pa}(sg:Int)(hs:0<=sg/\sg<=7)(hp:ed p)(hl:p.pre.length<=200)(h1:m=(p.n:Int))(h2:y1=p.a)(h3:y2=p.b)(h4:y3=p.c)(h5:P=⟨p.pre.toArray⟩):jH ⟨sg,m,y1,y2,y3,P,Q⟩:=by
 have e:=xx (Q:=Q) sg h1 h2 h3 h4 h5;refine⟨hs,?_,?_,?_⟩
 ·have:=hp.n3;simp only[];omega
 ·rw[e];exact hp
 ·simp only[];rw[h5];show p.pre.toArray.size<=_;simpa using hl
def DRel(b g B:Nat)(s:ByteArray)(l:List UInt8)(R:Int × Nat × List Te)(w:World)(vl:Value)(wr:World):Prop :=
 ∃(f j c:Nat) (E:Int) (acc:List Tq),VS b s j E c wr/\GR g b wr/\OT wr B vl acc/\w.grownBy wr (some b)/\acc.length<=1000 ∧
  ((E=0/\j<=s.size/\acc.length<=j/\l.length<f+j/\eF l f j (acc.map bU)=R/\∀x∈acc,jH x)\/(¬E=0/\R.1=E/\R.2.1=c))
theorem DRel.ok{b g B:Nat}{s:ByteArray}{l:List UInt8}{R:Int × Nat × List Te}{w:World}{vl:Value}{wr:World}{f j c:Nat}{acc:List Tq}(h1:VS b s j 0 c wr)(h2:GR g b wr)(h3:OT wr B vl acc)(h4:w.grownBy wr (some b))(h5:acc.length<=1000)(h6:j<=s.size)(h7:acc.length<=j)(h8:l.length<f+j)(h9:eF l f j (acc.map bU)=R)(h10:∀x∈acc,jH x):DRel b g B s l R w vl wr :=
 ⟨f,j,c,0,acc,h1,h2,h3,h4,h5,Or.inl ⟨rfl,h6,h7,h8,h9,h10⟩⟩
theorem DRel.bad{b g B:Nat}{s:ByteArray}{l:List UInt8}{R:Int × Nat × List Te}{w:World}{vl:Value}{wr:World}{j c:Nat}{E:Int}{acc:List Tq}(h1:VS b s j E c wr)(h2:GR g b wr)(h3:OT wr B vl acc)(h4:w.grownBy wr (some b))(h5:acc.length<=1000)(h6:¬E=0)(h7:R.1=E)(h8:R.2.1=c):DRel b g B s l R w vl wr :=
 ⟨0,j,c,E,acc,h1,h2,h3,h4,h5,Or.inr ⟨h6,h7,h8⟩⟩
theorem ac3(g b:Nat)(s:ByteArray)(i:Nat)(a:Nat)(w:World)(hi:i<=s.size)(hgb:g≠b)(hg:GR g b w)(h:VS b s i 0 a w)(hs:s.size<=200) :
  Calls prog 76 #[.pointer (some ⟨g,0,none⟩)] w (JF b s (eF s.data.toList (s.data.toList.length+1) i []) w):=by
 obtain⟨l,hl⟩:=zN (s.data.toList);have hll:l.length=s.size:=by rw[<-hl];simp
 have bP:Hd (l.length=s.size/\s.size<=200):=⟨hll,hs⟩;have CE:Hd (∀i a w,i<=s.size->GR g b w->VS b s i 0 a w->Calls prog 97 #[.pointer (some ⟨g,0,none⟩)] w fun e w'=>e=.returned (.bool (dD l i))/\∃n,w'=w.drewN n):=fun i a w hi h1 h2=>by rw[<-hl];exact acb g b s i a w hi h1 h2 (by omega)
 have zK:Hd (∀(i:Nat) (E:Int) (a:Nat) w,¬E=0->GR g b w->VS b s i E a w->Calls prog 97 #[.pointer (some ⟨g,0,none⟩)] w fun e w'=>e=.returned (.bool true)/\∃n,w'=w.drewN n):=fun i E a w hE h1 h2=>aca g b s i E a w hE h1 h2
 have CS:Hd (∀i a w,i<=s.size->GR g b w->VS b s i 0 a w->Calls prog 98 #[.pointer (some ⟨g,0,none⟩)] w fun e w'=>e=.returned (.int .i64 (ax l i).1)/\VS b s (ax l i).2 0 a w'/\w.grownBy w' (some b)):=fun i a w hi h1 h2=>by rw[<-hl];exact acX g b s i a w hi hgb h1 h2 (by omega)
 have CP:Hd (∀i a w,i<=s.size->GR g b w->VS b s i 0 a w->Calls prog 99 #[.pointer (some ⟨g,0,none⟩)] w (Rx b s (ay l i) w)):=fun i a w hi h1 h2=>by rw[<-hl];exact acM g b s i a w hi hgb h1 h2 (by omega)
 have CPL:Hd (∀(i:Nat) (E:Int) (a:Nat) w,¬E=0->i<=s.size->GR g b w->VS b s i E a w->Calls prog 99 #[.pointer (some ⟨g,0,none⟩)] w (Ry b s E a w)):=fun i E a w hE hi h1 h2=>acL g b s i E a w hE hi hgb h1 h2 (by omega)
 have CB:Hd (∀i a w,i<=s.size->GR g b w->VS b s i 0 a w->Calls prog 75 #[.pointer (some ⟨g,0,none⟩)] w fun e w'=>e=.returned (.bool (decide (i<aj l i)))/\VS b s (aj l i) 0 a w'/\w.grownBy w' (some b)):=fun i a w hi h1 h2=>by rw[<-hl];exact Rf g b s i a w hi hgb h1 h2 (by omega)
 have Cc:Hd (∀(i:Nat) (E:Int) (a:Nat) w,¬E=0->GR g b w->VS b s i E a w->Calls prog 75 #[.pointer (some ⟨g,0,none⟩)] w fun e w'=>e=.returned (.bool false)/\∃n,w'=w.drewN n):=fun i E a w hE h1 h2=>ab9 g b s i E a w hE h1 h2
 have CI:Hd (∀i a w,i<=s.size->GR g b w->VS b s i 0 a w->Calls prog 77 #[.pointer (some ⟨g,0,none⟩),.string ⟨#[45]⟩] w fun e w'=>e=.returned (.bool (decide (l[i]?=some 45)))/\∃n,w'=w.drewN n):=fun i a w hi h1 h2=>by rw[<-hl];exact EP g b s i 45 a w hi h1 h2 (by omega)
 have CF:=ae (qw b s);have oG:Hd (∀i,i<=s.size->i<=aj l i/\aj l i<=s.size):=fun i hi=>⟨pz l i,by have:=oC l i (by rw[hll];exact hi);rw[hll]at this;exact this⟩
 have jO:Hd (∀i,i<=s.size->i<=(ax l i).2/\(ax l i).2<=s.size):=fun i hi=>by have:=Bz l i (by rw[hll];exact hi);rw[hll]at this;exact this
 have zF:Hd (∀i,i<=s.size->(ay l i).1=0->i<(ay l i).2.1/\(ay l i).2.1<=s.size/\ed (ay l i).2.2):=fun i hi h0=>by
  have pp:=Bv l i (by rw[hll];exact hi) h0;exact⟨pp.1,by rw[<-hll];exact pp.2,Es l i (by rw[hll];exact hi) h0⟩
 have iW:Hd (∀i,(ay l i).2.2.pre.length<=200):=fun i=>by have:=Iu l i;omega
 have HG:=ae hg;have HV:=ae h;have lm:=ae hi;obtain⟨B,hB⟩:=zN (w.heap.size);have HB:Hd (w.heap.size=B/\b<B/\g<B/\g≠b):=⟨hB,by rw[<-hB];exact(aA h),by rw[<-hB];exact GR.lt hg,hgb⟩;rw[hl];obtain⟨R,hR⟩:=zN (eF l (l.length+1) i []);have HR0:=ae hR;rw[hR];clear hl hll hR h hs hi hB hg hgb;go_enter func76,ntmps76;go_wp2;go_loopw [3] (fun vl wr=>DRel b g B s l R w vl wr) (fun _ wr=>meas b s.size wr)
 case atStart=>exact DRel.ok (f:=l.length+1) (acc:=[]) HV.o HG.o (show OT w B (.slice none 0 0) [] from World.ownsRow_nil _ _ _ _) (ak _ _) (Nat.zero_le _) lm.o (Nat.zero_le _) (by omega) HR0.o (fun x hx=>by cases hx)
 case round =>
  obtain⟨f,j,c,E,acc,hv,hgr,hot,hgw,hal,hcase⟩:=hrel;clear HV HG HR0;obtain⟨o,c0,rfl⟩:=hot.slice;obtain⟨n0,hn0⟩:=zN (acc.length);have HV:=ae hv;have HG:=ae hgr;rw[hn0]at hot;have HO:=ae hot;have dI:Hd (acc.length=n0/\n0<=1000):=⟨hn0,by omega⟩;have HW:=ae hgw;rw[hn0];clear hv hgr hot hgw hal hn0
  rcases hcase with⟨rfl,hj,haj,hf,hds,hok⟩|⟨hE,hR1,hR2⟩
  ·have HJ:Hd (j<=s.size/\n0<=j/\l.length<f+j):=⟨hj,by have:=dI.o.1;omega,hf⟩;have tY:=ae hds;have dH:=ae hok;clear hj haj hf hds hok;obtain⟨f,rfl⟩:∃f',f=f'+1:=by
    cases f with
    | zero=>have:=bP.o.1;have:=HJ.o;omega
    | succ f=>exact⟨f,rfl⟩
   have HM:=ae (HV.o.meas0 s.size)
   cases hen:dD l j with
   | true =>
    have Ce:Hd (∀w,GR g b w->VS b s j 0 c w->Calls prog 97 #[.pointer (some ⟨g,0,none⟩)] w fun e w'=>e=.returned (.bool true)/\∃n,w'=w.drewN n):=fun w h1 h2=>by have:=CE.o j c w HJ.o.1 h1 h2;rw[hen]at this;exact this
    have HZ:Hd (R=(0,j,acc.map bU)):=by show R=_;rw[<-tY.o];exact acY hen
    clear hen;go_wp2_with (go_at_call 97;refine(Ce.o _ HG.o HV.o).mono ?_);rintro e u1 ⟨rfl,n,hn⟩;replace HV:Hd (VS b s (j) 0 (c) u1):=by show VS _ _ _ _ _ u1;rw[hn];exact HV.o.drew _
    replace HG:Hd (GR g b u1):=by show GR g b u1;rw[hn];exact HG.o
    replace HO:Hd (OT u1 B (.slice o n0 c0) acc):=by show OT u1 B _ _;rw[hn];exact HO.o
    replace HW:Hd (w.grownBy u1 (some b)):=by show w.grownBy u1 (some b);rw[hn];exact aF HW.o _
    clear hn;go_wp2;go_ret;rw[HZ.o];exact⟨o,n0,c0,acc,j,c,rfl,HV.o,by rw[HB.o.1];exact HO.o,HW.o,fun _=>⟨rfl,rfl,dH.o⟩,fun h=>absurd rfl h⟩
   | false =>
    have Ce:Hd (∀w,GR g b w->VS b s j 0 c w->Calls prog 97 #[.pointer (some ⟨g,0,none⟩)] w fun e w'=>e=.returned (.bool false)/\∃n,w'=w.drewN n):=fun w h1 h2=>by have:=CE.o j c w HJ.o.1 h1 h2;rw[hen]at this;exact this
    have hen':¬dD l j=true:=by rw[hen];decide
    have BAD:Hd (¬(ay l (ax l j).2).1=0->R=((ay l (ax l j).2).1,(ay l (ax l j).2).2.1,acc.map bU)):=fun h=>by rw[<-tY.o];exact acZ hen' h
    have MORE:Hd ((ay l (ax l j).2).1=0->¬(((ax l j).1<0/\acc.map bU=[])/\(ay l (ax l j).2).2.1<aj l (ay l (ax l j).2).2.1/\l[aj l (ay l (ax l j).2).2.1]?=some 45)->¬(¬(ay l (ax l j).2).2.1<aj l (ay l (ax l j).2).2.1/\¬dD l (aj l (ay l (ax l j).2).2.1)=true)->R=eF l f (aj l (ay l (ax l j).2).2.1) (acc.map bU++[⟨fP (ax l j).1,(ay l (ax l j).2).2.2⟩])):=fun h1 h2 h3=>by rw[<-tY.o];exact ac0 hen' h1 h2 h3
    have GAP:Hd ((ay l (ax l j).2).1=0->¬(ay l (ax l j).2).2.1<aj l (ay l (ax l j).2).2.1->¬dD l (aj l (ay l (ax l j).2).2.1)=true->R=(2,aj l (ay l (ax l j).2).2.1,acc.map bU)):=fun h1 h2 h3=>by rw[<-tY.o];exact ac1 hen' h1 h2 h3
    have BTW:Hd ((ay l (ax l j).2).1=0->((ax l j).1<0/\acc.map bU=[])/\(ay l (ax l j).2).2.1<aj l (ay l (ax l j).2).2.1/\l[aj l (ay l (ax l j).2).2.1]?=some 45->R=(if aj l (aj l (ay l (ax l j).2).2.1+1)=aj l (ay l (ax l j).2).2.1+1 then(2,aj l (ay l (ax l j).2).2.1+1,acc.map bU) else if(ay l (aj l (aj l (ay l (ax l j).2).2.1+1))).1=0 then(if dD l (aj l (ay l (aj l (aj l (ay l (ax l j).2).2.1+1))).2.1)=true then(0,aj l (ay l (aj l (aj l (ay l (ax l j).2).2.1+1))).2.1,[⟨7,(ay l (ax l j).2).2.2⟩,⟨2,(ay l (aj l (aj l (ay l (ax l j).2).2.1+1))).2.2⟩]) else(2,aj l (ay l (aj l (aj l (ay l (ax l j).2).2.1+1))).2.1,acc.map bU)) else((ay l (aj l (aj l (ay l (ax l j).2).2.1+1))).1,(ay l (aj l (aj l (ay l (ax l j).2).2.1+1))).2.1,acc.map bU))):=fun h1 h2=>by rw[<-tY.o];exact ac2 hen' h1 h2
    have xy:=ae (fun w (h1:GR g b w) (h2:VS b s j 0 c w)=>CS.o j c w HJ.o.1 h1 h2);have vG:=ae (PD l j);have HS2:=ae (jO.o j HJ.o.1);obtain⟨sg,j1,hsg⟩:∃sg j1,ax l j=(sg,j1):=⟨_,_,rfl⟩;rw[hsg]at BAD MORE GAP BTW xy vG HS2;simp only[]at BAD MORE GAP BTW xy vG HS2;have zL:=ae (fun w (h1:GR g b w) (h2:VS b s j1 0 c w)=>CP.o j1 c w HS2.o.2 h1 h2);have mD:=ae (zF.o j1 HS2.o.2);have HP2:=ae (iW.o j1);obtain⟨E1,J,p,hR⟩:∃E1 J p,ay l j1=(E1,J,p):=⟨_,_,_,rfl⟩;rw[hR]at BAD MORE GAP BTW zL mD HP2;simp only[]at BAD MORE GAP BTW mD HP2;clear hen hen' hsg hR tY;go_wp2_with (go_at_call 97;refine(Ce.o _ HG.o HV.o).mono ?_);rintro e u1 ⟨rfl,n,hn⟩;replace HV:Hd (VS b s (j) 0 (c) u1):=by show VS _ _ _ _ _ u1;rw[hn];exact HV.o.drew _
    replace HG:Hd (GR g b u1):=by show GR g b u1;rw[hn];exact HG.o
    replace HO:Hd (OT u1 B (.slice o n0 c0) acc):=by show OT u1 B _ _;rw[hn];exact HO.o
    replace HW:Hd (w.grownBy u1 (some b)):=by show w.grownBy u1 (some b);rw[hn];exact aF HW.o _
    clear hn;go_wp2_with (go_at_call 98;refine(xy.o _ HG.o HV.o).mono ?_);rintro e u2 ⟨rfl,hv,hg⟩;replace HV:=ae hv;replace HG:=ae (HG.o.growb hg HB.o.2.2.2);replace HO:=ae (HO.o.growb hg HB.o.2.1);replace HW:=ae (ah HW.o hg);clear hv hg;go_wp2_with (first|(go_at_call 99;refine(zL.o _ HG.o HV.o).mono ?_));rintro e u3 ⟨m,y1,y2,y3,P,Q,j2,c2,rfl,hv,hg,hok,herr⟩;replace HV:Hd (VS b s (j2) E1 (c2) u3):=hv;replace HG:=ae (HG.o.growb hg HB.o.2.2.2);replace HO:=ae (HO.o.growb hg HB.o.2.1);replace HW:=ae (ah HW.o hg);clear hv hg;have RN:Hd ((E1=0->j2=J/\m=(p.n:Int)/\y1=p.a/\y2=p.b/\y3=p.c/\P=⟨p.pre.toArray⟩)/\(¬E1=0->c2=J)):=⟨hok,herr⟩;clear hok herr;obtain⟨D,hD⟩:=zN (u3.heap.size);obtain⟨W,hW⟩:=zN (u3.alloc (.cells #[.int .i64 m,.int .i64 y1,.int .i64 y2,.int .i64 y3,.string P,.string Q] 139));have hgW:u3.grownBy W none:=by rw[<-hW];exact au (ak u3 none) _
    have HD:Hd (VP D m y1 y2 y3 P Q W):=by show W.heap[D]?=_;rw[<-hW,<-hD];exact heap_alloc_new u3 _
    have lF:Hd (B<=D/\D≠b/\D≠g):=by have h1:=HW.o.size;have h2:=HB.o;rw[h2.1,hD]at h1;refine⟨h1,?_,?_⟩<;>omega
    replace HV:=ae (HV.o.grow hgW (by simp));replace HG:=ae (HG.o.grow hgW);replace HO:=ae (HO.o.grow hgW);replace HW:=ae (ah HW.o (bH hgW _));clear hgW
    by_cases hE1:E1=0
    ·subst hE1;obtain⟨q1,q2,q3,q4,q5,q6⟩:=RN.o.1 rfl;obtain⟨z1,z2,z3⟩:=mD.o rfl;have HQ:Hd (m=(p.n:Int)/\y1=p.a/\y2=p.b/\y3=p.c/\P=⟨p.pre.toArray⟩):=⟨q2,q3,q4,q5,q6⟩;have HP:Hd (j1<J/\J<=s.size/\ed p):=⟨z1,z2,z3⟩;subst q1;clear q2 q3 q4 q5 q6 z1 z2 z3;have kP:=ae (fun w (h1:GR g b w) (h2:VS b s j2 0 c2 w)=>CB.o j2 c2 w HP.o.2.1 h1 h2);have HK:=ae (oG.o j2 HP.o.2.1);obtain⟨K,hK⟩:=zN (aj l j2);rw[hK]at MORE GAP BTW kP HK;clear hK BAD;obtain⟨ap,hap⟩:=zN (decide (j2<K));rw[hap]at kP;have kN:=ae hap;clear hap;go_wp2_with (go_at_call 75;refine(kP.o _ HG.o HV.o).mono ?_);rintro e u4 ⟨rfl,hv,hg⟩;replace HV:=ae hv;replace HG:=ae (HG.o.growb hg HB.o.2.2.2);replace HO:=ae (HO.o.growb hg HB.o.2.1);replace HD:=ae (HD.o.grow hg lF.o.2.1);replace HW:=ae (ah HW.o hg);clear hv hg;clear hW hD
     by_cases h4:n0=0/\sg<0
     ·obtain⟨hn0,hsn⟩:=h4;have RP:Hd (acc.map bU=[]):=by show _=_;rw[List.map_eq_nil_iff];exact List.length_eq_zero_iff.1 (dI.o.1.trans hn0)
      subst hn0;have fO:=ae hsn
      cases ap with
      | false =>
       obtain⟨k0,k1,k2,k3,k4,k5⟩:=HD.o.cells;have hinfo:=xw;obtain⟨i1,hj0,hjj⟩:=Option.map_eq_some_iff.1 hinfo;have hy0:i1.zero=some (.agg #[.int .i64 0,.int .i64 0,.int .i64 0,.int .i64 0,.int .i64 0,.string ⟨#[]⟩,.string ⟨#[]⟩]):=congrArg (·.1) hjj;have hy1:i1.size=7:=congrArg (·.2.1) hjj;have hyb:i1.bytes=72:=congrArg (·.2.2) hjj;clear hjj hinfo;obtain⟨tq,fU⟩:∃tq:Tq,tq=⟨0,m,y1,y2,y3,P,Q⟩:=⟨_,rfl⟩;have mM:=ae fU;have htc:iT tq=[.int .i64 (0),.int .i64 m,.int .i64 y1,.int .i64 y2,.int .i64 y3,.string P,.string Q]:=by rw[fU];rfl
       have jI:=ae htc;clear fU htc;go_wp2_with (first|(at_builtin;refine wpList_append_own _ rfl _ _ 135 rfl B 141 i1 _ 7 72 underlying135 hj0 hy0 hy1 hyb rfl (by decide) _ _ _ rfl (by have h:=HO.o;unfold OT at h;rw[dI.o.1]at h;exact h.alloc _) _ 1 1 (iT tq) rfl (by rw[jI.o];rfl) (by rw[jI.o];exact World.news_of_block (heap_alloc_new _ _)) (xu tq) (by unfold maxLen;have:=dI.o;omega) (by have:=dI.o;omega) (by have h1:=HW.o.size;rw[HB.o.1]at h1;simp;omega) ?_;intro v' u9 hown hgrow _));have hga:u4.grownBy (u4.alloc (.cells #[.int .i64 (0),.int .i64 m,.int .i64 y1,.int .i64 y2,.int .i64 y3,.string P,.string Q] 141)) none:=au (ak _ none) _;have bW:=HO.o.far;have bG:Hd (OT u9 B v' (acc++[tq])):=by show OT u9 B v' _;unfold OT;rw[List.length_append,List.flatMap_append,dI.o.1];simpa using hown
       replace HV:=(HV.o.grow hga (by simp)).grow hgrow (fun e=>by have:=bW b e.symm;have:=HB.o;omega);replace HG:=ae ((HG.o.grow hga).growr hgrow (fun e=>by have:=bW g e.symm;have:=HB.o;omega));replace HW:=ae (vH (ah HW.o (bH hga _)) hgrow (fun q hq=>by rw[HB.o.1];exact bW q hq));have dA:Hd ((acc++[tq]).length<=1000):=by show _<=_;rw[List.length_append,dI.o.1];have:=HJ.o;have:=bP.o.2;first|(simp;omega)|simp
       obtain⟨o9,c9,hvn⟩:=bG.o.slice;obtain⟨n9,jJ⟩:=zN ((acc++[tq]).length);rw[jJ]at hvn;rw[hvn]at bG
       try rw[hvn]
       clear jJ;clear hown hgrow hga bW hj0 hy0 hy1 hyb k0 k1 k2 k3 k4 k5 hvn;have jb:=ae HV;clear HV
       cases hen:dD l K with
       | true =>
        have nO:Hd (∀w,GR g b w->VS b s K 0 c2 w->Calls prog 97 #[.pointer (some ⟨g,0,none⟩)] w fun e w'=>e=.returned (.bool true)/\∃n,w'=w.drewN n):=fun w h1 h2=>by have:=CE.o K c2 w HK.o.2 h1 h2;rw[hen]at this;exact this
        have bK:Hd (R=eF l f K ((acc++[tq]).map bU)):=by
         show R=_;rw[List.map_append,show[tq].map bU=[⟨fP sg,p⟩] by rw[mM.o];simp only[List.map_cons,List.map_nil];rw[xx (p:=p) _ HQ.o.1 HQ.o.2.1 HQ.o.2.2.1 HQ.o.2.2.2.1 HQ.o.2.2.2.2];unfold fP;rw[if_pos fO.o]];exact MORE.o (by first|trivial|rfl) (fun h=>absurd h.2.1 (of_decide_eq_false kN.o)) (fun h=>h.2 hen)
        have jm:Hd (∀x∈acc++[tq],jH x):=by
         intro x hx
         rcases List.mem_append.1 hx with h|h
         ·exact dH.o x h
         ·rw[List.mem_singleton.1 h,mM.o];exact zJ (p:=p) _ (by omega) HP.o.2.2 HP2.o HQ.o.1 HQ.o.2.1 HQ.o.2.2.1 HQ.o.2.2.2.1 HQ.o.2.2.2.2
        clear hen;go_wp2_with (go_at_call 97;refine(nO.o _ HG.o jb.o).mono ?_);rintro e u10 ⟨rfl,n,hn⟩;have HF:Hd (VS b s K 0 c2 u10/\GR g b u10/\OT u10 B (.slice o9 n9 c9) (acc++[tq])/\w.grownBy u10 (some b)):=by
         rw[hn];exact⟨jb.o.drew _,HG.o,bG.o,aF HW.o _⟩
        clear hn;go_wp2;go_roundw
        case rel=>exact DRel.ok (f:=f) HF.o.1 HF.o.2.1 HF.o.2.2.1 HF.o.2.2.2 dA.o HK.o.2 (by rw[List.length_append,dI.o.1];have:=HJ.o;have:=HS2.o;have:=HP.o;have:=HK.o;first|(simp;omega)|simp) (by have:=HJ.o;have:=HS2.o;have:=HP.o;have:=HK.o;omega) bK.o.symm jm.o
        case measure=>rw[HM.o,HF.o.1.meas0];have:=HJ.o;have:=HS2.o;have:=HP.o;have:=HK.o;omega
       | false =>
        have nO:Hd (∀w,GR g b w->VS b s K 0 c2 w->Calls prog 97 #[.pointer (some ⟨g,0,none⟩)] w fun e w'=>e=.returned (.bool false)/\∃n,w'=w.drewN n):=fun w h1 h2=>by have:=CE.o K c2 w HK.o.2 h1 h2;rw[hen]at this;exact this
        have HZ:=ae (GAP.o (by first|trivial|rfl) (of_decide_eq_false kN.o) (by rw[hen];decide));clear hen;go_wp2_with (go_at_call 97;refine(nO.o _ HG.o jb.o).mono ?_);rintro e u10 ⟨rfl,n,hn⟩;have HF:Hd (VS b s K 0 c2 u10/\GR g b u10/\OT u10 B (.slice o9 n9 c9) (acc++[tq])/\w.grownBy u10 (some b)):=by
         rw[hn];exact⟨jb.o.drew _,HG.o,bG.o,aF HW.o _⟩
        clear hn;have xA:=ae (CF.o K c2 2 K);have e0:u10.cell? ⟨g,0,none⟩=some (.pointer (some ⟨b,0,none⟩)):=HF.o.2.1;have e1:=(HF.o.1).c1;go_wp2_with (fail)
        go_region_held3 (fun w'=>w'.cell? ⟨g,0,none⟩=some (.pointer (some ⟨b,0,none⟩))/\w'.cell? ⟨b,1,none⟩=some (.int .i64 (K:Int))) (first|(simp only[fK];exact⟨e0,e1⟩)|exact hS1) (first|(go_at_call 72;refine(xA.o _ (by first|exact HF.o.1|exact VS.drew HF.o.1 1)).mono ?_;rintro e u11 ⟨rfl,xB,lS⟩;have hS1:u11.cell? ⟨g,0,none⟩=some (.pointer (some ⟨b,0,none⟩))/\u11.cell? ⟨b,1,none⟩=some (.int .i64 (K:Int)):=⟨GR.growb (b:=b) HF.o.2.1 (cZ lS) HB.o.2.2.2,xB.c1⟩))
        have dZ:=ae xB;have tZ:=cZ lS;have qU:Hd (GR g b u11/\OT u11 B (.slice o9 n9 c9) (acc++[tq])/\w.grownBy u11 (some b)):=⟨HF.o.2.1.growb tZ HB.o.2.2.2,HF.o.2.2.1.growb tZ HB.o.2.1,ah HF.o.2.2.2 tZ⟩;clear xB lS tZ e0 e1 hS1;go_wp2;go_roundw
        case rel=>exact DRel.bad dZ.o qU.o.1 qU.o.2.1 qU.o.2.2 dA.o (by decide) (by rw[HZ.o]) (by rw[HZ.o])
        case measure=>rw[HM.o,dZ.o.measE (by decide)];have:=HJ.o;omega
      | true =>
       cases lJ:decide (l[K]?=some 45) with
       | false =>
        have ug:Hd (∀w,GR g b w->VS b s K 0 c2 w->Calls prog 77 #[.pointer (some ⟨g,0,none⟩),.string ⟨#[45]⟩] w fun e w'=>e=.returned (.bool (false))/\∃n,w'=w.drewN n):=fun w h1 h2=>by have:=CI.o K c2 w HK.o.2 h1 h2;rw[lJ]at this;exact this
        have uO:=ae ((of_decide_eq_false lJ:¬l[K]?=some 45));clear lJ;go_wp2_with (go_at_call 77;refine(ug.o _ HG.o HV.o).mono ?_);rintro e u5 ⟨rfl,n,hn⟩;replace HV:Hd (VS b s (K) 0 (c2) u5):=by show VS _ _ _ _ _ u5;rw[hn];exact HV.o.drew _
        replace HG:Hd (GR g b u5):=by show GR g b u5;rw[hn];exact HG.o
        replace HO:Hd (OT u5 B (.slice o 0 c0) acc):=by show OT u5 B _ _;rw[hn];exact HO.o
        replace HD:Hd (VP D m y1 y2 y3 P Q u5):=by show VP D _ _ _ _ _ _ u5;rw[hn];exact HD.o
        replace HW:Hd (w.grownBy u5 (some b)):=by show w.grownBy u5 (some b);rw[hn];exact aF HW.o _
        clear hn;obtain⟨k0,k1,k2,k3,k4,k5⟩:=HD.o.cells;have hinfo:=xw;obtain⟨i1,hj0,hjj⟩:=Option.map_eq_some_iff.1 hinfo;have hy0:i1.zero=some (.agg #[.int .i64 0,.int .i64 0,.int .i64 0,.int .i64 0,.int .i64 0,.string ⟨#[]⟩,.string ⟨#[]⟩]):=congrArg (·.1) hjj;have hy1:i1.size=7:=congrArg (·.2.1) hjj;have hyb:i1.bytes=72:=congrArg (·.2.2) hjj;clear hjj hinfo;obtain⟨tq,fU⟩:∃tq:Tq,tq=⟨0,m,y1,y2,y3,P,Q⟩:=⟨_,rfl⟩;have mM:=ae fU;have htc:iT tq=[.int .i64 (0),.int .i64 m,.int .i64 y1,.int .i64 y2,.int .i64 y3,.string P,.string Q]:=by rw[fU];rfl
        have jI:=ae htc;clear fU htc;go_wp2_with (first|(at_builtin;refine wpList_append_own _ rfl _ _ 135 rfl B 141 i1 _ 7 72 underlying135 hj0 hy0 hy1 hyb rfl (by decide) _ _ _ rfl (by have h:=HO.o;unfold OT at h;rw[dI.o.1]at h;exact h.alloc _) _ 1 1 (iT tq) rfl (by rw[jI.o];rfl) (by rw[jI.o];exact World.news_of_block (heap_alloc_new _ _)) (xu tq) (by unfold maxLen;have:=dI.o;omega) (by have:=dI.o;omega) (by have h1:=HW.o.size;rw[HB.o.1]at h1;simp;omega) ?_;intro v' u9 hown hgrow _));have hga:u5.grownBy (u5.alloc (.cells #[.int .i64 (0),.int .i64 m,.int .i64 y1,.int .i64 y2,.int .i64 y3,.string P,.string Q] 141)) none:=au (ak _ none) _;have bW:=HO.o.far;have bG:Hd (OT u9 B v' (acc++[tq])):=by show OT u9 B v' _;unfold OT;rw[List.length_append,List.flatMap_append,dI.o.1];simpa using hown
        replace HV:=(HV.o.grow hga (by simp)).grow hgrow (fun e=>by have:=bW b e.symm;have:=HB.o;omega);replace HG:=ae ((HG.o.grow hga).growr hgrow (fun e=>by have:=bW g e.symm;have:=HB.o;omega));replace HW:=ae (vH (ah HW.o (bH hga _)) hgrow (fun q hq=>by rw[HB.o.1];exact bW q hq));have dA:Hd ((acc++[tq]).length<=1000):=by show _<=_;rw[List.length_append,dI.o.1];have:=HJ.o;have:=bP.o.2;first|(simp;omega)|simp
        obtain⟨o9,c9,hvn⟩:=bG.o.slice;obtain⟨n9,jJ⟩:=zN ((acc++[tq]).length);rw[jJ]at hvn;rw[hvn]at bG
        try rw[hvn]
        clear jJ;clear hown hgrow hga bW hj0 hy0 hy1 hyb k0 k1 k2 k3 k4 k5 hvn;have jb:=ae HV;clear HV;have bK:Hd (R=eF l f K ((acc++[tq]).map bU)):=by
         show R=_;rw[List.map_append,show[tq].map bU=[⟨fP sg,p⟩] by rw[mM.o];simp only[List.map_cons,List.map_nil];rw[xx (p:=p) _ HQ.o.1 HQ.o.2.1 HQ.o.2.2.1 HQ.o.2.2.2.1 HQ.o.2.2.2.2];unfold fP;rw[if_pos fO.o]];exact MORE.o (by first|trivial|rfl) (fun h=>uO.o h.2.2) (fun h=>h.1 (of_decide_eq_true kN.o))
        have jm:Hd (∀x∈acc++[tq],jH x):=by
         intro x hx
         rcases List.mem_append.1 hx with h|h
         ·exact dH.o x h
         ·rw[List.mem_singleton.1 h,mM.o];exact zJ (p:=p) _ (by omega) HP.o.2.2 HP2.o HQ.o.1 HQ.o.2.1 HQ.o.2.2.1 HQ.o.2.2.2.1 HQ.o.2.2.2.2
        have HF:Hd (VS b s K 0 c2 u9/\GR g b u9/\OT u9 B (.slice o9 n9 c9) (acc++[tq])/\w.grownBy u9 (some b)):=⟨jb.o,HG.o,bG.o,HW.o⟩;go_wp2;go_roundw
        case rel=>exact DRel.ok (f:=f) HF.o.1 HF.o.2.1 HF.o.2.2.1 HF.o.2.2.2 dA.o HK.o.2 (by rw[List.length_append,dI.o.1];have:=HJ.o;have:=HS2.o;have:=HP.o;have:=HK.o;first|(simp;omega)|simp) (by have:=HJ.o;have:=HS2.o;have:=HP.o;have:=HK.o;omega) bK.o.symm jm.o
        case measure=>rw[HM.o,HF.o.1.meas0];have:=HJ.o;have:=HS2.o;have:=HP.o;have:=HK.o;omega
       | true =>
        have ug:Hd (∀w,GR g b w->VS b s K 0 c2 w->Calls prog 77 #[.pointer (some ⟨g,0,none⟩),.string ⟨#[45]⟩] w fun e w'=>e=.returned (.bool (true))/\∃n,w'=w.drewN n):=fun w h1 h2=>by have:=CI.o K c2 w HK.o.2 h1 h2;rw[lJ]at this;exact this
        have zI:=ae ((of_decide_eq_true lJ:l[K]?=some 45));clear lJ;go_wp2_with (go_at_call 77;refine(ug.o _ HG.o HV.o).mono ?_);rintro e u5 ⟨rfl,n,hn⟩;replace HV:Hd (VS b s (K) 0 (c2) u5):=by show VS _ _ _ _ _ u5;rw[hn];exact HV.o.drew _
        replace HG:Hd (GR g b u5):=by show GR g b u5;rw[hn];exact HG.o
        replace HO:Hd (OT u5 B (.slice o 0 c0) acc):=by show OT u5 B _ _;rw[hn];exact HO.o
        replace HD:Hd (VP D m y1 y2 y3 P Q u5):=by show VP D _ _ _ _ _ _ u5;rw[hn];exact HD.o
        replace HW:Hd (w.grownBy u5 (some b)):=by show w.grownBy u5 (some b);rw[hn];exact aF HW.o _
        clear hn;have hb:=BTW.o (by first|trivial|rfl) ⟨⟨fO.o,RP.o⟩,of_decide_eq_true kN.o,zI.o⟩;have fQ:Hd (K+1<=s.size):=by have:=jS zI.o;rw[bP.o.1]at this;exact this
        have fZ:=ae (oG.o (K+1) fQ.o);have zM:=ae (fun w (h1:GR g b w) (h2:VS b s (K+1) 0 c2 w)=>CB.o (K+1) c2 w fQ.o h1 h2);obtain⟨K2,hK2⟩:=zN (aj l (K+1));rw[hK2]at hb fZ zM;have l9:Hd (R=_):=hb;clear hb hK2;have hwr:IntKind.i64.wrap ((K:Int)+1)=(K:Int)+1:=by rw[IntKind.wrap_i64];have:=fQ.o;have:=bP.o.2;omega
        have b1:=HV.o.c1;have bf:=HV.o.f1;have g0:u5.cell? ⟨g,0,none⟩=some (.pointer (some ⟨b,0,none⟩)):=HG.o;go_wp2_with (fail);obtain⟨u6,hq⟩:=zN (u5.setCell ⟨b,1,none⟩ (.int .i64 ((K:Int)+1)));replace HV:Hd (VS b s (K+1) 0 c2 u6):=by show VS _ _ _ _ _ u6;rw[<-hq,show((K:Int)+1)=((K+1:Nat):Int) by omega];exact HV.o.set1 _
        replace HG:Hd (GR g b u6):=by show GR g b u6;rw[<-hq];exact HG.o.other HB.o.2.2.2 _ _
        replace HD:Hd (VP D m y1 y2 y3 P Q u6):=by show VP D _ _ _ _ _ _ u6;rw[<-hq];exact HD.o.other lF.o.2.1 _ _
        replace HW:Hd (w.grownBy u6 (some b)):=by show w.grownBy u6 (some b);rw[<-hq];exact bF HW.o _ _
        try rw[hq]
        clear hq b1 bf g0 hwr
        by_cases hm:K2=K+1
        ·rw[decide_eq_false (by omega)]at zM;have HZ:Hd (R=(2,K+1,acc.map bU)):=by show R=_;rw[l9.o,if_pos hm]
         rw[hm]at zM;clear hm l9;refine(zM.o _ HG.o HV.o).mono ?_;rintro e u7 ⟨rfl,hv,hg⟩;replace HV:=ae hv;replace HG:=ae (HG.o.growb hg HB.o.2.2.2);replace HD:=ae (HD.o.grow hg lF.o.2.1);replace HW:=ae (ah HW.o hg);clear hv hg;have xA:=ae (CF.o (K+1) c2 2 (K+1));have e0:u7.cell? ⟨g,0,none⟩=some (.pointer (some ⟨b,0,none⟩)):=HG.o;have e1:=HV.o.c1;go_wp2_with (fail)
         go_region_held3 (fun w'=>w'.cell? ⟨g,0,none⟩=some (.pointer (some ⟨b,0,none⟩))/\w'.cell? ⟨b,1,none⟩=some (.int .i64 ((K+1:Nat):Int))) (first|(simp only[fK];exact⟨e0,e1⟩)|exact hS1) (first|(go_at_call 72;refine(xA.o _ (by first|exact HV.o|exact VS.drew HV.o 1)).mono ?_;rintro e u8 ⟨rfl,hv,lS⟩;have hS1:u8.cell? ⟨g,0,none⟩=some (.pointer (some ⟨b,0,none⟩))/\u8.cell? ⟨b,1,none⟩=some (.int .i64 ((K+1:Nat):Int)):=⟨GR.growb (b:=b) HG.o (cZ lS) HB.o.2.2.2,hv.c1⟩))
         have hg:=cZ lS;clear lS e0 e1 hS1;replace HV:=ae hv;replace HG:=ae (HG.o.growb hg HB.o.2.2.2);replace HD:=ae (HD.o.grow hg lF.o.2.1);replace HW:=ae (ah HW.o hg);clear hv hg;have eX:Hd (¬(2:Int)=0):=by show ¬_;decide
         have EW:=ae (fun w (h1:GR g b w) (h2:VS b s (K+1) 2 (K+1) w)=>CPL.o (K+1) 2 (K+1) w eX.o fQ.o h1 h2);go_wp2_with (first|(go_at_call 99;refine(EW.o _ HG.o HV.o).mono ?_));rintro e u9 ⟨m2,z1,z2,z3,P2,Q2,j3,rfl,hv,hg,hj3⟩;replace HV:=ae hv;replace HG:=ae (HG.o.growb hg HB.o.2.2.2);replace HD:=ae (HD.o.grow hg lF.o.2.1);replace HW:=ae (ah HW.o hg);clear hv hg;clear hj3;obtain⟨D2,hD2⟩:=zN (u9.heap.size);obtain⟨W2,hW2⟩:=zN (u9.alloc (.cells #[.int .i64 m2,.int .i64 z1,.int .i64 z2,.int .i64 z3,.string P2,.string Q2] 139));have hgW:u9.grownBy W2 none:=by rw[<-hW2];exact au (ak u9 none) _
         have HD2:Hd (VP D2 m2 z1 z2 z3 P2 Q2 W2):=by show W2.heap[D2]?=_;rw[<-hW2,<-hD2];exact heap_alloc_new u9 _
         have JG:Hd (B<=D2/\D2≠b):=by have h1:=HW.o.size;have h2:=HB.o;rw[h2.1,hD2]at h1;refine⟨h1,?_⟩;omega
         replace HV:=ae (HV.o.grow hgW (by simp));replace HG:=ae (HG.o.grow hgW);replace HD:=ae (HD.o.grow0 hgW);replace HW:=ae (ah HW.o (bH hgW _));clear hgW;have kP:=ae (fun w (h1:GR g b w) (h2:VS b s (j3) 2 (K+1) w)=>Cc.o (j3) 2 (K+1) w eX.o h1 h2);go_wp2_with (go_at_call 75;refine(kP.o _ HG.o HV.o).mono ?_);rintro e u10 ⟨rfl,n,hn⟩;replace HV:Hd (VS b s (j3) 2 (K+1) u10):=by show VS _ _ _ _ _ u10;rw[hn];exact HV.o.drew _
         replace HG:Hd (GR g b u10):=by show GR g b u10;rw[hn];exact HG.o
         replace HD:Hd (VP D m y1 y2 y3 P Q u10):=by show VP D _ _ _ _ _ _ u10;rw[hn];exact HD.o
         replace HD2:Hd (VP D2 m2 z1 z2 z3 P2 Q2 u10):=by show VP D2 _ _ _ _ _ _ u10;rw[hn];exact HD2.o
         replace HW:Hd (w.grownBy u10 (some b)):=by show w.grownBy u10 (some b);rw[hn];exact aF HW.o _
         clear hn;clear hW2 hD2;have xC:=ae (fun w (h1:GR g b w) (h2:VS b s (j3) 2 (K+1) w)=>zK.o (j3) 2 (K+1) w eX.o h1 h2);go_wp2_with (go_at_call 97;refine(xC.o _ HG.o HV.o).mono ?_);rintro e u12 ⟨rfl,n,hn⟩;replace HV:Hd (VS b s (j3) 2 (K+1) u12):=by show VS _ _ _ _ _ u12;rw[hn];exact HV.o.drew _
         replace HG:Hd (GR g b u12):=by show GR g b u12;rw[hn];exact HG.o
         replace HD:Hd (VP D m y1 y2 y3 P Q u12):=by show VP D _ _ _ _ _ _ u12;rw[hn];exact HD.o
         replace HD2:Hd (VP D2 m2 z1 z2 z3 P2 Q2 u12):=by show VP D2 _ _ _ _ _ _ u12;rw[hn];exact HD2.o
         replace HW:Hd (w.grownBy u12 (some b)):=by show w.grownBy u12 (some b);rw[hn];exact aF HW.o _
         clear hn;obtain⟨k0,k1,k2,k3,k4,k5⟩:=HD.o.cells;obtain⟨r0,r1,r2,r3,r4,r5⟩:=HD2.o.cells;go_wp2;go_ret;have hga:u12.grownBy (u12.alloc (.cells #[.int .i64 7,.int .i64 m,.int .i64 y1,.int .i64 y2,.int .i64 y3,.string P,.string Q,.int .i64 2,.int .i64 m2,.int .i64 z1,.int .i64 z2,.int .i64 z3,.string P2,.string Q2] 141)) none:=au (ak _ none) _;exact⟨_,2,2,[⟨7,m,y1,y2,y3,P,Q⟩,⟨2,m2,z1,z2,z3,P2,Q2⟩],j3,K+1,rfl,by rw[HZ.o];exact HV.o.grow hga (by simp),OT.two HW.o.size (heap_alloc_new _ _),ah HW.o (bH hga _),fun h=>by rw[HZ.o]at h;exact absurd h (by simp),fun _=>by rw[HZ.o]⟩
        ·rw[decide_eq_true (by have:=fZ.o;omega)]at zM;have ai:Hd (R=if(ay l K2).1=0 then(if dD l (aj l (ay l K2).2.1)=true then(0,aj l (ay l K2).2.1,[⟨7,p⟩,⟨2,(ay l K2).2.2⟩]) else(2,aj l (ay l K2).2.1,acc.map bU)) else((ay l K2).1,(ay l K2).2.1,acc.map bU)):=by show R=_;rw[l9.o,if_neg hm]
         have EW:=ae (fun w (h1:GR g b w) (h2:VS b s K2 0 c2 w)=>CP.o K2 c2 w fZ.o.2 h1 h2);have JH:=ae (zF.o K2 fZ.o.2);have wJ:=ae (iW.o K2);obtain⟨E2,J2,q,hR2⟩:∃E2 J2 q,ay l K2=(E2,J2,q):=⟨_,_,_,rfl⟩;rw[hR2]at ai EW JH wJ;simp only[]at ai JH wJ;clear hR2 hm l9;refine(zM.o _ HG.o HV.o).mono ?_;rintro e u7 ⟨rfl,hv,hg⟩;replace HV:=ae hv;replace HG:=ae (HG.o.growb hg HB.o.2.2.2);replace HD:=ae (HD.o.grow hg lF.o.2.1);replace HW:=ae (ah HW.o hg);clear hv hg;go_wp2_with (go_at_call 99;refine(EW.o _ HG.o HV.o).mono ?_);rintro e u9 ⟨m2,z1,z2,z3,P2,Q2,j3,c3,rfl,hv,hg,hok,herr⟩;replace HV:Hd (VS b s (j3) E2 (c3) u9):=hv;replace HG:=ae (HG.o.growb hg HB.o.2.2.2);replace HD:=ae (HD.o.grow hg lF.o.2.1);replace HW:=ae (ah HW.o hg);clear hv hg;have RQ:Hd ((E2=0->j3=J2/\m2=(q.n:Int)/\z1=q.a/\z2=q.b/\z3=q.c/\P2=⟨q.pre.toArray⟩)/\(¬E2=0->c3=J2)):=⟨hok,herr⟩
         clear hok herr;obtain⟨D2,hD2⟩:=zN (u9.heap.size);obtain⟨W2,hW2⟩:=zN (u9.alloc (.cells #[.int .i64 m2,.int .i64 z1,.int .i64 z2,.int .i64 z3,.string P2,.string Q2] 139));have hgW:u9.grownBy W2 none:=by rw[<-hW2];exact au (ak u9 none) _
         have HD2:Hd (VP D2 m2 z1 z2 z3 P2 Q2 W2):=by show W2.heap[D2]?=_;rw[<-hW2,<-hD2];exact heap_alloc_new u9 _
         have JG:Hd (B<=D2/\D2≠b):=by have h1:=HW.o.size;have h2:=HB.o;rw[h2.1,hD2]at h1;refine⟨h1,?_⟩;omega
         replace HV:=ae (HV.o.grow hgW (by simp));replace HG:=ae (HG.o.grow hgW);replace HD:=ae (HD.o.grow0 hgW);replace HW:=ae (ah HW.o (bH hgW _));clear hgW
         by_cases hE2:E2=0
         ·subst hE2;obtain⟨f1,f2,f3,f4,f5,f6⟩:=RQ.o.1 rfl;obtain⟨h1,h2,h3⟩:=JH.o rfl;have qY:Hd (m2=(q.n:Int)/\z1=q.a/\z2=q.b/\z3=q.c/\P2=⟨q.pre.toArray⟩):=⟨f2,f3,f4,f5,f6⟩;have HX:Hd (J2<=s.size/\ed q):=⟨h2,h3⟩;subst f1;clear f2 f3 f4 f5 f6 h1 h2 h3;rw[if_pos rfl]at ai;have JI:=ae (fun w (h1:GR g b w) (h2:VS b s j3 0 c3 w)=>CB.o j3 c3 w HX.o.1 h1 h2);have iQ:=ae ((oG.o j3 HX.o.1).2);obtain⟨K3,hK3⟩:=zN (aj l j3);rw[hK3]at JI iQ ai;obtain⟨ap3,RU⟩:=zN (decide (j3<K3));rw[RU]at JI;clear hK3 RU;go_wp2_with (go_at_call 75;refine(JI.o _ HG.o HV.o).mono ?_);rintro e u10 ⟨rfl,hv,hg⟩;replace HV:=ae hv;replace HG:=ae (HG.o.growb hg HB.o.2.2.2);replace HD:=ae (HD.o.grow hg lF.o.2.1);replace HD2:=ae (HD2.o.grow hg JG.o.2);replace HW:=ae (ah HW.o hg);clear hv hg;clear hW2 hD2
          cases hen3:dD l K3 with
          | true =>
           have HZ:Hd (R=(0,K3,[⟨7,p⟩,⟨2,q⟩])):=by show R=_;rw[ai.o,if_pos hen3]
           have xC:Hd (∀w,GR g b w->VS b s K3 0 c3 w->Calls prog 97 #[.pointer (some ⟨g,0,none⟩)] w fun e w'=>e=.returned (.bool true)/\∃n,w'=w.drewN n):=fun w h1 h2=>by have:=CE.o K3 c3 w iQ.o h1 h2;rw[hen3]at this;exact this
           clear hen3;go_wp2_with (go_at_call 97;refine(xC.o _ HG.o HV.o).mono ?_);rintro e u12 ⟨rfl,n,hn⟩;replace HV:Hd (VS b s (K3) 0 (c3) u12):=by show VS _ _ _ _ _ u12;rw[hn];exact HV.o.drew _
           replace HG:Hd (GR g b u12):=by show GR g b u12;rw[hn];exact HG.o
           replace HD:Hd (VP D m y1 y2 y3 P Q u12):=by show VP D _ _ _ _ _ _ u12;rw[hn];exact HD.o
           replace HD2:Hd (VP D2 m2 z1 z2 z3 P2 Q2 u12):=by show VP D2 _ _ _ _ _ _ u12;rw[hn];exact HD2.o
           replace HW:Hd (w.grownBy u12 (some b)):=by show w.grownBy u12 (some b);rw[hn];exact aF HW.o _
           clear hn;obtain⟨k0,k1,k2,k3,k4,k5⟩:=HD.o.cells;obtain⟨r0,r1,r2,r3,r4,r5⟩:=HD2.o.cells;go_wp2;go_ret;have hga:u12.grownBy (u12.alloc (.cells #[.int .i64 7,.int .i64 m,.int .i64 y1,.int .i64 y2,.int .i64 y3,.string P,.string Q,.int .i64 2,.int .i64 m2,.int .i64 z1,.int .i64 z2,.int .i64 z3,.string P2,.string Q2] 141)) none:=au (ak _ none) _;exact⟨_,2,2,[⟨7,m,y1,y2,y3,P,Q⟩,⟨2,m2,z1,z2,z3,P2,Q2⟩],K3,c3,rfl,by rw[HZ.o];exact HV.o.grow hga (by simp),OT.two HW.o.size (heap_alloc_new _ _),ah HW.o (bH hga _),fun _=>(by
            rw[HZ.o];refine⟨?_,rfl,?_⟩
            ·simp only[List.map_cons,List.map_nil];rw[xx (p:=p) 7 HQ.o.1 HQ.o.2.1 HQ.o.2.2.1 HQ.o.2.2.2.1 HQ.o.2.2.2.2,xx (p:=q) 2 qY.o.1 qY.o.2.1 qY.o.2.2.1 qY.o.2.2.2.1 qY.o.2.2.2.2]
            ·intro x hx;simp only[List.mem_cons,List.not_mem_nil,or_false]at hx
             rcases hx with rfl|rfl
             ·exact zJ (p:=p) 7 (by decide) HP.o.2.2 HP2.o HQ.o.1 HQ.o.2.1 HQ.o.2.2.1 HQ.o.2.2.2.1 HQ.o.2.2.2.2
             ·exact zJ (p:=q) 2 (by decide) HX.o.2 wJ.o qY.o.1 qY.o.2.1 qY.o.2.2.1 qY.o.2.2.2.1 qY.o.2.2.2.2),fun h=>absurd (by rw[HZ.o]) h⟩
          | false =>
           have HZ:Hd (R=(2,K3,acc.map bU)):=by show R=_;rw[ai.o,if_neg (by rw[hen3];decide)]
           have xC:Hd (∀w,GR g b w->VS b s K3 0 c3 w->Calls prog 97 #[.pointer (some ⟨g,0,none⟩)] w fun e w'=>e=.returned (.bool false)/\∃n,w'=w.drewN n):=fun w h1 h2=>by have:=CE.o K3 c3 w iQ.o h1 h2;rw[hen3]at this;exact this
           clear hen3;go_wp2_with (go_at_call 97;refine(xC.o _ HG.o HV.o).mono ?_);rintro e u12 ⟨rfl,n,hn⟩;replace HV:Hd (VS b s (K3) 0 (c3) u12):=by show VS _ _ _ _ _ u12;rw[hn];exact HV.o.drew _
           replace HG:Hd (GR g b u12):=by show GR g b u12;rw[hn];exact HG.o
           replace HD:Hd (VP D m y1 y2 y3 P Q u12):=by show VP D _ _ _ _ _ _ u12;rw[hn];exact HD.o
           replace HD2:Hd (VP D2 m2 z1 z2 z3 P2 Q2 u12):=by show VP D2 _ _ _ _ _ _ u12;rw[hn];exact HD2.o
           replace HW:Hd (w.grownBy u12 (some b)):=by show w.grownBy u12 (some b);rw[hn];exact aF HW.o _
           clear hn;have xA:=ae (CF.o K3 c3 2 K3);have e0:u12.cell? ⟨g,0,none⟩=some (.pointer (some ⟨b,0,none⟩)):=HG.o;have e1:=HV.o.c1;go_wp2_with (fail)
           go_region_held3 (fun w'=>w'.cell? ⟨g,0,none⟩=some (.pointer (some ⟨b,0,none⟩))/\w'.cell? ⟨b,1,none⟩=some (.int .i64 ((K3:Nat):Int))) (first|(simp only[fK];exact⟨e0,e1⟩)|exact hS1) (first|(go_at_call 72;refine(xA.o _ (by first|exact HV.o|exact VS.drew HV.o 1)).mono ?_;rintro e u13 ⟨rfl,hv,lS⟩;have hS1:u13.cell? ⟨g,0,none⟩=some (.pointer (some ⟨b,0,none⟩))/\u13.cell? ⟨b,1,none⟩=some (.int .i64 ((K3:Nat):Int)):=⟨GR.growb (b:=b) HG.o (cZ lS) HB.o.2.2.2,hv.c1⟩))
           have hg:=cZ lS;clear lS e0 e1 hS1;replace HV:=ae hv;replace HG:=ae (HG.o.growb hg HB.o.2.2.2);replace HD:=ae (HD.o.grow hg lF.o.2.1);replace HD2:=ae (HD2.o.grow hg JG.o.2);replace HW:=ae (ah HW.o hg);clear hv hg;obtain⟨k0,k1,k2,k3,k4,k5⟩:=HD.o.cells;obtain⟨r0,r1,r2,r3,r4,r5⟩:=HD2.o.cells;go_wp2;go_ret;have hga:u13.grownBy (u13.alloc (.cells #[.int .i64 7,.int .i64 m,.int .i64 y1,.int .i64 y2,.int .i64 y3,.string P,.string Q,.int .i64 2,.int .i64 m2,.int .i64 z1,.int .i64 z2,.int .i64 z3,.string P2,.string Q2] 141)) none:=au (ak _ none) _;exact⟨_,2,2,[⟨7,m,y1,y2,y3,P,Q⟩,⟨2,m2,z1,z2,z3,P2,Q2⟩],K3,K3,rfl,by rw[HZ.o];exact HV.o.grow hga (by simp),OT.two HW.o.size (heap_alloc_new _ _),ah HW.o (bH hga _),fun h=>by rw[HZ.o]at h;exact absurd h (by simp),fun _=>by rw[HZ.o]⟩
         ·have eX:=ae hE2;have HZ:Hd (R=(E2,c3,acc.map bU)):=by show R=_;rw[ai.o,if_neg hE2,RQ.o.2 hE2]
          clear hE2;have kP:=ae (fun w (h1:GR g b w) (h2:VS b s (j3) E2 (c3) w)=>Cc.o (j3) E2 (c3) w eX.o h1 h2);go_wp2_with (go_at_call 75;refine(kP.o _ HG.o HV.o).mono ?_);rintro e u10 ⟨rfl,n,hn⟩;replace HV:Hd (VS b s (j3) E2 (c3) u10):=by show VS _ _ _ _ _ u10;rw[hn];exact HV.o.drew _
          replace HG:Hd (GR g b u10):=by show GR g b u10;rw[hn];exact HG.o
          replace HD:Hd (VP D m y1 y2 y3 P Q u10):=by show VP D _ _ _ _ _ _ u10;rw[hn];exact HD.o
          replace HD2:Hd (VP D2 m2 z1 z2 z3 P2 Q2 u10):=by show VP D2 _ _ _ _ _ _ u10;rw[hn];exact HD2.o
          replace HW:Hd (w.grownBy u10 (some b)):=by show w.grownBy u10 (some b);rw[hn];exact aF HW.o _
          clear hn;clear hW2 hD2;have xC:=ae (fun w (h1:GR g b w) (h2:VS b s (j3) E2 (c3) w)=>zK.o (j3) E2 (c3) w eX.o h1 h2);go_wp2_with (go_at_call 97;refine(xC.o _ HG.o HV.o).mono ?_);rintro e u12 ⟨rfl,n,hn⟩;replace HV:Hd (VS b s (j3) E2 (c3) u12):=by show VS _ _ _ _ _ u12;rw[hn];exact HV.o.drew _
          replace HG:Hd (GR g b u12):=by show GR g b u12;rw[hn];exact HG.o
          replace HD:Hd (VP D m y1 y2 y3 P Q u12):=by show VP D _ _ _ _ _ _ u12;rw[hn];exact HD.o
          replace HD2:Hd (VP D2 m2 z1 z2 z3 P2 Q2 u12):=by show VP D2 _ _ _ _ _ _ u12;rw[hn];exact HD2.o
          replace HW:Hd (w.grownBy u12 (some b)):=by show w.grownBy u12 (some b);rw[hn];exact aF HW.o _
          clear hn;obtain⟨k0,k1,k2,k3,k4,k5⟩:=HD.o.cells;obtain⟨r0,r1,r2,r3,r4,r5⟩:=HD2.o.cells;go_wp2;go_ret;have hga:u12.grownBy (u12.alloc (.cells #[.int .i64 7,.int .i64 m,.int .i64 y1,.int .i64 y2,.int .i64 y3,.string P,.string Q,.int .i64 2,.int .i64 m2,.int .i64 z1,.int .i64 z2,.int .i64 z3,.string P2,.string Q2] 141)) none:=au (ak _ none) _;exact⟨_,2,2,[⟨7,m,y1,y2,y3,P,Q⟩,⟨2,m2,z1,z2,z3,P2,Q2⟩],j3,c3,rfl,by rw[HZ.o];exact HV.o.grow hga (by simp),OT.two HW.o.size (heap_alloc_new _ _),ah HW.o (bH hga _),fun h=>by rw[HZ.o]at h;exact absurd h eX.o,fun _=>by rw[HZ.o]⟩
     ·rcases(show(¬n0=0/\sg<0)\/(¬n0=0/\¬sg<0)\/(n0=0/\¬sg<0) by omega) with⟨hz,hsn⟩|⟨hz,hsn⟩|⟨hz,hsn⟩
      all_goals (
       clear h4
       first
        | (subst hz;have RP:Hd (acc.map bU=[]):=(by show _=_;rw[List.map_eq_nil_iff];exact List.length_eq_zero_iff.1 dI.o.1))
        | (have RX:Hd (¬acc.map bU=[]):=(by show ¬_;intro h;rw[List.map_eq_nil_iff]at h;have h2:=dI.o.1;rw[h]at h2;exact hz h2.symm);have hlen:((n0:Int) == 0)=false:=(by simp;omega);clear hz)
       have fO:=ae hsn
       cases ap with
       | false =>
        obtain⟨k0,k1,k2,k3,k4,k5⟩:=HD.o.cells;have hinfo:=xw;obtain⟨i1,hj0,hjj⟩:=Option.map_eq_some_iff.1 hinfo;have hy0:i1.zero=some (.agg #[.int .i64 0,.int .i64 0,.int .i64 0,.int .i64 0,.int .i64 0,.string ⟨#[]⟩,.string ⟨#[]⟩]):=congrArg (·.1) hjj;have hy1:i1.size=7:=congrArg (·.2.1) hjj;have hyb:i1.bytes=72:=congrArg (·.2.2) hjj;clear hjj hinfo
        first|(have h0:sg<0:=fO.o;obtain⟨tq,fU⟩:∃tq:Tq,tq=⟨0,m,y1,y2,y3,P,Q⟩:=⟨_,rfl⟩;have htc:iT tq=[.int .i64 (0),.int .i64 m,.int .i64 y1,.int .i64 y2,.int .i64 y3,.string P,.string Q]:=(by rw[fU];rfl);clear h0)|(obtain⟨tq,fU⟩:∃tq:Tq,tq=⟨sg,m,y1,y2,y3,P,Q⟩:=⟨_,rfl⟩;have htc:iT tq=[.int .i64 (sg),.int .i64 m,.int .i64 y1,.int .i64 y2,.int .i64 y3,.string P,.string Q]:=(by rw[fU];rfl))
        have mM:=ae fU;have jI:=ae htc;clear fU htc;go_wp2_with (first|(at_builtin;refine wpList_append_own _ rfl _ _ 135 rfl B 141 i1 _ 7 72 underlying135 hj0 hy0 hy1 hyb rfl (by decide) _ _ _ rfl (by have h:=HO.o;unfold OT at h;rw[dI.o.1]at h;exact h.alloc _) _ 1 1 (iT tq) rfl (by rw[jI.o];rfl) (by rw[jI.o];exact World.news_of_block (heap_alloc_new _ _)) (xu tq) (by unfold maxLen;have:=dI.o;omega) (by have:=dI.o;omega) (by have h1:=HW.o.size;rw[HB.o.1]at h1;simp;omega) ?_;intro v' u9 hown hgrow _))
        first|(have h0:sg<0:=fO.o;have hga:u4.grownBy (u4.alloc (.cells #[.int .i64 (0),.int .i64 m,.int .i64 y1,.int .i64 y2,.int .i64 y3,.string P,.string Q] 141)) none:=au (ak _ none) _;clear h0)|(have hga:u4.grownBy (u4.alloc (.cells #[.int .i64 (sg),.int .i64 m,.int .i64 y1,.int .i64 y2,.int .i64 y3,.string P,.string Q] 141)) none:=au (ak _ none) _)
        have bW:=HO.o.far;have bG:Hd (OT u9 B v' (acc++[tq])):=by show OT u9 B v' _;unfold OT;rw[List.length_append,List.flatMap_append,dI.o.1];simpa using hown
        replace HV:=(HV.o.grow hga (by simp)).grow hgrow (fun e=>by have:=bW b e.symm;have:=HB.o;omega);replace HG:=ae ((HG.o.grow hga).growr hgrow (fun e=>by have:=bW g e.symm;have:=HB.o;omega));replace HW:=ae (vH (ah HW.o (bH hga _)) hgrow (fun q hq=>by rw[HB.o.1];exact bW q hq));have dA:Hd ((acc++[tq]).length<=1000):=by show _<=_;rw[List.length_append,dI.o.1];have:=HJ.o;have:=bP.o.2;first|(simp;omega)|simp
        obtain⟨o9,c9,hvn⟩:=bG.o.slice;obtain⟨n9,jJ⟩:=zN ((acc++[tq]).length);rw[jJ]at hvn;rw[hvn]at bG
        try rw[hvn]
        clear jJ;clear hown hgrow hga bW hj0 hy0 hy1 hyb k0 k1 k2 k3 k4 k5 hvn;have jb:=ae HV;clear HV
        cases hen:dD l K with
        | true =>
         have nO:Hd (∀w,GR g b w->VS b s K 0 c2 w->Calls prog 97 #[.pointer (some ⟨g,0,none⟩)] w fun e w'=>e=.returned (.bool true)/\∃n,w'=w.drewN n):=fun w h1 h2=>by have:=CE.o K c2 w HK.o.2 h1 h2;rw[hen]at this;exact this
         have bK:Hd (R=eF l f K ((acc++[tq]).map bU)):=by
          show R=_;rw[List.map_append,show[tq].map bU=[⟨fP sg,p⟩] by rw[mM.o];simp only[List.map_cons,List.map_nil];rw[xx (p:=p) _ HQ.o.1 HQ.o.2.1 HQ.o.2.2.1 HQ.o.2.2.2.1 HQ.o.2.2.2.2];unfold fP;first|rw[if_pos fO.o]|rw[if_neg (by have:=fO.o;omega)]];exact MORE.o (by first|trivial|rfl) (fun h=>by first|exact RX.o h.1.2|(have:=fO.o;have:=h.1.1;omega)) (fun h=>h.2 hen)
         have jm:Hd (∀x∈acc++[tq],jH x):=by
          intro x hx
          rcases List.mem_append.1 hx with h|h
          ·exact dH.o x h
          ·rw[List.mem_singleton.1 h,mM.o];exact zJ (p:=p) _ (by have:=fO.o;have:=vG.o;omega) HP.o.2.2 HP2.o HQ.o.1 HQ.o.2.1 HQ.o.2.2.1 HQ.o.2.2.2.1 HQ.o.2.2.2.2
         clear hen;go_wp2_with (go_at_call 97;refine(nO.o _ HG.o jb.o).mono ?_);rintro e u10 ⟨rfl,n,hn⟩;have HF:Hd (VS b s K 0 c2 u10/\GR g b u10/\OT u10 B (.slice o9 n9 c9) (acc++[tq])/\w.grownBy u10 (some b)):=by
          rw[hn];exact⟨jb.o.drew _,HG.o,bG.o,aF HW.o _⟩
         clear hn;go_wp2;go_roundw
         case rel=>exact DRel.ok (f:=f) HF.o.1 HF.o.2.1 HF.o.2.2.1 HF.o.2.2.2 dA.o HK.o.2 (by rw[List.length_append,dI.o.1];have:=HJ.o;have:=HS2.o;have:=HP.o;have:=HK.o;first|(simp;omega)|simp) (by have:=HJ.o;have:=HS2.o;have:=HP.o;have:=HK.o;omega) bK.o.symm jm.o
         case measure=>rw[HM.o,HF.o.1.meas0];have:=HJ.o;have:=HS2.o;have:=HP.o;have:=HK.o;omega
        | false =>
         have nO:Hd (∀w,GR g b w->VS b s K 0 c2 w->Calls prog 97 #[.pointer (some ⟨g,0,none⟩)] w fun e w'=>e=.returned (.bool false)/\∃n,w'=w.drewN n):=fun w h1 h2=>by have:=CE.o K c2 w HK.o.2 h1 h2;rw[hen]at this;exact this
         have HZ:=ae (GAP.o (by first|trivial|rfl) (of_decide_eq_false kN.o) (by rw[hen];decide));clear hen;go_wp2_with (go_at_call 97;refine(nO.o _ HG.o jb.o).mono ?_);rintro e u10 ⟨rfl,n,hn⟩;have HF:Hd (VS b s K 0 c2 u10/\GR g b u10/\OT u10 B (.slice o9 n9 c9) (acc++[tq])/\w.grownBy u10 (some b)):=by
          rw[hn];exact⟨jb.o.drew _,HG.o,bG.o,aF HW.o _⟩
         clear hn;have xA:=ae (CF.o K c2 2 K);have e0:u10.cell? ⟨g,0,none⟩=some (.pointer (some ⟨b,0,none⟩)):=HF.o.2.1;have e1:=(HF.o.1).c1;go_wp2_with (fail)
         go_region_held3 (fun w'=>w'.cell? ⟨g,0,none⟩=some (.pointer (some ⟨b,0,none⟩))/\w'.cell? ⟨b,1,none⟩=some (.int .i64 (K:Int))) (first|(simp only[fK];exact⟨e0,e1⟩)|exact hS1) (first|(go_at_call 72;refine(xA.o _ (by first|exact HF.o.1|exact VS.drew HF.o.1 1)).mono ?_;rintro e u11 ⟨rfl,xB,lS⟩;have hS1:u11.cell? ⟨g,0,none⟩=some (.pointer (some ⟨b,0,none⟩))/\u11.cell? ⟨b,1,none⟩=some (.int .i64 (K:Int)):=⟨GR.growb (b:=b) HF.o.2.1 (cZ lS) HB.o.2.2.2,xB.c1⟩))
         have dZ:=ae xB;have tZ:=cZ lS;have qU:Hd (GR g b u11/\OT u11 B (.slice o9 n9 c9) (acc++[tq])/\w.grownBy u11 (some b)):=⟨HF.o.2.1.growb tZ HB.o.2.2.2,HF.o.2.2.1.growb tZ HB.o.2.1,ah HF.o.2.2.2 tZ⟩;clear xB lS tZ e0 e1 hS1;go_wp2;go_roundw
         case rel=>exact DRel.bad dZ.o qU.o.1 qU.o.2.1 qU.o.2.2 dA.o (by decide) (by rw[HZ.o]) (by rw[HZ.o])
         case measure=>rw[HM.o,dZ.o.measE (by decide)];have:=HJ.o;omega
       | true =>
        obtain⟨k0,k1,k2,k3,k4,k5⟩:=HD.o.cells;have hinfo:=xw;obtain⟨i1,hj0,hjj⟩:=Option.map_eq_some_iff.1 hinfo;have hy0:i1.zero=some (.agg #[.int .i64 0,.int .i64 0,.int .i64 0,.int .i64 0,.int .i64 0,.string ⟨#[]⟩,.string ⟨#[]⟩]):=congrArg (·.1) hjj;have hy1:i1.size=7:=congrArg (·.2.1) hjj;have hyb:i1.bytes=72:=congrArg (·.2.2) hjj;clear hjj hinfo
        first|(have h0:sg<0:=fO.o;obtain⟨tq,fU⟩:∃tq:Tq,tq=⟨0,m,y1,y2,y3,P,Q⟩:=⟨_,rfl⟩;have htc:iT tq=[.int .i64 (0),.int .i64 m,.int .i64 y1,.int .i64 y2,.int .i64 y3,.string P,.string Q]:=(by rw[fU];rfl);clear h0)|(obtain⟨tq,fU⟩:∃tq:Tq,tq=⟨sg,m,y1,y2,y3,P,Q⟩:=⟨_,rfl⟩;have htc:iT tq=[.int .i64 (sg),.int .i64 m,.int .i64 y1,.int .i64 y2,.int .i64 y3,.string P,.string Q]:=(by rw[fU];rfl))
        have mM:=ae fU;have jI:=ae htc;clear fU htc;go_wp2_with (first|(at_builtin;refine wpList_append_own _ rfl _ _ 135 rfl B 141 i1 _ 7 72 underlying135 hj0 hy0 hy1 hyb rfl (by decide) _ _ _ rfl (by have h:=HO.o;unfold OT at h;rw[dI.o.1]at h;exact h.alloc _) _ 1 1 (iT tq) rfl (by rw[jI.o];rfl) (by rw[jI.o];exact World.news_of_block (heap_alloc_new _ _)) (xu tq) (by unfold maxLen;have:=dI.o;omega) (by have:=dI.o;omega) (by have h1:=HW.o.size;rw[HB.o.1]at h1;simp;omega) ?_;intro v' u9 hown hgrow _))
        first|(have h0:sg<0:=fO.o;have hga:u4.grownBy (u4.alloc (.cells #[.int .i64 (0),.int .i64 m,.int .i64 y1,.int .i64 y2,.int .i64 y3,.string P,.string Q] 141)) none:=au (ak _ none) _;clear h0)|(have hga:u4.grownBy (u4.alloc (.cells #[.int .i64 (sg),.int .i64 m,.int .i64 y1,.int .i64 y2,.int .i64 y3,.string P,.string Q] 141)) none:=au (ak _ none) _)
        have bW:=HO.o.far;have bG:Hd (OT u9 B v' (acc++[tq])):=by show OT u9 B v' _;unfold OT;rw[List.length_append,List.flatMap_append,dI.o.1];simpa using hown
        replace HV:=(HV.o.grow hga (by simp)).grow hgrow (fun e=>by have:=bW b e.symm;have:=HB.o;omega);replace HG:=ae ((HG.o.grow hga).growr hgrow (fun e=>by have:=bW g e.symm;have:=HB.o;omega));replace HW:=ae (vH (ah HW.o (bH hga _)) hgrow (fun q hq=>by rw[HB.o.1];exact bW q hq));have dA:Hd ((acc++[tq]).length<=1000):=by show _<=_;rw[List.length_append,dI.o.1];have:=HJ.o;have:=bP.o.2;first|(simp;omega)|simp
        obtain⟨o9,c9,hvn⟩:=bG.o.slice;obtain⟨n9,jJ⟩:=zN ((acc++[tq]).length);rw[jJ]at hvn;rw[hvn]at bG
        try rw[hvn]
        clear jJ;clear hown hgrow hga bW hj0 hy0 hy1 hyb k0 k1 k2 k3 k4 k5 hvn;have jb:=ae HV;clear HV;have bK:Hd (R=eF l f K ((acc++[tq]).map bU)):=by
         show R=_;rw[List.map_append,show[tq].map bU=[⟨fP sg,p⟩] by rw[mM.o];simp only[List.map_cons,List.map_nil];rw[xx (p:=p) _ HQ.o.1 HQ.o.2.1 HQ.o.2.2.1 HQ.o.2.2.2.1 HQ.o.2.2.2.2];unfold fP;first|rw[if_pos fO.o]|rw[if_neg (by have:=fO.o;omega)]];exact MORE.o (by first|trivial|rfl) (fun h=>by first|exact RX.o h.1.2|(have:=fO.o;have:=h.1.1;omega)) (fun h=>h.1 (of_decide_eq_true kN.o))
        have jm:Hd (∀x∈acc++[tq],jH x):=by
         intro x hx
         rcases List.mem_append.1 hx with h|h
         ·exact dH.o x h
         ·rw[List.mem_singleton.1 h,mM.o];exact zJ (p:=p) _ (by have:=fO.o;have:=vG.o;omega) HP.o.2.2 HP2.o HQ.o.1 HQ.o.2.1 HQ.o.2.2.1 HQ.o.2.2.2.1 HQ.o.2.2.2.2
        have HF:Hd (VS b s K 0 c2 u9/\GR g b u9/\OT u9 B (.slice o9 n9 c9) (acc++[tq])/\w.grownBy u9 (some b)):=⟨jb.o,HG.o,bG.o,HW.o⟩;go_wp2;go_roundw
        case rel=>exact DRel.ok (f:=f) HF.o.1 HF.o.2.1 HF.o.2.2.1 HF.o.2.2.2 dA.o HK.o.2 (by rw[List.length_append,dI.o.1];have:=HJ.o;have:=HS2.o;have:=HP.o;have:=HK.o;first|(simp;omega)|simp) (by have:=HJ.o;have:=HS2.o;have:=HP.o;have:=HK.o;omega) bK.o.symm jm.o
        case measure=>rw[HM.o,HF.o.1.meas0];have:=HJ.o;have:=HS2.o;have:=HP.o;have:=HK.o;omega)
    ·have eX:=ae hE1;have HZ:Hd (R=(E1,c2,acc.map bU)):=by show R=_;rw[BAD.o hE1,RN.o.2 hE1]
     clear hE1 BAD MORE GAP BTW
     by_cases hsn:sg<0
     ·cases hlz:decide (n0=0) with
      | false =>
       have hlen:((n0:Int) == 0)=false:=by have:=of_decide_eq_false hlz;simp;omega
       clear hlz;have kP:=ae (fun w (h1:GR g b w) (h2:VS b s (j2) E1 (c2) w)=>Cc.o (j2) E1 (c2) w eX.o h1 h2);go_wp2_with (go_at_call 75;refine(kP.o _ HG.o HV.o).mono ?_);rintro e u4 ⟨rfl,n,hn⟩;replace HV:Hd (VS b s (j2) E1 (c2) u4):=by show VS _ _ _ _ _ u4;rw[hn];exact HV.o.drew _
       replace HG:Hd (GR g b u4):=by show GR g b u4;rw[hn];exact HG.o
       replace HO:Hd (OT u4 B (.slice o n0 c0) acc):=by show OT u4 B _ _;rw[hn];exact HO.o
       replace HD:Hd (VP D m y1 y2 y3 P Q u4):=by show VP D _ _ _ _ _ _ u4;rw[hn];exact HD.o
       replace HW:Hd (w.grownBy u4 (some b)):=by show w.grownBy u4 (some b);rw[hn];exact aF HW.o _
       clear hn;obtain⟨k0,k1,k2,k3,k4,k5⟩:=HD.o.cells;have hinfo:=xw;obtain⟨i1,hj0,hjj⟩:=Option.map_eq_some_iff.1 hinfo;have hy0:i1.zero=some (.agg #[.int .i64 0,.int .i64 0,.int .i64 0,.int .i64 0,.int .i64 0,.string ⟨#[]⟩,.string ⟨#[]⟩]):=congrArg (·.1) hjj;have hy1:i1.size=7:=congrArg (·.2.1) hjj;have hyb:i1.bytes=72:=congrArg (·.2.2) hjj;clear hjj hinfo;obtain⟨tq,fU⟩:∃tq:Tq,tq=⟨0,m,y1,y2,y3,P,Q⟩:=⟨_,rfl⟩;have mM:=ae fU;have htc:iT tq=[.int .i64 (0),.int .i64 m,.int .i64 y1,.int .i64 y2,.int .i64 y3,.string P,.string Q]:=by rw[fU];rfl
       have jI:=ae htc;clear fU htc;go_wp2_with (first|(at_builtin;refine wpList_append_own _ rfl _ _ 135 rfl B 141 i1 _ 7 72 underlying135 hj0 hy0 hy1 hyb rfl (by decide) _ _ _ rfl (by have h:=HO.o;unfold OT at h;rw[dI.o.1]at h;exact h.alloc _) _ 1 1 (iT tq) rfl (by rw[jI.o];rfl) (by rw[jI.o];exact World.news_of_block (heap_alloc_new _ _)) (xu tq) (by unfold maxLen;have:=dI.o;omega) (by have:=dI.o;omega) (by have h1:=HW.o.size;rw[HB.o.1]at h1;simp;omega) ?_;intro v' u9 hown hgrow _));have hga:u4.grownBy (u4.alloc (.cells #[.int .i64 (0),.int .i64 m,.int .i64 y1,.int .i64 y2,.int .i64 y3,.string P,.string Q] 141)) none:=au (ak _ none) _;have bW:=HO.o.far;have bG:Hd (OT u9 B v' (acc++[tq])):=by show OT u9 B v' _;unfold OT;rw[List.length_append,List.flatMap_append,dI.o.1];simpa using hown
       replace HV:=(HV.o.grow hga (by simp)).grow hgrow (fun e=>by have:=bW b e.symm;have:=HB.o;omega);replace HG:=ae ((HG.o.grow hga).growr hgrow (fun e=>by have:=bW g e.symm;have:=HB.o;omega));replace HW:=ae (vH (ah HW.o (bH hga _)) hgrow (fun q hq=>by rw[HB.o.1];exact bW q hq));have dA:Hd ((acc++[tq]).length<=1000):=by show _<=_;rw[List.length_append,dI.o.1];have:=HJ.o;have:=bP.o.2;first|(simp;omega)|simp
       obtain⟨o9,c9,hvn⟩:=bG.o.slice;obtain⟨n9,jJ⟩:=zN ((acc++[tq]).length);rw[jJ]at hvn;rw[hvn]at bG
       try rw[hvn]
       clear jJ;clear hown hgrow hga bW hj0 hy0 hy1 hyb k0 k1 k2 k3 k4 k5 hvn;have jb:=ae HV;clear HV;have nO:=ae (fun w (h1:GR g b w) (h2:VS b s j2 E1 c2 w)=>zK.o j2 E1 c2 w eX.o h1 h2);go_wp2_with (go_at_call 97;refine(nO.o _ HG.o jb.o).mono ?_);rintro e u10 ⟨rfl,n,hn⟩;have HF:Hd (VS b s j2 E1 c2 u10/\GR g b u10/\OT u10 B (.slice o9 n9 c9) (acc++[tq])/\w.grownBy u10 (some b)):=by
        rw[hn];exact⟨jb.o.drew _,HG.o,bG.o,aF HW.o _⟩
       clear hn;go_wp2;go_roundw
       case rel=>exact DRel.bad HF.o.1 HF.o.2.1 HF.o.2.2.1 HF.o.2.2.2 dA.o eX.o (by rw[HZ.o]) (by rw[HZ.o])
       case measure=>rw[HM.o,HF.o.1.measE eX.o];have:=HJ.o;omega
      | true =>
       have hn0:=of_decide_eq_true hlz;subst hn0;clear hlz;have kP:=ae (fun w (h1:GR g b w) (h2:VS b s (j2) E1 (c2) w)=>Cc.o (j2) E1 (c2) w eX.o h1 h2);go_wp2_with (go_at_call 75;refine(kP.o _ HG.o HV.o).mono ?_);rintro e u4 ⟨rfl,n,hn⟩;replace HV:Hd (VS b s (j2) E1 (c2) u4):=by show VS _ _ _ _ _ u4;rw[hn];exact HV.o.drew _
       replace HG:Hd (GR g b u4):=by show GR g b u4;rw[hn];exact HG.o
       replace HO:Hd (OT u4 B (.slice o 0 c0) acc):=by show OT u4 B _ _;rw[hn];exact HO.o
       replace HD:Hd (VP D m y1 y2 y3 P Q u4):=by show VP D _ _ _ _ _ _ u4;rw[hn];exact HD.o
       replace HW:Hd (w.grownBy u4 (some b)):=by show w.grownBy u4 (some b);rw[hn];exact aF HW.o _
       clear hn;obtain⟨k0,k1,k2,k3,k4,k5⟩:=HD.o.cells;have hinfo:=xw;obtain⟨i1,hj0,hjj⟩:=Option.map_eq_some_iff.1 hinfo;have hy0:i1.zero=some (.agg #[.int .i64 0,.int .i64 0,.int .i64 0,.int .i64 0,.int .i64 0,.string ⟨#[]⟩,.string ⟨#[]⟩]):=congrArg (·.1) hjj;have hy1:i1.size=7:=congrArg (·.2.1) hjj;have hyb:i1.bytes=72:=congrArg (·.2.2) hjj;clear hjj hinfo;obtain⟨tq,fU⟩:∃tq:Tq,tq=⟨0,m,y1,y2,y3,P,Q⟩:=⟨_,rfl⟩;have mM:=ae fU;have htc:iT tq=[.int .i64 (0),.int .i64 m,.int .i64 y1,.int .i64 y2,.int .i64 y3,.string P,.string Q]:=by rw[fU];rfl
       have jI:=ae htc;clear fU htc;go_wp2_with (first|(at_builtin;refine wpList_append_own _ rfl _ _ 135 rfl B 141 i1 _ 7 72 underlying135 hj0 hy0 hy1 hyb rfl (by decide) _ _ _ rfl (by have h:=HO.o;unfold OT at h;rw[dI.o.1]at h;exact h.alloc _) _ 1 1 (iT tq) rfl (by rw[jI.o];rfl) (by rw[jI.o];exact World.news_of_block (heap_alloc_new _ _)) (xu tq) (by unfold maxLen;have:=dI.o;omega) (by have:=dI.o;omega) (by have h1:=HW.o.size;rw[HB.o.1]at h1;simp;omega) ?_;intro v' u9 hown hgrow _));have hga:u4.grownBy (u4.alloc (.cells #[.int .i64 (0),.int .i64 m,.int .i64 y1,.int .i64 y2,.int .i64 y3,.string P,.string Q] 141)) none:=au (ak _ none) _;have bW:=HO.o.far;have bG:Hd (OT u9 B v' (acc++[tq])):=by show OT u9 B v' _;unfold OT;rw[List.length_append,List.flatMap_append,dI.o.1];simpa using hown
       replace HV:=(HV.o.grow hga (by simp)).grow hgrow (fun e=>by have:=bW b e.symm;have:=HB.o;omega);replace HG:=ae ((HG.o.grow hga).growr hgrow (fun e=>by have:=bW g e.symm;have:=HB.o;omega));replace HW:=ae (vH (ah HW.o (bH hga _)) hgrow (fun q hq=>by rw[HB.o.1];exact bW q hq));have dA:Hd ((acc++[tq]).length<=1000):=by show _<=_;rw[List.length_append,dI.o.1];have:=HJ.o;have:=bP.o.2;first|(simp;omega)|simp
       obtain⟨o9,c9,hvn⟩:=bG.o.slice;obtain⟨n9,jJ⟩:=zN ((acc++[tq]).length);rw[jJ]at hvn;rw[hvn]at bG
       try rw[hvn]
       clear jJ;clear hown hgrow hga bW hj0 hy0 hy1 hyb k0 k1 k2 k3 k4 k5 hvn;have jb:=ae HV;clear HV;have nO:=ae (fun w (h1:GR g b w) (h2:VS b s j2 E1 c2 w)=>zK.o j2 E1 c2 w eX.o h1 h2);go_wp2_with (go_at_call 97;refine(nO.o _ HG.o jb.o).mono ?_);rintro e u10 ⟨rfl,n,hn⟩;have HF:Hd (VS b s j2 E1 c2 u10/\GR g b u10/\OT u10 B (.slice o9 n9 c9) (acc++[tq])/\w.grownBy u10 (some b)):=by
        rw[hn];exact⟨jb.o.drew _,HG.o,bG.o,aF HW.o _⟩
       clear hn;go_wp2;go_roundw
       case rel=>exact DRel.bad HF.o.1 HF.o.2.1 HF.o.2.2.1 HF.o.2.2.2 dA.o eX.o (by rw[HZ.o]) (by rw[HZ.o])
       case measure=>rw[HM.o,HF.o.1.measE eX.o];have:=HJ.o;omega
     ·have kP:=ae (fun w (h1:GR g b w) (h2:VS b s (j2) E1 (c2) w)=>Cc.o (j2) E1 (c2) w eX.o h1 h2);go_wp2_with (go_at_call 75;refine(kP.o _ HG.o HV.o).mono ?_);rintro e u4 ⟨rfl,n,hn⟩;replace HV:Hd (VS b s (j2) E1 (c2) u4):=by show VS _ _ _ _ _ u4;rw[hn];exact HV.o.drew _
      replace HG:Hd (GR g b u4):=by show GR g b u4;rw[hn];exact HG.o
      replace HO:Hd (OT u4 B (.slice o n0 c0) acc):=by show OT u4 B _ _;rw[hn];exact HO.o
      replace HD:Hd (VP D m y1 y2 y3 P Q u4):=by show VP D _ _ _ _ _ _ u4;rw[hn];exact HD.o
      replace HW:Hd (w.grownBy u4 (some b)):=by show w.grownBy u4 (some b);rw[hn];exact aF HW.o _
      clear hn;obtain⟨k0,k1,k2,k3,k4,k5⟩:=HD.o.cells;have hinfo:=xw;obtain⟨i1,hj0,hjj⟩:=Option.map_eq_some_iff.1 hinfo;have hy0:i1.zero=some (.agg #[.int .i64 0,.int .i64 0,.int .i64 0,.int .i64 0,.int .i64 0,.string ⟨#[]⟩,.string ⟨#[]⟩]):=congrArg (·.1) hjj;have hy1:i1.size=7:=congrArg (·.2.1) hjj;have hyb:i1.bytes=72:=congrArg (·.2.2) hjj;clear hjj hinfo;obtain⟨tq,fU⟩:∃tq:Tq,tq=⟨sg,m,y1,y2,y3,P,Q⟩:=⟨_,rfl⟩;have mM:=ae fU;have htc:iT tq=[.int .i64 (sg),.int .i64 m,.int .i64 y1,.int .i64 y2,.int .i64 y3,.string P,.string Q]:=by rw[fU];rfl
      have jI:=ae htc;clear fU htc;go_wp2_with (first|(at_builtin;refine wpList_append_own _ rfl _ _ 135 rfl B 141 i1 _ 7 72 underlying135 hj0 hy0 hy1 hyb rfl (by decide) _ _ _ rfl (by have h:=HO.o;unfold OT at h;rw[dI.o.1]at h;exact h.alloc _) _ 1 1 (iT tq) rfl (by rw[jI.o];rfl) (by rw[jI.o];exact World.news_of_block (heap_alloc_new _ _)) (xu tq) (by unfold maxLen;have:=dI.o;omega) (by have:=dI.o;omega) (by have h1:=HW.o.size;rw[HB.o.1]at h1;simp;omega) ?_;intro v' u9 hown hgrow _));have hga:u4.grownBy (u4.alloc (.cells #[.int .i64 (sg),.int .i64 m,.int .i64 y1,.int .i64 y2,.int .i64 y3,.string P,.string Q] 141)) none:=au (ak _ none) _;have bW:=HO.o.far;have bG:Hd (OT u9 B v' (acc++[tq])):=by show OT u9 B v' _;unfold OT;rw[List.length_append,List.flatMap_append,dI.o.1];simpa using hown
      replace HV:=(HV.o.grow hga (by simp)).grow hgrow (fun e=>by have:=bW b e.symm;have:=HB.o;omega);replace HG:=ae ((HG.o.grow hga).growr hgrow (fun e=>by have:=bW g e.symm;have:=HB.o;omega));replace HW:=ae (vH (ah HW.o (bH hga _)) hgrow (fun q hq=>by rw[HB.o.1];exact bW q hq));have dA:Hd ((acc++[tq]).length<=1000):=by show _<=_;rw[List.length_append,dI.o.1];have:=HJ.o;have:=bP.o.2;first|(simp;omega)|simp
      obtain⟨o9,c9,hvn⟩:=bG.o.slice;obtain⟨n9,jJ⟩:=zN ((acc++[tq]).length);rw[jJ]at hvn;rw[hvn]at bG
      try rw[hvn]
      clear jJ;clear hown hgrow hga bW hj0 hy0 hy1 hyb k0 k1 k2 k3 k4 k5 hvn;have jb:=ae HV;clear HV;have nO:=ae (fun w (h1:GR g b w) (h2:VS b s j2 E1 c2 w)=>zK.o j2 E1 c2 w eX.o h1 h2);go_wp2_with (go_at_call 97;refine(nO.o _ HG.o jb.o).mono ?_);rintro e u10 ⟨rfl,n,hn⟩;have HF:Hd (VS b s j2 E1 c2 u10/\GR g b u10/\OT u10 B (.slice o9 n9 c9) (acc++[tq])/\w.grownBy u10 (some b)):=by
       rw[hn];exact⟨jb.o.drew _,HG.o,bG.o,aF HW.o _⟩
      clear hn;go_wp2;go_roundw
      case rel=>exact DRel.bad HF.o.1 HF.o.2.1 HF.o.2.2.1 HF.o.2.2.2 dA.o eX.o (by rw[HZ.o]) (by rw[HZ.o])
      case measure=>rw[HM.o,HF.o.1.measE eX.o];have:=HJ.o;omega
  ·have Ce:=ae (fun w (h1:GR g b w) (h2:VS b s j E c w)=>zK.o j E c w hE h1 h2);have HE:Hd (¬E=0/\R.1=E/\R.2.1=c):=⟨hE,hR1,hR2⟩;clear hE hR1 hR2;go_wp2_with (go_at_call 97;refine(Ce.o _ HG.o HV.o).mono ?_);rintro e u1 ⟨rfl,n,hn⟩;replace HV:Hd (VS b s (j) E (c) u1):=by show VS _ _ _ _ _ u1;rw[hn];exact HV.o.drew _
   replace HG:Hd (GR g b u1):=by show GR g b u1;rw[hn];exact HG.o
   replace HO:Hd (OT u1 B (.slice o n0 c0) acc):=by show OT u1 B _ _;rw[hn];exact HO.o
   replace HW:Hd (w.grownBy u1 (some b)):=by show w.grownBy u1 (some b);rw[hn];exact aF HW.o _
   clear hn;go_wp2;go_ret;exact⟨o,n0,c0,acc,j,c,rfl,by rw[HE.o.2.1];exact HV.o,by rw[HB.o.1];exact HO.o,HW.o,fun h=>absurd (HE.o.2.1.symm.trans h) HE.o.1,fun _=>HE.o.2.2.symm⟩
end Go.Proofs.YtapodndfpecglaaGreatDoor
