import Derived.Deep.CutRange
import Derived.Test.YtbcfhgpfgdbjgaaGreatDoorK26
import Derived.Laws.AppendOwnNone
set_option linter.all false
set_option maxRecDepth 100000
set_option maxHeartbeats 0
open Go.Proofs.Tryz
namespace Go.Proofs.YtbcfhgpfgdbjgaaGreatDoor
open Go.RowKit
variable{P Q s:ByteArray}{E m y1 y2 y3:Int}{l:List UInt8}{xs:List Value}{B a b base' c g i j n:Nat}{e:TypeId}{sl sv v vl:Value}{w w' wr:World}
structure Tq where
 sg:Int
 m:Int
 a:Int
 b:Int
 c:Int
 p:ByteArray
 q:ByteArray
def Hf(t:Tq):List Value:=[.int .i64 t.sg,.int .i64 t.m,.int .i64 t.a,.int .i64 t.b,.int .i64 t.c,.string t.p,.string t.q]
def iJ(t:Tq):Te:=⟨t.sg,⟨t.m.toNat,t.a,t.b,t.c,t.p.data.toList⟩⟩
structure vI(t:Tq):Prop where
 s0:0<=t.sg/\t.sg<=7
 m0:0<=t.m/\t.m<=3
 ok:iZ (iJ t).p
 sm:t.p.size<=200
theorem ajw(t:Tq):∀u∈Hf t,u.oneCell'=true:=by
 intro u hu;simp only[Hf,List.mem_cons,List.not_mem_nil,or_false]at hu
 rcases hu with rfl|rfl|rfl|rfl|rfl|rfl|rfl<;>rfl
theorem ajx:(prog.info? 167).map (fun i=>(i.zero,i.size,i.bytes))=some (some (.agg #[.int .i64 0,.int .i64 0,.int .i64 0,.int .i64 0,.int .i64 0,.string ⟨#[]⟩,.string ⟨#[]⟩]),7,72):=by kernel_rfl
def OT(w:World)(base:Nat)(sl:Value)(L:List Tq):Prop:=w.ownsRow base 167 7 sl L.length (L.flatMap Hf)
theorem OT.growb{base:Nat}{L:List Tq}(h:OT w base sl L)(hg:w.grownBy w' (some b))(hb:b<base):OT w' base sl L:=by
 refine⟨h.1,?_⟩
 rcases h.2 with hn|⟨g,cap,cur,hv,hbg,hc,rest⟩
 ·exact Or.inl hn
 ·refine Or.inr ⟨g,cap,cur,hv,hbg,?_,rest⟩;rw[hg.block g ((bJ hc)) (by simp;omega)];exact hc
theorem OT.drew{base:Nat}{L:List Tq}(h:OT w base sl L)(n:Nat):OT (w.drewN n) base sl L:=h
theorem OT.grow{base:Nat}{L:List Tq}(h:OT w base sl L)(hg:w.grownBy w' none):OT w' base sl L:=sF h hg
theorem OT.base{base:Nat}{L:List Tq}(h:OT w base sl L)(hb:base'<=base):OT w base' sl L:=by
 refine⟨h.1,?_⟩
 rcases h.2 with hn|⟨g,cap,cur,hv,hbg,rest⟩
 ·exact Or.inl hn
 ·exact Or.inr ⟨g,cap,cur,hv,Nat.le_trans hb hbg,rest⟩
theorem OT.slice{base:Nat}{L:List Tq}(h:OT w base sl L):∃o c,sl=.slice o L.length c:=by
 rcases h.2 with⟨h1,h2⟩|⟨g,cap,cur,hv,_⟩
 ·exact⟨_,_,by rw[h1,h2]⟩
 ·exact⟨_,_,hv⟩
theorem OT.far{base:Nat}{L:List Tq}(h:OT w base sl L):∀q,sl.ownBlock=some q->base<=q:=by
 intro q hq
 rcases h.2 with⟨h1,_⟩|⟨g,cap,cur,hv,hb,_⟩
 ·rw[h1]at hq;cases hq
 ·rw[hv]at hq;simp only[Value.ownBlock,Option.some.injEq]at hq;omega
theorem OT.two{base:Nat}{x y:Tq}(hb:base<=g)(h:w.heap[g]?=some (.cells #[.int .i64 x.sg,.int .i64 x.m,.int .i64 x.a,.int .i64 x.b,.int .i64 x.c,.string x.p,.string x.q,.int .i64 y.sg,.int .i64 y.m,.int .i64 y.a,.int .i64 y.b,.int .i64 y.c,.string y.p,.string y.q] 167 (0,0))):OT w base (.slice (some ⟨g,0,none⟩) 2 2) [x,y] :=
 ⟨rfl,Or.inr ⟨g,2,_,rfl,hb,h,Nat.le_refl _,by decide,rfl,rfl⟩⟩
theorem VS.grow{row:Option Nat}(h:VS b s i E a w)(hg:w.grownBy w' row)(hn:some b≠row):VS b s i E a w':=by
 unfold VS at h ⊢;rw[hg.block b ((bJ h)) hn];exact h
theorem GR.growr{row:Option Nat}(h:GR g b w)(hg:w.grownBy w' row)(hn:some g≠row):GR g b w':=hg.cell h hn
theorem VP.growr{v:Nat}{x4 x5:ByteArray}{row:Option Nat}(h:VP v m y1 y2 y3 x4 x5 w)(hg:w.grownBy w' row)(hn:some v≠row):VP v m y1 y2 y3 x4 x5 w':=by
 unfold VP at h ⊢;rw[hg.block v ((bJ h)) hn];exact h
def errOf(b:Nat)(w:World):Int:=match w.cell? ⟨b,2,none⟩ with|some (.int .i64 x)=>x|_=>0
theorem VS.err(h:VS b s i E a w):errOf b w=E:=by unfold errOf;rw[h.c2]
def meas(b n:Nat)(w:World):Nat:=if errOf b w=0 then n+1-placeOf b w else 0
theorem VS.meas0(h:VS b s i 0 a w)(n:Nat):meas b n w=n+1-i:=by unfold meas;rw[h.err,if_pos rfl,h.place]
theorem VS.measE(h:VS b s i E a w)(hE:¬E=0)(n:Nat):meas b n w=0:=by unfold meas;rw[h.err,if_neg hE]
theorem ajy{f:Nat}{acc:List Te}(h:dL l i=true):gG l (f+1) i acc=(0,i,acc):=by unfold gG;rw[if_pos h]
theorem ajz{f:Nat}{acc:List Te}(h:¬dL l i=true)(hr:¬(ah l (ai l i).2).1=0):gG l (f+1) i acc=((ah l (ai l i).2).1,(ah l (ai l i).2).2.1,acc):=by
 unfold gG;rw[if_neg h,if_neg hr]
theorem ajA{f:Nat}{acc:List Te}(h:¬dL l i=true)(hr:(ah l (ai l i).2).1=0)
  (hb:¬(((ai l i).1<0/\acc=[])/\(ah l (ai l i).2).2.1<ag l (ah l (ai l i).2).2.1/\l[ag l (ah l (ai l i).2).2.1]?=some 45))
  (hg:¬(¬(ah l (ai l i).2).2.1<ag l (ah l (ai l i).2).2.1/\¬dL l (ag l (ah l (ai l i).2).2.1)=true)) :
  gG l (f+1) i acc=gG l f (ag l (ah l (ai l i).2).2.1) (acc++[⟨jC (ai l i).1,(ah l (ai l i).2).2.2⟩]):=by
 rw[gG,if_neg h,if_pos hr,if_neg hb,if_neg hg]
theorem ajB{f:Nat}{acc:List Te}(h:¬dL l i=true)(hr:(ah l (ai l i).2).1=0)
  (hg1:¬(ah l (ai l i).2).2.1<ag l (ah l (ai l i).2).2.1) (hg2:¬dL l (ag l (ah l (ai l i).2).2.1)=true) :
  gG l (f+1) i acc=(2,ag l (ah l (ai l i).2).2.1,acc):=by
 rw[gG,if_neg h,if_pos hr,if_neg (fun hb=>hg1 hb.2.1),if_pos ⟨hg1,hg2⟩]
theorem ajC{f:Nat}{acc:List Te}(h:¬dL l i=true)(hr:(ah l (ai l i).2).1=0)
  (hb:((ai l i).1<0/\acc=[])/\(ah l (ai l i).2).2.1<ag l (ah l (ai l i).2).2.1/\l[ag l (ah l (ai l i).2).2.1]?=some 45) :
  gG l (f+1) i acc=(if ag l (ag l (ah l (ai l i).2).2.1+1)=ag l (ah l (ai l i).2).2.1+1 then(2,ag l (ah l (ai l i).2).2.1+1,acc) else
    if(ah l (ag l (ag l (ah l (ai l i).2).2.1+1))).1=0 then
     (if dL l (ag l (ah l (ag l (ag l (ah l (ai l i).2).2.1+1))).2.1)=true then(0,ag l (ah l (ag l (ag l (ah l (ai l i).2).2.1+1))).2.1,[⟨7,(ah l (ai l i).2).2.2⟩,⟨2,(ah l (ag l (ag l (ah l (ai l i).2).2.1+1))).2.2⟩])
     else(2,ag l (ah l (ag l (ag l (ah l (ai l i).2).2.1+1))).2.1,acc))
    else((ah l (ag l (ag l (ah l (ai l i).2).2.1+1))).1,(ah l (ag l (ag l (ah l (ai l i).2).2.1+1))).2.1,acc)):=by
 rw[gG,if_neg h,if_pos hr,if_pos hb]
def RI(b:Nat)(s:ByteArray)(R:Int × Nat × List Te)(w:World)(e:Ending)(w':World):Prop :=
 ∃(o:Option Addr) (n k:Nat) (acc:List Tq) (j c:Nat),e=.returned (.slice o n k)/\VS b s j R.1 c w'/\OT w' w.heap.size (.slice o n k) acc/\w.grownBy w' (some b)/\(R.1=0->acc.map iJ=R.2.2/\j=R.2.1/\∀x∈acc,vI x)/\(¬R.1=0->c=R.2.1)
theorem LD{p:Pa}(sg:Int)(h1:m=(p.n:Int))(h2:y1=p.a)(h3:y2=p.b)(h4:y3=p.c)(h5:P=⟨p.pre.toArray⟩):iJ ⟨sg,m,y1,y2,y3,P,Q⟩=⟨sg,p⟩:=by
 subst h1 h2 h3 h4 h5;unfold iJ;simp
theorem RJ{p:Pa}(sg:Int)(hs:0<=sg/\sg<=7)(hp:iZ p)(hl:p.pre.length<=200)(h1:m=(p.n:Int))(h2:y1=p.a)(h3:y2=p.b)(h4:y3=p.c)(h5:P=⟨p.pre.toArray⟩):vI ⟨sg,m,y1,y2,y3,P,Q⟩:=by
 have e:=LD (Q:=Q) sg h1 h2 h3 h4 h5;refine⟨hs,?_,?_,?_⟩
 ·have:=hp.n3;simp only[];omega
 ·rw[e];exact hp
 ·simp only[];rw[h5];show p.pre.toArray.size<=_;simpa using hl
def DRel(b g B:Nat)(s:ByteArray)(l:List UInt8)(R:Int × Nat × List Te)(w:World)(vl:Value)(wr:World):Prop :=
 ∃(f j c:Nat) (E:Int) (acc:List Tq),VS b s j E c wr/\GR g b wr/\OT wr B vl acc/\w.grownBy wr (some b)/\acc.length<=1000 ∧
  ((E=0/\j<=s.size/\acc.length<=j/\l.length<f+j/\gG l f j (acc.map iJ)=R/\∀x∈acc,vI x)\/(¬E=0/\R.1=E/\R.2.1=c))
theorem DRel.ok{R:Int × Nat × List Te}{f:Nat}{acc:List Tq}(h1:VS b s j 0 c wr)(h2:GR g b wr)(h3:OT wr B vl acc)(h4:w.grownBy wr (some b))(h5:acc.length<=1000)(h6:j<=s.size)(h7:acc.length<=j)(h8:l.length<f+j)(h9:gG l f j (acc.map iJ)=R)(h10:∀x∈acc,vI x):DRel b g B s l R w vl wr :=
 ⟨f,j,c,0,acc,h1,h2,h3,h4,h5,Or.inl ⟨rfl,h6,h7,h8,h9,h10⟩⟩
theorem DRel.bad{R:Int × Nat × List Te}{acc:List Tq}(h1:VS b s j E c wr)(h2:GR g b wr)(h3:OT wr B vl acc)(h4:w.grownBy wr (some b))(h5:acc.length<=1000)(h6:¬E=0)(h7:R.1=E)(h8:R.2.1=c):DRel b g B s l R w vl wr :=
 ⟨0,j,c,E,acc,h1,h2,h3,h4,h5,Or.inr ⟨h6,h7,h8⟩⟩
theorem ajD(g b:Nat)(s:ByteArray)(i:Nat)(a:Nat)(w:World)(hi:i<=s.size)(hgb:g≠b)(hg:GR g b w)(h:VS b s i 0 a w)(hs:s.size<=200) :
  Calls prog 64 #[.pointer (some ⟨g,0,none⟩)] w (RI b s (gG s.data.toList (s.data.toList.length+1) i []) w):=by
 obtain⟨l,hl⟩:=zN (s.data.toList);have hll:l.length=s.size:=by rw[<-hl];simp
 have dG:Hd (l.length=s.size/\s.size<=200):=⟨hll,hs⟩;have CE:Hd (∀i a w,i<=s.size->GR g b w->VS b s i 0 a w->Calls prog 92 #[.pointer (some ⟨g,0,none⟩)] w fun e w'=>e=.returned (.bool (dL l i))/\∃n,w'=w.drewN n):=fun i a w hi h1 h2=>by rw[<-hl];exact ZJ g b s i a w hi h1 h2 (by omega)
 have CEL:Hd (∀(i:Nat) (E:Int) (a:Nat) w,¬E=0->GR g b w->VS b s i E a w->Calls prog 92 #[.pointer (some ⟨g,0,none⟩)] w fun e w'=>e=.returned (.bool true)/\∃n,w'=w.drewN n):=fun i E a w hE h1 h2=>ZI g b s i E a w hE h1 h2
 have CS:Hd (∀i a w,i<=s.size->GR g b w->VS b s i 0 a w->Calls prog 93 #[.pointer (some ⟨g,0,none⟩)] w fun e w'=>e=.returned (.int .i64 (ai l i).1)/\VS b s (ai l i).2 0 a w'/\w.grownBy w' (some b)):=fun i a w hi h1 h2=>by rw[<-hl];exact aiw g b s i a w hi hgb h1 h2 (by omega)
 have CP:Hd (∀i a w,i<=s.size->GR g b w->VS b s i 0 a w->Calls prog 94 #[.pointer (some ⟨g,0,none⟩)] w (Q9 b s (ah l i) w)):=fun i a w hi h1 h2=>by rw[<-hl];exact ZP g b s i a w hi hgb h1 h2 (by omega)
 have CB:Hd (∀i a w,i<=s.size->GR g b w->VS b s i 0 a w->Calls prog 63 #[.pointer (some ⟨g,0,none⟩)] w fun e w'=>e=.returned (.bool (decide (i<ag l i)))/\VS b s (ag l i) 0 a w'/\w.grownBy w' (some b)):=fun i a w hi h1 h2=>by rw[<-hl];exact Q8 g b s i a w hi hgb h1 h2 (by omega)
 have CI:Hd (∀i a w,i<=s.size->GR g b w->VS b s i 0 a w->Calls prog 65 #[.pointer (some ⟨g,0,none⟩),.string ⟨#[45]⟩] w fun e w'=>e=.returned (.bool (decide (l[i]?=some 45)))/\∃n,w'=w.drewN n):=fun i a w hi h1 h2=>by rw[<-hl];exact Le g b s i 45 a w hi h1 h2 (by omega)
 have CF:=ae (zO b s);have CEQ:Hd (∀(i:Nat) (E:Int) (a:Nat) w,(E=0->i<=s.size)->GR g b w->VS b s i E a w->Calls prog 92 #[.pointer (some ⟨g,0,none⟩)] w fun e w'=>e=.returned (.bool (!decide (E=0) || dL l i))/\∃n,w'=w.drewN n):=fun i E a w hi h1 h2=>by rw[<-hl];exact aix g b s i E a w hi h1 h2 (by omega)
 have CBQ:Hd (∀(i:Nat) (E:Int) (a:Nat) w,(E=0->i<=s.size)->GR g b w->VS b s i E a w->Calls prog 63 #[.pointer (some ⟨g,0,none⟩)] w fun e w'=>e=.returned (.bool (decide (i<kq l E i)))/\VS b s (kq l E i) E a w'/\w.grownBy w' (some b)):=fun i E a w hi h1 h2=>by rw[<-hl];exact aiy g b s i E a w hi hgb h1 h2 (by omega)
 have CPQ:Hd (∀(i:Nat) (E:Int) (a:Nat) w,i<=s.size->GR g b w->VS b s i E a w->Calls prog 94 #[.pointer (some ⟨g,0,none⟩)] w fun e w'=>∃(m y1 y2 y3:Int) (P Q:ByteArray) (j c:Nat),e=.returned (.agg #[.int .i64 m,.int .i64 y1,.int .i64 y2,.int .i64 y3,.string P,.string Q])/\VS b s j (yT l E i) c w'/\w.grownBy w' (some b)/\(E=0->((ah l i).1=0->j=(ah l i).2.1/\m=((ah l i).2.2.n:Int)/\y1=(ah l i).2.2.a/\y2=(ah l i).2.2.b/\y3=(ah l i).2.2.c/\P=⟨(ah l i).2.2.pre.toArray⟩)/\(¬(ah l i).1=0->c=(ah l i).2.1))/\(¬E=0->c=a)):=fun i E a w hi h1 h2=>by rw[<-hl];exact aiA g b s i E a w hi hgb h1 h2 (by omega)
 have rE:Hd (∀i,i<=s.size->i<=ag l i/\ag l i<=s.size):=fun i hi=>⟨sW l i,by have:=rq l i (by rw[hll];exact hi);rw[hll]at this;exact this⟩
 have gQ:Hd (∀i,i<=s.size->i<=(ai l i).2/\(ai l i).2<=s.size):=fun i hi=>by have:=Gp l i (by rw[hll];exact hi);rw[hll]at this;exact this
 have Lt:Hd (∀i,i<=s.size->(ah l i).1=0->i<(ah l i).2.1/\(ah l i).2.1<=s.size/\iZ (ah l i).2.2):=fun i hi h0=>by
  have pp:=Gn l i (by rw[hll];exact hi) h0;exact⟨pp.1,by rw[<-hll];exact pp.2,J9 l i (by rw[hll];exact hi) h0⟩
 have gX:Hd (∀i,(ah l i).2.2.pre.length<=200):=fun i=>by have:=Qj l i;omega
 have HG:=ae hg;have HV:=ae h;have sG:=ae hi;obtain⟨B,hB⟩:=zN (w.heap.size);have HB:Hd (w.heap.size=B/\b<B/\g<B/\g≠b):=⟨hB,by rw[<-hB];exact(bJ h),by rw[<-hB];exact GR.lt hg,hgb⟩;rw[hl];obtain⟨R,hR⟩:=zN (gG l (l.length+1) i []);have HR0:=ae hR;rw[hR];clear hl hll hR h hs hi hB hg hgb;go_enter func64,ntmps64;go_wp2;go_loopw [3] (fun vl wr=>DRel b g B s l R w vl wr) (fun _ wr=>meas b s.size wr)
 case atStart=>exact DRel.ok (f:=l.length+1) (acc:=[]) HV.o HG.o (show OT w B (.slice none 0 0) [] from World.ownsRow_nil _ _ _ _) (ax _ _) (Nat.zero_le _) sG.o (Nat.zero_le _) (by omega) HR0.o (fun x hx=>by cases hx)
 case round=>
  obtain⟨f,j,c,E,acc,hv,hgr,hot,hgw,hal,hcase⟩:=hrel;clear HV HG HR0;obtain⟨o,c0,rfl⟩:=hot.slice;obtain⟨n0,hn0⟩:=zN (acc.length);have HV:=ae hv;have HG:=ae hgr;rw[hn0]at hot;have HO:=ae hot;have xw:Hd (acc.length=n0/\n0<=1000):=⟨hn0,by omega⟩;have HW:=ae hgw;rw[hn0];clear hv hgr hot hgw hal hn0
  rcases hcase with⟨rfl,hj,haj,hf,hds,hok⟩|⟨hE,hR1,hR2⟩
  ·have HJ:Hd (j<=s.size/\n0<=j/\l.length<f+j):=⟨hj,by have:=xw.o.1;omega,hf⟩;have dF:=ae hds;have jD:=ae hok;clear hj haj hf hds hok;obtain⟨f,rfl⟩:∃f',f=f'+1:=by
    cases f with
    |zero=>have:=dG.o.1;have:=HJ.o;omega
    |succ f=>exact⟨f,rfl⟩
   have HM:=ae (HV.o.meas0 s.size)
   cases hen:dL l j with
   |true=>
    have ny:Hd (∀w,GR g b w->VS b s j 0 c w->Calls prog 92 #[.pointer (some ⟨g,0,none⟩)] w fun e w'=>e=.returned (.bool true)/\∃n,w'=w.drewN n):=fun w h1 h2=>by have:=CE.o j c w HJ.o.1 h1 h2;rw[hen]at this;exact this
    have HZ:Hd (R=(0,j,acc.map iJ)):=by show R=_;rw[<-dF.o];exact ajy hen
    clear hen;go_wp2_with (go_at_call 92;refine(ny.o _ HG.o HV.o).mono ?_);rintro e u1 ⟨rfl,n,hn⟩;replace HV:=ae (HV.o.drew n);replace HG:=ae (HG.o.drew n);replace HO:=ae (HO.o.drew n);replace HW:=ae (az HW.o n);rw[<-hn]at HV HG HO HW;clear hn;go_wp2;go_ret;rw[HZ.o];exact⟨o,n0,c0,acc,j,c,rfl,HV.o,by rw[HB.o.1];exact HO.o,HW.o,fun _=>⟨rfl,rfl,jD.o⟩,fun h=>absurd rfl h⟩
   |false=>
    have ny:Hd (∀w,GR g b w->VS b s j 0 c w->Calls prog 92 #[.pointer (some ⟨g,0,none⟩)] w fun e w'=>e=.returned (.bool false)/\∃n,w'=w.drewN n):=fun w h1 h2=>by have:=CE.o j c w HJ.o.1 h1 h2;rw[hen]at this;exact this
    have hen':¬dL l j=true:=by rw[hen];decide
    have BAD:Hd (¬(ah l (ai l j).2).1=0->R=((ah l (ai l j).2).1,(ah l (ai l j).2).2.1,acc.map iJ)):=fun h=>by rw[<-dF.o];exact ajz hen' h
    have MORE:Hd ((ah l (ai l j).2).1=0->¬(((ai l j).1<0/\acc.map iJ=[])/\(ah l (ai l j).2).2.1<ag l (ah l (ai l j).2).2.1/\l[ag l (ah l (ai l j).2).2.1]?=some 45)->¬(¬(ah l (ai l j).2).2.1<ag l (ah l (ai l j).2).2.1/\¬dL l (ag l (ah l (ai l j).2).2.1)=true)->R=gG l f (ag l (ah l (ai l j).2).2.1) (acc.map iJ++[⟨jC (ai l j).1,(ah l (ai l j).2).2.2⟩])):=fun h1 h2 h3=>by rw[<-dF.o];exact ajA hen' h1 h2 h3
    have GAP:Hd ((ah l (ai l j).2).1=0->¬(ah l (ai l j).2).2.1<ag l (ah l (ai l j).2).2.1->¬dL l (ag l (ah l (ai l j).2).2.1)=true->R=(2,ag l (ah l (ai l j).2).2.1,acc.map iJ)):=fun h1 h2 h3=>by rw[<-dF.o];exact ajB hen' h1 h2 h3
    have BTW:Hd ((ah l (ai l j).2).1=0->((ai l j).1<0/\acc.map iJ=[])/\(ah l (ai l j).2).2.1<ag l (ah l (ai l j).2).2.1/\l[ag l (ah l (ai l j).2).2.1]?=some 45->R=(if ag l (ag l (ah l (ai l j).2).2.1+1)=ag l (ah l (ai l j).2).2.1+1 then(2,ag l (ah l (ai l j).2).2.1+1,acc.map iJ) else if(ah l (ag l (ag l (ah l (ai l j).2).2.1+1))).1=0 then(if dL l (ag l (ah l (ag l (ag l (ah l (ai l j).2).2.1+1))).2.1)=true then(0,ag l (ah l (ag l (ag l (ah l (ai l j).2).2.1+1))).2.1,[⟨7,(ah l (ai l j).2).2.2⟩,⟨2,(ah l (ag l (ag l (ah l (ai l j).2).2.1+1))).2.2⟩]) else(2,ag l (ah l (ag l (ag l (ah l (ai l j).2).2.1+1))).2.1,acc.map iJ)) else((ah l (ag l (ag l (ah l (ai l j).2).2.1+1))).1,(ah l (ag l (ag l (ah l (ai l j).2).2.1+1))).2.1,acc.map iJ))):=fun h1 h2=>by rw[<-dF.o];exact ajC hen' h1 h2
    have jw:=ae (fun w (h1:GR g b w) (h2:VS b s j 0 c w)=>CS.o j c w HJ.o.1 h1 h2);have dP:=ae (YS l j);have HS2:=ae (gQ.o j HJ.o.1);obtain⟨sg,j1,hsg⟩:∃sg j1,ai l j=(sg,j1):=⟨_,_,rfl⟩;rw[hsg]at BAD MORE GAP BTW jw dP HS2;simp only[]at BAD MORE GAP BTW jw dP HS2;have wH:=ae (fun w (h1:GR g b w) (h2:VS b s j1 0 c w)=>CP.o j1 c w HS2.o.2 h1 h2);have jy:=ae (Lt.o j1 HS2.o.2);have HP2:=ae (gX.o j1);obtain⟨E1,J,p,hR⟩:∃E1 J p,ah l j1=(E1,J,p):=⟨_,_,_,rfl⟩;rw[hR]at BAD MORE GAP BTW wH jy HP2;simp only[]at BAD MORE GAP BTW jy HP2;clear hen hen' hsg hR dF;go_wp2_with (go_at_call 92;refine(ny.o _ HG.o HV.o).mono ?_);rintro e u1 ⟨rfl,n,hn⟩;replace HV:=ae (HV.o.drew n);replace HG:=ae (HG.o.drew n);replace HO:=ae (HO.o.drew n);replace HW:=ae (az HW.o n);rw[<-hn]at HV HG HO HW;clear hn;go_wp2_with (go_at_call 93;refine(jw.o _ HG.o HV.o).mono ?_)
    rintro e u2 ⟨rfl,hv,hg⟩;replace HV:=ae hv;replace HG:=ae (HG.o.growb hg HB.o.2.2.2);replace HO:=ae (HO.o.growb hg HB.o.2.1);replace HW:=ae (ak HW.o hg);clear hv hg;go_wp2_with (first|(go_at_call 94;refine(wH.o _ HG.o HV.o).mono ?_));rintro e u3 ⟨m,y1,y2,y3,P,Q,j2,c2,rfl,hv,hg,hok,herr⟩;replace HV:Hd (VS b s (j2) E1 (c2) u3):=hv;replace HG:=ae (HG.o.growb hg HB.o.2.2.2);replace HO:=ae (HO.o.growb hg HB.o.2.1);replace HW:=ae (ak HW.o hg);clear hv hg;have rV:Hd ((E1=0->j2=J/\m=(p.n:Int)/\y1=p.a/\y2=p.b/\y3=p.c/\P=⟨p.pre.toArray⟩)/\(¬E1=0->c2=J)):=⟨hok,herr⟩;clear hok herr;obtain⟨D,hD⟩:=zN (u3.heap.size);obtain⟨W,hW⟩:=zN (u3.alloc (.cells #[.int .i64 m,.int .i64 y1,.int .i64 y2,.int .i64 y3,.string P,.string Q] 164));have hgW:u3.grownBy W none:=by rw[<-hW];exact aH (ax u3 none) _
    have HD:Hd (VP D m y1 y2 y3 P Q W):=by show W.heap[D]?=_;rw[<-hW,<-hD];exact heap_alloc_new u3 _
    have bg:Hd (B<=D/\D≠b/\D≠g):=by have h1:=HW.o.size;have h2:=HB.o;rw[h2.1,hD]at h1;refine⟨h1,?_,?_⟩<;>omega
    replace HV:=ae (HV.o.grow hgW (by simp));replace HG:=ae (HG.o.grow hgW);replace HO:=ae (HO.o.grow hgW);replace HW:=ae (ak HW.o (iy hgW _));clear hgW;have HJ2:Hd (E1=0->j2<=s.size):=fun h=>by have:=rV.o.1 h;have:=jy.o h;omega
    have fZ:=ae (fun w (h1:GR g b w) (h2:VS b s j2 E1 c2 w)=>CBQ.o j2 E1 c2 w HJ2.o h1 h2);have Au:Hd (E1=0->kq l E1 j2=ag l j2/\j2<=kq l E1 j2/\kq l E1 j2<=s.size):=fun h=>by
     have e:kq l E1 j2=ag l j2:=by unfold kq;rw[if_pos h]
     have:=rE.o j2 (HJ2.o h);rw[e];exact⟨rfl,this⟩
    have vX:Hd (¬E1=0->kq l E1 j2=j2):=fun h=>by unfold kq;rw[if_neg h]
    obtain⟨K,hK⟩:=zN (kq l E1 j2);rw[hK]at fZ Au vX;obtain⟨ap,hap⟩:=zN (decide (j2<K));rw[hap]at fZ;have vH:=ae hap;clear hap hK;go_wp2_with (go_at_call 63;refine(fZ.o _ HG.o HV.o).mono ?_);rintro e u4 ⟨rfl,hv,hg⟩;replace HV:=ae hv;replace HG:=ae (HG.o.growb hg HB.o.2.2.2);replace HO:=ae (HO.o.growb hg HB.o.2.1);replace HD:=ae (HD.o.grow hg bg.o.2.1);replace HW:=ae (ak HW.o hg);clear hv hg hW hD;have HA0:Hd (ap=true->E1=0):=fun h=>by
     by_cases h0:E1=0
     ·exact h0
     ·have:=vX.o h0;have:=of_decide_eq_true (vH.o.trans h);omega
    obtain⟨da,sN⟩:=zN (decide (l[K]?=some 45));have gK:Hd (ap=true->∀w,GR g b w->VS b s K E1 c2 w->Calls prog 65 #[.pointer (some ⟨g,0,none⟩),.string ⟨#[45]⟩] w fun e w'=>e=.returned (.bool da)/\∃n,w'=w.drewN n):=fun h w h1 h2=>by
     have h0:=HA0.o h;rw[h0]at h2;have:=CI.o K c2 w (Au.o h0).2.2 h1 h2;rw[sN]at this;exact this
    have aF:=ae sN;clear sN;go_upto_region 6 with fail
    go_cut [31] from 18 to 108 (fun v31 wx=>v31=.bool (decide (sg<0) && decide (n0=0) && ap && da)/\∃n,wx=u4.drewN n)
    case first=>
     by_cases hs:sg<0
     ·have hsb:decide (sg<0)=true:=decide_eq_true hs
      by_cases hn:n0=0
      ·subst hn
       cases ap with
       |true=>
        have wO:=ae (gK.o rfl _ HG.o HV.o);go_wp2_with (go_at_call 65;refine wO.o.mono ?_;rintro e w7 ⟨rfl,n,hn⟩);go_meet;exact⟨by simp[hs],n,by first|exact hn|rfl⟩
       |false=>
        go_wp2;go_meet;exact⟨by simp,0,rfl⟩
      ·have hnb:decide (n0=0)=false:=decide_eq_false hn;go_wp2;go_meet;exact⟨by simp[hnb],0,rfl⟩
     ·have hsb:decide (sg<0)=false:=decide_eq_false hs;go_wp2;go_meet;exact⟨by simp[hsb],0,rfl⟩
    case rest=>
     obtain⟨rfl,n,hn⟩:=hcut;obtain⟨u5,D7⟩:∃u5,u5=wc:=⟨_,rfl⟩;subst D7;replace HV:=ae (HV.o.drew n);replace HG:=ae (HG.o.drew n);replace HO:=ae (HO.o.drew n);replace HD:=ae (HD.o.drew n);replace HW:=ae (az HW.o n);rw[<-hn]at HV HG HO HD HW;obtain⟨bt,hbt⟩:=zN ((decide (sg<0) && decide (n0=0) && ap && da));rw[hbt];have xX:=ae hbt;clear hbt hn
     cases bt with
     |true=>
      have HB4:Hd (sg<0/\n0=0/\ap=true/\da=true):=by
       have h:=xX.o;simp only[Bool.and_eq_true,decide_eq_true_eq]at h;exact⟨h.1.1.1,h.1.1.2,h.1.2,h.2⟩
      have h0:=HA0.o HB4.o.2.2.1;obtain⟨q1,q2,q3,q4,q5,q6⟩:=rV.o.1 h0;obtain⟨z1,z2,z3⟩:=jy.o h0;obtain⟨x1,x2,x3⟩:=Au.o h0;have HQ:Hd (m=(p.n:Int)/\y1=p.a/\y2=p.b/\y3=p.c/\P=⟨p.pre.toArray⟩/\iZ p):=⟨q2,q3,q4,q5,q6,z3⟩;have D5:Hd (l[K]?=some 45):=by show l[K]?=some 45;exact of_decide_eq_true (aF.o.trans HB4.o.2.2.2)
      have hb:=BTW.o h0;rw[<-q1,<-x1]at hb;replace hb:=hb ⟨⟨HB4.o.1,by rw[List.map_eq_nil_iff];exact List.length_eq_zero_iff.1 (xw.o.1.trans HB4.o.2.1)⟩,of_decide_eq_true (vH.o.trans HB4.o.2.2.1),D5.o⟩;rw[h0]at HV;clear q1 q2 q3 q4 q5 q6 z1 z2 z3 x1 x2 x3 h0;have jf:Hd (K+1<=s.size):=by have:=lF D5.o;rw[dG.o.1]at this;exact this
      have fD:=ae (rE.o (K+1) jf.o);have RN:=ae (fun w (h1:GR g b w) (h2:VS b s (K+1) 0 c2 w)=>CB.o (K+1) c2 w jf.o h1 h2);obtain⟨K2,hK2⟩:=zN (ag l (K+1));rw[hK2]at hb fD RN;have LG:=ae (Lt.o K2 fD.o.2);have sQ:=ae (gX.o K2);have CP2:=ae (fun(E:Int) (a:Nat) w (h1:GR g b w) (h2:VS b s K2 E a w)=>CPQ.o K2 E a w fD.o.2 h1 h2);have zD:Hd (R=_):=hb;clear hb hK2;obtain⟨mo,hmo⟩:=zN (decide (K+1<K2));rw[hmo]at RN;have Af:=ae hmo;clear hmo;have hwr:IntKind.i64.wrap ((K:Int)+1)=(K:Int)+1:=by rw[IntKind.wrap_i64];have:=jf.o;have:=dG.o.2;omega
      have b1:=HV.o.c1;have bf:=HV.o.f1;have g0:u5.cell? ⟨g,0,none⟩=some (.pointer (some ⟨b,0,none⟩)):=HG.o;go_wp2_with (fail);obtain⟨uq,hq⟩:=zN (u5.setCell ⟨b,1,none⟩ (.int .i64 ((K:Int)+1)));replace HV:Hd (VS b s (K+1) 0 c2 uq):=by show VS _ _ _ _ _ uq;rw[<-hq,show((K:Int)+1)=((K+1:Nat):Int) by omega];exact HV.o.set1 _
      replace HG:Hd (GR g b uq):=by show GR g b uq;rw[<-hq];exact HG.o.other HB.o.2.2.2 _ _
      replace HD:Hd (VP D m y1 y2 y3 P Q uq):=by show VP D _ _ _ _ _ _ uq;rw[<-hq];exact HD.o.other bg.o.2.1 _ _
      replace HW:Hd (w.grownBy uq (some b)):=by show w.grownBy uq (some b);rw[<-hq];exact aT HW.o _ _
      try rw[hq]
      clear hq b1 bf g0 hwr HO;refine(RN.o _ HG.o HV.o).mono ?_;rintro e ur ⟨rfl,hv,hg⟩;replace HV:=ae hv;replace HG:=ae (HG.o.growb hg HB.o.2.2.2);replace HD:=ae (HD.o.grow hg bg.o.2.1);replace HW:=ae (ak HW.o hg);clear hv hg
      go_upto_if 45 with fail
      go_cut [] from 44 to 108 (fun wx=>∃(E2:Int) (c3:Nat),VS b s K2 E2 c3 wx/\GR g b wx/\VP D m y1 y2 y3 P Q wx/\w.grownBy wx (some b)/\(K2=K+1->E2=2/\c3=K+1)/\(¬K2=K+1->E2=0))
      case first=>
       cases mo with
       |true=>
        go_wp2;go_meet;exact⟨0,c2,HV.o,HG.o,HD.o,HW.o,fun h=>(by have:=of_decide_eq_true Af.o;omega),fun _=>rfl⟩
       |false=>
        have Hg:=ae (CF.o K2 c2 2 K2);have e0:ur.cell? ⟨g,0,none⟩=some (.pointer (some ⟨b,0,none⟩)):=HG.o;have e1:=HV.o.c1;go_wp2_with (fail)
        go_region_held3 (fun w'=>w'.cell? ⟨g,0,none⟩=some (.pointer (some ⟨b,0,none⟩))/\w'.cell? ⟨b,1,none⟩=some (.int .i64 ((K2:Nat):Int))) (first|(simp only[pX];exact⟨e0,e1⟩)|exact hS1) (first|(go_at_call 91;refine(Hg.o _ (by first|exact HV.o|exact VS.drew HV.o 1)).mono ?_;rintro e us ⟨rfl,tK,tN⟩;have hS1:us.cell? ⟨g,0,none⟩=some (.pointer (some ⟨b,0,none⟩))/\us.cell? ⟨b,1,none⟩=some (.int .i64 ((K2:Nat):Int)):=⟨GR.growb (b:=b) HG.o (jJ tN) HB.o.2.2.2,tK.c1⟩))
        have mi:=ae tK;have hg:=jJ tN;have HX:Hd (GR g b us/\VP D m y1 y2 y3 P Q us/\w.grownBy us (some b)):=⟨HG.o.growb hg HB.o.2.2.2,HD.o.grow hg bg.o.2.1,ak HW.o hg⟩;clear tK tN hg e0 e1 hS1;go_wp2;go_meet;have hk:=of_decide_eq_false Af.o;have hk2:=fD.o;exact⟨2,K2,mi.o,HX.o.1,HX.o.2.1,HX.o.2.2,fun h=>⟨rfl,h⟩,fun h=>by omega⟩
      case rest=>
       obtain⟨E2,c3,hv,hg,hd,hw,hk1,hk2⟩:=hcut;obtain⟨uw,huw⟩:∃uw,uw=wc:=⟨_,rfl⟩;subst huw;replace HV:=ae hv;replace HG:=ae hg;replace HD:=ae hd;replace HW:=ae hw;have HE2:Hd ((K2=K+1->E2=2/\c3=K+1)/\(¬K2=K+1->E2=0)):=⟨hk1,hk2⟩;clear hv hg hd hw hk1 hk2;have CP3:=ae (CP2.o E2 c3 _ HG.o HV.o);have xI:Hd (yT l E2 K2=0->E2=0/\(ah l K2).1=0):=fun h=>by
        unfold yT at h;split at h
        ·rename_i h0;exact⟨h0,h⟩
        ·rename_i h0;exact absurd h h0
       have zo:Hd (yT l E2 K2=if E2=0 then(ah l K2).1 else E2):=rfl;obtain⟨E3,hE3⟩:=zN (yT l E2 K2);go_wp2_with (first|(go_at_call 94;refine CP3.o.mono ?_));rintro e uy ⟨m2,z1,z2,z3,P2,Q2,j3,c4,rfl,hv,hg,hok,herr⟩;rw[hE3]at hv xI zo;replace HV:=ae hv;replace HG:=ae (HG.o.growb hg HB.o.2.2.2);replace HD:=ae (HD.o.grow hg bg.o.2.1);replace HW:=ae (ak HW.o hg);have Hl:=ae hok;have ajE:=ae herr;clear hv hg hok herr hE3;obtain⟨D2,hD2⟩:=zN (uy.heap.size);obtain⟨W2,hW2⟩:=zN (uy.alloc (.cells #[.int .i64 m2,.int .i64 z1,.int .i64 z2,.int .i64 z3,.string P2,.string Q2] 164));have hgW:uy.grownBy W2 none:=by rw[<-hW2];exact aH (ax uy none) _
       have HD2:Hd (VP D2 m2 z1 z2 z3 P2 Q2 W2):=by show W2.heap[D2]?=_;rw[<-hW2,<-hD2];exact heap_alloc_new uy _
       have aae:Hd (B<=D2/\D2≠b):=by have h1:=HW.o.size;have h2:=HB.o;rw[h2.1,hD2]at h1;refine⟨h1,?_⟩;omega
       replace HV:=ae (HV.o.grow hgW (by simp));replace HG:=ae (HG.o.grow hgW);replace HD:=ae (HD.o.grow0 hgW);replace HW:=ae (ak HW.o (iy hgW _));clear hgW;have DL:Hd (E3=0->j3<=s.size):=fun h=>by
        have h1:=xI.o h;have h2:=(Hl.o h1.1).1 h1.2;have h3:=LG.o h1.2;rw[h2.1];exact h3.2.1
       have iY:Hd (E3=0->kq l E3 j3=ag l j3/\kq l E3 j3<=s.size):=fun h=>by
        have e:kq l E3 j3=ag l j3:=by unfold kq;rw[if_pos h]
        rw[e];exact⟨rfl,(rE.o j3 (DL.o h)).2⟩
       have CB3:=ae (fun w (h1:GR g b w) (h2:VS b s j3 E3 c4 w)=>CBQ.o j3 E3 c4 w DL.o h1 h2);obtain⟨K3,hK3⟩:=zN (kq l E3 j3);rw[hK3]at CB3 iY;clear hK3;go_wp2_with (go_at_call 63;refine(CB3.o _ HG.o HV.o).mono ?_);rintro e uz ⟨rfl,hv,hg⟩;replace HV:=ae hv;replace HG:=ae (HG.o.growb hg HB.o.2.2.2);replace HD:=ae (HD.o.grow hg bg.o.2.1);replace HD2:=ae (HD2.o.grow hg aae.o.2);replace HW:=ae (ak HW.o hg);clear hv hg hW2 hD2;have RP:Hd (E3=0->K3<=s.size):=fun h=>(iY.o h).2
       have Hm:=ae (CEQ.o K3 E3 c4 _ RP.o HG.o HV.o);obtain⟨ez,Aw⟩:=zN ((!decide (E3=0) || dL l K3));rw[Aw]at Hm;have Ho:=ae Aw;clear Aw;go_wp2_with (go_at_call 92;refine Hm.o.mono ?_);rintro e ua ⟨rfl,n,hn⟩;replace HV:=ae (HV.o.drew n);replace HG:=ae (HG.o.drew n);replace HD:=ae (HD.o.drew n);replace HD2:=ae (HD2.o.drew n);replace HW:=ae (az HW.o n);rw[<-hn]at HV HG HD HD2 HW;clear hn
       go_upto_if 64 with fail
       go_cut [] from 62 to 108 (fun wx=>∃(E4:Int) (c5:Nat),VS b s K3 E4 c5 wx/\VP D m y1 y2 y3 P Q wx/\VP D2 m2 z1 z2 z3 P2 Q2 wx/\w.grownBy wx (some b)/\(ez=true->E4=E3/\c5=c4)/\(ez=false->E4=2/\c5=K3))
       case first=>
        cases ez with
        |true=>
         go_wp2;go_meet;exact⟨E3,c4,HV.o,HD.o,HD2.o,HW.o,fun _=>⟨rfl,rfl⟩,fun h=>(by cases h)⟩
        |false=>
         have h0:E3=0:=by have:=Ho.o;simp at this;exact this.1
         rw[h0]at HV;clear h0;have Hg:=ae (CF.o K3 c4 2 K3);have e0:ua.cell? ⟨g,0,none⟩=some (.pointer (some ⟨b,0,none⟩)):=HG.o;have e1:=HV.o.c1;go_wp2_with (fail)
         go_region_held3 (fun w'=>w'.cell? ⟨g,0,none⟩=some (.pointer (some ⟨b,0,none⟩))/\w'.cell? ⟨b,1,none⟩=some (.int .i64 ((K3:Nat):Int))) (first|(simp only[pX];exact⟨e0,e1⟩)|exact hS1) (first|(go_at_call 91;refine(Hg.o _ (by first|exact HV.o|exact VS.drew HV.o 1)).mono ?_;rintro e us ⟨rfl,tK,tN⟩;have hS1:us.cell? ⟨g,0,none⟩=some (.pointer (some ⟨b,0,none⟩))/\us.cell? ⟨b,1,none⟩=some (.int .i64 ((K3:Nat):Int)):=⟨GR.growb (b:=b) HG.o (jJ tN) HB.o.2.2.2,tK.c1⟩))
         have mi:=ae tK;have hg:=jJ tN;have HX:Hd (VP D m y1 y2 y3 P Q us/\VP D2 m2 z1 z2 z3 P2 Q2 us/\w.grownBy us (some b)):=⟨HD.o.grow hg bg.o.2.1,HD2.o.grow hg aae.o.2,ak HW.o hg⟩;clear tK tN hg e0 e1 hS1;go_wp2;go_meet;exact⟨2,K3,mi.o,HX.o.1,HX.o.2.1,HX.o.2.2,fun h=>(by cases h),fun _=>⟨rfl,rfl⟩⟩
       case rest=>
        obtain⟨E4,c5,hv,hd,hd2,hw,he1,he2⟩:=hcut;have mi:=ae hv;have HW2:=ae hw;have HEE:Hd ((ez=true->E4=E3/\c5=c4)/\(ez=false->E4=2/\c5=K3)):=⟨he1,he2⟩;obtain⟨k0,k1,k2,k3,k4,k5⟩:=hd.cells;obtain⟨r0,r1,r2,r3,r4,r5⟩:=hd2.cells;clear hv hd hd2 hw he1 he2;go_wp2;go_ret;have hga:wc.grownBy (wc.alloc (.cells #[.int .i64 7,.int .i64 m,.int .i64 y1,.int .i64 y2,.int .i64 y3,.string P,.string Q,.int .i64 2,.int .i64 m2,.int .i64 z1,.int .i64 z2,.int .i64 z3,.string P2,.string Q2] 167)) none:=aH (ax _ none) _;have hb:=zD.o;have hx:=HE2.o;have hy:=zo.o;have ho:=Hl.o;have hr:=ajE.o;have hz:=Ho.o;have hw:=HEE.o;have hk:=iY.o;have fin:R.1=E4/\(E4=0->[(⟨7,m,y1,y2,y3,P,Q⟩:Tq),⟨2,m2,z1,z2,z3,P2,Q2⟩].map iJ=R.2.2/\K3=R.2.1/\∀x∈[(⟨7,m,y1,y2,y3,P,Q⟩:Tq),⟨2,m2,z1,z2,z3,P2,Q2⟩],vI x)/\(¬E4=0->c5=R.2.1):=by
         by_cases hm:K2=K+1
         ·obtain⟨rfl,rfl⟩:=hx.1 hm;rw[if_neg (by decide)]at hy;subst hy;have:ez=true:=by rw[<-hz];simp
          obtain⟨rfl,rfl⟩:=hw.1 this;rw[if_pos hm]at hb;rw[hb];exact⟨rfl,fun h=>absurd h (by decide),fun _=>hr (by decide)⟩
         ·obtain rfl:=hx.2 hm;rw[if_pos rfl]at hy;rw[if_neg hm]at hb
          by_cases h5:(ah l K2).1=0
          ·rw[h5]at hy;subst hy;obtain⟨a1,a2,a3,a4,a5,a6⟩:=(ho rfl).1 h5;have Az:=LG.o h5;rw[if_pos h5,<-a1,<-(hk rfl).1]at hb
           cases ez with
           |true=>
            obtain⟨rfl,rfl⟩:=hw.1 rfl;have he:dL l K3=true:=by simpa using hz
            rw[if_pos he]at hb;rw[hb];refine⟨rfl,fun _=>⟨?_,rfl,?_⟩,fun h=>absurd rfl h⟩
            ·simp only[List.map_cons,List.map_nil];rw[LD (p:=p) _ HQ.o.1 HQ.o.2.1 HQ.o.2.2.1 HQ.o.2.2.2.1 HQ.o.2.2.2.2.1,LD (p:=(ah l K2).2.2) _ a2 a3 a4 a5 a6]
            ·intro x hx;simp only[List.mem_cons,List.not_mem_nil,or_false]at hx
             rcases hx with rfl|rfl
             ·exact RJ (p:=p) _ (by decide) HQ.o.2.2.2.2.2 HP2.o HQ.o.1 HQ.o.2.1 HQ.o.2.2.1 HQ.o.2.2.2.1 HQ.o.2.2.2.2.1
             ·exact RJ (p:=(ah l K2).2.2) _ (by decide) Az.2.2 sQ.o a2 a3 a4 a5 a6
           |false=>
            obtain⟨rfl,rfl⟩:=hw.2 rfl;have he:¬dL l c5=true:=by simp at hz;rw[hz];decide
            rw[if_neg he]at hb;rw[hb];exact⟨rfl,fun h=>absurd h (by decide),fun _=>rfl⟩
          ·rw[if_neg h5]at hb;have:ez=true:=by rw[<-hz,hy];simp[h5]
           obtain⟨rfl,rfl⟩:=hw.1 this;rw[hb,hy];exact⟨rfl,fun h=>absurd h h5,fun _=>(ho rfl).2 h5⟩
        exact⟨_,2,2,[⟨7,m,y1,y2,y3,P,Q⟩,⟨2,m2,z1,z2,z3,P2,Q2⟩],K3,c5,rfl,by rw[fin.1];exact mi.o.grow hga (by simp),OT.two HW2.o.size (heap_alloc_new _ _),ak HW2.o (iy hga _),fun h=>fin.2.1 (fin.1 ▸ h),fun h=>fin.2.2 (fin.1 ▸ h)⟩
     |false=>
      go_upto_if 83 with fail
      go_cut [4] from 82 to 108 (fun v4 wx=>v4=.int .i64 (jC sg)/\wx=u5)
      case first=>
       by_cases hs:sg<0
       ·have hsb:decide (sg<0)=true:=decide_eq_true hs;have lg:Hd (jC sg=0):=by show _=_;unfold jC;rw[if_pos hs]
        go_wp2;go_meet;exact⟨by rw[lg.o],rfl⟩
       ·have hsb:decide (sg<0)=false:=decide_eq_false hs;have lg:Hd (jC sg=sg):=by show _=_;unfold jC;rw[if_neg hs]
        go_wp2;go_meet;exact⟨by rw[lg.o],rfl⟩
      case rest=>
       obtain⟨rfl,rfl⟩:=hcut;obtain⟨so,hso⟩:=zN (jC sg);have BJ:=ae hso;rw[hso];clear hso;obtain⟨k0,k1,k2,k3,k4,k5⟩:=HD.o.cells;have hinfo:=ajx;obtain⟨i1,hj0,hjj⟩:=Option.map_eq_some_iff.1 hinfo;have hy0:i1.zero=some (.agg #[.int .i64 0,.int .i64 0,.int .i64 0,.int .i64 0,.int .i64 0,.string ⟨#[]⟩,.string ⟨#[]⟩]):=congrArg (·.1) hjj;have hy1:i1.size=7:=congrArg (·.2.1) hjj;have hyb:i1.bytes=72:=congrArg (·.2.2) hjj;clear hjj hinfo;obtain⟨tq,wL⟩:∃tq:Tq,tq=⟨so,m,y1,y2,y3,P,Q⟩:=⟨_,rfl⟩;have Dj:=ae wL;have htc:Hf tq=[.int .i64 so,.int .i64 m,.int .i64 y1,.int .i64 y2,.int .i64 y3,.string P,.string Q]:=by rw[wL];rfl
       have HTC:=ae htc;clear wL htc;go_upto_region 19 with(first|(at_builtin;refine wpList_append_own _ rfl _ _ 131 rfl B 167 i1 _ 7 72 underlying131 hj0 hy0 hy1 hyb rfl (by decide) _ _ _ rfl (by have h:=HO.o;unfold OT at h;rw[xw.o.1]at h;exact h.alloc _) _ 1 1 (Hf tq) rfl (by rw[HTC.o];rfl) (by rw[HTC.o];exact World.news_of_block (heap_alloc_new _ _)) (ajw tq) (by unfold maxLen;have:=xw.o;omega) (by have:=xw.o;omega) (by have h1:=HW.o.size;rw[HB.o.1]at h1;simp;omega) ?_;intro v' ux hown hgrow _))
       have hga:wc.grownBy (wc.alloc (.cells #[.int .i64 so,.int .i64 m,.int .i64 y1,.int .i64 y2,.int .i64 y3,.string P,.string Q] 167)) none:=aH (ax _ none) _;have yX:=HO.o.far;have kR:Hd (OT ux B v' (acc++[tq])):=by show OT ux B v' _;unfold OT;rw[List.length_append,List.flatMap_append,xw.o.1];simpa using hown
       replace HV:=ae ((HV.o.grow hga (by simp)).grow hgrow (fun e=>by have:=yX b e.symm;have:=HB.o;omega));replace HG:=ae ((HG.o.grow hga).growr hgrow (fun e=>by have:=yX g e.symm;have:=HB.o;omega));replace HW:=ae (YY (ak HW.o (iy hga _)) hgrow (fun q hq=>by rw[HB.o.1];exact yX q hq));have jv:Hd ((acc++[tq]).length<=1000):=by show _<=_;rw[List.length_append,xw.o.1];have:=HJ.o;have:=dG.o.2;first|(simp;omega)|simp
       obtain⟨o9,c9,hvn⟩:=kR.o.slice;obtain⟨n9,hn9⟩:=zN ((acc++[tq]).length);rw[hn9]at hvn;rw[hvn]at kR
       try rw[hvn]
       clear hn9 hown hgrow hga yX hj0 hy0 hy1 hyb k0 k1 k2 k3 k4 k5 hvn HO HD;have RP:Hd (E1=0->K<=s.size):=fun h=>(Au.o h).2.2
       have Hm:=ae (fun w (h1:GR g b w) (h2:VS b s K E1 c2 w)=>CEQ.o K E1 c2 w RP.o h1 h2);obtain⟨ez,Aw⟩:=zN ((!decide (E1=0) || dL l K));rw[Aw]at Hm;have Ho:=ae Aw;clear Aw
       go_cut [96] from 90 to 108 (fun v96 wx=>v96=.bool (!ap && !ez)/\∃n,wx=ux.drewN n)
       case first=>
        cases ap with
        |true=>
         go_wp2;go_meet;exact⟨by simp,0,rfl⟩
        |false=>
         have CE3:=ae (Hm.o _ HG.o HV.o);go_wp2_with (go_at_call 92;refine CE3.o.mono ?_;rintro e w7 ⟨rfl,n,hn⟩);go_meet;exact⟨by simp,n,by first|exact hn|rfl⟩
       case rest=>
        obtain⟨rfl,n,hn⟩:=hcut;have HF:Hd (VS b s K E1 c2 wc/\GR g b wc/\OT wc B (.slice o9 n9 c9) (acc++[tq])/\w.grownBy wc (some b)):=by
         rw[hn];exact⟨HV.o.drew _,HG.o,kR.o,az HW.o _⟩
        clear hn;obtain⟨fz,hfz⟩:=zN ((!ap && !ez));rw[hfz];have HFZ:=ae hfz;clear hfz
        cases fz with
        |true=>
         have HE:Hd (E1=0/\¬dL l K=true/\¬j2<K):=by
          have h1:=HFZ.o;have h2:=Ho.o;have h3:=vH.o
          cases ap<;>cases ez<;>simp at h1 h2 h3
          exact⟨h2.1,by rw[h2.2];decide,by omega⟩
         obtain rfl:=HE.o.1;have Oo:=ae (rV.o.1 rfl).1;have HKK:=ae (Au.o rfl).1;have HZ:Hd (R=(2,K,acc.map iJ)):=by
          show R=_;have:=GAP.o rfl;rw[<-Oo.o,<-HKK.o]at this;exact this HE.o.2.2 HE.o.2.1
         have Hg:=ae (CF.o K c2 2 K);have e0:wc.cell? ⟨g,0,none⟩=some (.pointer (some ⟨b,0,none⟩)):=HF.o.2.1;have e1:=(HF.o.1).c1;go_wp2_with (fail)
         go_region_held3 (fun w'=>w'.cell? ⟨g,0,none⟩=some (.pointer (some ⟨b,0,none⟩))/\w'.cell? ⟨b,1,none⟩=some (.int .i64 (K:Int))) (first|(simp only[pX];exact⟨e0,e1⟩)|exact hS1) (first|(go_at_call 91;refine(Hg.o _ (by first|exact HF.o.1|exact VS.drew HF.o.1 1)).mono ?_;rintro e u11 ⟨rfl,tK,tN⟩;have hS1:u11.cell? ⟨g,0,none⟩=some (.pointer (some ⟨b,0,none⟩))/\u11.cell? ⟨b,1,none⟩=some (.int .i64 (K:Int)):=⟨GR.growb (b:=b) HF.o.2.1 (jJ tN) HB.o.2.2.2,tK.c1⟩))
         have yj:=ae tK;have LH:=jJ tN;have jk:Hd (GR g b u11/\OT u11 B (.slice o9 n9 c9) (acc++[tq])/\w.grownBy u11 (some b)):=⟨HF.o.2.1.growb LH HB.o.2.2.2,HF.o.2.2.1.growb LH HB.o.2.1,ak HF.o.2.2.2 LH⟩;clear tK tN LH e0 e1 hS1;go_wp2;go_roundw
         case rel=>exact DRel.bad yj.o jk.o.1 jk.o.2.1 jk.o.2.2 jv.o (by decide) (by rw[HZ.o]) (by rw[HZ.o])
         case measure=>rw[HM.o,yj.o.measE (by decide)];have:=HJ.o;omega
        |false=>
         go_wp2;go_roundw
         case rel=>
          by_cases h0:E1=0
          ·subst h0;obtain⟨q1,q2,q3,q4,q5,q6⟩:=rV.o.1 rfl;obtain⟨z1,z2,z3⟩:=jy.o rfl;obtain⟨x1,x2,x3⟩:=Au.o rfl;have hb:=xX.o;have hf:=HFZ.o;have EJ:=dP.o;have hjj:=HJ.o;have hs2:=HS2.o;refine DRel.ok (f:=f) HF.o.1 HF.o.2.1 HF.o.2.2.1 HF.o.2.2.2 jv.o x3 (by rw[List.length_append,xw.o.1];simp;omega) (by omega) ?_ ?_
           ·rw[List.map_append,show[tq].map iJ=[⟨jC sg,p⟩] by rw[Dj.o,BJ.o];simp only[List.map_cons,List.map_nil];rw[LD (p:=p) _ q2 q3 q4 q5 q6]];have hm:=MORE.o rfl;rw[<-q1,<-x1]at hm;refine(hm ?_ ?_).symm
            ·rintro⟨⟨a1,a2⟩,a3,a4⟩;rw[List.map_eq_nil_iff]at a2;have a5:n0=0:=by rw[<-xw.o.1,a2];rfl
             rw[decide_eq_true a1,decide_eq_true a5,<-vH.o,<-aF.o,decide_eq_true a3,decide_eq_true a4]at hb
             cases hb
            ·rintro⟨a1,a2⟩;rw[<-vH.o,<-Ho.o,decide_eq_false a1]at hf;simp[a2]at hf
           ·intro x hx
            rcases List.mem_append.1 hx with h|h
            ·exact jD.o x h
            ·rw[List.mem_singleton.1 h,Dj.o,<-BJ.o];exact RJ (p:=p) _ (by unfold jC;split<;>omega) z3 HP2.o q2 q3 q4 q5 q6
          ·have hz:=BAD.o h0;exact DRel.bad HF.o.1 HF.o.2.1 HF.o.2.2.1 HF.o.2.2.2 jv.o h0 (by rw[hz]) (by rw[hz];exact(rV.o.2 h0).symm)
         case measure=>
          rw[HM.o];have hjj:=HJ.o
          by_cases h0:E1=0
          ·subst h0;have q1:=(rV.o.1 rfl).1;have z1:=(jy.o rfl).1;have x3:=(Au.o rfl).2.1;have hs2:=HS2.o;rw[HF.o.1.meas0];omega
          ·rw[HF.o.1.measE h0];omega
  ·have ny:=ae (fun w (h1:GR g b w) (h2:VS b s j E c w)=>CEL.o j E c w hE h1 h2);have HE:Hd (¬E=0/\R.1=E/\R.2.1=c):=⟨hE,hR1,hR2⟩;clear hE hR1 hR2;go_wp2_with (go_at_call 92;refine(ny.o _ HG.o HV.o).mono ?_);rintro e u1 ⟨rfl,n,hn⟩;replace HV:=ae (HV.o.drew n);replace HG:=ae (HG.o.drew n);replace HO:=ae (HO.o.drew n);replace HW:=ae (az HW.o n);rw[<-hn]at HV HG HO HW;clear hn;go_wp2;go_ret;exact⟨o,n0,c0,acc,j,c,rfl,by rw[HE.o.2.1];exact HV.o,by rw[HB.o.1];exact HO.o,HW.o,fun h=>absurd (HE.o.2.1.symm.trans h) HE.o.1,fun _=>HE.o.2.2.symm⟩
theorem ajF:(prog.info? 131).map (fun i=>(i.zero,i.size,i.bytes))=some (some (.slice none 0 0),1,24):=by kernel_rfl
def OA(w:World)(base:Nat)(sv:Value)(A:List (List Tq)):Prop :=
 ∃vals:List Value,w.ownsRow base 131 1 sv A.length vals/\vals.length=A.length/\∀i (hi:i<A.length),∃o n c,vals[i]?=some (.slice o n c)/\OT w base (.slice o n c) A[i]
theorem ajG{base:Nat}{size:Nat}(h:w.ownsRow base e size v n xs)(hg:w.grownBy w' (some b))(hb:b<base):w'.ownsRow base e size v n xs:=by
 refine⟨h.1,?_⟩
 rcases h.2 with hn|⟨g,cap,cur,hv,hbg,hc,rest⟩
 ·exact Or.inl hn
 ·refine Or.inr ⟨g,cap,cur,hv,hbg,?_,rest⟩;rw[hg.block g ((bJ hc)) (by simp;omega)];exact hc
theorem OA.growb{base:Nat}{A:List (List Tq)}(h:OA w base sv A)(hg:w.grownBy w' (some b))(hb:b<base):OA w' base sv A:=by
 obtain⟨vals,h1,h2,h3⟩:=h;refine⟨vals,ajG h1 hg hb,h2,fun i hi=>?_⟩;obtain⟨o,n,c,h4,h5⟩:=h3 i hi;exact⟨o,n,c,h4,h5.growb hg hb⟩
theorem OA.grow{base:Nat}{A:List (List Tq)}(h:OA w base sv A)(hg:w.grownBy w' none):OA w' base sv A:=by
 obtain⟨vals,h1,h2,h3⟩:=h;refine⟨vals,sF h1 hg,h2,fun i hi=>?_⟩;obtain⟨o,n,c,h4,h5⟩:=h3 i hi;exact⟨o,n,c,h4,h5.grow hg⟩
theorem aaf(w:World)(b o:Nat)(v:Value):w.grownBy (w.setCell ⟨b,o,none⟩ v) (some b):=aT (ax w _) o v
theorem ajH:(131:Nat)≠167:=by decide
theorem OT.keepA{base:Nat}{L:List Tq}(h:OT w base sl L)(hs:w.ownsRow base 131 1 sv n xs)(hg:w.grownBy w' sv.ownBlock):OT w' base sl L:=by
 refine⟨h.1,?_⟩
 rcases h.2 with hn|⟨g,cap,cur,hv,hbg,hc,rest⟩
 ·exact Or.inl hn
 ·refine Or.inr ⟨g,cap,cur,hv,hbg,?_,rest⟩;rw[hg.block g ((bJ hc)) ?_]
  ·exact hc
  ·intro e
   rcases hs.2 with⟨h1,_⟩|⟨g',cap',cur',hv',_,hc',_⟩
   ·rw[h1]at e;cases e
   ·rw[hv']at e;simp only[Value.ownBlock,Option.some.injEq]at e;rw[e,hc']at hc;simp only[Option.some.injEq,Obj.cells.injEq]at hc;exact ajH hc.2.1
theorem OA.push{base:Nat}{v':Value}{A:List (List Tq)}{o:Option Addr}{L:List Tq}{vals:List Value}(h1:w.ownsRow base 131 1 sv A.length vals)(h2:vals.length=A.length)(h3:∀i (hi:i<A.length),∃o n c,vals[i]?=some (.slice o n c)/\OT w base (.slice o n c) A[i])(hL:OT w base (.slice o n c) L)
  (hg:w.grownBy w' sv.ownBlock) (hown:w'.ownsRow base 131 1 v' (A.length+1) (vals++[.slice o n c])):OA w' base v' (A++[L]):=by
 refine⟨vals++[.slice o n c],by rw[List.length_append];exact hown,by simp[h2],fun i hi=>?_⟩;rw[List.length_append]at hi
 by_cases hlt:i<A.length
 ·obtain⟨o',n',c',h4,h5⟩:=h3 i hlt;refine⟨o',n',c',by rw[List.getElem?_append_left (by omega)];exact h4,?_⟩;rw[List.getElem_append_left hlt];exact h5.keepA h1 hg
 ·have e:i=A.length:=by simp at hi;omega
  subst e;refine⟨o,n,c,by rw[<-h2];simp,?_⟩;rw[List.getElem_append_right (Nat.le_refl _)];simpa using hL.keepA h1 hg
theorem OA.far{base:Nat}(h:w.ownsRow base 131 1 sv n xs):∀q,sv.ownBlock=some q->base<=q:=fun q hq=>(h.lt q hq).1
theorem OA.slice{base:Nat}{A:List (List Tq)}(h:OA w base sv A):∃o c,sv=.slice o A.length c:=by
 obtain⟨vals,h1,_⟩:=h
 rcases h1.2 with⟨e1,e2⟩|⟨g,cap,cur,hv,_⟩
 ·exact⟨_,_,by rw[e1,e2]⟩
 ·exact⟨_,_,hv⟩
def GB(g b:Nat)(sv:Value)(w:World):Prop:=w.heap[g]?=some (.cells #[.pointer (some ⟨b,0,none⟩),sv] 129 (0,0))
theorem GB.gr(h:GB g b sv w):GR g b w:=by unfold GR;rw[aj h];rfl
theorem GB.c1(h:GB g b sv w):w.cell? ⟨g,1,none⟩=some sv:=by rw[aj h];rfl
theorem GB.f(h:GB g b sv w)(o:Nat):w.frozen? ⟨g,o,none⟩=false:=Lib.frozen_of_heap h o
theorem GB.growr{row:Option Nat}(h:GB g b sv w)(hg:w.grownBy w' row)(hn:some g≠row):GB g b sv w':=by
 unfold GB at h ⊢;rw[hg.block g ((bJ h)) hn];exact h
theorem GB.set(h:GB g b sv w)(y:Value):GB g b y (w.setCell ⟨g,1,none⟩ y):=by
 unfold GB at h ⊢;simp[World.setCell,Array.getElem?_modify,h]
theorem OA.down{base:Nat}{A:List (List Tq)}(h:OA w base sv A)(hb:base'<=base):OA w base' sv A:=by
 obtain⟨vals,h1,h2,h3⟩:=h;refine⟨vals,⟨h1.1,?_⟩,h2,fun i hi=>?_⟩
 ·rcases h1.2 with hn|⟨g,cap,cur,hv,hbg,rest⟩
  ·exact Or.inl hn
  ·exact Or.inr ⟨g,cap,cur,hv,Nat.le_trans hb hbg,rest⟩
 ·obtain⟨o,n,c,h4,h5⟩:=h3 i hi;exact⟨o,n,c,h4,h5.base hb⟩
theorem ajI{wa wb:World}{row:Option Nat}(h:w.grownBy wa none)(hg:wa.grownBy wb row)(hr:∀q,row=some q->w.heap.size<=q):w.grownBy wb none :=
 ⟨hg.os.trans h.os,hg.tape.trans h.tape,hg.output.trans h.output,Nat.le_trans h.size hg.size,fun k hk hn=>(hg.block k (Nat.lt_of_lt_of_le hk h.size) (fun e=>by have:=hr k e.symm;omega)).trans (h.block k hk hn)⟩
theorem ajJ{base:Nat}{size:Nat}(h:w.ownsRow base e size v n xs):∃o n c,v=.slice o n c:=by
 rcases h.2 with⟨h1,_⟩|⟨g,cap,cur,hv,_⟩
 ·exact⟨_,_,_,h1⟩
 ·exact⟨_,_,_,hv⟩
theorem LJ{u u':World}(h:w.grownBy u none)(hg:u.grownBy u' (some b))(hb:w.heap.size<=b):w.grownBy u' none :=
 ⟨hg.os.trans h.os,hg.tape.trans h.tape,hg.output.trans h.output,Nat.le_trans h.size hg.size,fun k hk hn=>(hg.block k (Nat.lt_of_lt_of_le hk h.size) (by simp;omega)).trans (h.block k hk hn)⟩
def bm:Value->Nat
 | .bool true=>1
 |_=>0
def ajK(R:Int × Nat × List (List Te))(w:World)(e:Ending)(w':World):Prop :=
 ∃(o:Option Addr) (n c:Nat) (A:List (List Tq)),e=.returned (.tuple #[.slice o n c,.int .i64 R.1,.int .i64 (R.2.1:Int)])/\w.grownBy w' none/\(R.1=0->OA w' w.heap.size (.slice o n c) A/\A.map (·.map iJ)=R.2.2/\A.length<=201/\∀L∈A,L.length<=1000/\∀x∈L,vI x)
theorem aag(l:List UInt8):∀(f i:Nat) (acc:List Te),(gG l f i acc).1=0->(gG l f i acc).2.2.length<=acc.length+f+2
 | 0,i,acc,_=>by unfold gG;simp only[];omega
 | f+1,i,acc,h=>by
  rw[gG]at h ⊢;split
  ·simp only[];omega
  ·rename_i h0;rw[if_neg h0]at h;split
   ·rename_i h1;rw[if_pos h1]at h;split
    ·rename_i h2;rw[if_pos h2]at h;split
     ·simp only[];omega
     ·split
      ·split
       ·simp
       ·simp only[];omega
      ·simp only[];omega
    ·rename_i h2;rw[if_neg h2]at h;split
     ·simp only[];omega
     ·rename_i h3;rw[if_neg h3]at h;have:=aag l f _ _ h;simp at this;omega
   ·simp only[];omega
theorem ajL(s:ByteArray)(w:World)(hs:s.size<2 ^ 60):Calls prog 48 #[.string s] w (ajK (jM s.data.toList) w):=by
 by_cases h200:200<s.size
 ·have hR:jM s.data.toList=(1,0,[]):=by unfold jM;rw[if_pos (by simpa using h200)]
  rw[hR];clear hR;go_enter func48,ntmps48;go_wp2;exact bodyPost_ret (results_tmp3 (t:=2) (u:=3) (v:=4) rfl _ _ _) rfl ⟨_,_,_,[],rfl,ax _ _,fun h=>absurd h (by simp)⟩
 ·obtain⟨l,hl⟩:=zN (s.data.toList);have hll:l.length=s.size:=by rw[<-hl];simp
  have dG:Hd (l.length=s.size/\s.size<=200):=⟨hll,by omega⟩;rw[hl];obtain⟨E0,J0,S0,hP⟩:∃E0 J0 S0,sZ l (l.length+1) 0 []=(E0,J0,S0):=⟨_,_,_,rfl⟩;have HRR:Hd (jM l=if E0=0 then(0,0,S0) else(E0,J0,[])):=by
   show jM l=_;unfold jM;rw[if_neg (by omega),hP]
  have HR0:=ae hP;obtain⟨b,hb⟩:=zN (w.heap.size);obtain⟨g,hgg⟩:=zN (b+1);have hgb:g≠b:=by omega
  have CB:Hd (∀i a w,i<=s.size->GR g b w->VS b s i 0 a w->Calls prog 63 #[.pointer (some ⟨g,0,none⟩)] w fun e w'=>e=.returned (.bool (decide (i<ag l i)))/\VS b s (ag l i) 0 a w'/\w.grownBy w' (some b)):=fun i a w hi h1 h2=>by rw[<-hl];exact Q8 g b s i a w hi hgb h1 h2 (by omega)
  have CS:Hd (∀i a w,i<=s.size->GR g b w->VS b s i 0 a w->Calls prog 64 #[.pointer (some ⟨g,0,none⟩)] w (RI b s (gG l (l.length+1) i []) w)):=fun i a w hi h1 h2=>by rw[<-hl];exact ajD g b s i a w hi hgb h1 h2 (by omega)
  have CI:Hd (∀i a w,i<=s.size->GR g b w->VS b s i 0 a w->Calls prog 65 #[.pointer (some ⟨g,0,none⟩),.string ⟨#[124,124]⟩] w fun e w'=>e=.returned (.bool (lD l i))/\∃n,w'=w.drewN n):=fun i a w hi h1 h2=>by rw[<-hl];exact ZH g b s i a w hi h1 h2 (by omega)
  have CIL:Hd (∀(i:Nat) (E:Int) (a:Nat) w,¬E=0->GR g b w->VS b s i E a w->Calls prog 65 #[.pointer (some ⟨g,0,none⟩),.string ⟨#[124,124]⟩] w fun e w'=>e=.returned (.bool (false))/\∃n,w'=w.drewN n):=fun i E a w hE h1 h2=>GX g b s _ i E a w hE h1 h2
  have rE:Hd (∀i,i<=s.size->i<=ag l i/\ag l i<=s.size):=fun i hi=>⟨sW l i,by have:=rq l i (by rw[hll];exact hi);rw[hll]at this;exact this⟩
  have HOP:Hd (∀i,i<=s.size->(lG l i).1=0->i<=(lG l i).2.1/\(lG l i).2.1<=s.size):=fun i hi h0=>by
   obtain⟨e1,e2,_⟩:=YP l i (by rw[hll];exact hi);have:=YQ l i (by rw[hll];exact hi) (e1.trans h0);rw[e2,hll]at this;exact this
  have aW:Hd (g≠b/\b<g/\w.heap.size=b/\b+1=g):=⟨hgb,by omega,hb,hgg⟩;clear hl hll hP hs hgb;go_enter func48,ntmps48;go_wp2;clear h200;obtain⟨W,hW⟩:=zN ((w.alloc (.cells #[.string s,.int .i64 0,.int .i64 0,.int .i64 0] 127)).alloc (.cells #[.pointer (some ⟨b,0,none⟩),.slice none 0 0] 129));have hgW:w.grownBy W none:=by rw[<-hW];exact aH (aH (ax w none) _) _
  have HV:Hd (VS b s 0 0 0 W):=by
   show W.heap[b]?=_;rw[<-hW,<-hb,Lib.alloc_old _ _ _ (by simp)];exact heap_alloc_new w _
  have HG:Hd (GB g b (.slice none 0 0) W):=by
   show W.heap[g]?=_;rw[<-hW,<-hgg,<-hb];exact JD w _ _
  have HW:=ae hgW
  try rw[hW]
  clear hgW hW hb hgg;go_loopw [6] (fun vm wr=>∃(f j c:Nat) (E:Int) (sv:Value) (A:List (List Tq)),VS b s j E c wr/\GB g b sv wr/\OA wr (g+1) sv A/\w.grownBy wr none/\A.length<=201 ∧
   ((vm=.bool true/\E=0/\j<=s.size/\A.length<=j/\l.length<f+j/\sZ l f j (A.map (·.map iJ))=(E0,J0,S0)/\∀L∈A,L.length<=1000/\∀x∈L,vI x)\/(vm=.bool false/\E=0/\E0=0/\S0=A.map (·.map iJ)/\∀L∈A,L.length<=1000/\∀x∈L,vI x)\/(vm=.bool false/\¬E=0/\E0=E/\J0=c))) (fun vm wr=>bm vm*(s.size+3-placeOf b wr))
  case atStart=>exact⟨l.length+1,0,0,0,_,[],HV.o,HG.o,⟨[],World.ownsRow_nil _ _ _ _,rfl,fun i hi=>absurd hi (Nat.not_lt_zero _)⟩,HW.o,Nat.zero_le _,Or.inl ⟨rfl,rfl,Nat.zero_le _,Nat.zero_le _,by omega,HR0.o,fun L hL=>by cases hL⟩⟩
  case round=>
   obtain⟨f,j,c,E,sv,A,hv,hgr,hoa,hgw,hal,hcase⟩:=hrel;clear HV HG HW HR0;obtain⟨o1,c1,rfl⟩:=hoa.slice;obtain⟨n1,hn1⟩:=zN (A.length);rw[hn1]at hgr hoa;have HV:=ae hv;have HG:=ae hgr;have HO:=ae hoa;have HW:=ae hgw;have nX:Hd (A.length=n1/\n1<=201):=⟨hn1,by omega⟩;clear hv hgr hoa hgw hal hn1
   rcases hcase with⟨rfl,rfl,hj,haj,hf,hds,hok⟩|⟨rfl,rfl,he0,hs0,hok⟩|⟨rfl,hE,he0,hj0⟩
   ·have HJ:Hd (j<=s.size/\n1<=j/\l.length<f+j):=⟨hj,by have:=nX.o.1;omega,hf⟩;have dF:=ae hds;have jD:=ae hok;have gX:=ae HV.o.place;clear hj haj hf hds hok;obtain⟨f,rfl⟩:∃f',f=f'+1:=by
     cases f with
     |zero=>have:=dG.o.1;have:=HJ.o;omega
     |succ f=>exact⟨f,rfl⟩
    have fZ:=ae (fun w (h1:GR g b w) (h2:VS b s j 0 c w)=>CB.o j c w HJ.o.1 h1 h2);have jw:Hd (∀w,GR g b w->VS b s (ag l j) 0 c w->Calls prog 64 #[.pointer (some ⟨g,0,none⟩)] w (RI b s (lG l j) w)):=fun w h1 h2=>CS.o (ag l j) c w (rE.o j HJ.o.1).2 h1 h2
    have RQ:=ae (HOP.o j HJ.o.1);have jv:Hd ((lG l j).1=0->(lG l j).2.2.length<=1000):=fun h=>by have h1:=aag l (l.length+1) (ag l j) [] h;have h2:=dG.o;simp only[List.length_nil]at h1;unfold lG;omega
    have hds:=dF.o;rw[sZ]at hds;obtain⟨E1,J1,ts,hR⟩:∃E1 J1 ts,lG l j=(E1,J1,ts):=⟨_,_,_,rfl⟩;rw[hR]at hds jw RQ jv;simp only[]at hds RQ jv;have HD1:=ae hds;clear hds hR dF;obtain⟨K,hK⟩:=zN (ag l j);rw[hK]at fZ jw;obtain⟨ap,hap⟩:=zN (decide (j<K));rw[hap]at fZ;clear hK hap;go_wp2_with (first|(go_at_call 63;refine(fZ.o _ HG.o.gr HV.o).mono ?_));rintro e u1 ⟨rfl,hv,hg⟩;replace HV:=ae hv;replace HG:=ae (HG.o.growr hg (by have:=aW.o.1;simpa using this));replace HO:=ae (HO.o.growb hg (by have:=aW.o.2.1;omega));replace HW:=ae (LJ HW.o hg (by have:=aW.o.2.2.1;omega));clear hv hg;have oK:Hd (g+1<=u1.heap.size):=(bJ HG.o);go_wp2_with (go_at_call 64;refine(jw.o _ HG.o.gr HV.o).mono ?_);rintro e u2 ⟨o2,n2,c2,acc,j2,d2,rfl,hv,hot,hg,hok,herr⟩;have HT:=ae (hot.base oK.o)
    have HQ:Hd ((E1=0->acc.map iJ=ts/\j2=J1/\∀x∈acc,vI x)/\(¬E1=0->d2=J1)):=⟨hok,herr⟩;clear hot hok herr;replace HV:Hd (VS b s j2 E1 d2 u2):=hv;replace HG:=ae (HG.o.growr hg (by have:=aW.o.1;simpa using this));replace HO:=ae (HO.o.growb hg (by have:=aW.o.2.1;omega));replace HW:=ae (LJ HW.o hg (by have:=aW.o.2.2.1;omega));clear hv hg;obtain⟨vals,hva,hvl,hve⟩:=HO.o;have Hq:=ae hva;have RU:Hd (vals.length=A.length/\∀i (hi:i<A.length),∃o n c,vals[i]?=some (.slice o n c)/\OT u2 (g+1) (.slice o n c) A[i]):=⟨hvl,hve⟩;clear hva hvl hve;have hinfo:=ajF;obtain⟨i1,hj0,hjj⟩:=Option.map_eq_some_iff.1 hinfo;have hy0:i1.zero=some (.slice none 0 0):=congrArg (·.1) hjj;have hy1:i1.size=1:=congrArg (·.2.1) hjj;have hyb:i1.bytes=24:=congrArg (·.2.2) hjj;clear hjj hinfo;have g0:u2.cell? ⟨g,0,none⟩=some (.pointer (some ⟨b,0,none⟩)):=HG.o.gr;have g1:=HG.o.c1
    obtain⟨W3,hW3⟩:=zN (u2.alloc (.cells #[.slice o2 n2 c2] 131));have hga:u2.grownBy W3 none:=by rw[<-hW3];exact aH (ax _ none) _
    have HR3:Hd (W3.heap[u2.heap.size]?=some (.cells #[.slice o2 n2 c2] 131 (0,0))):=by show _=_;rw[<-hW3];exact heap_alloc_new u2 _
    have dh:=ae hga;clear hga;go_wp2_with (first|(at_builtin;refine wpList_append_own _ rfl _ _ 88 rfl (g+1) 131 i1 _ 1 24 underlying88 hj0 hy0 hy1 hyb rfl (by decide) _ _ _ rfl (sF Hq.o dh.o) _ 1 1 [.slice o2 n2 c2] rfl rfl (World.news_of_block HR3.o) (by intro u hu;simp only[List.mem_cons,List.not_mem_nil,or_false]at hu;subst hu;rfl) (by unfold maxLen;have:=nX.o;omega) (by have:=nX.o;omega) (by have h1:=dh.o.size;have h2:=(bJ HG.o);omega) ?_;intro v' u4 hown hgrow _;obtain⟨o4,n4,c4,rfl⟩:=ajJ hown;have hG4:=(HG.o.growr dh.o (by simp)).growr hgrow (fun e=>by have:=Hq.o.lt g e.symm;omega);clear g0 g1;have g0:u4.cell? ⟨g,0,none⟩=some (.pointer (some ⟨b,0,none⟩)):=hG4.gr;have g1:=hG4.c1;have gf:=hG4.f));have aah:=ae (OA.push (w:=W3) (sF Hq.o dh.o) RU.o.1 (fun i hi=>by obtain⟨o,n,c,h1,h2⟩:=RU.o.2 i hi;exact⟨o,n,c,h1,h2.grow dh.o⟩) (HT.o.grow dh.o) hgrow hown)
    have pO:=ae (fun q (hq:(Value.slice o1 n1 c1).ownBlock=some q)=>(Hq.o.lt q hq).1);obtain⟨u5,D7⟩:=zN (u4.setCell ⟨g,1,none⟩ (.slice o4 n4 c4));have hg5:u4.grownBy u5 (some g):=by rw[<-D7];exact aaf u4 g 1 _
    replace HV:=ae (((HV.o.grow dh.o (by simp)).grow hgrow (fun e=>by have:=pO.o b e.symm;have:=aW.o.2.1;omega)).grow hg5 (by have:=aW.o.1;simpa using Ne.symm this));replace HG:Hd (GB g b (.slice o4 n4 c4) u5):=by show GB g b _ u5;rw[<-D7];exact hG4.set _
    replace HO:=ae (aah.o.growb hg5 (by omega));replace HW:=ae (LJ (ajI (ak HW.o dh.o) hgrow (fun q hq=>by have:=pO.o q hq;have:=aW.o;omega)) hg5 (by have:=aW.o;omega))
    try rw[D7]
    clear hown hgrow hG4 g0 g1 gf hg5 D7 hW3 hj0 hy0 hy1 hyb Hq RU aah pO HR3 dh HT;have Fa:Hd ((A++[acc]).length<=201):=by show _<=_;rw[List.length_append,nX.o.1];have h1:=HJ.o;have h2:=dG.o.2;simp;omega
    by_cases hE1:E1=0
    ·subst hE1;obtain⟨q1,q2,q3⟩:=HQ.o.1 rfl;obtain⟨p1,p2⟩:=RQ.o rfl;have Hl:Hd (∀L∈A++[acc],L.length<=1000/\∀x∈L,vI x):=by
      intro L hL
      rcases List.mem_append.1 hL with h|h
      ·exact jD.o L h
      ·rw[List.mem_singleton.1 h];exact⟨by have h1:=jv.o rfl;rw[<-q1,List.length_map]at h1;exact h1,q3⟩
     have HMP:Hd ((A++[acc]).map (·.map iJ)=A.map (·.map iJ)++[ts]):=by show _=_;rw[List.map_append,<-q1];rfl
     have HP:Hd (j<=J1/\J1<=s.size):=⟨p1,p2⟩;subst q2;clear q1 q3 p1 p2
     cases hba:lD l j2 with
     |true=>
      have gK:Hd (∀w,GR g b w->VS b s j2 0 d2 w->Calls prog 65 #[.pointer (some ⟨g,0,none⟩),.string ⟨#[124,124]⟩] w fun e w'=>e=.returned (.bool (true))/\∃n,w'=w.drewN n):=fun w h1 h2=>by have:=CI.o j2 d2 w HP.o.2 h1 h2;rw[hba]at this;exact this
      have ed:Hd (sZ l f (j2+2) ((A++[acc]).map (·.map iJ))=(E0,J0,S0)):=by show _=_;have h:=HD1.o;rw[if_pos rfl,if_pos hba]at h;rw[HMP.o];exact h
      have HB2:Hd (j2+2<=s.size):=by have:=Qh l j2 hba;rw[dG.o.1]at this;exact this
      clear hba;go_wp2_with (go_at_call 65;refine(gK.o _ HG.o.gr HV.o).mono ?_);rintro e u6 rfl n hn;replace HV:Hd (VS b s j2 0 d2 u6):=by show VS _ _ _ _ _ u6;rw[hn];exact HV.o.drew _
      replace HG:Hd (GB g b (.slice o4 n4 c4) u6):=by show GB g b _ u6;rw[hn];exact HG.o
      replace HO:Hd (OA u6 (g+1) (.slice o4 n4 c4) (A++[acc])):=by show OA u6 _ _ _;rw[hn];exact HO.o
      replace HW:Hd (w.grownBy u6 none):=by show w.grownBy u6 none;rw[hn];exact az HW.o _
      clear hn;have e0:u6.cell? ⟨g,0,none⟩=some (.pointer (some ⟨b,0,none⟩)):=HG.o.gr;have e1:=HV.o.c1;have ef:=HV.o.f1;have hwr:IntKind.i64.wrap ((j2:Int)+2)=(j2:Int)+2:=by rw[IntKind.wrap_i64];have:=HB2.o;have:=dG.o.2;omega
      go_wp2_with (fail)
      go_region
      obtain⟨u7,LK⟩:=zN ((u6.setCell ⟨b,1,none⟩ (.int .i64 ((j2:Int)+2))).drew);have iV:u6.grownBy u7 (some b):=by rw[<-LK];exact NI (aaf u6 b 1 _)
      replace HV:Hd (VS b s (j2+2) 0 d2 u7):=by show VS b s (j2+2) 0 d2 u7;rw[<-LK,show((j2:Int)+2)=((j2+2:Nat):Int) by omega];exact HV.o.set1 _
      replace HG:=ae (HG.o.growr iV (by have:=aW.o.1;simpa using this));replace HO:=ae (HO.o.growb iV (by have:=aW.o;omega));replace HW:=ae (LJ HW.o iV (by have:=aW.o;omega))
      try rw[LK]
      clear iV LK e0 e1 ef hwr;go_wp2;go_roundw
      case rel=>exact⟨f,j2+2,d2,0,_,A++[acc],HV.o,HG.o,HO.o,HW.o,Fa.o,Or.inl ⟨rfl,rfl,HB2.o,by rw[List.length_append,nX.o.1];have h1:=HJ.o;have h2:=HP.o;simp;omega,by have h1:=HJ.o;have h2:=HP.o;omega,ed.o,Hl.o⟩⟩
      case measure=>
       rw[gX.o,HV.o.place];have h1:=HJ.o;have h2:=HP.o;simp only[bm];omega
     |false=>
      have gK:Hd (∀w,GR g b w->VS b s j2 0 d2 w->Calls prog 65 #[.pointer (some ⟨g,0,none⟩),.string ⟨#[124,124]⟩] w fun e w'=>e=.returned (.bool (false))/\∃n,w'=w.drewN n):=fun w h1 h2=>by have:=CI.o j2 d2 w HP.o.2 h1 h2;rw[hba]at this;exact this
      have ed:Hd (E0=0/\S0=(A++[acc]).map (·.map iJ)):=by have h:=HD1.o;rw[if_pos rfl,if_neg (by rw[hba];decide)]at h;rw[HMP.o];simp only[Prod.mk.injEq]at h;exact⟨h.1.symm,h.2.2.symm⟩
      clear hba;go_wp2_with (go_at_call 65;refine(gK.o _ HG.o.gr HV.o).mono ?_);rintro e u6 rfl n hn;replace HV:Hd (VS b s j2 0 d2 u6):=by show VS _ _ _ _ _ u6;rw[hn];exact HV.o.drew _
      replace HG:Hd (GB g b (.slice o4 n4 c4) u6):=by show GB g b _ u6;rw[hn];exact HG.o
      replace HO:Hd (OA u6 (g+1) (.slice o4 n4 c4) (A++[acc])):=by show OA u6 _ _ _;rw[hn];exact HO.o
      replace HW:Hd (w.grownBy u6 none):=by show w.grownBy u6 none;rw[hn];exact az HW.o _
      clear hn;go_wp2;go_roundw
      case rel=>exact⟨0,j2,d2,0,_,A++[acc],HV.o,HG.o,HO.o,HW.o,Fa.o,Or.inr (Or.inl ⟨rfl,rfl,ed.o.1,ed.o.2,Hl.o⟩)⟩
      case measure=>
       rw[gX.o];have h1:=HJ.o;simp only[bm];omega
    ·have LM:=ae hE1;have ed:Hd (E0=E1/\J0=d2):=by have h:=HD1.o;rw[if_neg hE1]at h;simp only[Prod.mk.injEq]at h;exact⟨h.1.symm,by rw[HQ.o.2 hE1];exact h.2.1.symm⟩
     clear hE1;have gK:=ae (fun w (h1:GR g b w) (h2:VS b s j2 E1 d2 w)=>CIL.o j2 E1 d2 w LM.o h1 h2);go_wp2_with (go_at_call 65;refine(gK.o _ HG.o.gr HV.o).mono ?_);rintro e u6 ⟨rfl,n,hn⟩;replace HV:Hd (VS b s j2 E1 d2 u6):=by show VS _ _ _ _ _ u6;rw[hn];exact HV.o.drew _
     replace HG:Hd (GB g b (.slice o4 n4 c4) u6):=by show GB g b _ u6;rw[hn];exact HG.o
     replace HO:Hd (OA u6 (g+1) (.slice o4 n4 c4) (A++[acc])):=by show OA u6 _ _ _;rw[hn];exact HO.o
     replace HW:Hd (w.grownBy u6 none):=by show w.grownBy u6 none;rw[hn];exact az HW.o _
     clear hn;go_wp2;go_roundw
     case rel=>exact⟨0,j2,d2,E1,_,A++[acc],HV.o,HG.o,HO.o,HW.o,Fa.o,Or.inr (Or.inr ⟨rfl,LM.o,ed.o.1,ed.o.2⟩)⟩
     case measure=>
      rw[gX.o];have h1:=HJ.o;simp only[bm];omega
   ·have HZ:Hd (jM l=(0,0,A.map (·.map iJ))):=by show _=_;rw[HRR.o,if_pos he0,hs0]
    have jD:=ae hok;clear he0 hs0 hok;have e0:wr.cell? ⟨g,0,none⟩=some (.pointer (some ⟨b,0,none⟩)):=HG.o.gr;have e1:=HG.o.c1;have e2:=HV.o.c2;go_wp2;refine bodyPost_ret (results_tmp3 (t:=2) (u:=3) (v:=4) rfl _ _ _) rfl ?_;rw[HZ.o];exact⟨o1,n1,c1,A,rfl,HW.o,fun _=>⟨OA.down HO.o (by have:=aW.o;omega),rfl,by rw[nX.o.1];exact nX.o.2,jD.o⟩⟩
   ·have HZ:Hd (jM l=(E,c,[])):=by show _=_;rw[HRR.o,if_neg (by rw[he0];exact hE),he0,hj0]
    have LM:=ae hE;have hne:(E==0)=false:=by simpa using hE
    clear he0 hj0 hE;have e0:wr.cell? ⟨g,0,none⟩=some (.pointer (some ⟨b,0,none⟩)):=HG.o.gr;have e2:=HV.o.c2;have e3:=HV.o.c3;go_wp2;go_quiet (fail);go_wp2;refine bodyPost_ret (results_tmp3 (t:=2) (u:=3) (v:=4) rfl _ _ _) rfl ?_;rw[HZ.o];exact⟨_,_,_,[],rfl,az HW.o _,fun h=>absurd h LM.o⟩
end Go.Proofs.YtbcfhgpfgdbjgaaGreatDoor
