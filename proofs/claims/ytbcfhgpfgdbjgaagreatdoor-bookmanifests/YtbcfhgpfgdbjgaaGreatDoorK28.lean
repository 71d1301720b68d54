import Derived.Test.YtbcfhgpfgdbjgaaGreatDoorK23
import Derived.Test.YtbcfhgpfgdbjgaaGreatDoorK25
set_option linter.all false
set_option maxRecDepth 100000
set_option maxHeartbeats 0
open Go.Proofs.Tryz
namespace Go.Proofs.YtbcfhgpfgdbjgaaGreatDoor
open Go.RowKit Go.Maps Go.WideMaps Go.Joins
variable{s:ByteArray}{B P R:Nat}{w:World}
def Rt:Prop:=∀(B P R:Nat) (s:ByteArray) (now i:Nat) (ns:List Tn) (own:List Nat) (w:World),Dt w B P R s now 0 (.ok i) ns own->P<B->s.size<=100000->nx s.data.toList i=91->Li s.data.toList ⟨i,ns,own,now⟩ →
 Calls prog 40 #[.pointer (some ⟨R,0,none⟩)] w (Gw B P R s now own (iw s.data.toList ⟨i,ns,own,now⟩) w)
theorem ai1{now now0:Nat}{ns:List Tn}{own own0:List Nat}{q:Rs Nat}{w':World}(hd:Dq w' B P R s now 0 q ns own)(hf:DFr B P w w'):Gw B P R s now0 own0 (KQ ns own now q) w (.returned (.tuple #[])) w':=by
 match q,hd with
 | .error e,hd=>exact⟨rfl,fun d hh=>(by cases hh),fun c hh=>(by have hh:(Except.error e:Rs Sd)=.error c:=hh;injection hh with hh;subst hh;exact⟨now,hd⟩),hf⟩
 | .ok j,hd=>exact⟨rfl,fun d hh=>(by have hh:(Except.ok ⟨j,ns,own,now⟩:Rs Sd)=.ok d:=hh;injection hh with hh;subst hh;exact hd),fun c hh=>(by cases hh),hf⟩
theorem ai2(CH0:Rt)(B P R:Nat)(s:ByteArray)(now i:Nat)(ns:List Tn)(own:List Nat)(w:World)(h:Dt w B P R s now 0 (.ok i) ns own)(hB:P<B)(hs:s.size<=100000)(LI:Li s.data.toList ⟨i,ns,own,now⟩) :
  Calls prog 27 #[.pointer (some ⟨R,0,none⟩)] w (Gw B P R s now own (iH s.data.toList ⟨i,ns,own,now⟩) w):=by
 have hl:s.data.toList.length=s.size:=by simp
 have CB:=ae (fun now ns own (q:Rs Nat) w (h:Dq w B P R s now 0 q ns own)=>YD B P R s now 0 ns own q w h hs);have CC:=ae (fun now ns own (q:Rs Nat) w (h:Dq w B P R s now 0 q ns own)=>age B P R s now 0 ns own q w h hs);have CM:=ae (fun now ns own (q:Rs Nat) w (h:Dq w B P R s now 0 q ns own)=>P9 B P R s now 0 ns own q w h hs 10 (by decide));have hi:=h.cells.2.2.2.2.2.1;have hbl:=jQ s.data.toList i (by omega);have LB:=GM LI (bl s.data.toList i) hbl.1 hbl.2;have iT:Hd (iH s.data.toList ⟨i,ns,own,now⟩=KT s.data.toList (if nx s.data.toList (bl s.data.toList i)=91 then iw s.data.toList ⟨bl s.data.toList i,ns,own,now⟩ else if ¬nx s.data.toList (bl s.data.toList i)=-1/\¬nx s.data.toList (bl s.data.toList i)=35/\¬nx s.data.toList (bl s.data.toList i)=10 then rdPair s.data.toList ⟨bl s.data.toList i,ns,own,now⟩ else .ok ⟨bl s.data.toList i,ns,own,now⟩)):=ah1 _ _
 have hn1:=LI.nn;simp only[]at hn1;obtain⟨G,hG⟩:=zN (iH s.data.toList ⟨i,ns,own,now⟩);rw[hG]at iT ⊢;obtain⟨j,hj⟩:=zN (bl s.data.toList i);have HBJ:Hd ((Except.bind (.ok i) fun i=>.ok (bl s.data.toList i):Rs Nat)=.ok j):=by show Except.ok _=_;rw[hj]
 rw[hj]at iT LB hbl;obtain⟨hij,hjs⟩:=hbl;have CI:Hd (∀w,Dq w B P R s now 0 (.ok j) ns own->Calls prog 39 #[.pointer (some ⟨R,0,none⟩),.int .u8 91] w fun e w'=>e=.returned (.bool (decide (nx s.data.toList j=91)))/\Dq w' B P R s now 0 (.ok j) ns own/\DFr B P w w'):=fun w h=>YE B P R s now 0 ns own (.ok j) w h hs 91 (by decide)
 have yQ:=ae (fun w (h:Dt w B P R s now 0 (.ok j) ns own) (hx:nx s.data.toList j=91)=>CH0 B P R s now j ns own w h hB hs hx LB);have CP:=ae (fun w (h:Dt w B P R s now 0 (.ok j) ns own)=>ahF B P R s now j ns own w h LB.jt.wf LB.jt.wt LB.jt.lt (by rw[LB.jt.kd];decide) (by rw[hl]at hjs;omega) hs);have HD0:Hd (Dq w B P R s now 0 (.ok i) ns own):=h;have HX:Hd (∀(hk:j<s.size),nx s.data.toList j=(s[j].toNat:Int)):=byte_at s j;have vO:Hd (¬j<s.size->nx s.data.toList j=-1):=fun hh=>jF _ _ (by omega)
 clear h hG hj LB LI CH0 hn1;go_enter func27,ntmps27;go_wp2_with (go_at_call 38;refine(CB.o now ns own (.ok i) _ HD0.o).mono ?_);rintro e w1 ⟨rfl,hd1,hf1⟩;rw[HBJ.o]at hd1;have HD1:=ae hd1;have jo:=ae hf1;clear hd1 hf1;have hcs:nx s.data.toList j=91\/(¬nx s.data.toList j=91/\((∃hjl:j<s.size,((s[j].toNat:Int) != 35)=true/\((s[j].toNat:Int) != 10)=true)\/(∃hjl:j<s.size,((s[j].toNat:Int) != 35)=false)\/(∃hjl:j<s.size,((s[j].toNat:Int) != 35)=true/\((s[j].toNat:Int) != 10)=false)\/¬j<s.size)):=by
  by_cases kP:nx s.data.toList j=91
  ·exact .inl kP
  ·by_cases hjl:j<s.size
   ·cases b5:((s[j].toNat:Int) != 35) with
    |false=>exact .inr ⟨kP,.inr (.inl ⟨hjl,b5⟩)⟩
    |true=>
     cases b1:((s[j].toNat:Int) != 10) with
     |false=>exact .inr ⟨kP,.inr (.inr (.inl ⟨hjl,b5,b1⟩))⟩
     |true=>exact .inr ⟨kP,.inl ⟨hjl,b5,b1⟩⟩
   ·exact .inr ⟨kP,.inr (.inr (.inr hjl))⟩
 rcases hcs with p1|⟨kP,⟨hjl,hb5,hb1⟩|⟨hjl,hc5⟩|⟨hjl,hb5,hc1⟩|hje⟩
 all_goals (
  have aC:=iT.o
  first
   | (first
     | (rw[decide_eq_true p1]at CI
        rw[if_pos p1]at aC;have Aq:=ae aC;have xJ:=ae (fun w (h:Dt w B P R s now 0 (.ok j) ns own)=>yQ.o w h p1);obtain⟨V,hV⟩:=zN (iw s.data.toList ⟨j,ns,own,now⟩);rw[hV]at Aq xJ;clear p1 hV aC;go_wp2_with (first|(go_at_call 39;refine(CI.o _ HD1.o).mono ?_;rintro e w2 ⟨rfl,hd2,hf2⟩)|(go_at_call 40;refine(xJ.o _ hd2).mono ?_));rintro e w4 ⟨rfl,a1,a2,hf4⟩;have yV:=ae ((jo.o.two hf2).two hf4);clear hd2 hf2 hf4)
     | (have hxj:=HX.o hjl
        rw[if_neg kP,if_pos ⟨by rw[hxj];omega,by rw[hxj];simpa using hb5,by rw[hxj];simpa using hb1⟩]at aC;have Aq:=ae aC;have wH:=ae CP.o;rw[decide_eq_false kP]at CI;have hlt1:decide ((j:Int)<(s.size:Int))=true:=by simp;omega
        obtain⟨V,hV⟩:=zN (rdPair s.data.toList ⟨j,ns,own,now⟩);rw[hV]at Aq wH;clear kP hV hxj CP aC;go_wp2_with (go_at_call 39;refine(CI.o _ HD1.o).mono ?_);rintro e w2 ⟨rfl,hd2,hf2⟩;have HD2:Hd (Dt w2 B P R s now 0 (.ok j) ns own):=hd2;have HF2:=ae (jo.o.two hf2);obtain⟨c0,c1,-,-,-,-,-⟩:=HD2.o.cells;clear hd2 hf2;go_wp2;go_quiet (fail);have aF:=HD2.o.drew nq;have dH:=ae aF.1;have cZ:=ae (HF2.o.two aF.2);obtain⟨wA,hwA⟩:=zN (w2.drewN nq);rw[hwA]at dH cZ ⊢;clear hwA aF c0 c1;go_wp2_with (go_at_call 41;refine(wH.o _ dH.o).mono ?_);rintro e w4 ⟨rfl,a1,a2,hf4⟩;have yV:=ae (cZ.o.two hf4);clear hf4)
      obtain⟨nw,nsx,ow,q1,hq,htl⟩:∃nw nsx ow,∃q1:Rs Nat,Dq w4 B P R s nw 0 q1 nsx ow/\yR s.data.toList nsx ow nw ((q1.bind fun i=>.ok (bl s.data.toList i)).bind (jd s.data.toList))=G:=by
       cases V with
       |error c=>
        obtain⟨now',hd4⟩:=a2 c rfl;exact⟨now',ns,own,.error c,hd4,by rw[Aq.o];rfl⟩
       |ok d=>exact⟨d.now,d.ns,d.own,.ok d.i,a1 d rfl,by rw[Aq.o];rfl⟩
      have Ru:=ae hq;have HTL:=ae htl;clear a1 a2 hq htl)
   | (rw[if_neg kP,if_neg (by
       rintro⟨y1,y2,y3⟩
       first
        | exact y1 (vO.o hje)
        | (rw[HX.o hjl]at y2;simp at hc5;omega)
        | (rw[HX.o hjl]at y3;simp at hc1;omega))]at aC
      have Aq:=ae aC;rw[decide_eq_false kP]at CI
      first
       | (have hlt1:decide ((j:Int)<(s.size:Int))=false:=by simp;omega)
       | (have hlt1:decide ((j:Int)<(s.size:Int))=true:=by simp;omega)
      clear kP CP aC;go_wp2_with (go_at_call 39;refine(CI.o _ HD1.o).mono ?_);rintro e w2 ⟨rfl,hd2,hf2⟩;have HD2:Hd (Dt w2 B P R s now 0 (.ok j) ns own):=hd2;have HF2:=ae (jo.o.two hf2);obtain⟨c0,c1,-,-,-,-,-⟩:=HD2.o.cells;clear hd2 hf2;go_wp2;go_quiet (fail);have aF:=HD2.o.drew nq;obtain⟨nw,nsx,ow,q1,hq,htl⟩:∃nw nsx ow,∃q1:Rs Nat,Dq (w2.drewN nq) B P R s nw 0 q1 nsx ow/\yR s.data.toList nsx ow nw ((q1.bind fun i=>.ok (bl s.data.toList i)).bind (jd s.data.toList))=G:=⟨now,ns,own,.ok j,aF.1,by rw[Aq.o];rfl⟩;have yV:=ae (HF2.o.two aF.2);have Ru:=ae hq;have HTL:=ae htl;obtain⟨w4,hw4⟩:=zN (w2.drewN nq);rw[hw4]at Ru yV ⊢;clear hw4 aF c0 c1 hq htl)
  go_wp2_with (first|(go_at_call 38;refine(CB.o nw nsx ow q1 _ Ru.o).mono ?_;rintro e w5 ⟨rfl,hd5,hf5⟩)|(go_at_call 42;refine(CC.o nw nsx ow _ _ hd5).mono ?_));rintro e w6 ⟨rfl,hd6,tu⟩;have HF6:=ae ((yV.o.two hf5).two tu);have vG:=ae hd6;obtain⟨q6,hq6⟩:=zN ((q1.bind fun i=>.ok (bl s.data.toList i)).bind (jd s.data.toList));have xk:Hd (yR s.data.toList nsx ow nw q6=G):=by
   show _=_;rw[<-hq6];exact HTL.o
  rw[hq6]at vG;clear hd5 hf5 hd6 tu hq6
  match q6,vG,xk with
  | .error c,vG,xk =>
   obtain⟨Lx,Ox,⟨y1,jj,y2,y3⟩,y4⟩:=vG.o;obtain⟨z0,z1,-,-,-,-,-,-,-⟩:=y3.cells;have aJ:Hd (G=.error c):=xk.o.symm;clear y1 y3 y4
   by_cases hjj:jj<s.size
   ·have hlt1:decide ((jj:Int)<(s.size:Int))=true:=by simp;omega
    have hlt2:(jj:Int)<(s.size:Int):=by omega
    go_wp2;go_quiet (fail);have aF:=Fq.drew vG.o nq;have dH:Hd (Dq (w6.drewN nq) B P R s nw 0 (.error c) nsx ow):=aF.1;have cZ:=ae (HF6.o.two aF.2);obtain⟨wA,hwA⟩:=zN (w6.drewN nq);rw[hwA]at dH cZ ⊢;clear hwA aF z0 z1;go_wp2_with (go_at_call 43;refine(CM.o nw nsx ow (.error c) _ dH.o).mono ?_;rintro e w7 ⟨rfl,hd7,jY⟩);refine bodyPost_end (results_none rfl _ _ _) rfl ?_;rw[aJ.o];exact⟨rfl,fun d hh=>(by cases hh),fun c' hh=>(by injection hh with hh;subst hh;exact⟨nw,hd7⟩),cZ.o.two jY⟩
   ·have hlt1:decide ((jj:Int)<(s.size:Int))=false:=by simp;omega
    have hlt2:¬(jj:Int)<(s.size:Int):=by omega
    go_wp2;go_quiet (fail);have aF:=Fq.drew vG.o nq;have dH:=ae aF.1;have cZ:=ae (HF6.o.two aF.2);go_wp2;refine bodyPost_end (results_none rfl _ _ _) rfl ?_;rw[aJ.o];exact⟨rfl,fun d hh=>(by cases hh),fun c' hh=>(by injection hh with hh;subst hh;exact⟨nw,dH.o⟩),cZ.o⟩
  | .ok m,vG,xk =>
   obtain⟨z0,z1,-,-,-,hms,-⟩:=Dt.cells vG.o
   by_cases hm:m<s.size
   ·have hlt1:decide ((m:Int)<(s.size:Int))=true:=by simp;omega
    have hlt2:(m:Int)<(s.size:Int):=by omega
    have HGM:=ae ((ahU s.data.toList nsx ow nw m (by omega)).symm.trans xk.o);go_wp2;go_quiet (fail);have aF:=Dt.drew vG.o nq;have dH:Hd (Dq (w6.drewN nq) B P R s nw 0 (.ok m) nsx ow):=aF.1;have cZ:=ae (HF6.o.two aF.2);obtain⟨wA,hwA⟩:=zN (w6.drewN nq);rw[hwA]at dH cZ ⊢;clear hwA aF z0 z1;go_wp2_with (go_at_call 43;refine(CM.o nw nsx ow (.ok m) _ dH.o).mono ?_;rintro e w7 ⟨rfl,hd7,jY⟩);refine bodyPost_end (results_none rfl _ _ _) rfl ?_;have ai3:Dq w7 B P R s nw 0 (must s.data.toList m 10) nsx ow:=hd7;rw[<-HGM.o];exact ai1 ai3 (cZ.o.two jY)
   ·have hlt1:decide ((m:Int)<(s.size:Int))=false:=by simp;omega
    have hlt2:¬(m:Int)<(s.size:Int):=by omega
    have aJ:=ae (xk.o.symm.trans (ahV s.data.toList nsx ow nw m (by omega)));go_wp2;go_quiet (fail);have aF:=Dt.drew vG.o nq;have dH:=ae aF.1;have cZ:=ae (HF6.o.two aF.2);go_wp2;refine bodyPost_end (results_none rfl _ _ _) rfl ?_;rw[aJ.o];exact⟨rfl,fun d hh=>(by cases hh;exact dH.o),fun c' hh=>(by cases hh),cZ.o⟩)
def ai4(r:Rs (List Tn))(w:World)(e:Ending)(w':World):Prop :=
 (∀ns,r=.ok ns->∃N c OV xs ks own m,e=.returned (.tuple #[.slice (some ⟨N,0,none⟩) ns.length c,.int .i64 0,.int .i64 0])/\DtD w' w.heap.size 0 ns m own (.slice (some ⟨N,0,none⟩) ns.length c) OV xs ks) ∧
 (∀c p,r=.error (c,p)->e=.returned (.tuple #[.slice none 0 0,.int .i64 c,.int .i64 (p:Nat)]))/\w.grownBy w' none
theorem Fq.cells{now de:Nat}{e:Int × Nat}(h:Fq w B P R s now de e):w.cell? ⟨R,5,none⟩=some (.int .i64 e.1)/\w.cell? ⟨R,6,none⟩=some (.int .i64 (e.2:Nat))/\(e.1 == 0)=false/\(e.1 != 0)=true:=by
 obtain⟨L,O,⟨h1,j,h2,h3⟩,-⟩:=h;exact⟨h3.cells.2.2.2.2.2.1,h3.cells.2.2.2.2.2.2.1,by simpa using h1,by simpa using h1⟩
theorem ai5(CH:Rt)(s:ByteArray)(w:World)(h0:0<w.heap.size)(hmx:s.size<2 ^ 62) :
  Calls prog 10 #[.string s] w (ai4 (lJ s.data.toList) w):=by
 have hl:s.data.toList.length=s.size:=by simp
 have HE:=KX s.data.toList;rw[hl]at HE
 by_cases hbig:100000<s.size
 ·rw[if_pos hbig]at HE;rw[HE];have hb:(100000:Int)<(s.size:Int):=by omega
  clear HE hbig CH;go_enter func10,ntmps10;go_wp2;refine bodyPost_ret (results_tmp3 (t:=2) (u:=3) (v:=4) rfl _ _ _) rfl ?_;exact⟨fun ns hh=>(by cases hh),fun c p hh=>(by cases hh;rfl),ax _ _⟩
 ·rw[if_neg hbig]at HE;rw[HE];have hb:(s.size:Int)<=100000:=by omega
  have hs:s.size<=100000:=by omega
  have hgR:w.grownBy (w.alloc (.cells #[.string s,.int .i64 0,.slice none 0 0,.slice none 0 0,.int .i64 0,.int .i64 0,.int .i64 0,.int .i64 0] 72)) none:=World.grownBy_alloc _ _ none;have hR:=heap_alloc_new w (.cells #[.string s,.int .i64 0,.slice none 0 0,.slice none 0 0,.int .i64 0,.int .i64 0,.int .i64 0,.int .i64 0] 72);have HDs:Hd (Ds (w.alloc (.cells #[.string s,.int .i64 0,.slice none 0 0,.slice none 0 0,.int .i64 0,.int .i64 0,.int .i64 0,.int .i64 0] 72)) w.heap.size s (.slice none 0 0) (.slice none 0 0) 0 0 (.ok 0)):=⟨by omega,hR⟩;have hsz1:(w.alloc (.cells #[.string s,.int .i64 0,.slice none 0 0,.slice none 0 0,.int .i64 0,.int .i64 0,.int .i64 0,.int .i64 0] 72)).heap.size=w.heap.size+1:=World.size_alloc _ _;obtain⟨B,hB⟩:=zN (w.heap.size);have CA:Hd (Calls prog 26 #[.pointer (some ⟨w.heap.size,0,none⟩),.int .i64 (-1),.agg #[.int .i64 0,.string ⟨#[]⟩,.string ⟨#[]⟩,.int .i64 0,.slice none 0 0,.int .i64 0]] (w.alloc (.cells #[.string s,.int .i64 0,.slice none 0 0,.slice none 0 0,.int .i64 0,.int .i64 0,.int .i64 0,.int .i64 0] 72)) fun e w'=>e=.returned (.int .i64 0)/\Dt w' B 0 w.heap.size s 0 0 (.ok 0) [⟨0,[],[],0,[],0⟩] []/\Below B w w'):=by
   refine(ahf B 0 w.heap.size s 0 0 (.ok 0) _ HDs.o (by omega) (by omega) (by omega)).mono ?_;rintro e w' ⟨rfl,a,b⟩;refine⟨rfl,a,?_⟩;have h1:=y8 hgR;rw[hB]at h1;exact h1.trans b.bel
  have CL:Hd (∀d w',Dt w' B 0 B s d.now 0 (.ok d.i) d.ns d.own->Li s.data.toList d->Calls prog 27 #[.pointer (some ⟨B,0,none⟩)] w' (Gw B 0 B s d.now d.own (iH s.data.toList d) w')):=fun d w' h L=>ai2 CH B 0 B s d.now d.i d.ns d.own w' h (by omega) hs L
  have zI:=ae (fun d d' (a:Li s.data.toList d) (b:d.i<s.size) (c:iH s.data.toList d=.ok d')=>KN s.data.toList d d' a (by omega) c);obtain⟨S,hS⟩:=zN (jP s.data.toList (s.data.toList.length+1) ⟨0,[⟨0,[],[],0,[],0⟩],[],0⟩);have HS:=ae hS;rw[<-hl,hS];have fB:=ae hB;have HST:Hd (Li s.data.toList ⟨0,[⟨0,[],[],0,[],0⟩],[],0⟩):=GN _;have aN:Hd (∀f d,jP s.data.toList (f+1) d=if s.data.toList.length<=d.i then .ok d else match iH s.data.toList d with | .error e=>.error e | .ok d1=>jP s.data.toList f d1):=KU _;clear HE hbig hS hB hR hgR HDs hsz1 CH;go_enter func10,ntmps10;go_wp2_with (go_at_call 26;refine CA.o.mono ?_);rintro e w2 ⟨rfl,hd2,hb2⟩;rw[fB.o]at hd2 ⊢;have HD2:=ae hd2;have HB2:=ae hb2;clear hd2 hb2 CA;go_wp2;go_loopw [] (fun wr=>∃(q:Rs Sd) (f:Nat),(∀d,q=.ok d->Dt wr B 0 B s d.now 0 (.ok d.i) d.ns d.own/\Li s.data.toList d/\s.size-d.i<f/\jP s.data.toList f d=S)/\(∀c,q=.error c->(∃now,Fq wr B 0 B s now 0 c)/\S=.error c)/\Below B w wr) (fun wr=>dM wr B s)
  case atStart=>exact⟨.ok ⟨0,[⟨0,[],[],0,[],0⟩],[],0⟩,s.data.toList.length+1,fun d hd=>(by cases hd;exact⟨HD2.o,HST.o,by simp only[];omega,HS.o⟩),fun c hc=>(by cases hc),HB2.o⟩
  case round=>
   obtain⟨q,f,hok,her,hbe⟩:=hrel;have fV:=ae hbe;clear hbe
   match q,hok,her with
   | .error c,_,her =>
    obtain⟨⟨now,hf⟩,hSe⟩:=her c rfl;obtain⟨c5,c6,z1,z2⟩:=hf.cells;have aB:=ae hSe;obtain⟨x,hx⟩:=zN (c.1);obtain⟨y,hy⟩:=zN (c.2);have mX:Hd (c=(x,y)):=by show c=_;rw[<-hx,<-hy]
    rw[hx]at c5 z1 z2;rw[hy]at c6;clear hok her hf hSe hx hy;go_wp2;go_quiet (fail);go_wp2;refine bodyPost_ret (results_tmp3 (t:=2) (u:=3) (v:=4) rfl _ _ _) rfl ?_;rw[aB.o,mX.o];refine⟨fun ns hh=>(by cases hh),fun c' p' hh=>?_,?_⟩
    ·have hh:(Except.error (x,y):Rs (List Tn))=.error (c',p'):=hh;injection hh with hh
     injection hh with e1 e2
     subst e1 e2;rfl
    ·have hb:=fV.o;rw[<-fB.o]at hb;exact az (KW hb) _
   | .ok d,hok,_ =>
    obtain⟨hd,hL,hfu,hall⟩:=hok d rfl;obtain⟨f,rfl⟩:∃f',f=f'+1:=⟨f-1,by omega⟩;rw[aN.o]at hall;have HD:=ae hd;have HM:=ae (Gt hd);obtain⟨-,c1,c5,-,-,hdi,-⟩:=hd.cells;have nG:=CL.o d wr hd hL;have Rw:=zI.o d;obtain⟨N,cc,O,oc,c2,-⟩:=hd.parts
    by_cases hlt:d.i<s.size
    ·rw[if_neg (by omega)]at hall;have ak8:((d.i:Nat):Int)<(s.size:Int):=by omega
     obtain⟨V,hV⟩:=zN (iH s.data.toList d);have Lp:=ae (fun d' (hh:V=.ok d')=>Rw d' hL hlt (hV.trans hh));rw[hV]at hall nG;have Dp:=ae nG;have HAE:Hd (∀e,V=.error e->S=.error e):=fun e hh=>by rw[hh]at hall;exact hall.symm
     have HAO:Hd (∀d1,V=.ok d1->jP s.data.toList f d1=S):=fun d1 hh=>by rw[hh]at hall;exact hall
     clear hok her hd hL hall hV nG Rw c2;go_wp2_with (go_at_call 27;refine Dp.o.mono ?_;rintro e w3 ⟨rfl,a1,a2,hf3⟩);refine⟨⟨V,f,fun d1 hh=>?_,fun c hh=>⟨a2 c hh,HAE.o c hh⟩,fV.o.trans hf3.bel⟩,?_⟩
     ·have:=Lp.o d1 hh;exact⟨a1 d1 hh,this.1,by omega,HAO.o d1 hh⟩
     ·rw[HM.o]
      match V,a1,a2,Lp with
      | .error c,_,a2,_ =>
       obtain⟨now,hf⟩:=a2 c rfl;rw[Qq hf];omega
      | .ok d1,a1,_,Lp =>
       have:=Lp.o d1 rfl;rw[Gt (a1 d1 rfl)];omega
    ·rw[if_pos (by omega)]at hall;have ak9:¬((d.i:Nat):Int)<(s.size:Int):=by omega
     have ala:(s.size:Int)<=((d.i:Nat):Int):=by omega
     have aB:=ae hall.symm;obtain⟨x1,x2,N,cc,O,oc,xs,ks,x3,x4,x5,x6⟩:=HD.o;obtain⟨-,-,c2',-,-,-,-,-,-⟩:=x6.2.cells;have KI:=ae x5;clear hok her hd hL hall nG Rw c2 x1 x2 x3 x4 x5 x6;go_wp2;refine bodyPost_ret (results_tmp3 (t:=2) (u:=3) (v:=4) rfl _ _ _) rfl ?_;rw[aB.o];refine⟨fun ns hh=>?_,fun c p hh=>(by cases hh),?_⟩
     ·have hh:(Except.ok d.ns:Rs (List Tn))=.ok ns:=hh;injection hh with hh
      subst hh;rw[fB.o];exact⟨N,cc,_,xs,ks,d.own,_,rfl,KI.o⟩
     ·have hb:=fV.o;rw[<-fB.o]at hb;exact KW hb
end Go.Proofs.YtbcfhgpfgdbjgaaGreatDoor
