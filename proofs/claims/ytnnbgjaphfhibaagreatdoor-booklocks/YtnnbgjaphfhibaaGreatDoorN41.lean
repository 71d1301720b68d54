import Derived.Test.YtnnbgjaphfhibaaGreatDoorN34
import Derived.Test.YtnnbgjaphfhibaaGreatDoorN37
import Derived.Test.YtnnbgjaphfhibaaGreatDoorN25
import Derived.Test.YtnnbgjaphfhibaaGreatDoorN33
set_option linter.unusedVariables false
set_option linter.unusedSimpArgs false
set_option maxRecDepth 100000
set_option maxHeartbeats 6400000
open Go.Proofs.Tryz
namespace Go.Proofs.YtnnbgjaphfhibaaGreatDoor
open Go.RowKit Go.Maps Go.WideMaps Go.Joins
def NW:Prop:=∀(B P R:Nat) (s:ByteArray) (now i:Nat) (ns:List Tn) (own:List Nat) (w:World),Dt w B P R s now 0 (.ok i) ns own->P<B->s.size<=100000->nx s.data.toList i=91->Li s.data.toList ⟨i,ns,own,now⟩ →
 Calls prog 53 #[.pointer (some ⟨R,0,none⟩)] w (sQ B P R s now own (fQ s.data.toList ⟨i,ns,own,now⟩) w)
theorem ad9{B P R:Nat}{s:ByteArray}{now now0:Nat}{ns:List Tn}{own own0:List Nat}{q:Rs Nat}{w w':World}(hd:Dq w' B P R s now 0 q ns own)(hf:DFr B P w w'):sQ B P R s now0 own0 (DD ns own now q) w (.returned (.tuple #[])) w':=by
 match q,hd with
 | .error e,hd=>exact⟨rfl,fun d hh=>(by cases hh),fun c hh=>(by have hh:(Except.error e:Rs Sd)=.error c:=hh;injection hh with hh;subst hh;exact⟨now,hd⟩),hf⟩
 | .ok j,hd=>exact⟨rfl,fun d hh=>(by have hh:(Except.ok ⟨j,ns,own,now⟩:Rs Sd)=.ok d:=hh;injection hh with hh;subst hh;exact hd),fun c hh=>(by cases hh),hf⟩
theorem aea(CH0:NW)(B P R:Nat)(s:ByteArray)(now i:Nat)(ns:List Tn)(own:List Nat)(w:World)(h:Dt w B P R s now 0 (.ok i) ns own)(hB:P<B)(hs:s.size<=100000)(LI:Li s.data.toList ⟨i,ns,own,now⟩) :
  Calls prog 30 #[.pointer (some ⟨R,0,none⟩)] w (sQ B P R s now own (iF s.data.toList ⟨i,ns,own,now⟩) w):=by
 have hl:s.data.toList.length=s.size:=by simp
 have CB:Hd (∀now ns own (q:Rs Nat) w,Dq w B P R s now 0 q ns own->Calls prog 51 #[.pointer (some ⟨R,0,none⟩)] w fun e w'=>e=.returned (.tuple #[])/\Dq w' B P R s now 0 (q.bind fun i=>.ok (bl s.data.toList i)) ns own/\DFr B P w w'):=fun now ns own q w h=>UF B P R s now 0 ns own q w h hs
 have CC:Hd (∀now ns own (q:Rs Nat) w,Dq w B P R s now 0 q ns own->Calls prog 55 #[.pointer (some ⟨R,0,none⟩)] w fun e w'=>e=.returned (.tuple #[])/\Dq w' B P R s now 0 (q.bind (gz s.data.toList)) ns own/\DFr B P w w'):=fun now ns own q w h=>abR B P R s now 0 ns own q w h hs
 have CM:Hd (∀now ns own (q:Rs Nat) w,Dq w B P R s now 0 q ns own->Calls prog 56 #[.pointer (some ⟨R,0,none⟩),.int .u8 10] w fun e w'=>e=.returned (.tuple #[])/\Dq w' B P R s now 0 (q.bind fun i=>must s.data.toList i 10) ns own/\DFr B P w w'):=fun now ns own q w h=>MG B P R s now 0 ns own q w h hs 10 (by decide)
 have hi:i<=s.size:=h.cells.2.2.2.2.2.1;have hbl:=jA s.data.toList i (by omega);have LB:=Di LI (bl s.data.toList i) hbl.1 hbl.2;have iV:Hd (iF s.data.toList ⟨i,ns,own,now⟩=x9 s.data.toList (if nx s.data.toList (bl s.data.toList i)=91 then fQ s.data.toList ⟨bl s.data.toList i,ns,own,now⟩ else if ¬nx s.data.toList (bl s.data.toList i)=-1/\¬nx s.data.toList (bl s.data.toList i)=35/\¬nx s.data.toList (bl s.data.toList i)=10 then rdPair s.data.toList ⟨bl s.data.toList i,ns,own,now⟩ else .ok ⟨bl s.data.toList i,ns,own,now⟩)):=adm _ _;have hn1:=LI.nn;simp only[]at hn1;obtain⟨G,hG⟩:=zN (iF s.data.toList ⟨i,ns,own,now⟩);rw[hG]at iV ⊢;obtain⟨j,hj⟩:=zN (bl s.data.toList i);have HBJ:Hd ((Except.bind (.ok i) fun i=>.ok (bl s.data.toList i):Rs Nat)=.ok j):=by show Except.ok _=_;rw[hj]
 rw[hj]at iV LB hbl;obtain⟨hij,hjs⟩:=hbl;have CI:Hd (∀w,Dq w B P R s now 0 (.ok j) ns own->Calls prog 52 #[.pointer (some ⟨R,0,none⟩),.int .u8 91] w fun e w'=>e=.returned (.bool (decide (nx s.data.toList j=91)))/\Dq w' B P R s now 0 (.ok j) ns own/\DFr B P w w'):=fun w h=>UG B P R s now 0 ns own (.ok j) w h hs 91 (by decide)
 have wL:Hd (∀w,Dt w B P R s now 0 (.ok j) ns own->nx s.data.toList j=91->Calls prog 53 #[.pointer (some ⟨R,0,none⟩)] w (sQ B P R s now own (fQ s.data.toList ⟨j,ns,own,now⟩) w)):=fun w h hx=>CH0 B P R s now j ns own w h hB hs hx LB
 have CP:Hd (∀w,Dt w B P R s now 0 (.ok j) ns own->Calls prog 54 #[.pointer (some ⟨R,0,none⟩)] w (sQ B P R s now own (rdPair s.data.toList ⟨j,ns,own,now⟩) w)):=fun w h=>acV B P R s now j ns own w h LB.jt.wf LB.jt.wt LB.jt.lt (by rw[LB.jt.kd];decide) (by rw[hl]at hjs;omega) hs
 have HD0:Hd (Dq w B P R s now 0 (.ok i) ns own):=h;have HX:Hd (∀(hk:j<s.size),nx s.data.toList j=(s[j].toNat:Int)):=byte_at s j;have tJ:Hd (¬j<s.size->nx s.data.toList j=-1):=fun hh=>ji _ _ (by omega)
 clear h hG hj LB LI CH0 hn1;go_enter func30,ntmps30;go_wp2_with (go_at_call 51;refine(CB.o now ns own (.ok i) _ HD0.o).mono ?_);rintro e w1 ⟨rfl,hd1,hf1⟩;rw[HBJ.o]at hd1;have HD1:Hd (Dq w1 B P R s now 0 (.ok j) ns own):=hd1;have je:Hd (DFr B P w w1):=hf1;clear hd1 hf1;have hcs:nx s.data.toList j=91\/(¬nx s.data.toList j=91/\((∃hjl:j<s.size,((s[j].toNat:Int) != 35)=true/\((s[j].toNat:Int) != 10)=true)\/(∃hjl:j<s.size,((s[j].toNat:Int) != 35)=false)\/(∃hjl:j<s.size,((s[j].toNat:Int) != 35)=true/\((s[j].toNat:Int) != 10)=false)\/¬j<s.size)):=by
  by_cases jQ:nx s.data.toList j=91
  ·exact .inl jQ
  ·by_cases hjl:j<s.size
   ·cases b5:((s[j].toNat:Int) != 35) with
    | false=>exact .inr ⟨jQ,.inr (.inl ⟨hjl,b5⟩)⟩
    | true =>
     cases b1:((s[j].toNat:Int) != 10) with
     | false=>exact .inr ⟨jQ,.inr (.inr (.inl ⟨hjl,b5,b1⟩))⟩
     | true=>exact .inr ⟨jQ,.inl ⟨hjl,b5,b1⟩⟩
   ·exact .inr ⟨jQ,.inr (.inr (.inr hjl))⟩
 rcases hcs with p1|⟨jQ,⟨hjl,hb5,hb1⟩|⟨hjl,hc5⟩|⟨hjl,hb5,hc1⟩|hje⟩
 all_goals (
  have ay:=iV.o
  first
   | (first
     | (rw[decide_eq_true p1]at CI
        rw[if_pos p1]at ay;have lF:Hd (G=x9 s.data.toList (fQ s.data.toList ⟨j,ns,own,now⟩)):=ay;have uT:Hd (∀w,Dt w B P R s now 0 (.ok j) ns own->Calls prog 53 #[.pointer (some ⟨R,0,none⟩)] w (sQ B P R s now own (fQ s.data.toList ⟨j,ns,own,now⟩) w)):=fun w h=>wL.o w h p1
        obtain⟨V,hV⟩:=zN (fQ s.data.toList ⟨j,ns,own,now⟩);rw[hV]at lF uT;clear p1 hV ay;go_wp2_with (first|(go_at_call 52;refine(CI.o _ HD1.o).mono ?_;rintro e w2 ⟨rfl,hd2,hf2⟩)|(go_at_call 53;refine(uT.o _ hd2).mono ?_));rintro e w4 ⟨rfl,a1,a2,hf4⟩;have wW:Hd (DFr B P w w4):=(je.o.two hf2).two hf4;clear hd2 hf2 hf4)
     | (have hxj:=HX.o hjl
        rw[if_neg jQ,if_pos ⟨by rw[hxj];omega,by rw[hxj];simpa using hb5,by rw[hxj];simpa using hb1⟩]at ay;have lF:Hd (G=x9 s.data.toList (rdPair s.data.toList ⟨j,ns,own,now⟩)):=ay;have uh:Hd (∀w,Dt w B P R s now 0 (.ok j) ns own->Calls prog 54 #[.pointer (some ⟨R,0,none⟩)] w (sQ B P R s now own (rdPair s.data.toList ⟨j,ns,own,now⟩) w)):=CP.o;rw[decide_eq_false jQ]at CI;have hlt1:decide ((j:Int)<(s.size:Int))=true:=by simp;omega
        obtain⟨V,hV⟩:=zN (rdPair s.data.toList ⟨j,ns,own,now⟩);rw[hV]at lF uh;clear jQ hV hxj CP ay;go_wp2_with (go_at_call 52;refine(CI.o _ HD1.o).mono ?_);rintro e w2 ⟨rfl,hd2,hf2⟩;have HD2:Hd (Dt w2 B P R s now 0 (.ok j) ns own):=hd2;have HF2:Hd (DFr B P w w2):=je.o.two hf2;obtain⟨c0,c1,-,-,-,-,-⟩:=HD2.o.cells;clear hd2 hf2;go_wp2;go_quiet (fail);have aC:=HD2.o.drew nq;have dF:Hd (Dt (w2.drewN nq) B P R s now 0 (.ok j) ns own):=aC.1;have bH:Hd (DFr B P w (w2.drewN nq)):=HF2.o.two aC.2;obtain⟨wA,hwA⟩:∃W,w2.drewN nq=W:=⟨_,rfl⟩;rw[hwA]at dF bH ⊢;clear hwA aC c0 c1;go_wp2_with (go_at_call 54;refine(uh.o _ dF.o).mono ?_);rintro e w4 ⟨rfl,a1,a2,hf4⟩;have wW:Hd (DFr B P w w4):=bH.o.two hf4;clear hf4)
      obtain⟨nw,nsx,ow,q1,hq,htl⟩:∃nw nsx ow,∃q1:Rs Nat,Dq w4 B P R s nw 0 q1 nsx ow/\sS s.data.toList nsx ow nw ((q1.bind fun i=>.ok (bl s.data.toList i)).bind (gz s.data.toList))=G:=by
       cases V with
       | error c =>
        obtain⟨now',hd4⟩:=a2 c rfl;exact⟨now',ns,own,.error c,hd4,by rw[lF.o];rfl⟩
       | ok d=>exact⟨d.now,d.ns,d.own,.ok d.i,a1 d rfl,by rw[lF.o];rfl⟩
      have NY:Hd (Dq w4 B P R s nw 0 q1 nsx ow):=hq;have Ih:Hd (sS s.data.toList nsx ow nw ((q1.bind fun i=>.ok (bl s.data.toList i)).bind (gz s.data.toList))=G):=htl;clear a1 a2 hq htl)
   | (rw[if_neg jQ,if_neg (by
       rintro⟨y1,y2,y3⟩
       first
        | exact y1 (tJ.o hje)
        | (rw[HX.o hjl]at y2;simp at hc5;omega)
        | (rw[HX.o hjl]at y3;simp at hc1;omega))]at ay
      have lF:Hd (G=x9 s.data.toList (.ok ⟨j,ns,own,now⟩)):=ay;rw[decide_eq_false jQ]at CI
      first
       | (have hlt1:decide ((j:Int)<(s.size:Int))=false:=by simp;omega)
       | (have hlt1:decide ((j:Int)<(s.size:Int))=true:=by simp;omega)
      clear jQ CP ay;go_wp2_with (go_at_call 52;refine(CI.o _ HD1.o).mono ?_);rintro e w2 ⟨rfl,hd2,hf2⟩;have HD2:Hd (Dt w2 B P R s now 0 (.ok j) ns own):=hd2;have HF2:Hd (DFr B P w w2):=je.o.two hf2;obtain⟨c0,c1,-,-,-,-,-⟩:=HD2.o.cells;clear hd2 hf2;go_wp2;go_quiet (fail);have aC:=HD2.o.drew nq;obtain⟨nw,nsx,ow,q1,hq,htl⟩:∃nw nsx ow,∃q1:Rs Nat,Dq (w2.drewN nq) B P R s nw 0 q1 nsx ow/\sS s.data.toList nsx ow nw ((q1.bind fun i=>.ok (bl s.data.toList i)).bind (gz s.data.toList))=G:=⟨now,ns,own,.ok j,aC.1,by rw[lF.o];rfl⟩;have wW:Hd (DFr B P w (w2.drewN nq)):=HF2.o.two aC.2;have NY:Hd (Dq (w2.drewN nq) B P R s nw 0 q1 nsx ow):=hq;have Ih:Hd (sS s.data.toList nsx ow nw ((q1.bind fun i=>.ok (bl s.data.toList i)).bind (gz s.data.toList))=G):=htl;obtain⟨w4,hw4⟩:∃W,w2.drewN nq=W:=⟨_,rfl⟩;rw[hw4]at NY wW ⊢;clear hw4 aC c0 c1 hq htl)
  go_wp2_with (first|(go_at_call 51;refine(CB.o nw nsx ow q1 _ NY.o).mono ?_;rintro e w5 ⟨rfl,hd5,hf5⟩)|(go_at_call 55;refine(CC.o nw nsx ow _ _ hd5).mono ?_));rintro e w6 ⟨rfl,hd6,qZ⟩;have HF6:Hd (DFr B P w w6):=(wW.o.two hf5).two qZ;have sV:Hd (Dq w6 B P R s nw 0 ((q1.bind fun i=>.ok (bl s.data.toList i)).bind (gz s.data.toList)) nsx ow):=hd6;obtain⟨q6,hq6⟩:=zN ((q1.bind fun i=>.ok (bl s.data.toList i)).bind (gz s.data.toList));have uA:Hd (sS s.data.toList nsx ow nw q6=G):=by
   show _=_;rw[<-hq6];exact Ih.o
  rw[hq6]at sV;clear hd5 hf5 hd6 qZ hq6
  match q6,sV,uA with
  | .error c,sV,uA =>
   obtain⟨Lx,Ox,⟨y1,jj,y2,y3⟩,y4⟩:=sV.o;obtain⟨z0,z1,-,-,-,-,-,-,-⟩:=y3.cells;have aB:Hd (G=.error c):=uA.o.symm;clear y1 y3 y4
   by_cases hjj:jj<s.size
   ·have hlt1:decide ((jj:Int)<(s.size:Int))=true:=by simp;omega
    have hlt2:(jj:Int)<(s.size:Int):=by omega
    go_wp2;go_quiet (fail);have aC:=Fq.drew sV.o nq;have dF:Hd (Dq (w6.drewN nq) B P R s nw 0 (.error c) nsx ow):=aC.1;have bH:Hd (DFr B P w (w6.drewN nq)):=HF6.o.two aC.2;obtain⟨wA,hwA⟩:∃W,w6.drewN nq=W:=⟨_,rfl⟩;rw[hwA]at dF bH ⊢;clear hwA aC z0 z1;go_wp2_with (go_at_call 56;refine(CM.o nw nsx ow (.error c) _ dF.o).mono ?_;rintro e w7 ⟨rfl,hd7,jG⟩);refine bodyPost_end (results_none rfl _ _ _) rfl ?_;rw[aB.o];exact⟨rfl,fun d hh=>(by cases hh),fun c' hh=>(by injection hh with hh;subst hh;exact⟨nw,hd7⟩),bH.o.two jG⟩
   ·have hlt1:decide ((jj:Int)<(s.size:Int))=false:=by simp;omega
    have hlt2:¬(jj:Int)<(s.size:Int):=by omega
    go_wp2;go_quiet (fail);have aC:=Fq.drew sV.o nq;have dF:Hd (Fq (w6.drewN nq) B P R s nw 0 c):=aC.1;have bH:Hd (DFr B P w (w6.drewN nq)):=HF6.o.two aC.2;go_wp2;refine bodyPost_end (results_none rfl _ _ _) rfl ?_;rw[aB.o];exact⟨rfl,fun d hh=>(by cases hh),fun c' hh=>(by injection hh with hh;subst hh;exact⟨nw,dF.o⟩),bH.o⟩
  | .ok m,sV,uA =>
   obtain⟨z0,z1,-,-,-,hms,-⟩:=Dt.cells sV.o
   by_cases hm:m<s.size
   ·have hlt1:decide ((m:Int)<(s.size:Int))=true:=by simp;omega
    have hlt2:(m:Int)<(s.size:Int):=by omega
    have HGM:Hd (DD nsx ow nw (must s.data.toList m 10)=G):=(ade s.data.toList nsx ow nw m (by omega)).symm.trans uA.o;go_wp2;go_quiet (fail);have aC:=Dt.drew sV.o nq;have dF:Hd (Dq (w6.drewN nq) B P R s nw 0 (.ok m) nsx ow):=aC.1;have bH:Hd (DFr B P w (w6.drewN nq)):=HF6.o.two aC.2;obtain⟨wA,hwA⟩:∃W,w6.drewN nq=W:=⟨_,rfl⟩;rw[hwA]at dF bH ⊢;clear hwA aC z0 z1;go_wp2_with (go_at_call 56;refine(CM.o nw nsx ow (.ok m) _ dF.o).mono ?_;rintro e w7 ⟨rfl,hd7,jG⟩);refine bodyPost_end (results_none rfl _ _ _) rfl ?_;have aeb:Dq w7 B P R s nw 0 (must s.data.toList m 10) nsx ow:=hd7;rw[<-HGM.o];exact ad9 aeb (bH.o.two jG)
   ·have hlt1:decide ((m:Int)<(s.size:Int))=false:=by simp;omega
    have hlt2:¬(m:Int)<(s.size:Int):=by omega
    have aB:Hd (G=.ok ⟨m,nsx,ow,nw⟩):=uA.o.symm.trans (adf s.data.toList nsx ow nw m (by omega));go_wp2;go_quiet (fail);have aC:=Dt.drew sV.o nq;have dF:Hd (Dt (w6.drewN nq) B P R s nw 0 (.ok m) nsx ow):=aC.1;have bH:Hd (DFr B P w (w6.drewN nq)):=HF6.o.two aC.2;go_wp2;refine bodyPost_end (results_none rfl _ _ _) rfl ?_;rw[aB.o];exact⟨rfl,fun d hh=>(by cases hh;exact dF.o),fun c' hh=>(by cases hh),bH.o⟩)
open Go.RowKit Go.Maps Go.WideMaps Go.Joins
def aec(r:Rs (List Tn))(w:World)(e:Ending)(w':World):Prop :=
 (∀ns,r=.ok ns->∃N c OV xs ks own m,e=.returned (.tuple #[.slice (some ⟨N,0,none⟩) ns.length c,.int .i64 0,.int .i64 0])/\DtD w' w.heap.size 0 ns m own (.slice (some ⟨N,0,none⟩) ns.length c) OV xs ks) ∧
 (∀c p,r=.error (c,p)->e=.returned (.tuple #[.slice none 0 0,.int .i64 c,.int .i64 (p:Nat)]))/\w.grownBy w' none
theorem Fq.cells{w:World}{B P R:Nat}{s:ByteArray}{now de:Nat}{e:Int × Nat}(h:Fq w B P R s now de e):w.cell? ⟨R,5,none⟩=some (.int .i64 e.1)/\w.cell? ⟨R,6,none⟩=some (.int .i64 (e.2:Nat))/\(e.1 == 0)=false/\(e.1 != 0)=true:=by
 obtain⟨L,O,⟨h1,j,h2,h3⟩,-⟩:=h;exact⟨h3.cells.2.2.2.2.2.1,h3.cells.2.2.2.2.2.2.1,by simpa using h1,by simpa using h1⟩
theorem aed(CH:NW)(s:ByteArray)(w:World)(h0:0<w.heap.size)(hmx:s.size<2 ^ 62) :
  Calls prog 12 #[.string s] w (aec (jy s.data.toList) w):=by
 have hl:s.data.toList.length=s.size:=by simp
 have HE:=He s.data.toList;rw[hl]at HE
 by_cases hbig:100000<s.size
 ·rw[if_pos hbig]at HE;rw[HE];have hb:(100000:Int)<(s.size:Int):=by omega
  clear HE hbig CH;go_enter func12,ntmps12;go_wp2;refine bodyPost_ret (results_tmp3 (t:=2) (u:=3) (v:=4) rfl _ _ _) rfl ?_;exact⟨fun ns hh=>(by cases hh),fun c p hh=>(by cases hh;rfl),ak _ _⟩
 ·rw[if_neg hbig]at HE;rw[HE];have hb:(s.size:Int)<=100000:=by omega
  have hs:s.size<=100000:=by omega
  have hgR:w.grownBy (w.alloc (.cells #[.string s,.int .i64 0,.slice none 0 0,.slice none 0 0,.int .i64 0,.int .i64 0,.int .i64 0,.int .i64 0] 74)) none:=World.grownBy_alloc _ _ none;have hR:=heap_alloc_new w (.cells #[.string s,.int .i64 0,.slice none 0 0,.slice none 0 0,.int .i64 0,.int .i64 0,.int .i64 0,.int .i64 0] 74);have VE:Hd (Ds (w.alloc (.cells #[.string s,.int .i64 0,.slice none 0 0,.slice none 0 0,.int .i64 0,.int .i64 0,.int .i64 0,.int .i64 0] 74)) w.heap.size s (.slice none 0 0) (.slice none 0 0) 0 0 (.ok 0)):=⟨by omega,hR⟩;have hsz1:(w.alloc (.cells #[.string s,.int .i64 0,.slice none 0 0,.slice none 0 0,.int .i64 0,.int .i64 0,.int .i64 0,.int .i64 0] 74)).heap.size=w.heap.size+1:=World.size_alloc _ _;obtain⟨B,hB⟩:=zN (w.heap.size);have CA:Hd (Calls prog 29 #[.pointer (some ⟨w.heap.size,0,none⟩),.int .i64 (-1),.agg #[.int .i64 0,.string ⟨#[]⟩,.string ⟨#[]⟩,.int .i64 0,.slice none 0 0,.int .i64 0]] (w.alloc (.cells #[.string s,.int .i64 0,.slice none 0 0,.slice none 0 0,.int .i64 0,.int .i64 0,.int .i64 0,.int .i64 0] 74)) fun e w'=>e=.returned (.int .i64 0)/\Dt w' B 0 w.heap.size s 0 0 (.ok 0) [⟨0,[],[],0,[],0⟩] []/\Below B w w'):=by
   refine(aa0 B 0 w.heap.size s 0 0 (.ok 0) _ VE.o (by omega) (by omega) (by omega)).mono ?_;rintro e w' ⟨rfl,a,b⟩;refine⟨rfl,a,?_⟩;have h1:=zU hgR;rw[hB]at h1;exact h1.trans b.bel
  have CL:Hd (∀d w',Dt w' B 0 B s d.now 0 (.ok d.i) d.ns d.own->Li s.data.toList d->Calls prog 30 #[.pointer (some ⟨B,0,none⟩)] w' (sQ B 0 B s d.now d.own (iF s.data.toList d) w')):=fun d w' h L=>aea CH B 0 B s d.now d.i d.ns d.own w' h (by omega) hs L
  have BM:Hd (∀d d',Li s.data.toList d->d.i<s.size->iF s.data.toList d=.ok d'->Li s.data.toList d'/\d.i<d'.i):=fun d d' a b c=>G9 s.data.toList d d' a (by omega) c
  obtain⟨S,hS⟩:=zN (jc s.data.toList (s.data.toList.length+1) ⟨0,[⟨0,[],[],0,[],0⟩],[],0⟩);have HS:Hd (jc s.data.toList (s.data.toList.length+1) ⟨0,[⟨0,[],[],0,[],0⟩],[],0⟩=S):=hS;rw[<-hl,hS];have dP:Hd (w.heap.size=B):=hB;have HST:Hd (Li s.data.toList ⟨0,[⟨0,[],[],0,[],0⟩],[],0⟩):=Dj _;have dD:Hd (∀f d,jc s.data.toList (f+1) d=if s.data.toList.length<=d.i then .ok d else match iF s.data.toList d with | .error e=>.error e | .ok d1=>jc s.data.toList f d1):=Ha _;clear HE hbig hS hB hR hgR VE hsz1 CH;go_enter func12,ntmps12;go_wp2_with (go_at_call 29;refine CA.o.mono ?_);rintro e w2 ⟨rfl,hd2,hb2⟩;rw[dP.o]at hd2 ⊢;have HD2:Hd (Dt w2 B 0 B s 0 0 (.ok 0) [⟨0,[],[],0,[],0⟩] []):=hd2;have HB2:Hd (Below B w w2):=hb2;clear hd2 hb2 CA;go_wp2;go_loopw [] (fun wr=>∃(q:Rs Sd) (f:Nat),(∀d,q=.ok d->Dt wr B 0 B s d.now 0 (.ok d.i) d.ns d.own/\Li s.data.toList d/\s.size-d.i<f/\jc s.data.toList f d=S)/\(∀c,q=.error c->(∃now,Fq wr B 0 B s now 0 c)/\S=.error c)/\Below B w wr) (fun wr=>dM wr B s)
  case atStart=>exact⟨.ok ⟨0,[⟨0,[],[],0,[],0⟩],[],0⟩,s.data.toList.length+1,fun d hd=>(by cases hd;exact⟨HD2.o,HST.o,by simp only[];omega,HS.o⟩),fun c hc=>(by cases hc),HB2.o⟩
  case round =>
   obtain⟨q,f,hok,her,hbe⟩:=hrel;have fP:Hd (Below B w wr):=hbe;clear hbe
   match q,hok,her with
   | .error c,_,her =>
    obtain⟨⟨now,hf⟩,hSe⟩:=her c rfl;obtain⟨c5,c6,z1,z2⟩:=hf.cells;have az:Hd (S=.error c):=hSe;obtain⟨x,hx⟩:=zN (c.1);obtain⟨y,hy⟩:=zN (c.2);have QA:Hd (c=(x,y)):=by show c=_;rw[<-hx,<-hy]
    rw[hx]at c5 z1 z2;rw[hy]at c6;clear hok her hf hSe hx hy;go_wp2;go_quiet (fail);go_wp2;refine bodyPost_ret (results_tmp3 (t:=2) (u:=3) (v:=4) rfl _ _ _) rfl ?_;rw[az.o,QA.o];refine⟨fun ns hh=>(by cases hh),fun c' p' hh=>?_,?_⟩
    ·have hh:(Except.error (x,y):Rs (List Tn))=.error (c',p'):=hh;injection hh with hh
     injection hh with e1 e2
     subst e1 e2;rfl
    ·have hb:=fP.o;rw[<-dP.o]at hb;exact au (Dk hb) _
   | .ok d,hok,_ =>
    obtain⟨hd,hL,hfu,hall⟩:=hok d rfl;obtain⟨f,rfl⟩:∃f',f=f'+1:=⟨f-1,by omega⟩;rw[dD.o]at hall;have HD:Hd (Dt wr B 0 B s d.now 0 (.ok d.i) d.ns d.own):=hd;have HM:Hd (dM wr B s=s.size-d.i+1):=Dn hd;obtain⟨-,c1,c5,-,-,hdi,-⟩:=hd.cells;have lN:=CL.o d wr hd hL;have NZ:=BM.o d;obtain⟨N,cc,O,oc,c2,-⟩:=hd.parts
    by_cases hlt:d.i<s.size
    ·rw[if_neg (by omega)]at hall;have afQ:((d.i:Nat):Int)<(s.size:Int):=by omega
     obtain⟨V,hV⟩:=zN (iF s.data.toList d);have Ii:Hd (∀d',V=.ok d'->Li s.data.toList d'/\d.i<d'.i):=fun d' hh=>NZ d' hL hlt (hV.trans hh)
     rw[hV]at hall lN;have zq:Hd (Calls prog 30 #[.pointer (some ⟨B,0,none⟩)] wr (sQ B 0 B s d.now d.own V wr)):=lN;have HAE:Hd (∀e,V=.error e->S=.error e):=fun e hh=>by rw[hh]at hall;exact hall.symm
     have HAO:Hd (∀d1,V=.ok d1->jc s.data.toList f d1=S):=fun d1 hh=>by rw[hh]at hall;exact hall
     clear hok her hd hL hall hV lN NZ c2;go_wp2_with (go_at_call 30;refine zq.o.mono ?_;rintro e w3 ⟨rfl,a1,a2,hf3⟩);refine⟨⟨V,f,fun d1 hh=>?_,fun c hh=>⟨a2 c hh,HAE.o c hh⟩,fP.o.trans hf3.bel⟩,?_⟩
     ·have:=Ii.o d1 hh;exact⟨a1 d1 hh,this.1,by omega,HAO.o d1 hh⟩
     ·rw[HM.o]
      match V,a1,a2,Ii with
      | .error c,_,a2,_ =>
       obtain⟨now,hf⟩:=a2 c rfl;rw[Nl hf];omega
      | .ok d1,a1,_,Ii =>
       have:=Ii.o d1 rfl;rw[Dn (a1 d1 rfl)];omega
    ·rw[if_pos (by omega)]at hall;have afR:¬((d.i:Nat):Int)<(s.size:Int):=by omega
     have afS:(s.size:Int)<=((d.i:Nat):Int):=by omega
     have az:Hd (S=.ok d):=hall.symm;obtain⟨x1,x2,N,cc,O,oc,xs,ks,x3,x4,x5,x6⟩:=HD.o;obtain⟨-,-,c2',-,-,-,-,-,-⟩:=x6.2.cells;have GU:Hd (DtD wr B 0 d.ns d.ns.length d.own (.slice (some ⟨N,0,none⟩) d.ns.length cc) (.slice (some ⟨O,0,none⟩) d.ns.length oc) xs ks):=x5;clear hok her hd hL hall lN NZ c2 x1 x2 x3 x4 x5 x6;go_wp2;refine bodyPost_ret (results_tmp3 (t:=2) (u:=3) (v:=4) rfl _ _ _) rfl ?_;rw[az.o];refine⟨fun ns hh=>?_,fun c p hh=>(by cases hh),?_⟩
     ·have hh:(Except.ok d.ns:Rs (List Tn))=.ok ns:=hh;injection hh with hh
      subst hh;rw[dP.o];exact⟨N,cc,_,xs,ks,d.own,_,rfl,GU.o⟩
     ·have hb:=fP.o;rw[<-dP.o]at hb;exact Dk hb
end Go.Proofs.YtnnbgjaphfhibaaGreatDoor
