import Derived.Test.YtiinliaoojfjaaaGreatDoorF07
import Derived.Test.YtiinliaoojfjaaaGreatDoorF09
import Derived.Test.YtiinliaoojfjaaaGreatDoorF10
import Derived.Test.YtiinliaoojfjaaaGreatDoorF06
import Derived.Lib.SmallJoins
import Derived.Test.YtiinliaoojfjaaaGreatDoorF05
set_option linter.all false
set_option maxRecDepth 100000
set_option maxHeartbeats 0
open Go.Proofs.Tryz
namespace Go.Proofs.YtiinliaoojfjaaaGreatDoor
open Go.RowKit
theorem KH{w:World}{A t:Nat}{s:Sp}(h:w.heap[A]?=some (.cells #[.int .i64 s.f1,.int .i64 s.f2,.int .i64 s.f3,.string s.f4,.string s.f5,.int .i64 s.t1,.int .i64 s.t2,.int .i64 s.t3,.string s.t4,.string s.t5,.bool s.o] t (0,0))):EltAt w ⟨A,0,none⟩ s :=
 ⟨by rw[ah h];rfl,by rw[ah h];rfl,by rw[ah h];rfl,by rw[ah h];rfl,by rw[ah h];rfl,by rw[ah h];rfl,by rw[ah h];rfl,by rw[ah h];rfl,by rw[ah h];rfl,by rw[ah h];rfl,by rw[ah h];rfl⟩
theorem abr(a:Addr)(cap:Nat)(L:List Sp)(w:World)(hL:L.length<2 ^ 62)(hcap:L.length<=cap)(h:SpAt w a L)(hsz:∀s∈L,jG s) :
  Calls prog 175 #[.slice (some a) L.length cap] w fun e w'=>e=.returned (.bool (L.all ik))/\w.grownBy w' none:=by
 have HA:=ae h;have HS:=ae hsz;clear h hsz;obtain⟨R,hR⟩:=zN (L.all ik);have HR:=ae hR;rw[hR];clear hR;go_enter func175,ntmps175;go_wp2;go_loopw [7] (fun vi wr=>∃i:Nat,vi=.int .i64 i/\i<=L.length/\(∀j (hj:j<L.length),j<i->ik L[j]=true)/\w.grownBy wr none) (fun vi _=>L.length-(intOf vi).toNat)
 case atStart=>exact⟨0,rfl,Nat.zero_le _,fun j hj h=>absurd h (by omega),ai _ _⟩
 case round =>
  obtain⟨i,rfl,hi,hp,hg⟩:=hrel;have HP:=ae hp;have HG:=ae hg;clear hp hg
  by_cases hlt:i<L.length
  ·obtain⟨s,hs⟩:=zN (L[i]);have HE:Hd (EltAt wr (a.add (i*11)) s):=by show EltAt wr _ s;rw[<-hs];exact(HA.o i hlt).grow HG.o
   have hm:jG s:=by rw[<-hs];exact HS.o _ (List.getElem_mem hlt)
   have lL:=ae hs;have CF:Hd (∀w,Calls prog 195 #[.agg #[.int .i64 s.f1,.int .i64 s.f2,.int .i64 s.f3,.string s.f4,.string s.f5]] w fun e w'=>e=.returned (.bool (kP (xA s)))/\w.grownBy w' none):=fun w=>RG s.f1 s.f2 s.f3 s.f4 s.f5 w (by have:=hm.1;omega) (by have:=hm.2.1;omega)
   have CT:Hd (∀w,Calls prog 195 #[.agg #[.int .i64 s.t1,.int .i64 s.t2,.int .i64 s.t3,.string s.t4,.string s.t5]] w fun e w'=>e=.returned (.bool (kP (xB s)))/\w.grownBy w' none):=fun w=>RG s.t1 s.t2 s.t3 s.t4 s.t5 w (by have:=hm.2.2.1;omega) (by have:=hm.2.2.2;omega)
   obtain⟨x,hx⟩:=zN (kP (xA s));obtain⟨y,hy⟩:=zN (kP (xB s));rw[hx]at CF;rw[hy]at CT;have gQ:Hd (ik s=(x && (s.o || y))):=by show ik s=_;unfold ik;rw[hx,hy]
   clear hx hy hm hs;obtain⟨e0,e1,e2,e3,e4,e5,e6,e7,e8,e9,e10⟩:=HE.o;go_wp2_with (go_at_call 195;refine(CF.o _).mono ?_);rintro e w1 ⟨rfl,hg⟩;obtain⟨N,hN⟩:=zN (wr.heap.size);have xI:Hd (EltAt w1 ⟨N,0,none⟩ s):=by
    refine EltAt.grow ?_ hg;rw[<-hN];exact KH (t:=203) (heap_alloc_new wr _)
   replace HG:=ae (ag (ak HG.o _) hg);rw[hN];clear hN hg e0 e1 e2 e3 e4 e5 e6 e7 e8 e9 e10;obtain⟨e0,e1,e2,e3,e4,e5,e6,e7,e8,e9,e10⟩:=xI.o;simp only[Nat.zero_add]at e1 e2 e3 e4 e5 e6 e7 e8 e9 e10;obtain⟨ob,hob⟩:=zN s.o;rw[hob]at e10 gQ;clear hob
   cases x with
   | false =>
    rw[Bool.false_and]at gQ;have lM:Hd (R=false):=by
     show R=false;rw[<-HR.o,List.all_eq_false];exact⟨L[i],List.getElem_mem hlt,by rw[lL.o,gQ.o];decide⟩
    clear gQ;go_wp2;go_ret;exact⟨bi lM.o.symm,HG.o⟩
   | true =>
    rw[Bool.true_and]at gQ
    cases ob with
    | true =>
     rw[Bool.true_or]at gQ;have HT:Hd (ik s=true):=by show ik s=true;rw[gQ.o]
     clear gQ;go_wp2;go_roundw
     case rel =>
      refine⟨i+1,by go_num,by omega,fun j hj hji=>?_,HG.o⟩
      by_cases hji':j<i
      ·exact HP.o j hj hji'
      ·have e:j=i:=by omega
       subst e;rw[lL.o];exact HT.o
     case measure=>simp[intOf];omega
    | false =>
     rw[Bool.false_or]at gQ;go_wp2_with (go_at_call 195;refine(CT.o _).mono ?_);rintro e w2 ⟨rfl,hg⟩;replace HG:=ae (ag HG.o hg);clear hg e0 e1 e2 e3 e4 e5 e6 e7 e8 e9 e10
     cases y with
     | true =>
      have HT:Hd (ik s=true):=by show ik s=true;rw[gQ.o]
      clear gQ;go_wp2;go_roundw
      case rel =>
       refine⟨i+1,by go_num,by omega,fun j hj hji=>?_,HG.o⟩
       by_cases hji':j<i
       ·exact HP.o j hj hji'
       ·have e:j=i:=by omega
        subst e;rw[lL.o];exact HT.o
      case measure=>simp[intOf];omega
     | false =>
      have lM:Hd (R=false):=by
       show R=false;rw[<-HR.o,List.all_eq_false];exact⟨L[i],List.getElem_mem hlt,by rw[lL.o,gQ.o];decide⟩
      clear gQ;go_wp2;go_ret;exact⟨bi lM.o.symm,HG.o⟩
  ·have rJ:Hd (R=true):=by
    show R=true;rw[<-HR.o,List.all_eq_true];intro t ht;obtain⟨j,hj,rfl⟩:=List.getElem_of_mem ht;exact HP.o j hj (by omega)
   clear hi;go_wp2;go_ret;exact⟨bi rJ.o.symm,HG.o⟩
theorem abt(w:World):Calls prog 175 #[.slice none 0 0] w fun e w'=>e=.returned (.bool true)/\w.grownBy w' none:=by
 go_enter func175,ntmps175;go_wp2;go_loopw [7] (fun vi wr=>vi=.int .i64 0/\w.grownBy wr none) (fun vi _=>0)
 case atStart=>exact⟨rfl,ai _ _⟩
 case round =>
  obtain⟨rfl,hg⟩:=hrel;have HG:=ae hg;clear hg;go_wp2;go_ret;exact⟨rfl,HG.o⟩
theorem abu(a:Addr)(cap:Nat)(L:List Sp)(v1 v2 v3:Int)(v4 v5:ByteArray)(w:World)(hL:L.length<2 ^ 62)(hcap:L.length<=cap)(h:SpAt w a L)(hsz:∀s∈L,jG s)(hv:v4.size<=1048576) :
  Calls prog 117 #[.slice (some a) L.length cap,.agg #[.int .i64 v1,.int .i64 v2,.int .i64 v3,.string v4,.string v5]] w fun e w'=>e=.returned (.bool (eU L ⟨v1,v2,v3,v4.data.toList⟩))/\w.grownBy w' none:=by
 have HA:=ae h;have HS:=ae hsz;have Sr:=ae hv;clear h hsz hv;obtain⟨v,hv⟩:∃v:V,v=⟨v1,v2,v3,v4.data.toList⟩:=⟨_,rfl⟩;have HV:=ae hv;rw[<-hv];obtain⟨R,hR⟩:=zN (eU L v);have HR:=ae hR;rw[hR];clear hR hv;go_enter func117,ntmps117;go_wp2;obtain⟨A,hA⟩:=zN (w.heap.size);obtain⟨W,hW⟩:=zN (w.alloc (.cells #[.int .i64 v1,.int .i64 v2,.int .i64 v3,.string v4,.string v5] 150));have mQ:Hd (w.grownBy W none):=by show w.grownBy W none;rw[<-hW];exact ak (ai w none) _
 have STv:Hd (St A v1 v2 v3 v4 v5 W):=by show St _ _ _ _ _ _ W;rw[<-hW,<-hA];exact yN (t:=150) (heap_alloc_new w _)
 try rw[hW]
 try rw[hA]
 clear hW hA;go_loopw [9] (fun vi wr=>∃i:Nat,vi=.int .i64 i/\i<=L.length/\(∀j (hj:j<L.length),j<i->vH L[j] v=false)/\W.grownBy wr none) (fun vi _=>L.length-(intOf vi).toNat)
 case atStart=>exact⟨0,rfl,Nat.zero_le _,fun j hj h=>absurd h (by omega),ai _ _⟩
 case round =>
  obtain⟨i,rfl,hi,hp,hg⟩:=hrel;have HP:=ae hp;have HG:=ae hg;have STr:=ae (STv.o.grow hg);clear hp hg
  by_cases hlt:i<L.length
  ·obtain⟨s,hs⟩:=zN (L[i]);have HE:Hd (EltAt wr (a.add (i*11)) s):=by show EltAt wr _ s;rw[<-hs];exact((HA.o i hlt).grow mQ.o).grow HG.o
   have hm:jG s:=by rw[<-hs];exact HS.o _ (List.getElem_mem hlt)
   have lL:=ae hs;obtain⟨x,hx⟩:=zN (aB v (vG s));obtain⟨y,hy⟩:=zN (aB v (xC s));have CF:Hd (∀w,Calls prog 122 #[.agg #[.int .i64 v1,.int .i64 v2,.int .i64 v3,.string v4,.string v5],.agg #[.int .i64 s.f1,.int .i64 s.f2,.int .i64 s.f3,.string s.f4,.string s.f5]] w fun e w'=>e=.returned (.int .i64 x)/\w.grownBy w' none):=fun w=>by
    rw[<-hx,HV.o];exact compare_any v1 v2 v3 s.f1 s.f2 s.f3 v4 v5 s.f4 s.f5 w (by have:=Sr.o;omega) (by have:=hm.1;omega)
   have CT:Hd (∀w,Calls prog 122 #[.agg #[.int .i64 v1,.int .i64 v2,.int .i64 v3,.string v4,.string v5],.agg #[.int .i64 s.t1,.int .i64 s.t2,.int .i64 s.t3,.string s.t4,.string s.t5]] w fun e w'=>e=.returned (.int .i64 y)/\w.grownBy w' none):=fun w=>by
    rw[<-hy,HV.o];exact compare_any v1 v2 v3 s.t1 s.t2 s.t3 v4 v5 s.t4 s.t5 w (by have:=Sr.o;omega) (by have:=hm.2.2.1;omega)
   have gQ:Hd (vH s v=(decide (0<=x) && (s.o || decide (y<0)))):=by
    show vH s v=_;unfold vH;have:=xu.anti v (vG s);rw[hx]at this;rw[this,hy];congr 1;rw[Bool.eq_iff_iff];simp
   clear hm hs hx hy;obtain⟨e0,e1,e2,e3,e4,e5,e6,e7,e8,e9,e10⟩:=HE.o;obtain⟨N,hN⟩:=zN (wr.heap.size);obtain⟨W2,hW2⟩:=zN (wr.alloc (.cells #[.int .i64 s.f1,.int .i64 s.f2,.int .i64 s.f3,.string s.f4,.string s.f5,.int .i64 s.t1,.int .i64 s.t2,.int .i64 s.t3,.string s.t4,.string s.t5,.bool s.o] 203));have hg2:wr.grownBy W2 none:=by rw[<-hW2];exact ak (ai wr none) _
   have HE2:Hd (EltAt W2 ⟨N,0,none⟩ s):=by
    show EltAt W2 _ s;rw[<-hN,<-hW2];exact KH (t:=203) (heap_alloc_new wr _)
   replace STr:=ae (STr.o.grow hg2);replace HG:=ae (ag HG.o hg2);clear hg2;obtain⟨s1,s2,s3,s4,s5⟩:=STr.o;obtain⟨d0,d1,d2,d3,d4,d5,d6,d7,d8,d9,d10⟩:=HE2.o;simp only[Nat.zero_add]at d1 d2 d3 d4 d5 d6 d7 d8 d9 d10;go_wp2_with (go_at_call 122;refine(CF.o _).mono ?_);rintro e w1 ⟨rfl,hg⟩;have xI:=ae (HE2.o.grow hg);replace STr:=ae (STr.o.grow hg);replace HG:=ae (ag HG.o hg)
   try rw[hN]
   clear hN hW2 hg e0 e1 e2 e3 e4 e5 e6 e7 e8 e9 e10 s1 s2 s3 s4 s5 d0 d1 d2 d3 d4 d5 d6 d7 d8 d9 d10;obtain⟨e0,e1,e2,e3,e4,e5,e6,e7,e8,e9,e10⟩:=xI.o;simp only[Nat.zero_add]at e1 e2 e3 e4 e5 e6 e7 e8 e9 e10;obtain⟨s1,s2,s3,s4,s5⟩:=STr.o;obtain⟨ob,hob⟩:=zN s.o;rw[hob]at e10 gQ;clear hob
   by_cases hx0:0<=x
   ·rw[decide_eq_true hx0,Bool.true_and]at gQ
    cases ob with
    | true =>
     rw[Bool.true_or]at gQ;have rJ:Hd (R=true):=by
      show R=true;rw[<-HR.o];unfold eU;rw[List.any_eq_true];exact⟨L[i],List.getElem_mem hlt,by rw[lL.o];exact gQ.o⟩
     go_wp2;go_ret;exact⟨bi rJ.o.symm,ag mQ.o HG.o⟩
    | false =>
     rw[Bool.false_or]at gQ;go_wp2_with (go_at_call 122;refine(CT.o _).mono ?_);rintro e w2 ⟨rfl,hg⟩;replace HG:=ae (ag HG.o hg);clear hg e0 e1 e2 e3 e4 e5 e6 e7 e8 e9 e10 s1 s2 s3 s4 s5
     by_cases hy0:y<0
     ·rw[decide_eq_true hy0]at gQ;have rJ:Hd (R=true):=by
       show R=true;rw[<-HR.o];unfold eU;rw[List.any_eq_true];exact⟨L[i],List.getElem_mem hlt,by rw[lL.o];exact gQ.o⟩
      go_wp2;go_ret;exact⟨bi rJ.o.symm,ag mQ.o HG.o⟩
     ·rw[decide_eq_false hy0]at gQ;go_wp2;go_roundw
      case rel =>
       refine⟨i+1,by go_num,by omega,fun j hj hji=>?_,HG.o⟩
       by_cases hji':j<i
       ·exact HP.o j hj hji'
       ·have e:j=i:=by omega
        subst e;rw[lL.o];exact gQ.o
      case measure=>simp[intOf];omega
   ·rw[decide_eq_false hx0,Bool.false_and]at gQ;go_wp2;go_roundw
    case rel =>
     refine⟨i+1,by go_num,by omega,fun j hj hji=>?_,HG.o⟩
     by_cases hji':j<i
     ·exact HP.o j hj hji'
     ·have e:j=i:=by omega
      subst e;rw[lL.o];exact gQ.o
    case measure=>simp[intOf];omega
  ·have lM:Hd (R=false):=by
    show R=false;rw[<-HR.o];unfold eU;rw[List.any_eq_false];intro t ht;obtain⟨j,hj,rfl⟩:=List.getElem_of_mem ht;rw[HP.o j hj (by omega)];decide
   clear hi;go_wp2;go_ret;exact⟨bi lM.o.symm,ag mQ.o HG.o⟩
theorem abv(v1 v2 v3:Int)(v4 v5:ByteArray)(w:World):Calls prog 117 #[.slice none 0 0,.agg #[.int .i64 v1,.int .i64 v2,.int .i64 v3,.string v4,.string v5]] w fun e w'=>e=.returned (.bool false)/\w.grownBy w' none:=by
 go_enter func117,ntmps117;go_wp2;go_loopw [9] (fun vi wr=>vi=.int .i64 0/\w.grownBy wr none) (fun vi _=>0)
 case atStart=>exact⟨rfl,ak (ai _ _) _⟩
 case round =>
  obtain⟨rfl,hg⟩:=hrel;have HG:=ae hg;clear hg;go_wp2;go_ret;exact⟨rfl,HG.o⟩
open Go.RowKit
theorem Su:(prog.info? 203).map (fun i=>(i.zero,i.size,i.bytes))=some (some (.agg #[.int .i64 0,.int .i64 0,.int .i64 0,.string ⟨#[]⟩,.string ⟨#[]⟩,.int .i64 0,.int .i64 0,.int .i64 0,.string ⟨#[]⟩,.string ⟨#[]⟩,.bool false]),11,120):=by kernel_rfl
theorem rM{w w':World}{base:Nat}{e:TypeId}{size:Nat}{v:Value}{n:Nat}{xs:List Value}(h:w.ownsRow base e size v n xs)(hg:w.grownBy w' none):w'.ownsRow base e size v n xs :=
 h.kept hg (by cases v.ownBlock<;>simp)
theorem Sv(s:Sp):∀u∈fP s,u.oneCell'=true:=by
 intro u hu;simp only[fP,List.mem_cons,List.not_mem_nil,or_false]at hu
 rcases hu with rfl|rfl|rfl|rfl|rfl|rfl|rfl|rfl|rfl|rfl|rfl<;>rfl
theorem cell_lt{w:World}{a:Addr}{v:Value}(h:w.cell? a=some v):a.block<w.heap.size:=by
 unfold World.cell? at h
 cases hb:w.heap[a.block]? with
 | none=>rw[hb]at h;simp at h
 | some o=>exact(aC hb)
theorem abw{B:Nat}{a w w':World}(h:Below B a w)(hB:B<=w.heap.size)(hg:w.grownBy w' none):Below B a w' :=
 ⟨hg.os.trans h.os,hg.tape.trans h.tape,hg.output.trans h.output,Nat.le_trans h.size hg.size,fun k hk=>(hg.block k (Nat.lt_of_lt_of_le hk hB) (by simp)).trans (h.block k hk)⟩
open Go.RowKit
def SpS(w:World)(sl:Value)(L:List Sp):Prop:=(sl=.slice none 0 0/\L=[])\/∃a cap,sl=.slice (some a) L.length cap/\L.length<=cap/\SpAt w a L
theorem SpS.grow{w w':World}{sl:Value}{L:List Sp}(h:SpS w sl L)(hg:w.grownBy w' none):SpS w' sl L:=by
 rcases h with h|⟨a,cap,h1,h2,h3⟩
 ·exact Or.inl h
 ·exact Or.inr ⟨a,cap,h1,h2,h3.grow hg⟩
theorem flat_get(L:List Sp):∀(i:Nat) (hi:i<L.length) (k:Nat) (v:Value),(fP L[i])[k]?=some v->(L.flatMap fP)[i*11+k]?=some v:=by
 induction L with
 | nil=>intro i hi;simp at hi
 | cons s L ih =>
  intro i hi k v h;rw[List.flatMap_cons];have hl:(fP s).length=11:=rfl
  cases i with
  | zero =>
   simp only[List.getElem_cons_zero]at h;have hk:=(List.getElem?_eq_some_iff.1 h).1;rw[Nat.zero_mul,Nat.zero_add,List.getElem?_append_left hk];exact h
  | succ i =>
   simp only[List.getElem_cons_succ]at h;rw[List.getElem?_append_right (by rw[hl];omega),hl,show(i+1)*11+k-11=i*11+k by omega];exact ih i (by simpa using hi) k v h
theorem Sz{w:World}{base:Nat}{v:Value}{L:List Sp}(h:w.ownsRow base 203 11 v L.length (L.flatMap fP)):SpS w v L:=by
 rcases h.2 with⟨h1,h2⟩|⟨g,cap,cur,h1,hb,hg,hn,hm,hs,ht⟩
 ·exact Or.inl ⟨h1,List.length_eq_zero_iff.1 h2⟩
 ·refine Or.inr ⟨⟨g,0,none⟩,cap,h1,hn,fun i hi=>aaL fun k u hu=>?_⟩;have:=flat_get L i hi k u hu;exact h.cells (g:=g) (by rw[h1];rfl) (i*11+k) u this
theorem abx(sl:Value)(L:List Sp)(w:World)(h:SpS w sl L)(hL:L.length<=1048576)(hsz:∀s∈L,jG s) :
  Calls prog 175 #[sl] w fun e w'=>e=.returned (.bool (L.all ik))/\w.grownBy w' none:=by
 rcases h with⟨rfl,rfl⟩|⟨a,cap,rfl,h2,h3⟩
 ·exact abt w
 ·exact abr a cap L w (by omega) h2 h3 hsz
open Go.RowKit
theorem aby(sl:Value)(L:List Sp)(v1 v2 v3:Int)(v4 v5:ByteArray)(w:World)(h:SpS w sl L)(hL:L.length<=4194304)(hsz:∀s∈L,jG s)(hv:v4.size<=1048576) :
  Calls prog 117 #[sl,.agg #[.int .i64 v1,.int .i64 v2,.int .i64 v3,.string v4,.string v5]] w fun e w'=>e=.returned (.bool (eU L ⟨v1,v2,v3,v4.data.toList⟩))/\w.grownBy w' none:=by
 rcases h with⟨rfl,rfl⟩|⟨a,cap,rfl,h2,h3⟩
 ·exact abv v1 v2 v3 v4 v5 w
 ·exact abu a cap L v1 v2 v3 v4 v5 w (by omega) h2 h3 hsz hv
open Go.RowKit
theorem abz(x y:Int)(w:World):Calls prog 150 #[.int .i64 x,.int .i64 y] w fun e w'=>e=.returned (.bool (decide (0<x)))/\w'=w:=by
 go_enter func150,ntmps150;go_wp2;go_ret;exact⟨rfl,rfl⟩
theorem abA(x y:Int)(w:World):Calls prog 194 #[.int .i64 x,.int .i64 y] w fun e w'=>e=.returned (.bool (decide (x=y)))/\w'=w:=by
 go_enter func194,ntmps194;go_wp2;go_ret;exact⟨bi (by rw[Bool.eq_iff_iff];simp),rfl⟩
theorem abB(g o:Nat)(x d:Int)(w:World)(h:w.cell? ⟨g,o,none⟩=some (.int .i64 x))(hf:w.frozen? ⟨g,o,none⟩=false)(h1:-4611686018427387904<=x/\x<=4611686018427387904)(h2:-1<=d/\d<=1) :
  Calls prog 177 #[.pointer (some ⟨g,o,none⟩),.int .i64 d] w fun e w'=>e=.returned (.int .i64 (min (x+d) 1-min x 1))/\w'=w.setCell ⟨g,o,none⟩ (.int .i64 (x+d)):=by
 have r1:IntKind.i64.wrap (x+d)=x+d:=by rw[IntKind.wrap_i64];omega
 have r2:IntKind.i64.wrap (min (x+d) 1-min x 1)=min (x+d) 1-min x 1:=by rw[IntKind.wrap_i64];omega
 go_enter func177,ntmps177;go_wp2;go_ret;exact⟨rfl,rfl⟩
theorem SC(a1 a2 a3:Int)(a4 a5:ByteArray)(w:World)(hs:a4.size<=281474976710656) :
  Calls prog 178 #[.agg #[.int .i64 a1,.int .i64 a2,.int .i64 a3,.string a4,.string a5]] w fun e w'=>e=.returned (.agg #[.int .i64 a1,.int .i64 a2,.int .i64 a3,.string a4,.string ⟨#[]⟩])/\w.grownBy w' none:=by
 have CC:=ae (fun w=>clone_any a4 w hs);clear hs;go_enter func178,ntmps178;go_wp2_with (go_at_call 182;refine(CC.o _).mono ?_);rintro e w1 ⟨rfl,hg⟩;obtain⟨A,hA⟩:=zN (w.heap.size);have jU:Hd (VX A a1 a2 a3 a4 a5 w1):=by
  show w1.heap[A]?=_;rw[hg.block A (by rw[<-hA];simp;omega) (by simp),<-hA,Lib.alloc_old _ _ _ (by simp)];exact heap_alloc_new w _
 have HXB:Hd (VX (A+1) 0 0 0 ⟨#[]⟩ ⟨#[]⟩ w1):=by
  show w1.heap[A+1]?=_;rw[hg.block (A+1) (by rw[<-hA];simp) (by simp)];have:=heap_alloc_new (w.alloc (.cells #[.int .i64 a1,.int .i64 a2,.int .i64 a3,.string a4,.string a5] 150)) (.cells #[.int .i64 0,.int .i64 0,.int .i64 0,.string ⟨#[]⟩,.string ⟨#[]⟩] 150);rw[<-hA];simpa using this
 have HG:=ae (ag (ak (ak (ai w none) _) _) hg);have oN:=ae (Nat.le_of_eq hA);rw[hA];clear hA hg;obtain⟨v0,v1,v2,v3,v4⟩:=jU.o.cells;have vf:=jU.o.f;obtain⟨u0,u1,u2,u3,u4⟩:=HXB.o.cells;have uf:=HXB.o.f;go_wp2;have hB:VX (A+1) 0 0 0 ⟨#[]⟩ ⟨#[]⟩ ((w1.setCell ⟨A,3,none⟩ (.string a4)).setCell ⟨A,4,none⟩ (.string ⟨#[]⟩)):=(HXB.o.other (by omega) _ _).other (by omega) _ _;refine bodyPost_ret (results_cell_row rfl _ _ (A+1) 150 #[.int .i64 a1,.int .i64 a2,.int .i64 a3,.string a4,.string ⟨#[]⟩] (0,0) _ rfl (G7 hB a1 a2 a3 a4 ⟨#[]⟩) underlying150 rfl (by kernel_rfl)) rfl ⟨rfl,?_⟩;have h0:=oN.o;exact qM (jR (jR HG.o h0 _ _) h0 _ _) (by omega) a1 a2 a3 a4 ⟨#[]⟩
open Go.RowKit
structure Er where
 a1:Int
 a2:Int
 a3:Int
 a4:ByteArray
 a5:ByteArray
 l:Nat
 d:Int
instance:Inhabited Er:=⟨⟨0,0,0,⟨#[]⟩,⟨#[]⟩,0,0⟩⟩
def iM(e:Er):List Value:=[.int .i64 e.a1,.int .i64 e.a2,.int .i64 e.a3,.string e.a4,.string e.a5,.int .i64 e.l,.int .i64 e.d]
def aS(e:Er):Ed:=⟨⟨e.a1,e.a2,e.a3,e.a4.data.toList⟩,e.l,e.d⟩
def vJ(s:Sp):Sg:=⟨vG s,xC s,s.o⟩
def xJ(k:Nat)(s:Sp):Er:=⟨s.f1,s.f2,s.f3,s.f4,s.f5,k,1⟩
def Ho(k:Nat)(s:Sp):Er:=⟨s.t1,s.t2,s.t3,s.t4,s.t5,k,-1⟩
def dO(k:Nat)(s:Sp):List Er:=if s.o=true then[xJ k s] else if aB (vG s) (xC s)<0 then[xJ k s,Ho k s] else[]
def dQ:Nat->List (List Sp)->List Er
 | _,[]=>[]
 | k,l :: Ls=>l.flatMap (dO k)++dQ (k+1) Ls
theorem abC(k:Nat)(s:Sp):(dO k s).map aS=AL k (vJ s):=by
 unfold dO AL vJ;simp only;split
 ·rfl
 ·split<;>rfl
theorem SE:∀(Ls:List (List Sp)) (k:Nat),(dQ k Ls).map aS=xw k (Ls.map (·.map vJ))
 | [],k=>rfl
 | l :: Ls,k=>by
  rw[dQ,List.map_append,List.map_cons,xw,SE Ls (k+1)];congr 1
  induction l with
  | nil=>rfl
  | cons s l ih=>rw[List.flatMap_cons,List.map_append,List.map_cons,List.flatMap_cons,ih,abC]
theorem abD(k:Nat)(s:Sp):(dO k s).length<=2:=by
 unfold dO;split
 ·simp
 ·split<;>simp
theorem A8(k:Nat)(l:List Sp):(l.flatMap (dO k)).length<=2*l.length:=by
 induction l with
 | nil=>simp
 | cons s l ih=>rw[List.flatMap_cons,List.length_append,List.length_cons];have:=abD k s;omega
theorem abE:(prog.info? 261).map (fun i=>(i.zero,i.size,i.bytes))=some (some (.agg #[.int .i64 0,.int .i64 0,.int .i64 0,.string ⟨#[]⟩,.string ⟨#[]⟩,.int .i64 0,.int .i64 0]),7,72):=by kernel_rfl
def Lists(w:World)(a:Addr)(Ls:List (List Sp)):Prop:=∀j (hj:j<Ls.length),∃sl,w.cell? (a.add j)=some sl/\SpS w sl Ls[j]
theorem Lists.grow{w w':World}{a:Addr}{Ls:List (List Sp)}(h:Lists w a Ls)(hg:w.grownBy w' none):Lists w' a Ls:=fun j hj=>by
 obtain⟨sl,h1,h2⟩:=h j hj;exact⟨sl,hg.cell h1 (by simp),h2.grow hg⟩
theorem SG:∀(A:List (List Sp)) (k:Nat) (l:List Sp),dQ k (A++[l])=dQ k A++l.flatMap (dO (k+A.length))
 | [],k,l=>by simp[dQ]
 | b :: A,k,l=>by
  rw[List.cons_append,dQ,SG A (k+1) l,dQ,List.append_assoc,List.length_cons,show k+1+A.length=k+(A.length+1) by omega]
theorem Hq(e:Er):∀u∈iM e,u.oneCell'=true:=by
 intro u hu;simp only[iM,List.mem_cons,List.not_mem_nil,or_false]at hu
 rcases hu with rfl|rfl|rfl|rfl|rfl|rfl|rfl<;>rfl
theorem abG(e f:Er):∀u∈iM e++iM f,u.oneCell'=true:=fun u hu=>by
 rcases List.mem_append.1 hu with h|h
 ·exact Hq e u h
 ·exact Hq f u h
def yU(w:World)(E:List Er)(ve:Value)(wr:World):Prop:=wr.ownsRow w.heap.size 261 7 ve E.length (E.flatMap iM)/\Below w.heap.size w wr
def SH(Ls:List (List Sp))(w:World)(e:Ending)(w':World):Prop:=∃(ve:Value) (E:List Er),e=.returned ve/\E.Perm (dQ 0 Ls)/\qK (E.map aS)/\w'.ownsRow w.heap.size 261 7 ve E.length (E.flatMap iM)/\Below w.heap.size w w'
def Ey:Prop:=∀(ve:Value) (E:List Er) (base:Nat) (w:World),w.ownsRow base 261 7 ve E.length (E.flatMap iM)->E.length<=8388608->(∀e∈E,e.a4.size<=1048576) →
 Calls prog 196 #[ve,.func (.func 197) #[] #[]] w fun e w'=>e=.returned (.tuple #[])/\∃E':List Er,E'.Perm E/\qK (E'.map aS)/\w'.ownsRow base 261 7 ve E'.length (E'.flatMap iM)/\w.grownBy w' ve.ownBlock
theorem KI(Ls:List (List Sp))(h:∀l∈Ls,l.length<=1048576/\∀s∈l,jG s):∀(k:Nat),∀e∈dQ k Ls,e.a4.size<=1048576:=by
 induction Ls with
 | nil=>intro k e he;simp[dQ]at he
 | cons l Ls ih =>
  intro k e he;rw[dQ]at he
  rcases List.mem_append.1 he with he|he
  ·obtain⟨s,hs,he⟩:=List.mem_flatMap.1 he;have hm:=(h l (by simp)).2 s hs;unfold dO at he;split at he
   ·simp at he;rw[he];exact hm.1
   ·split at he
    ·simp at he
     rcases he with rfl|rfl
     ·exact hm.1
     ·exact hm.2.2.1
    ·simp at he
  ·exact ih (fun l' hl'=>h l' (by simp[hl'])) (k+1) e he
theorem abH{w w':World}{a:Addr}{L:List Sp}(h:SpAt w a L)(hb:Below w.heap.size w w'):SpAt w' a L:=h.grow ⟨hb.os,hb.tape,hb.output,hb.size,fun k hk _=>hb.block k hk⟩
theorem abI(hsort:Ey)(a:Addr)(n cap:Nat)(Ls:List (List Sp))(w:World)(hn:Ls.length=n)(hcap:n<=cap)(hn2:n<=2)(h:Lists w a Ls)(hsz:∀l∈Ls,l.length<=1048576/\∀s∈l,jG s) :
  Calls prog 176 #[.slice (some a) n cap] w (SH Ls w):=by
 have hinfo:=abE;obtain⟨i0,hi0,hii⟩:=Option.map_eq_some_iff.1 hinfo;simp only[Prod.mk.injEq]at hii;obtain⟨hz0,hz1,hzb⟩:=hii;clear hinfo;have HA:=ae h;have HS:=ae hsz;have HN:=ae hn;clear h hsz hn;go_enter func176,ntmps176;go_wp2;go_loopw [3,10] (fun ve vi wr=>∃j:Nat,vi=.int .i64 j/\j<=n/\(dQ 0 (Ls.take j)).length<=2097152*j/\yU w (dQ 0 (Ls.take j)) ve wr) (fun _ vi _=>n-(intOf vi).toNat)
 case atStart=>exact⟨0,rfl,Nat.zero_le _,by simp[dQ],World.ownsRow_nil _ _ _ _,Below.refl _ _⟩
 case round =>
  obtain⟨j,rfl,hj,hlen,hown,hb⟩:=hrel
  by_cases hlt:j<n
  ·have hjl:j<Ls.length:=by rw[HN.o];exact hlt
   obtain⟨sl,hcell,hsp⟩:=HA.o j hjl;have gW:w.grownBy wr none:=⟨hb.os,hb.tape,hb.output,hb.size,fun k hk _=>hb.block k hk⟩;have cj:=gW.cell hcell (by simp);obtain⟨l,hl⟩:=zN (Ls[j]);rw[hl]at hsp;have Hr:Hd (l.length<=1048576/\∀s∈l,jG s):=by rw[<-hl];exact HS.o _ (List.getElem_mem hjl)
   have bC:Hd (dQ 0 (Ls.take (j+1))=dQ 0 (Ls.take j)++l.flatMap (dO j)):=by
    show dQ 0 _=_;rw[List.take_succ_eq_append_getElem hjl,SG,hl,List.length_take,Nat.min_eq_left (Nat.le_of_lt hjl),Nat.zero_add]
   obtain⟨E0,hE0⟩:=zN (dQ 0 (Ls.take j));rw[hE0]at bC hlen hown;have Ht:=ae hlen;have HO:Hd (yU w E0 u3 wr):=⟨hown,hb⟩;have kQ:=ae hsp;clear hE0 hl hcell hlen hown hb hsp gW;have NEXT:Hd (∀ve wk,yU w (E0++l.flatMap (dO j)) ve wk->j+1<=n/\(dQ 0 (Ls.take (j+1))).length<=2097152*(j+1)/\yU w (dQ 0 (Ls.take (j+1))) ve wk):=by
    intro ve wk h;rw[bC.o];refine⟨by omega,?_,h⟩;have q1:=Ht.o;have q2:=A8 j l;have q3:=Hr.o.1;rw[List.length_append];omega
   rcases kQ.o with⟨rfl,hnil⟩|⟨a',cap',rfl,hc',hat⟩
   ·have HNI:=ae hnil;clear hnil;go_wp2;go_loopw [3,17] (fun ve vi wk=>vi=.int .i64 0/\yU w E0 ve wk) (fun _ vi _=>0)
    case atStart=>exact⟨rfl,HO.o⟩
    case round =>
     obtain⟨rfl,hO⟩:=hrel;have KJ:=ae hO;clear hO;go_wp2;go_roundw
     case rel =>
      have:=NEXT.o u3 wr (by rw[HNI.o];simpa using KJ.o);exact⟨j+1,by go_num,this.1,this.2.1,this.2.2⟩
     case measure=>simp[intOf];omega
   ·have HAT:=ae hat;clear hat;go_wp2;go_loopw [3,17] (fun ve vi wk=>∃k:Nat,vi=.int .i64 k/\k<=l.length/\yU w (E0++(l.take k).flatMap (dO j)) ve wk) (fun _ vi _=>l.length-(intOf vi).toNat)
    case atStart=>exact⟨0,rfl,Nat.zero_le _,by simpa using HO.o⟩
    case round =>
     obtain⟨k,rfl,hk,hown,hb⟩:=hrel
     by_cases hkl:k<l.length
     ·obtain⟨s,hs⟩:=zN (l[k]);have ajS:=Hr.o.1;have HE:Hd (EltAt wr (a'.add (k*11)) s):=by show EltAt wr _ s;rw[<-hs];exact(abH HAT.o hb) k hkl
      have hm:jG s:=by rw[<-hs];exact Hr.o.2 _ (List.getElem_mem hkl)
      have iU:Hd ((l.take (k+1)).flatMap (dO j)=(l.take k).flatMap (dO j)++dO j s):=by
       show _=_;rw[List.take_succ_eq_append_getElem hkl,List.flatMap_append,hs];simp
      have HLEN:Hd ((E0++(l.take k).flatMap (dO j)).length+2<=8388608):=by
       show _<=_;have q1:=Ht.o;have q2:=A8 j (l.take k);have q3:=Hr.o.1;rw[List.length_append];rw[List.length_take]at q2;omega
      obtain⟨x,hx⟩:=zN (aB (vG s) (xC s));have CF:Hd (∀w,Calls prog 122 #[.agg #[.int .i64 s.f1,.int .i64 s.f2,.int .i64 s.f3,.string s.f4,.string s.f5],.agg #[.int .i64 s.t1,.int .i64 s.t2,.int .i64 s.t3,.string s.t4,.string s.t5]] w fun e w'=>e=.returned (.int .i64 x)/\w.grownBy w' none):=fun w=>by
       rw[<-hx];exact compare_any s.f1 s.f2 s.f3 s.t1 s.t2 s.t3 s.f4 s.f5 s.t4 s.t5 w (by have:=hm.1;omega) (by have:=hm.2.2.1;omega)
      have HX:=ae hx;obtain⟨e0,e1,e2,e3,e4,e5,e6,e7,e8,e9,e10⟩:=HE.o;obtain⟨N,hN⟩:=zN (wr.heap.size);obtain⟨W2,hW2⟩:=zN (wr.alloc (.cells #[.int .i64 s.f1,.int .i64 s.f2,.int .i64 s.f3,.string s.f4,.string s.f5,.int .i64 s.t1,.int .i64 s.t2,.int .i64 s.t3,.string s.t4,.string s.t5,.bool s.o] 203));have HE2:Hd (EltAt W2 ⟨N,0,none⟩ s):=by
       show EltAt W2 _ s;rw[<-hN,<-hW2];exact KH (t:=203) (heap_alloc_new wr _)
      have cZ:Hd (W2.ownsRow w.heap.size 261 7 u3 (E0++(l.take k).flatMap (dO j)).length ((E0++(l.take k).flatMap (dO j)).flatMap iM)):=by show World.ownsRow _ _ _ _ _ _ _;rw[<-hW2];exact hown.alloc _
      have HB2:Hd (Below w.heap.size w W2):=by show Below _ _ _;rw[<-hW2];exact hb.alloc hb.size _
      clear hx hm hs hown hb;obtain⟨d0,d1,d2,d3,d4,d5,d6,d7,d8,d9,d10⟩:=HE2.o;simp only[Nat.zero_add]at d1 d2 d3 d4 d5 d6 d7 d8 d9 d10
      cases ho:s.o with
      | true =>
       have Ez:Hd (dO j s=[xJ j s]):=by show dO j s=_;unfold dO;rw[if_pos ho]
       rw[ho]at d10;clear ho;go_wp2_with (first|(at_builtin;refine wpList_append_own _ rfl _ _ 258 rfl w.heap.size 261 i0 (.agg #[.int .i64 0,.int .i64 0,.int .i64 0,.string ⟨#[]⟩,.string ⟨#[]⟩,.int .i64 0,.int .i64 0]) 7 72 underlying258 hi0 hz0 hz1 hzb rfl (by decide) _ _ _ rfl (cZ.o.alloc _) _ 1 1 (iM (xJ j s)) rfl rfl (World.news_of_block (heap_alloc_new _ _)) (Hq _) (by unfold maxLen;have:=HLEN.o;omega) (by have:=HLEN.o;omega) (by have:=HB2.o.size;simp;omega) ?_;intro v' w3 hown3 hgrow _));have hb3:=(HB2.o.alloc (HB2.o.size) _).grown hgrow (by have:=HB2.o.size;simp;omega) (fun q hq=>(cZ.o.lt q hq).1);have hl3:(E0++(l.take (k+1)).flatMap (dO j))=(E0++(l.take k).flatMap (dO j))++dO j s:=by rw[iU.o,List.append_assoc]
       refine⟨⟨k+1,by go_num,by omega,?_,hb3⟩,by simp[intOf];omega⟩;rw[hl3,Ez.o,List.length_append,List.flatMap_append];simpa using hown3
      | false =>
       rw[ho]at d10;have Ba:=ae ho;clear ho;go_wp2_with (go_at_call 122;refine(CF.o _).mono ?_);rintro e w1 ⟨rfl,hg⟩;have yV:=ae (HE2.o.grow hg);have jl:=ae (rM cZ.o hg);have HB3:=ae (abw HB2.o HB2.o.size hg)
       try rw[hN]
       clear hN hW2 hg e0 e1 e2 e3 e4 e5 e6 e7 e8 e9 e10 d0 d1 d2 d3 d4 d5 d6 d7 d8 d9 d10;obtain⟨d0,d1,d2,d3,d4,d5,d6,d7,d8,d9,d10⟩:=yV.o;simp only[Nat.zero_add]at d1 d2 d3 d4 d5 d6 d7 d8 d9 d10
       by_cases hx0:x<0
       ·have Ez:Hd (dO j s=[xJ j s,Ho j s]):=by
         show dO j s=_;unfold dO;rw[if_neg (by rw[Ba.o];decide),if_pos (by rw[HX.o];exact hx0)]
        go_wp2_with (first|(at_builtin;refine wpList_append_own _ rfl _ _ 258 rfl w.heap.size 261 i0 (.agg #[.int .i64 0,.int .i64 0,.int .i64 0,.string ⟨#[]⟩,.string ⟨#[]⟩,.int .i64 0,.int .i64 0]) 7 72 underlying258 hi0 hz0 hz1 hzb rfl (by decide) _ _ _ rfl (jl.o.alloc _) _ 2 2 (iM (xJ j s)++iM (Ho j s)) rfl rfl (World.news_of_block (heap_alloc_new _ _)) (abG _ _) (by unfold maxLen;have:=HLEN.o;omega) (by have:=HLEN.o;omega) (by have:=HB3.o.size;simp;omega) ?_;intro v' w3 hown3 hgrow _));have hb3:=(HB3.o.alloc (HB3.o.size) _).grown hgrow (by have:=HB3.o.size;simp;omega) (fun q hq=>(jl.o.lt q hq).1);have hl3:(E0++(l.take (k+1)).flatMap (dO j))=(E0++(l.take k).flatMap (dO j))++dO j s:=by rw[iU.o,List.append_assoc]
        refine⟨⟨k+1,by go_num,by omega,?_,hb3⟩,by simp[intOf];omega⟩;rw[hl3,Ez.o,List.length_append,List.flatMap_append];simpa using hown3
       ·have Ez:Hd (dO j s=[]):=by
         show dO j s=_;unfold dO;rw[if_neg (by rw[Ba.o];decide),if_neg (by rw[HX.o];exact hx0)]
        go_wp2;go_roundw
        case rel =>
         have hl3:(E0++(l.take (k+1)).flatMap (dO j))=(E0++(l.take k).flatMap (dO j))++dO j s:=by rw[iU.o,List.append_assoc]
         refine⟨k+1,by go_num,by omega,?_⟩;rw[hl3,Ez.o,List.append_nil];exact⟨jl.o,HB3.o⟩
        case measure=>simp[intOf];omega
     ·have hkl2:k=l.length:=by omega
      have KJ:Hd (yU w (E0++l.flatMap (dO j)) u3 wr):=by
       have:=hown;rw[hkl2,List.take_length]at this;exact⟨this,hb⟩
      clear hkl2 hown hb hk;go_wp2;go_roundw
      case rel =>
       have:=NEXT.o u3 wr KJ.o;exact⟨j+1,by go_num,this.1,this.2.1,this.2.2⟩
      case measure=>simp[intOf];omega
  ·have hjn:j=n:=by omega
   have hto:Ls.take j=Ls:=List.take_of_length_le (by rw[HN.o];omega);rw[hto]at hown hlen;have CS:=hsort u3 (dQ 0 Ls) w.heap.size wr hown (by omega) (KI Ls HS.o 0);have CSH:=ae CS;have HB:=ae hb;have yX:=ae (fun q (hq:u3.ownBlock=some q)=>(hown.lt q hq).1);clear CS hown hb hlen hto hjn hj;go_wp2_with (go_at_call 196;refine CSH.o.mono ?_);rintro e w3 ⟨rfl,E',hp,hso,ho3,hg3⟩;have HF:Hd (SH Ls w (.returned u3) w3):=⟨u3,E',rfl,hp,hso,ho3,HB.o.grown hg3 HB.o.size yX.o⟩;clear hp hso ho3 hg3;go_wp2;exact bodyPost_ret (results_tmp (t:=2) rfl _ _ _) rfl HF.o
open Go.RowKit
def oO:V:=⟨0,0,0,[]⟩
def gB(x y:V)(o:Bool):Sp:=⟨x.major,x.minor,x.patch,⟨x.pre.toArray⟩,⟨#[]⟩,y.major,y.minor,y.patch,⟨y.pre.toArray⟩,⟨#[]⟩,o⟩
def outs:List V->List Sp
 | []=>[]
 | [x]=>[gB x oO true]
 | x :: y :: r=>gB x y false :: outs r
theorem SK:∀(T:List V) (x:V),T.length % 2=0->outs (T++[x])=outs T++[gB x oO true]
 | [],x,_=>rfl
 | [a],x,h=>by simp at h
 | a :: b :: r,x,h=>by
  have:=SK r x (by simp at h;omega);simp only[List.cons_append,outs,this]
theorem SL:∀(T:List V) (x:V),T.length % 2=1->∃A y,outs T=A++[gB y oO true]/\outs (T++[x])=A++[gB y x false]
 | [],x,h=>by simp at h
 | [a],x,_=>⟨[],a,rfl,rfl⟩
 | a :: b :: r,x,h=>by
  obtain⟨A,y,h1,h2⟩:=SL r x (by simp at h;omega);exact⟨gB a b false :: A,y,by simp only[outs,h1,List.cons_append],by simp only[List.cons_append,outs,h2]⟩
theorem abJ(s:Sp):(fP s).length=11:=rfl
theorem abK(L:List Sp):(L.flatMap fP).length=L.length*11:=by
 induction L with
 | nil=>rfl
 | cons s L ih=>rw[List.flatMap_cons,List.length_append,ih,abJ,List.length_cons];omega
theorem abL(n l:Nat)(d:Int)(b:Nat->Int)(hl:l<n):having n (upd b l d)=having n b+(min (b l+d) 1-min (b l) 1):=by
 unfold having
 induction n with
 | zero=>omega
 | succ n ih =>
  rw[List.range_succ,List.map_append,List.sum_append,List.map_append,List.sum_append];simp only[List.map_cons,List.map_nil,List.sum_cons,List.sum_nil]
  by_cases h:l=n
  ·subst h;have:(List.range l).map (fun j=>min (upd b l d j) 1)=(List.range l).map (fun j=>min (b j) 1):=by
    apply List.map_congr_left;intro j hj;have:=List.mem_range.1 hj;unfold upd;rw[if_neg (by omega)]
   rw[this];unfold upd;rw[if_pos rfl];omega
  ·have h2:=ih (by omega);rw[h2];unfold upd;rw[if_neg (fun e=>h e.symm)];omega
theorem abM(n:Nat)(b:Nat->Int)(i:Nat)(h:∀j,-(i:Int)<=b j/\b j<=i):-(n*i:Int)<=having n b/\having n b<=n:=by
 unfold having
 induction n with
 | zero=>simp
 | succ n ih =>
  rw[List.range_succ,List.map_append,List.sum_append];simp only[List.map_cons,List.map_nil,List.sum_cons,List.sum_nil];have hn:=h n;have e:((n+1:Nat):Int)*(i:Int)=(n:Int)*i+i:=by rw[Int.natCast_add,Int.add_mul];simp
  rw[e];omega
theorem abN(Ls:List (List Sp)):∀(k:Nat),∀e∈dQ k Ls,k<=e.l/\e.l<k+Ls.length/\(e.d=1\/e.d=-1):=by
 induction Ls with
 | nil=>intro k e he;simp[dQ]at he
 | cons l Ls ih =>
  intro k e he;rw[dQ]at he
  rcases List.mem_append.1 he with he|he
  ·obtain⟨s,hs,he⟩:=List.mem_flatMap.1 he;unfold dO at he;split at he
   ·simp at he;rw[he];simp[xJ]
   ·split at he
    ·simp at he
     rcases he with rfl|rfl
     ·simp[xJ]
     ·simp[Ho]
    ·simp at he
  ·have:=ih (k+1) e he;simp;omega
def EdAt(w:World)(p:Addr)(e:Er):Prop:=w.cell? p=some (.int .i64 e.a1)/\w.cell? ⟨p.block,p.off+1,none⟩=some (.int .i64 e.a2)/\w.cell? ⟨p.block,p.off+2,none⟩=some (.int .i64 e.a3)/\w.cell? ⟨p.block,p.off+3,none⟩=some (.string e.a4)/\w.cell? ⟨p.block,p.off+4,none⟩=some (.string e.a5)/\w.cell? ⟨p.block,p.off+5,none⟩=some (.int .i64 e.l)/\w.cell? ⟨p.block,p.off+6,none⟩=some (.int .i64 e.d)
theorem EdAt.grow{w w':World}{p:Addr}{e:Er}{r:Option Nat}(h:EdAt w p e)(hg:w.grownBy w' r)(hn:some p.block≠r):EdAt w' p e:=by
 obtain⟨h0,h1,h2,h3,h4,h5,h6⟩:=h;exact⟨hg.cell h0 hn,hg.cell h1 hn,hg.cell h2 hn,hg.cell h3 hn,hg.cell h4 hn,hg.cell h5 hn,hg.cell h6 hn⟩
theorem abO{w:World}{a:Addr}{n:Nat}{e:Er}(h:∀k v,(iM e)[k]?=some v->w.cell? (a.add (n+k))=some v):EdAt w (a.add n) e :=
 ⟨by have:=h 0 _ rfl;simpa using this,by have:=h 1 _ rfl;rw[jk a n 1 (by omega)]at this;exact this,by have:=h 2 _ rfl;rw[jk a n 2 (by omega)]at this;exact this,by have:=h 3 _ rfl;rw[jk a n 3 (by omega)]at this;exact this,by have:=h 4 _ rfl;rw[jk a n 4 (by omega)]at this;exact this,by have:=h 5 _ rfl;rw[jk a n 5 (by omega)]at this;exact this,by have:=h 6 _ rfl;rw[jk a n 6 (by omega)]at this;exact this⟩
theorem SN(L:List Er):∀(i:Nat) (hi:i<L.length) (k:Nat) (v:Value),(iM L[i])[k]?=some v->(L.flatMap iM)[i*7+k]?=some v:=by
 induction L with
 | nil=>intro i hi;simp at hi
 | cons s L ih =>
  intro i hi k v h;rw[List.flatMap_cons];have hl:(iM s).length=7:=rfl
  cases i with
  | zero =>
   simp only[List.getElem_cons_zero]at h;have hk:=(List.getElem?_eq_some_iff.1 h).1;rw[Nat.zero_mul,Nat.zero_add,List.getElem?_append_left hk];exact h
  | succ i =>
   simp only[List.getElem_cons_succ]at h;rw[List.getElem?_append_right (by rw[hl];omega),hl,show(i+1)*7+k-7=i*7+k by omega];exact ih i (by simpa using hi) k v h
theorem abP{w:World}{base:Nat}{v:Value}{E:List Er}(h:w.ownsRow base 261 7 v E.length (E.flatMap iM)) :
  (v=.slice none 0 0/\E=[])\/∃(ga:Addr) (cap:Nat),v=.slice (some ga) E.length cap/\E.length<=cap/\base<=ga.block/\ga.block<w.heap.size/\ga.spot=none/\∀i (hi:i<E.length),EdAt w (ga.add (i*7)) E[i]:=by
 rcases h.2 with⟨h1,h2⟩|⟨g,cap,cur,h1,hb,hg,hn,hm,hs,ht⟩
 ·exact Or.inl ⟨h1,List.length_eq_zero_iff.1 h2⟩
 ·refine Or.inr ⟨⟨g,0,none⟩,cap,h1,hn,hb,(aC hg),rfl,fun i hi=>abO fun k u hu=>?_⟩;have:=SN E i hi k u hu;exact h.cells (g:=g) (by rw[h1];rfl) (i*7+k) u this
theorem add_block(a:Addr)(n:Nat):(a.add n).block=a.block:=by unfold Addr.add;split<;>rfl
theorem Bc{w:World}{base:Nat}{e:TypeId}{size:Nat}{g n cap:Nat}{xs:List Value}(h:w.ownsRow base e size (.slice (some ⟨g,0,none⟩) n cap) n xs)(o:Nat)(x:Value)(ho:o<n*size):(w.setCell ⟨g,o,none⟩ x).ownsRow base e size (.slice (some ⟨g,0,none⟩) n cap) n (xs.set o x):=by
 refine⟨by rw[List.length_set];exact h.1,?_⟩
 rcases h.2 with⟨h1,_⟩|⟨g',cap',cur,h1,hb,hg,hn,hm,hs,ht⟩
 ·cases h1
 ·cases h1
  refine Or.inr ⟨g,cap,cur.setIfInBounds o x,rfl,hb,?_,hn,hm,by simpa using hs,?_⟩
  ·simp[World.setCell,Array.getElem?_modify,hg]
  ·rw[Array.toList_setIfInBounds,List.take_set,ht]
theorem KL:∀(T:List V),(outs T).length<=T.length
 | []=>Nat.le_refl _
 | [a]=>Nat.le_refl _
 | a :: b :: r=>by have:=KL r;simp only[outs,List.length_cons];omega
theorem abQ(e:Er):fP (gB (aS e).at_ oO true)=[.int .i64 e.a1,.int .i64 e.a2,.int .i64 e.a3,.string e.a4,.string ⟨#[]⟩,.int .i64 0,.int .i64 0,.int .i64 0,.string ⟨#[]⟩,.string ⟨#[]⟩,.bool true]:=by
 simp only[fP,gB,aS,oO,Go.Joins.bytes_eta]
theorem SQ{w wa wb:World}{B:Nat}{row:Option Nat}(h:w.grownBy wa (some B))(hg:wa.grownBy wb row)(hr:∀q,row=some q->w.heap.size<=q):w.grownBy wb (some B) :=
 ⟨hg.os.trans h.os,hg.tape.trans h.tape,hg.output.trans h.output,Nat.le_trans h.size hg.size,fun k hk hn=>(hg.block k (Nat.lt_of_lt_of_le hk h.size) (fun e=>by have:=hr k e.symm;omega)).trans (h.block k hk hn)⟩
theorem EC(g k:Nat):(⟨g,0,none⟩:Addr).add k=⟨g,k,none⟩:=by
 unfold Addr.add;split
 ·rename_i h;rw[h]
 ·simp
theorem Bd{P l:List Value}{k:Nat}(hP:P.length=k)(q:Nat)(v:Value):(P++l).set (k+q) v=P++l.set q v:=by
 rw[List.set_append_right _ _ (by omega),hP,Nat.add_sub_cancel_left]
theorem abR(e:Er)(y:V){P:List Value}{k:Nat}(hP:P.length=k) :
  ((((((P++fP (gB y oO true)).set (k+5) (.int .i64 e.a1)).set (k+6) (.int .i64 e.a2)).set (k+7) (.int .i64 e.a3)).set (k+8) (.string e.a4)).set (k+9) (.string ⟨#[]⟩)).set (k+10) (.bool false)=P++fP (gB y (aS e).at_ false):=by
 rw[Bd hP,Bd hP,Bd hP,Bd hP,Bd hP,Bd hP];simp only[fP,gB,aS,oO,Go.Joins.bytes_eta,List.set]
theorem Be{w:World}{base:Nat}{gs capS M:Nat}{A:List Sp}{s:Sp}(h:w.ownsRow base 203 11 (.slice (some ⟨gs,0,none⟩) (M+1) capS) (M+1) ((A++[s]).flatMap fP))(hA:A.length=M)(q:Nat)(v:Value)(hq:(fP s)[q]?=some v):w.cell? ⟨gs,M*11+q,none⟩=some v:=by
 have h1:=flat_get (A++[s]) M (by rw[List.length_append,hA];simp) q v (by rw[List.getElem_append_right (by omega)];simpa [hA] using hq);have:=h.cells (g:=gs) rfl (M*11+q) v h1;rw[EC]at this;exact this
theorem abS{w:World}{base:Nat}{e:TypeId}{size gs n cap:Nat}{xs:List Value}(h:w.ownsRow base e size (.slice (some ⟨gs,0,none⟩) n cap) n xs)(o:Nat):w.frozen? ⟨gs,o,none⟩=false:=by
 rcases h.2 with⟨h1,_⟩|⟨g',cap',cur,h1,hb,hg,_⟩
 ·cases h1
 ·cases h1;exact Lib.frozen_of_heap hg o
theorem SS(Ls:List (List Sp))(h:∀l∈Ls,l.length<=1048576):∀k,(dQ k Ls).length<=2097152*Ls.length:=by
 induction Ls with
 | nil=>intro k;simp[dQ]
 | cons l Ls ih =>
  intro k;have h1:=ih (fun l' hl'=>h l' (by simp[hl'])) (k+1);have h2:=A8 k l;have h3:=h l (by simp);rw[dQ,List.length_append,List.length_cons];omega
theorem SV(n:Nat):having n (fun _=>0)=0:=by
 unfold having
 induction n with
 | zero=>rfl
 | succ n ih=>rw[List.range_succ,List.map_append,List.sum_append,ih];rfl
open Go.RowKit
theorem abT(x y:Er)(w:World)(hx:x.a4.size<=1048576)(hy:y.a4.size<=1048576) :
  Calls prog 197 #[.agg (iM x).toArray,.agg (iM y).toArray] w fun e w'=>e=.returned (.int .i64 (aB (aS x).at_ (aS y).at_))/\Gr w w':=by
 obtain⟨a1,a2,a3,a4,a5,l,d⟩:=x;obtain⟨b1,b2,b3,b4,b5,m,c⟩:=y;obtain⟨r,hr⟩:=zN (aB (aS ⟨a1,a2,a3,a4,a5,l,d⟩).at_ (aS ⟨b1,b2,b3,b4,b5,m,c⟩).at_);have CC:Hd (∀w,Calls prog 122 #[.agg #[.int .i64 a1,.int .i64 a2,.int .i64 a3,.string a4,.string a5],.agg #[.int .i64 b1,.int .i64 b2,.int .i64 b3,.string b4,.string b5]] w fun e w'=>e=.returned (.int .i64 r)/\Gr w w'):=fun w=>by
  rw[<-hr];exact G.compare_any a1 a2 a3 b1 b2 b3 a4 a5 b4 b5 w (by simp at hx;omega) (by simp at hy;omega)
 rw[hr];clear hr hx hy;show Calls prog 197 #[.agg #[.int .i64 a1,.int .i64 a2,.int .i64 a3,.string a4,.string a5,.int .i64 l,.int .i64 d],.agg #[.int .i64 b1,.int .i64 b2,.int .i64 b3,.string b4,.string b5,.int .i64 m,.int .i64 c]] w _;go_enter func197,ntmps197;go_wp2_with (go_at_call 122;refine(CC.o _).mono ?_);rintro e w1 ⟨rfl,hg⟩;go_wp2;go_ret;exact⟨rfl,xy (Em (Em (Ej w) _) _) hg⟩
open Go.RowKit Go.Shelf Go.Sort
abbrev Eb:={e:Er // e.a4.size<=1048576}
instance:Inhabited Eb:=⟨⟨default,by show(0:Nat)<=_;omega⟩⟩
def nV(x:Eb):List Value:=iM x.1
def yY(x y:Eb):Int:=aB (aS x.1).at_ (aS y.1).at_
theorem abU:SWO (ltOf yY) where
 irrefl x:=by unfold ltOf yY;rw[Ef];rfl
 trans x y z h1 h2:=by
  unfold ltOf yY at *;have a1:=of_decide_eq_true h1;have a2:=of_decide_eq_true h2;exact decide_eq_true (Eh a1 a2)
 ntrans x y z h1 h2:=by
  unfold ltOf yY at *;have a1:=of_decide_eq_false h1;have a2:=of_decide_eq_false h2;apply decide_eq_false;intro h3;have b1:=dN (aS x.1).at_ (aS y.1).at_;have b2:=dN (aS y.1).at_ (aS z.1).at_;have b3:=rE (show aB (aS z.1).at_ (aS y.1).at_<=0 by omega) (show aB (aS y.1).at_ (aS x.1).at_<=0 by omega);have b4:=dN (aS z.1).at_ (aS x.1).at_;omega
theorem abV{w w':World}(h:Gr w w'):∃q os,w'=grow (w.drewN q) os:=by
 refine⟨w'.drawn-w.drawn,w'.heap.extract w.heap.size w'.heap.size,?_⟩;obtain⟨hg,hd⟩:=h;have hh:w'.heap=w.heap++w'.heap.extract w.heap.size w'.heap.size:=by
  apply Array.ext_getElem?;intro k
  by_cases hk:k<w.heap.size
  ·rw[Array.getElem?_append_left hk];exact hg.block k hk (by simp)
  ·rw[Array.getElem?_append_right (by omega),Array.getElem?_extract]
   by_cases hk2:k<w'.heap.size
   ·rw[if_pos (by omega)];congr 1;omega
   ·rw[if_neg (by omega),Array.getElem?_eq_none (by omega)]
 have h1:=hg.os;have h2:=hg.tape;have h3:=hg.output
 cases w';cases w
 simp only[grow,World.drewN,World.mk.injEq]at *;exact⟨hh,h2,by omega,h1,h3⟩
theorem abW(w:World)(blk off size:Nat):CmpLays prog 197 #[] nV 7 yY blk off size w:=by
 intro m os dk hdk x y;refine(abT x.1 y.1 _ x.2 y.2).mono ?_;rintro e w' ⟨rfl,hg⟩;exact⟨rfl,abV hg⟩
theorem SX(x:Eb):(nV x).length=7:=rfl
theorem abX(x:Eb):∀v∈nV x,v.oneCell'=true:=Hq x.1
theorem KN(d:Array Eb):(flatK nV 7 d).toList=(d.toList.map (·.1)).flatMap iM:=by
 apply List.ext_getElem?;intro j;have hl:((d.toList.map (·.1)).flatMap iM).length=d.size*7:=by
  have:∀L:List Er,(L.flatMap iM).length=L.length*7:=by
   intro L
   induction L with
   | nil=>rfl
   | cons e L ih=>rw[List.flatMap_cons,List.length_append,ih,List.length_cons];show 7+_=_;omega
  rw[this];simp
 by_cases hj:j<d.size*7
 ·have hi:j / 7<d.size:=by omega
  have h1:(flatK nV 7 d).toList[j]?=some ((nV d[j / 7]!)[j % 7]!):=by
   rw[Array.getElem?_toList,Array.getElem?_eq_getElem (by simpa using hj)];have:=get_flatK nV 7 d j hj;rw[getElem!_pos _ j (by simpa using hj)]at this;rw[this]
  have h2:=SN (d.toList.map (·.1)) (j / 7) (by simpa using hi) (j % 7) ((nV d[j / 7]!)[j % 7]!) (by
   rw[getElem!_pos d (j / 7) hi];have hk:j % 7<(nV d[j / 7]).length:=by rw[SX];omega
   rw[getElem!_pos _ (j % 7) hk];rw[List.getElem_map,Array.getElem_toList];exact List.getElem?_eq_getElem hk)
  rw[show j / 7*7+j % 7=j by omega]at h2;rw[h1,h2]
 ·rw[List.getElem?_eq_none (by simp;omega),List.getElem?_eq_none (by rw[hl];omega)]
theorem eg:∀args w,(callFunc 197 args).run prog w=.ok (.enter 197 args) w:=enters_of func197 (by kernel_rfl) rfl
theorem SY:Ey:=by
 intro ve E base w hown hlen hsmall;obtain⟨D,hD⟩:∃D:Array Eb,D.toList.map (·.1)=E:=⟨(E.attach.map fun e=>(⟨e.1,hsmall e.1 e.2⟩:Eb)).toArray,by simp⟩;have hDs:D.size=E.length:=by rw[<-hD];simp
 have hown':=hown
 rcases hown.2 with⟨rfl,h0⟩|⟨g,cap,cur,rfl,hb,hg,hn,hm,hs,ht⟩
 ·refine(AnyF.slices_SortFunc_none Tryz.laysSort none 0 (.func (.func 197) #[] #[]) w).mono ?_;rintro e w' ⟨rfl,rfl⟩;have hE:=List.eq_nil_of_length_eq_zero h0;subst hE;exact⟨rfl,[],List.Perm.refl _,List.Pairwise.nil,hown',⟨rfl,rfl,rfl,Nat.le_refl _,fun _ _ _=>rfl⟩⟩
 ·have hH:HoldsK nV 7 w g 0 D:=by
   intro j hj;have hj':j<(E.flatMap iM).length:=by rw[hown.1,<-hDs];simpa using hj
   refine⟨?_,Lib.frozen_of_heap hg _⟩;have h1:(flatK nV 7 D).toList[j]?=(E.flatMap iM)[j]?:=by rw[KN,hD]
   rw[Array.getElem?_toList,Array.getElem?_eq_getElem hj]at h1;rw[Nat.zero_add,ah hg];rw[getElem!_pos _ j hj];show cur[j]?=some (id _);rw[id,h1,<-ht,List.getElem?_take_of_lt (by rw[hown.1]at hj';exact hj')];simp
  rw[<-hDs];refine(AnyQ.slices_SortFunc Tryz.laysSort 7 isAgg261 sizeOf261 nV SX abX yY abU 197 #[] g 0 cap D w eg (abW w g 0 D.size) hH (aC hg) (by omega)).mono ?_;rintro e w' ⟨rfl,d',m,os,hperm,hsort,hw'⟩;have hds:=hperm.1;have hgl:=(aC hg);have hheap:w'.heap=(w.heap.modify g (onCells (putCells id 0 (flatK nV 7 d'))))++os:=by rw[hw'];rfl
  have hg':w'.heap[g]?=some (.cells (putCells id 0 (flatK nV 7 d') cur) 261):=by
   rw[hheap,Array.getElem?_append_left (by simpa using hgl),Array.getElem?_modify,if_pos rfl,hg];rfl
  have KO:(flatK nV 7 d').size=D.size*7:=by simp[hds]
  have hcs:D.size*7<=cur.size:=by rw[hs,hDs];omega
  have hlen2:((d'.toList.map (·.1)).flatMap iM).length=D.size*7:=by rw[<-KN,Array.length_toList,KO]
  refine⟨rfl,d'.toList.map (·.1),?_,?_,⟨?_,.inr ⟨g,cap,_,?_,hb,hg',?_,hm,?_,?_⟩⟩,?_⟩
  ·rw[<-hD];apply List.Perm.map;have:=hperm.2.2;rw[Array.extract_size]at this;rw[show d'.extract 0 D.size=d' by rw[<-hds,Array.extract_size]]at this;exact this
  ·show List.Pairwise _ _;rw[List.pairwise_iff_getElem];intro i j hi hj hij;simp only[List.length_map,Array.length_toList]at hi hj;have:=hsort i j (Nat.zero_le _) hij (by omega);rw[getElem!_pos d' j hj,getElem!_pos d' i hi]at this;have h3:=of_decide_eq_false this;have h4:=dN (aS d'[j].1).at_ (aS d'[i].1).at_;simp only[List.getElem_map,Array.getElem_toList];unfold yY at h3;omega
  ·rw[hlen2];simp[hds]
  ·simp[hds]
  ·simp[hds];omega
  ·simp[putCells,hs]
  ·rw[show(d'.toList.map (·.1)).length=D.size by simp[hds],<-KN];apply List.ext_getElem?;intro j
   by_cases hj:j<D.size*7
   ·rw[List.getElem?_take_of_lt hj,Array.getElem?_toList,Array.getElem?_toList];rw[putCells,Array.getElem?_mapIdx,Array.getElem?_eq_getElem (show j<cur.size by omega)];rw[Option.map_some,if_pos ⟨Nat.zero_le _,by omega⟩,Nat.sub_zero,id,getElem!_pos _ j (by omega)];exact(Array.getElem?_eq_getElem _).symm
   ·rw[List.getElem?_eq_none (by simp;omega),List.getElem?_eq_none (by rw[Array.length_toList];omega)]
  ·refine⟨by rw[hw'];rfl,by rw[hw'];rfl,by rw[hw'];rfl,?_,?_⟩
   ·rw[hheap];simp
   ·intro k hk hne;have hkg:g≠k:=by
     intro h;subst h;exact hne rfl
    rw[hheap,Array.getElem?_append_left (by simpa using hk),Array.getElem?_modify,if_neg hkg]
end Go.Proofs.YtiinliaoojfjaaaGreatDoor
