import Derived.Test.YtapodndfpecglaaGreatDoorK06
import Derived.Test.YtapodndfpecglaaGreatDoorK08
import Derived.Test.YtapodndfpecglaaGreatDoorK09
import Derived.Lib.SmallJoins
import Derived.Deep.OwnRows
import Derived.Test.YtapodndfpecglaaGreatDoorK05
set_option linter.all false
set_option maxRecDepth 100000
set_option maxHeartbeats 0
open Go.Proofs.Tryz
namespace Go.Proofs.YtapodndfpecglaaGreatDoor
open Go.RowKit
theorem Gx{w:World}{A t:Nat}{s:Sp}(h:w.heap[A]?=some (.cells #[.int .i64 s.f1,.int .i64 s.f2,.int .i64 s.f3,.string s.f4,.string s.f5,.int .i64 s.t1,.int .i64 s.t2,.int .i64 s.t3,.string s.t4,.string s.t5,.bool s.o] t (0,0))):EltAt w ⟨A,0,none⟩ s :=
 ⟨by rw[ag h];rfl,by rw[ag h];rfl,by rw[ag h];rfl,by rw[ag h];rfl,by rw[ag h];rfl,by rw[ag h];rfl,by rw[ag h];rfl,by rw[ag h];rfl,by rw[ag h];rfl,by rw[ag h];rfl,by rw[ag h];rfl⟩
theorem WB(a:Addr)(cap:Nat)(L:List Sp)(w:World)(hL:L.length<2 ^ 62)(hcap:L.length<=cap)(h:SpAt w a L)(hsz:∀s∈L,jg s) :
  Calls prog 157 #[.slice (some a) L.length cap] w fun e w'=>e=.returned (.bool (L.all gI))/\w.grownBy w' none:=by
 have HA:=ae h;have HS:=ae hsz;clear h hsz;obtain⟨R,hR⟩:=zN (L.all gI);have HR:=ae hR;rw[hR];clear hR;go_enter func157,ntmps157;go_wp2;go_loopw [7] (fun vi wr=>∃i:Nat,vi=.int .i64 i/\i<=L.length/\(∀j (hj:j<L.length),j<i->gI L[j]=true)/\w.grownBy wr none) (fun vi _=>L.length-(intOf vi).toNat)
 case atStart=>exact⟨0,rfl,Nat.zero_le _,fun j hj h=>absurd h (by omega),ak _ _⟩
 case round =>
  obtain⟨i,rfl,hi,hp,hg⟩:=hrel;have HP:=ae hp;have HG:=ae hg;clear hp hg
  by_cases hlt:i<L.length
  ·obtain⟨s,hs⟩:=zN (L[i]);have HE:Hd (EltAt wr (a.add (i*11)) s):=by show EltAt wr _ s;rw[<-hs];exact(HA.o i hlt).grow HG.o
   have hm:jg s:=by rw[<-hs];exact HS.o _ (List.getElem_mem hlt)
   have mW:=ae hs;have CF:Hd (∀w,Calls prog 177 #[.agg #[.int .i64 s.f1,.int .i64 s.f2,.int .i64 s.f3,.string s.f4,.string s.f5]] w fun e w'=>e=.returned (.bool (jM (uA s)))/\w.grownBy w' none):=fun w=>Nc s.f1 s.f2 s.f3 s.f4 s.f5 w (by have:=hm.1;omega) (by have:=hm.2.1;omega)
   have CT:Hd (∀w,Calls prog 177 #[.agg #[.int .i64 s.t1,.int .i64 s.t2,.int .i64 s.t3,.string s.t4,.string s.t5]] w fun e w'=>e=.returned (.bool (jM (uB s)))/\w.grownBy w' none):=fun w=>Nc s.t1 s.t2 s.t3 s.t4 s.t5 w (by have:=hm.2.2.1;omega) (by have:=hm.2.2.2;omega)
   obtain⟨x,hx⟩:=zN (jM (uA s));obtain⟨y,hy⟩:=zN (jM (uB s));rw[hx]at CF;rw[hy]at CT;have gJ:Hd (gI s=(x && (s.o || y))):=by show gI s=_;unfold gI;rw[hx,hy]
   clear hx hy hm hs;obtain⟨e0,e1,e2,e3,e4,e5,e6,e7,e8,e9,e10⟩:=HE.o;go_wp2_with (go_at_call 177;refine(CF.o _).mono ?_);rintro e w1 ⟨rfl,hg⟩;obtain⟨N,hN⟩:=zN (wr.heap.size);have AA:Hd (EltAt w1 ⟨N,0,none⟩ s):=by
    refine EltAt.grow ?_ hg;rw[<-hN];exact Gx (t:=181) (heap_alloc_new wr _)
   replace HG:=ae (ah (au HG.o _) hg);rw[hN];clear hN hg e0 e1 e2 e3 e4 e5 e6 e7 e8 e9 e10;obtain⟨e0,e1,e2,e3,e4,e5,e6,e7,e8,e9,e10⟩:=AA.o;simp only[Nat.zero_add]at e1 e2 e3 e4 e5 e6 e7 e8 e9 e10;obtain⟨ob,hob⟩:=zN s.o;rw[hob]at e10 gJ;clear hob
   cases x with
   | false =>
    rw[Bool.false_and]at gJ;have mX:Hd (R=false):=by
     show R=false;rw[<-HR.o,List.all_eq_false];exact⟨L[i],List.getElem_mem hlt,by rw[mW.o,gJ.o];decide⟩
    clear gJ;go_wp2;go_ret;exact⟨bn mX.o.symm,HG.o⟩
   | true =>
    rw[Bool.true_and]at gJ
    cases ob with
    | true =>
     rw[Bool.true_or]at gJ;have HT:Hd (gI s=true):=by show gI s=true;rw[gJ.o]
     clear gJ;go_wp2;go_roundw
     case rel =>
      refine⟨i+1,by go_num,by omega,fun j hj hji=>?_,HG.o⟩
      by_cases hji':j<i
      ·exact HP.o j hj hji'
      ·have e:j=i:=by omega
       subst e;rw[mW.o];exact HT.o
     case measure=>simp[intOf];omega
    | false =>
     rw[Bool.false_or]at gJ;go_wp2_with (go_at_call 177;refine(CT.o _).mono ?_);rintro e w2 ⟨rfl,hg⟩;replace HG:=ae (ah HG.o hg);clear hg e0 e1 e2 e3 e4 e5 e6 e7 e8 e9 e10
     cases y with
     | true =>
      have HT:Hd (gI s=true):=by show gI s=true;rw[gJ.o]
      clear gJ;go_wp2;go_roundw
      case rel =>
       refine⟨i+1,by go_num,by omega,fun j hj hji=>?_,HG.o⟩
       by_cases hji':j<i
       ·exact HP.o j hj hji'
       ·have e:j=i:=by omega
        subst e;rw[mW.o];exact HT.o
      case measure=>simp[intOf];omega
     | false =>
      have mX:Hd (R=false):=by
       show R=false;rw[<-HR.o,List.all_eq_false];exact⟨L[i],List.getElem_mem hlt,by rw[mW.o,gJ.o];decide⟩
      clear gJ;go_wp2;go_ret;exact⟨bn mX.o.symm,HG.o⟩
  ·have rU:Hd (R=true):=by
    show R=true;rw[<-HR.o,List.all_eq_true];intro t ht;obtain⟨j,hj,rfl⟩:=List.getElem_of_mem ht;exact HP.o j hj (by omega)
   clear hi;go_wp2;go_ret;exact⟨bn rU.o.symm,HG.o⟩
theorem WC(w:World):Calls prog 157 #[.slice none 0 0] w fun e w'=>e=.returned (.bool true)/\w.grownBy w' none:=by
 go_enter func157,ntmps157;go_wp2;go_loopw [7] (fun vi wr=>vi=.int .i64 0/\w.grownBy wr none) (fun vi _=>0)
 case atStart=>exact⟨rfl,ak _ _⟩
 case round =>
  obtain⟨rfl,hg⟩:=hrel;have HG:=ae hg;clear hg;go_wp2;go_ret;exact⟨rfl,HG.o⟩
theorem WE(a:Addr)(cap:Nat)(L:List Sp)(v1 v2 v3:Int)(v4 v5:ByteArray)(w:World)(hL:L.length<2 ^ 62)(hcap:L.length<=cap)(h:SpAt w a L)(hsz:∀s∈L,jg s)(hv:v4.size<=1048576) :
  Calls prog 83 #[.slice (some a) L.length cap,.agg #[.int .i64 v1,.int .i64 v2,.int .i64 v3,.string v4,.string v5]] w fun e w'=>e=.returned (.bool (eu L ⟨v1,v2,v3,v4.data.toList⟩))/\w.grownBy w' none:=by
 have HA:=ae h;have HS:=ae hsz;have Nq:=ae hv;clear h hsz hv;obtain⟨v,hv⟩:∃v:V,v=⟨v1,v2,v3,v4.data.toList⟩:=⟨_,rfl⟩;have HV:=ae hv;rw[<-hv];obtain⟨R,hR⟩:=zN (eu L v);have HR:=ae hR;rw[hR];clear hR hv;go_enter func83,ntmps83;go_wp2;obtain⟨A,hA⟩:=zN (w.heap.size);obtain⟨W,hW⟩:=zN (w.alloc (.cells #[.int .i64 v1,.int .i64 v2,.int .i64 v3,.string v4,.string v5] 109));have lZ:Hd (w.grownBy W none):=by show w.grownBy W none;rw[<-hW];exact au (ak w none) _
 have STv:Hd (St A v1 v2 v3 v4 v5 W):=by show St _ _ _ _ _ _ W;rw[<-hW,<-hA];exact vX (t:=109) (heap_alloc_new w _)
 try rw[hW]
 try rw[hA]
 clear hW hA;go_loopw [9] (fun vi wr=>∃i:Nat,vi=.int .i64 i/\i<=L.length/\(∀j (hj:j<L.length),j<i->rO L[j] v=false)/\W.grownBy wr none) (fun vi _=>L.length-(intOf vi).toNat)
 case atStart=>exact⟨0,rfl,Nat.zero_le _,fun j hj h=>absurd h (by omega),ak _ _⟩
 case round =>
  obtain⟨i,rfl,hi,hp,hg⟩:=hrel;have HP:=ae hp;have HG:=ae hg;have STr:=ae (STv.o.grow hg);clear hp hg
  by_cases hlt:i<L.length
  ·obtain⟨s,hs⟩:=zN (L[i]);have HE:Hd (EltAt wr (a.add (i*11)) s):=by show EltAt wr _ s;rw[<-hs];exact((HA.o i hlt).grow lZ.o).grow HG.o
   have hm:jg s:=by rw[<-hs];exact HS.o _ (List.getElem_mem hlt)
   have mW:=ae hs;obtain⟨x,hx⟩:=zN (aB v (rM s));obtain⟨y,hy⟩:=zN (aB v (uC s));have CF:Hd (∀w,Calls prog 88 #[.agg #[.int .i64 v1,.int .i64 v2,.int .i64 v3,.string v4,.string v5],.agg #[.int .i64 s.f1,.int .i64 s.f2,.int .i64 s.f3,.string s.f4,.string s.f5]] w fun e w'=>e=.returned (.int .i64 x)/\w.grownBy w' none):=fun w=>by
    rw[<-hx,HV.o];exact compare_any v1 v2 v3 s.f1 s.f2 s.f3 v4 v5 s.f4 s.f5 w (by have:=Nq.o;omega) (by have:=hm.1;omega)
   have CT:Hd (∀w,Calls prog 88 #[.agg #[.int .i64 v1,.int .i64 v2,.int .i64 v3,.string v4,.string v5],.agg #[.int .i64 s.t1,.int .i64 s.t2,.int .i64 s.t3,.string s.t4,.string s.t5]] w fun e w'=>e=.returned (.int .i64 y)/\w.grownBy w' none):=fun w=>by
    rw[<-hy,HV.o];exact compare_any v1 v2 v3 s.t1 s.t2 s.t3 v4 v5 s.t4 s.t5 w (by have:=Nq.o;omega) (by have:=hm.2.2.1;omega)
   have gJ:Hd (rO s v=(decide (0<=x) && (s.o || decide (y<0)))):=by
    show rO s v=_;unfold rO;have:=vU.anti v (rM s);rw[hx]at this;rw[this,hy];congr 1;rw[Bool.eq_iff_iff];simp
   clear hm hs hx hy;obtain⟨e0,e1,e2,e3,e4,e5,e6,e7,e8,e9,e10⟩:=HE.o;obtain⟨N,hN⟩:=zN (wr.heap.size);obtain⟨W2,hW2⟩:=zN (wr.alloc (.cells #[.int .i64 s.f1,.int .i64 s.f2,.int .i64 s.f3,.string s.f4,.string s.f5,.int .i64 s.t1,.int .i64 s.t2,.int .i64 s.t3,.string s.t4,.string s.t5,.bool s.o] 181));have hg2:wr.grownBy W2 none:=by rw[<-hW2];exact au (ak wr none) _
   have HE2:Hd (EltAt W2 ⟨N,0,none⟩ s):=by
    show EltAt W2 _ s;rw[<-hN,<-hW2];exact Gx (t:=181) (heap_alloc_new wr _)
   replace STr:=ae (STr.o.grow hg2);replace HG:=ae (ah HG.o hg2);clear hg2;obtain⟨s1,s2,s3,s4,s5⟩:=STr.o;obtain⟨d0,d1,d2,d3,d4,d5,d6,d7,d8,d9,d10⟩:=HE2.o;simp only[Nat.zero_add]at d1 d2 d3 d4 d5 d6 d7 d8 d9 d10;go_wp2_with (go_at_call 88;refine(CF.o _).mono ?_);rintro e w1 ⟨rfl,hg⟩;have AA:=ae (HE2.o.grow hg);replace STr:=ae (STr.o.grow hg);replace HG:=ae (ah HG.o hg)
   try rw[hN]
   clear hN hW2 hg e0 e1 e2 e3 e4 e5 e6 e7 e8 e9 e10 s1 s2 s3 s4 s5 d0 d1 d2 d3 d4 d5 d6 d7 d8 d9 d10;obtain⟨e0,e1,e2,e3,e4,e5,e6,e7,e8,e9,e10⟩:=AA.o;simp only[Nat.zero_add]at e1 e2 e3 e4 e5 e6 e7 e8 e9 e10;obtain⟨s1,s2,s3,s4,s5⟩:=STr.o;obtain⟨ob,hob⟩:=zN s.o;rw[hob]at e10 gJ;clear hob
   by_cases hx0:0<=x
   ·rw[decide_eq_true hx0,Bool.true_and]at gJ
    cases ob with
    | true =>
     rw[Bool.true_or]at gJ;have rU:Hd (R=true):=by
      show R=true;rw[<-HR.o];unfold eu;rw[List.any_eq_true];exact⟨L[i],List.getElem_mem hlt,by rw[mW.o];exact gJ.o⟩
     go_wp2;go_ret;exact⟨bn rU.o.symm,ah lZ.o HG.o⟩
    | false =>
     rw[Bool.false_or]at gJ;go_wp2_with (go_at_call 88;refine(CT.o _).mono ?_);rintro e w2 ⟨rfl,hg⟩;replace HG:=ae (ah HG.o hg);clear hg e0 e1 e2 e3 e4 e5 e6 e7 e8 e9 e10 s1 s2 s3 s4 s5
     by_cases hy0:y<0
     ·rw[decide_eq_true hy0]at gJ;have rU:Hd (R=true):=by
       show R=true;rw[<-HR.o];unfold eu;rw[List.any_eq_true];exact⟨L[i],List.getElem_mem hlt,by rw[mW.o];exact gJ.o⟩
      go_wp2;go_ret;exact⟨bn rU.o.symm,ah lZ.o HG.o⟩
     ·rw[decide_eq_false hy0]at gJ;go_wp2;go_roundw
      case rel =>
       refine⟨i+1,by go_num,by omega,fun j hj hji=>?_,HG.o⟩
       by_cases hji':j<i
       ·exact HP.o j hj hji'
       ·have e:j=i:=by omega
        subst e;rw[mW.o];exact gJ.o
      case measure=>simp[intOf];omega
   ·rw[decide_eq_false hx0,Bool.false_and]at gJ;go_wp2;go_roundw
    case rel =>
     refine⟨i+1,by go_num,by omega,fun j hj hji=>?_,HG.o⟩
     by_cases hji':j<i
     ·exact HP.o j hj hji'
     ·have e:j=i:=by omega
      subst e;rw[mW.o];exact gJ.o
    case measure=>simp[intOf];omega
  ·have mX:Hd (R=false):=by
    show R=false;rw[<-HR.o];unfold eu;rw[List.any_eq_false];intro t ht;obtain⟨j,hj,rfl⟩:=List.getElem_of_mem ht;rw[HP.o j hj (by omega)];decide
   clear hi;go_wp2;go_ret;exact⟨bn mX.o.symm,ah lZ.o HG.o⟩
theorem WF(v1 v2 v3:Int)(v4 v5:ByteArray)(w:World):Calls prog 83 #[.slice none 0 0,.agg #[.int .i64 v1,.int .i64 v2,.int .i64 v3,.string v4,.string v5]] w fun e w'=>e=.returned (.bool false)/\w.grownBy w' none:=by
 go_enter func83,ntmps83;go_wp2;go_loopw [9] (fun vi wr=>vi=.int .i64 0/\w.grownBy wr none) (fun vi _=>0)
 case atStart=>exact⟨rfl,au (ak _ _) _⟩
 case round =>
  obtain⟨rfl,hg⟩:=hrel;have HG:=ae hg;clear hg;go_wp2;go_ret;exact⟨rfl,HG.o⟩
open Go.RowKit
theorem Nr:(prog.info? 181).map (fun i=>(i.zero,i.size,i.bytes))=some (some (.agg #[.int .i64 0,.int .i64 0,.int .i64 0,.string ⟨#[]⟩,.string ⟨#[]⟩,.int .i64 0,.int .i64 0,.int .i64 0,.string ⟨#[]⟩,.string ⟨#[]⟩,.bool false]),11,120):=by kernel_rfl
theorem oN{w w':World}{base:Nat}{e:TypeId}{size:Nat}{v:Value}{n:Nat}{xs:List Value}(h:w.ownsRow base e size v n xs)(hg:w.grownBy w' none):w'.ownsRow base e size v n xs :=
 h.kept hg (by cases v.ownBlock<;>simp)
theorem Ns(s:Sp):∀u∈fA s,u.oneCell'=true:=by
 intro u hu;simp only[fA,List.mem_cons,List.not_mem_nil,or_false]at hu
 rcases hu with rfl|rfl|rfl|rfl|rfl|rfl|rfl|rfl|rfl|rfl|rfl<;>rfl
theorem cell_lt{w:World}{a:Addr}{v:Value}(h:w.cell? a=some v):a.block<w.heap.size:=by
 unfold World.cell? at h
 cases hb:w.heap[a.block]? with
 | none=>rw[hb]at h;simp at h
 | some o=>exact(aA hb)
theorem WG{B:Nat}{a w w':World}(h:Below B a w)(hB:B<=w.heap.size)(hg:w.grownBy w' none):Below B a w' :=
 ⟨hg.os.trans h.os,hg.tape.trans h.tape,hg.output.trans h.output,Nat.le_trans h.size hg.size,fun k hk=>(hg.block k (Nat.lt_of_lt_of_le hk hB) (by simp)).trans (h.block k hk)⟩
open Go.RowKit
def SpS(w:World)(sl:Value)(L:List Sp):Prop:=(sl=.slice none 0 0/\L=[])\/∃a cap,sl=.slice (some a) L.length cap/\L.length<=cap/\SpAt w a L
theorem SpS.grow{w w':World}{sl:Value}{L:List Sp}(h:SpS w sl L)(hg:w.grownBy w' none):SpS w' sl L:=by
 rcases h with h|⟨a,cap,h1,h2,h3⟩
 ·exact Or.inl h
 ·exact Or.inr ⟨a,cap,h1,h2,h3.grow hg⟩
theorem flat_get(L:List Sp):∀(i:Nat) (hi:i<L.length) (k:Nat) (v:Value),(fA L[i])[k]?=some v->(L.flatMap fA)[i*11+k]?=some v:=by
 induction L with
 | nil=>intro i hi;simp at hi
 | cons s L ih =>
  intro i hi k v h;rw[List.flatMap_cons];have hl:(fA s).length=11:=rfl
  cases i with
  | zero =>
   simp only[List.getElem_cons_zero]at h;have hk:=(List.getElem?_eq_some_iff.1 h).1;rw[Nat.zero_mul,Nat.zero_add,List.getElem?_append_left hk];exact h
  | succ i =>
   simp only[List.getElem_cons_succ]at h;rw[List.getElem?_append_right (by rw[hl];omega),hl,show(i+1)*11+k-11=i*11+k by omega];exact ih i (by simpa using hi) k v h
theorem Nu{w:World}{base:Nat}{v:Value}{L:List Sp}(h:w.ownsRow base 181 11 v L.length (L.flatMap fA)):SpS w v L:=by
 rcases h.2 with⟨h1,h2⟩|⟨g,cap,cur,h1,hb,hg,hn,hm,hs,ht⟩
 ·exact Or.inl ⟨h1,List.length_eq_zero_iff.1 h2⟩
 ·refine Or.inr ⟨⟨g,0,none⟩,cap,h1,hn,fun i hi=>VK fun k u hu=>?_⟩;have:=flat_get L i hi k u hu;exact h.cells (g:=g) (by rw[h1];rfl) (i*11+k) u this
theorem WH(sl:Value)(L:List Sp)(w:World)(h:SpS w sl L)(hL:L.length<=1048576)(hsz:∀s∈L,jg s) :
  Calls prog 157 #[sl] w fun e w'=>e=.returned (.bool (L.all gI))/\w.grownBy w' none:=by
 rcases h with⟨rfl,rfl⟩|⟨a,cap,rfl,h2,h3⟩
 ·exact WC w
 ·exact WB a cap L w (by omega) h2 h3 hsz
open Go.RowKit
theorem WI(sl:Value)(L:List Sp)(v1 v2 v3:Int)(v4 v5:ByteArray)(w:World)(h:SpS w sl L)(hL:L.length<=4194304)(hsz:∀s∈L,jg s)(hv:v4.size<=1048576) :
  Calls prog 83 #[sl,.agg #[.int .i64 v1,.int .i64 v2,.int .i64 v3,.string v4,.string v5]] w fun e w'=>e=.returned (.bool (eu L ⟨v1,v2,v3,v4.data.toList⟩))/\w.grownBy w' none:=by
 rcases h with⟨rfl,rfl⟩|⟨a,cap,rfl,h2,h3⟩
 ·exact WF v1 v2 v3 v4 v5 w
 ·exact WE a cap L v1 v2 v3 v4 v5 w (by omega) h2 h3 hsz hv
open Go.RowKit
theorem WJ(x y:Int)(w:World):Calls prog 132 #[.int .i64 x,.int .i64 y] w fun e w'=>e=.returned (.bool (decide (0<x)))/\w'=w:=by
 go_enter func132,ntmps132;go_wp2;go_ret;exact⟨rfl,rfl⟩
theorem WL(x y:Int)(w:World):Calls prog 176 #[.int .i64 x,.int .i64 y] w fun e w'=>e=.returned (.bool (decide (x=y)))/\w'=w:=by
 go_enter func176,ntmps176;go_wp2;go_ret;exact⟨bn (by rw[Bool.eq_iff_iff];simp),rfl⟩
theorem WM(g o:Nat)(x d:Int)(w:World)(h:w.cell? ⟨g,o,none⟩=some (.int .i64 x))(hf:w.frozen? ⟨g,o,none⟩=false)(h1:-4611686018427387904<=x/\x<=4611686018427387904)(h2:-1<=d/\d<=1) :
  Calls prog 159 #[.pointer (some ⟨g,o,none⟩),.int .i64 d] w fun e w'=>e=.returned (.int .i64 (min (x+d) 1-min x 1))/\w'=w.setCell ⟨g,o,none⟩ (.int .i64 (x+d)):=by
 have r1:IntKind.i64.wrap (x+d)=x+d:=by rw[IntKind.wrap_i64];omega
 have r2:IntKind.i64.wrap (min (x+d) 1-min x 1)=min (x+d) 1-min x 1:=by rw[IntKind.wrap_i64];omega
 go_enter func159,ntmps159;go_wp2;go_ret;exact⟨rfl,rfl⟩
theorem Nv(a1 a2 a3:Int)(a4 a5:ByteArray)(w:World)(hs:a4.size<=281474976710656) :
  Calls prog 160 #[.agg #[.int .i64 a1,.int .i64 a2,.int .i64 a3,.string a4,.string a5]] w fun e w'=>e=.returned (.agg #[.int .i64 a1,.int .i64 a2,.int .i64 a3,.string a4,.string ⟨#[]⟩])/\w.grownBy w' none:=by
 have CC:=ae (fun w=>clone_any a4 w hs);clear hs;go_enter func160,ntmps160;go_wp2_with (go_at_call 164;refine(CC.o _).mono ?_);rintro e w1 ⟨rfl,hg⟩;obtain⟨A,hA⟩:=zN (w.heap.size);have jl:Hd (VX A a1 a2 a3 a4 a5 w1):=by
  show w1.heap[A]?=_;rw[hg.block A (by rw[<-hA];simp;omega) (by simp),<-hA,Lib.alloc_old _ _ _ (by simp)];exact heap_alloc_new w _
 have HXB:Hd (VX (A+1) 0 0 0 ⟨#[]⟩ ⟨#[]⟩ w1):=by
  show w1.heap[A+1]?=_;rw[hg.block (A+1) (by rw[<-hA];simp) (by simp)];have:=heap_alloc_new (w.alloc (.cells #[.int .i64 a1,.int .i64 a2,.int .i64 a3,.string a4,.string a5] 109)) (.cells #[.int .i64 0,.int .i64 0,.int .i64 0,.string ⟨#[]⟩,.string ⟨#[]⟩] 109);rw[<-hA];simpa using this
 have HG:=ae (ah (au (au (ak w none) _) _) hg);have dK:=ae (Nat.le_of_eq hA);rw[hA];clear hA hg;obtain⟨v0,v1,v2,v3,v4⟩:=jl.o.cells;have vf:=jl.o.f;obtain⟨u0,u1,u2,u3,u4⟩:=HXB.o.cells;have uf:=HXB.o.f;go_wp2;have hB:VX (A+1) 0 0 0 ⟨#[]⟩ ⟨#[]⟩ ((w1.setCell ⟨A,3,none⟩ (.string a4)).setCell ⟨A,4,none⟩ (.string ⟨#[]⟩)):=(HXB.o.other (by omega) _ _).other (by omega) _ _;refine bodyPost_ret (results_cell_row rfl _ _ (A+1) 109 #[.int .i64 a1,.int .i64 a2,.int .i64 a3,.string a4,.string ⟨#[]⟩] (0,0) _ rfl (Dz hB a1 a2 a3 a4 ⟨#[]⟩) underlying109 rfl (by kernel_rfl)) rfl ⟨rfl,?_⟩;have h0:=dK.o;exact og (eQ (eQ HG.o h0 _ _) h0 _ _) (by omega) a1 a2 a3 a4 ⟨#[]⟩
open Go.RowKit
structure Er where
 a1:Int
 a2:Int
 a3:Int
 a4:ByteArray
 a5:ByteArray
 l:Nat
 d:Int
instance:Inhabited Er:=⟨⟨0,0,0,⟨#[]⟩,⟨#[]⟩,0,0⟩⟩
def iw(e:Er):List Value:=[.int .i64 e.a1,.int .i64 e.a2,.int .i64 e.a3,.string e.a4,.string e.a5,.int .i64 e.l,.int .i64 e.d]
def aP(e:Er):Ed:=⟨⟨e.a1,e.a2,e.a3,e.a4.data.toList⟩,e.l,e.d⟩
def rV(s:Sp):Sg:=⟨rM s,uC s,s.o⟩
def uG(k:Nat)(s:Sp):Er:=⟨s.f1,s.f2,s.f3,s.f4,s.f5,k,1⟩
def DU(k:Nat)(s:Sp):Er:=⟨s.t1,s.t2,s.t3,s.t4,s.t5,k,-1⟩
def dL(k:Nat)(s:Sp):List Er:=if s.o=true then[uG k s] else if aB (rM s) (uC s)<0 then[uG k s,DU k s] else[]
def dM:Nat->List (List Sp)->List Er
 | _,[]=>[]
 | k,l :: Ls=>l.flatMap (dL k)++dM (k+1) Ls
theorem WN(k:Nat)(s:Sp):(dL k s).map aP=yw k (rV s):=by
 unfold dL yw rV;simp only;split
 ·rfl
 ·split<;>rfl
theorem Ny:∀(Ls:List (List Sp)) (k:Nat),(dM k Ls).map aP=uw k (Ls.map (·.map rV))
 | [],k=>rfl
 | l :: Ls,k=>by
  rw[dM,List.map_append,List.map_cons,uw,Ny Ls (k+1)];congr 1
  induction l with
  | nil=>rfl
  | cons s l ih=>rw[List.flatMap_cons,List.map_append,List.map_cons,List.flatMap_cons,ih,WN]
theorem WO(k:Nat)(s:Sp):(dL k s).length<=2:=by
 unfold dL;split
 ·simp
 ·split<;>simp
theorem yD(k:Nat)(l:List Sp):(l.flatMap (dL k)).length<=2*l.length:=by
 induction l with
 | nil=>simp
 | cons s l ih=>rw[List.flatMap_cons,List.length_append,List.length_cons];have:=WO k s;omega
theorem WP:(prog.info? 241).map (fun i=>(i.zero,i.size,i.bytes))=some (some (.agg #[.int .i64 0,.int .i64 0,.int .i64 0,.string ⟨#[]⟩,.string ⟨#[]⟩,.int .i64 0,.int .i64 0]),7,72):=by kernel_rfl
def Lists(w:World)(a:Addr)(Ls:List (List Sp)):Prop:=∀j (hj:j<Ls.length),∃sl,w.cell? (a.add j)=some sl/\SpS w sl Ls[j]
theorem Lists.grow{w w':World}{a:Addr}{Ls:List (List Sp)}(h:Lists w a Ls)(hg:w.grownBy w' none):Lists w' a Ls:=fun j hj=>by
 obtain⟨sl,h1,h2⟩:=h j hj;exact⟨sl,hg.cell h1 (by simp),h2.grow hg⟩
theorem Nz:∀(A:List (List Sp)) (k:Nat) (l:List Sp),dM k (A++[l])=dM k A++l.flatMap (dL (k+A.length))
 | [],k,l=>by simp[dM]
 | b :: A,k,l=>by
  rw[List.cons_append,dM,Nz A (k+1) l,dM,List.append_assoc,List.length_cons,show k+1+A.length=k+(A.length+1) by omega]
theorem DV(e:Er):∀u∈iw e,u.oneCell'=true:=by
 intro u hu;simp only[iw,List.mem_cons,List.not_mem_nil,or_false]at hu
 rcases hu with rfl|rfl|rfl|rfl|rfl|rfl|rfl<;>rfl
theorem WQ(e f:Er):∀u∈iw e++iw f,u.oneCell'=true:=fun u hu=>by
 rcases List.mem_append.1 hu with h|h
 ·exact DV e u h
 ·exact DV f u h
def ww(w:World)(E:List Er)(ve:Value)(wr:World):Prop:=wr.ownsRow w.heap.size 241 7 ve E.length (E.flatMap iw)/\Below w.heap.size w wr
def NC(Ls:List (List Sp))(w:World)(e:Ending)(w':World):Prop:=∃(ve:Value) (E:List Er),e=.returned ve/\E.Perm (dM 0 Ls)/\nY (E.map aP)/\w'.ownsRow w.heap.size 241 7 ve E.length (E.flatMap iw)/\Below w.heap.size w w'
def AB:Prop:=∀(ve:Value) (E:List Er) (base:Nat) (w:World),w.ownsRow base 241 7 ve E.length (E.flatMap iw)->E.length<=8388608->(∀e∈E,e.a4.size<=1048576) →
 Calls prog 178 #[ve,.func (.func 179) #[] #[]] w fun e w'=>e=.returned (.tuple #[])/\∃E':List Er,E'.Perm E/\nY (E'.map aP)/\w'.ownsRow base 241 7 ve E'.length (E'.flatMap iw)/\w.grownBy w' ve.ownBlock
theorem Gy(Ls:List (List Sp))(h:∀l∈Ls,l.length<=1048576/\∀s∈l,jg s):∀(k:Nat),∀e∈dM k Ls,e.a4.size<=1048576:=by
 induction Ls with
 | nil=>intro k e he;simp[dM]at he
 | cons l Ls ih =>
  intro k e he;rw[dM]at he
  rcases List.mem_append.1 he with he|he
  ·obtain⟨s,hs,he⟩:=List.mem_flatMap.1 he;have hm:=(h l (by simp)).2 s hs;unfold dL at he;split at he
   ·simp at he;rw[he];exact hm.1
   ·split at he
    ·simp at he
     rcases he with rfl|rfl
     ·exact hm.1
     ·exact hm.2.2.1
    ·simp at he
  ·exact ih (fun l' hl'=>h l' (by simp[hl'])) (k+1) e he
theorem WS{w w':World}{a:Addr}{L:List Sp}(h:SpAt w a L)(hb:Below w.heap.size w w'):SpAt w' a L:=h.grow ⟨hb.os,hb.tape,hb.output,hb.size,fun k hk _=>hb.block k hk⟩
theorem WT(hsort:AB)(a:Addr)(n cap:Nat)(Ls:List (List Sp))(w:World)(hn:Ls.length=n)(hcap:n<=cap)(hn2:n<=2)(h:Lists w a Ls)(hsz:∀l∈Ls,l.length<=1048576/\∀s∈l,jg s) :
  Calls prog 158 #[.slice (some a) n cap] w (NC Ls w):=by
 have hinfo:=WP;obtain⟨i0,hi0,hii⟩:=Option.map_eq_some_iff.1 hinfo;simp only[Prod.mk.injEq]at hii;obtain⟨hz0,hz1,hzb⟩:=hii;clear hinfo;have HA:=ae h;have HS:=ae hsz;have HN:=ae hn;clear h hsz hn;go_enter func158,ntmps158;go_wp2;go_loopw [3,10] (fun ve vi wr=>∃j:Nat,vi=.int .i64 j/\j<=n/\(dM 0 (Ls.take j)).length<=2097152*j/\ww w (dM 0 (Ls.take j)) ve wr) (fun _ vi _=>n-(intOf vi).toNat)
 case atStart=>exact⟨0,rfl,Nat.zero_le _,by simp[dM],World.ownsRow_nil _ _ _ _,Below.refl _ _⟩
 case round =>
  obtain⟨j,rfl,hj,hlen,hown,hb⟩:=hrel
  by_cases hlt:j<n
  ·have hjl:j<Ls.length:=by rw[HN.o];exact hlt
   obtain⟨sl,hcell,hsp⟩:=HA.o j hjl;have gW:w.grownBy wr none:=⟨hb.os,hb.tape,hb.output,hb.size,fun k hk _=>hb.block k hk⟩;have cj:=gW.cell hcell (by simp);obtain⟨l,hl⟩:=zN (Ls[j]);rw[hl]at hsp;have DW:Hd (l.length<=1048576/\∀s∈l,jg s):=by rw[<-hl];exact HS.o _ (List.getElem_mem hjl)
   have bK:Hd (dM 0 (Ls.take (j+1))=dM 0 (Ls.take j)++l.flatMap (dL j)):=by
    show dM 0 _=_;rw[List.take_succ_eq_append_getElem hjl,Nz,hl,List.length_take,Nat.min_eq_left (Nat.le_of_lt hjl),Nat.zero_add]
   obtain⟨E0,hE0⟩:=zN (dM 0 (Ls.take j));rw[hE0]at bK hlen hown;have DX:=ae hlen;have HO:Hd (ww w E0 u3 wr):=⟨hown,hb⟩;have jO:=ae hsp;clear hE0 hl hcell hlen hown hb hsp gW;have NEXT:Hd (∀ve wk,ww w (E0++l.flatMap (dL j)) ve wk->j+1<=n/\(dM 0 (Ls.take (j+1))).length<=2097152*(j+1)/\ww w (dM 0 (Ls.take (j+1))) ve wk):=by
    intro ve wk h;rw[bK.o];refine⟨by omega,?_,h⟩;have q1:=DX.o;have q2:=yD j l;have q3:=DW.o.1;rw[List.length_append];omega
   rcases jO.o with⟨rfl,hnil⟩|⟨a',cap',rfl,hc',hat⟩
   ·have WU:=ae hnil;clear hnil;go_wp2;go_loopw [3,17] (fun ve vi wk=>vi=.int .i64 0/\ww w E0 ve wk) (fun _ vi _=>0)
    case atStart=>exact⟨rfl,HO.o⟩
    case round =>
     obtain⟨rfl,hO⟩:=hrel;have Gz:=ae hO;clear hO;go_wp2;go_roundw
     case rel =>
      have:=NEXT.o u3 wr (by rw[WU.o];simpa using Gz.o);exact⟨j+1,by go_num,this.1,this.2.1,this.2.2⟩
     case measure=>simp[intOf];omega
   ·have HAT:=ae hat;clear hat;go_wp2;go_loopw [3,17] (fun ve vi wk=>∃k:Nat,vi=.int .i64 k/\k<=l.length/\ww w (E0++(l.take k).flatMap (dL j)) ve wk) (fun _ vi _=>l.length-(intOf vi).toNat)
    case atStart=>exact⟨0,rfl,Nat.zero_le _,by simpa using HO.o⟩
    case round =>
     obtain⟨k,rfl,hk,hown,hb⟩:=hrel
     by_cases hkl:k<l.length
     ·obtain⟨s,hs⟩:=zN (l[k]);have ae2:=DW.o.1;have HE:Hd (EltAt wr (a'.add (k*11)) s):=by show EltAt wr _ s;rw[<-hs];exact(WS HAT.o hb) k hkl
      have hm:jg s:=by rw[<-hs];exact DW.o.2 _ (List.getElem_mem hkl)
      have jm:Hd ((l.take (k+1)).flatMap (dL j)=(l.take k).flatMap (dL j)++dL j s):=by
       show _=_;rw[List.take_succ_eq_append_getElem hkl,List.flatMap_append,hs];simp
      have HLEN:Hd ((E0++(l.take k).flatMap (dL j)).length+2<=8388608):=by
       show _<=_;have q1:=DX.o;have q2:=yD j (l.take k);have q3:=DW.o.1;rw[List.length_append];rw[List.length_take]at q2;omega
      obtain⟨x,hx⟩:=zN (aB (rM s) (uC s));have CF:Hd (∀w,Calls prog 88 #[.agg #[.int .i64 s.f1,.int .i64 s.f2,.int .i64 s.f3,.string s.f4,.string s.f5],.agg #[.int .i64 s.t1,.int .i64 s.t2,.int .i64 s.t3,.string s.t4,.string s.t5]] w fun e w'=>e=.returned (.int .i64 x)/\w.grownBy w' none):=fun w=>by
       rw[<-hx];exact compare_any s.f1 s.f2 s.f3 s.t1 s.t2 s.t3 s.f4 s.f5 s.t4 s.t5 w (by have:=hm.1;omega) (by have:=hm.2.2.1;omega)
      have HX:=ae hx;obtain⟨e0,e1,e2,e3,e4,e5,e6,e7,e8,e9,e10⟩:=HE.o;obtain⟨N,hN⟩:=zN (wr.heap.size);obtain⟨W2,hW2⟩:=zN (wr.alloc (.cells #[.int .i64 s.f1,.int .i64 s.f2,.int .i64 s.f3,.string s.f4,.string s.f5,.int .i64 s.t1,.int .i64 s.t2,.int .i64 s.t3,.string s.t4,.string s.t5,.bool s.o] 181));have HE2:Hd (EltAt W2 ⟨N,0,none⟩ s):=by
       show EltAt W2 _ s;rw[<-hN,<-hW2];exact Gx (t:=181) (heap_alloc_new wr _)
      have dh:Hd (W2.ownsRow w.heap.size 241 7 u3 (E0++(l.take k).flatMap (dL j)).length ((E0++(l.take k).flatMap (dL j)).flatMap iw)):=by show World.ownsRow _ _ _ _ _ _ _;rw[<-hW2];exact hown.alloc _
      have HB2:Hd (Below w.heap.size w W2):=by show Below _ _ _;rw[<-hW2];exact hb.alloc hb.size _
      clear hx hm hs hown hb;obtain⟨d0,d1,d2,d3,d4,d5,d6,d7,d8,d9,d10⟩:=HE2.o;simp only[Nat.zero_add]at d1 d2 d3 d4 d5 d6 d7 d8 d9 d10
      cases ho:s.o with
      | true =>
       have AC:Hd (dL j s=[uG j s]):=by show dL j s=_;unfold dL;rw[if_pos ho]
       rw[ho]at d10;clear ho;go_wp2_with (first|(at_builtin;refine wpList_append_own _ rfl _ _ 238 rfl w.heap.size 241 i0 (.agg #[.int .i64 0,.int .i64 0,.int .i64 0,.string ⟨#[]⟩,.string ⟨#[]⟩,.int .i64 0,.int .i64 0]) 7 72 underlying238 hi0 hz0 hz1 hzb rfl (by decide) _ _ _ rfl (dh.o.alloc _) _ 1 1 (iw (uG j s)) rfl rfl (World.news_of_block (heap_alloc_new _ _)) (DV _) (by unfold maxLen;have:=HLEN.o;omega) (by have:=HLEN.o;omega) (by have:=HB2.o.size;simp;omega) ?_;intro v' w3 hown3 hgrow _));have hb3:=(HB2.o.alloc (HB2.o.size) _).grown hgrow (by have:=HB2.o.size;simp;omega) (fun q hq=>(dh.o.lt q hq).1);have hl3:(E0++(l.take (k+1)).flatMap (dL j))=(E0++(l.take k).flatMap (dL j))++dL j s:=by rw[jm.o,List.append_assoc]
       refine⟨⟨k+1,by go_num,by omega,?_,hb3⟩,by simp[intOf];omega⟩;rw[hl3,AC.o,List.length_append,List.flatMap_append];simpa using hown3
      | false =>
       rw[ho]at d10;have yE:=ae ho;clear ho;go_wp2_with (go_at_call 88;refine(CF.o _).mono ?_);rintro e w1 ⟨rfl,hg⟩;have DY:=ae (HE2.o.grow hg);have uH:=ae (oN dh.o hg);have HB3:=ae (WG HB2.o HB2.o.size hg)
       try rw[hN]
       clear hN hW2 hg e0 e1 e2 e3 e4 e5 e6 e7 e8 e9 e10 d0 d1 d2 d3 d4 d5 d6 d7 d8 d9 d10;obtain⟨d0,d1,d2,d3,d4,d5,d6,d7,d8,d9,d10⟩:=DY.o;simp only[Nat.zero_add]at d1 d2 d3 d4 d5 d6 d7 d8 d9 d10
       by_cases hx0:x<0
       ·have AC:Hd (dL j s=[uG j s,DU j s]):=by
         show dL j s=_;unfold dL;rw[if_neg (by rw[yE.o];decide),if_pos (by rw[HX.o];exact hx0)]
        go_wp2_with (first|(at_builtin;refine wpList_append_own _ rfl _ _ 238 rfl w.heap.size 241 i0 (.agg #[.int .i64 0,.int .i64 0,.int .i64 0,.string ⟨#[]⟩,.string ⟨#[]⟩,.int .i64 0,.int .i64 0]) 7 72 underlying238 hi0 hz0 hz1 hzb rfl (by decide) _ _ _ rfl (uH.o.alloc _) _ 2 2 (iw (uG j s)++iw (DU j s)) rfl rfl (World.news_of_block (heap_alloc_new _ _)) (WQ _ _) (by unfold maxLen;have:=HLEN.o;omega) (by have:=HLEN.o;omega) (by have:=HB3.o.size;simp;omega) ?_;intro v' w3 hown3 hgrow _));have hb3:=(HB3.o.alloc (HB3.o.size) _).grown hgrow (by have:=HB3.o.size;simp;omega) (fun q hq=>(uH.o.lt q hq).1);have hl3:(E0++(l.take (k+1)).flatMap (dL j))=(E0++(l.take k).flatMap (dL j))++dL j s:=by rw[jm.o,List.append_assoc]
        refine⟨⟨k+1,by go_num,by omega,?_,hb3⟩,by simp[intOf];omega⟩;rw[hl3,AC.o,List.length_append,List.flatMap_append];simpa using hown3
       ·have AC:Hd (dL j s=[]):=by
         show dL j s=_;unfold dL;rw[if_neg (by rw[yE.o];decide),if_neg (by rw[HX.o];exact hx0)]
        go_wp2;go_roundw
        case rel =>
         have hl3:(E0++(l.take (k+1)).flatMap (dL j))=(E0++(l.take k).flatMap (dL j))++dL j s:=by rw[jm.o,List.append_assoc]
         refine⟨k+1,by go_num,by omega,?_⟩;rw[hl3,AC.o,List.append_nil];exact⟨uH.o,HB3.o⟩
        case measure=>simp[intOf];omega
     ·have hkl2:k=l.length:=by omega
      have Gz:Hd (ww w (E0++l.flatMap (dL j)) u3 wr):=by
       have:=hown;rw[hkl2,List.take_length]at this;exact⟨this,hb⟩
      clear hkl2 hown hb hk;go_wp2;go_roundw
      case rel =>
       have:=NEXT.o u3 wr Gz.o;exact⟨j+1,by go_num,this.1,this.2.1,this.2.2⟩
      case measure=>simp[intOf];omega
  ·have hjn:j=n:=by omega
   have hto:Ls.take j=Ls:=List.take_of_length_le (by rw[HN.o];omega);rw[hto]at hown hlen;have CS:=hsort u3 (dM 0 Ls) w.heap.size wr hown (by omega) (Gy Ls HS.o 0);have WV:=ae CS;have HB:=ae hb;have wB:=ae (fun q (hq:u3.ownBlock=some q)=>(hown.lt q hq).1);clear CS hown hb hlen hto hjn hj;go_wp2_with (go_at_call 178;refine WV.o.mono ?_);rintro e w3 ⟨rfl,E',hp,hso,ho3,hg3⟩;have HF:Hd (NC Ls w (.returned u3) w3):=⟨u3,E',rfl,hp,hso,ho3,HB.o.grown hg3 HB.o.size wB.o⟩;clear hp hso ho3 hg3;go_wp2;exact bodyPost_ret (results_tmp (t:=2) rfl _ _ _) rfl HF.o
open Go.RowKit
def l7:V:=⟨0,0,0,[]⟩
def fM(x y:V)(o:Bool):Sp:=⟨x.major,x.minor,x.patch,⟨x.pre.toArray⟩,⟨#[]⟩,y.major,y.minor,y.patch,⟨y.pre.toArray⟩,⟨#[]⟩,o⟩
def outs:List V->List Sp
 | []=>[]
 | [x]=>[fM x l7 true]
 | x :: y :: r=>fM x y false :: outs r
theorem ND:∀(T:List V) (x:V),T.length % 2=0->outs (T++[x])=outs T++[fM x l7 true]
 | [],x,_=>rfl
 | [a],x,h=>by simp at h
 | a :: b :: r,x,h=>by
  have:=ND r x (by simp at h;omega);simp only[List.cons_append,outs,this]
theorem NE:∀(T:List V) (x:V),T.length % 2=1->∃A y,outs T=A++[fM y l7 true]/\outs (T++[x])=A++[fM y x false]
 | [],x,h=>by simp at h
 | [a],x,_=>⟨[],a,rfl,rfl⟩
 | a :: b :: r,x,h=>by
  obtain⟨A,y,h1,h2⟩:=NE r x (by simp at h;omega);exact⟨fM a b false :: A,y,by simp only[outs,h1,List.cons_append],by simp only[List.cons_append,outs,h2]⟩
theorem WW(s:Sp):(fA s).length=11:=rfl
theorem WX(L:List Sp):(L.flatMap fA).length=L.length*11:=by
 induction L with
 | nil=>rfl
 | cons s L ih=>rw[List.flatMap_cons,List.length_append,ih,WW,List.length_cons];omega
theorem WY(n l:Nat)(d:Int)(b:Nat->Int)(hl:l<n):having n (upd b l d)=having n b+(min (b l+d) 1-min (b l) 1):=by
 unfold having
 induction n with
 | zero=>omega
 | succ n ih =>
  rw[List.range_succ,List.map_append,List.sum_append,List.map_append,List.sum_append];simp only[List.map_cons,List.map_nil,List.sum_cons,List.sum_nil]
  by_cases h:l=n
  ·subst h;have:(List.range l).map (fun j=>min (upd b l d j) 1)=(List.range l).map (fun j=>min (b j) 1):=by
    apply List.map_congr_left;intro j hj;have:=List.mem_range.1 hj;unfold upd;rw[if_neg (by omega)]
   rw[this];unfold upd;rw[if_pos rfl];omega
  ·have h2:=ih (by omega);rw[h2];unfold upd;rw[if_neg (fun e=>h e.symm)];omega
theorem WZ(n:Nat)(b:Nat->Int)(i:Nat)(h:∀j,-(i:Int)<=b j/\b j<=i):-(n*i:Int)<=having n b/\having n b<=n:=by
 unfold having
 induction n with
 | zero=>simp
 | succ n ih =>
  rw[List.range_succ,List.map_append,List.sum_append];simp only[List.map_cons,List.map_nil,List.sum_cons,List.sum_nil];have hn:=h n;have e:((n+1:Nat):Int)*(i:Int)=(n:Int)*i+i:=by rw[Int.natCast_add,Int.add_mul];simp
  rw[e];omega
theorem W9(Ls:List (List Sp)):∀(k:Nat),∀e∈dM k Ls,k<=e.l/\e.l<k+Ls.length/\(e.d=1\/e.d=-1):=by
 induction Ls with
 | nil=>intro k e he;simp[dM]at he
 | cons l Ls ih =>
  intro k e he;rw[dM]at he
  rcases List.mem_append.1 he with he|he
  ·obtain⟨s,hs,he⟩:=List.mem_flatMap.1 he;unfold dL at he;split at he
   ·simp at he;rw[he];simp[uG]
   ·split at he
    ·simp at he
     rcases he with rfl|rfl
     ·simp[uG]
     ·simp[DU]
    ·simp at he
  ·have:=ih (k+1) e he;simp;omega
def EdAt(w:World)(p:Addr)(e:Er):Prop:=w.cell? p=some (.int .i64 e.a1)/\w.cell? ⟨p.block,p.off+1,none⟩=some (.int .i64 e.a2)/\w.cell? ⟨p.block,p.off+2,none⟩=some (.int .i64 e.a3)/\w.cell? ⟨p.block,p.off+3,none⟩=some (.string e.a4)/\w.cell? ⟨p.block,p.off+4,none⟩=some (.string e.a5)/\w.cell? ⟨p.block,p.off+5,none⟩=some (.int .i64 e.l)/\w.cell? ⟨p.block,p.off+6,none⟩=some (.int .i64 e.d)
theorem EdAt.grow{w w':World}{p:Addr}{e:Er}{r:Option Nat}(h:EdAt w p e)(hg:w.grownBy w' r)(hn:some p.block≠r):EdAt w' p e:=by
 obtain⟨h0,h1,h2,h3,h4,h5,h6⟩:=h;exact⟨hg.cell h0 hn,hg.cell h1 hn,hg.cell h2 hn,hg.cell h3 hn,hg.cell h4 hn,hg.cell h5 hn,hg.cell h6 hn⟩
theorem Xa{w:World}{a:Addr}{n:Nat}{e:Er}(h:∀k v,(iw e)[k]?=some v->w.cell? (a.add (n+k))=some v):EdAt w (a.add n) e :=
 ⟨by have:=h 0 _ rfl;simpa using this,by have:=h 1 _ rfl;rw[iV a n 1 (by omega)]at this;exact this,by have:=h 2 _ rfl;rw[iV a n 2 (by omega)]at this;exact this,by have:=h 3 _ rfl;rw[iV a n 3 (by omega)]at this;exact this,by have:=h 4 _ rfl;rw[iV a n 4 (by omega)]at this;exact this,by have:=h 5 _ rfl;rw[iV a n 5 (by omega)]at this;exact this,by have:=h 6 _ rfl;rw[iV a n 6 (by omega)]at this;exact this⟩
theorem NG(L:List Er):∀(i:Nat) (hi:i<L.length) (k:Nat) (v:Value),(iw L[i])[k]?=some v->(L.flatMap iw)[i*7+k]?=some v:=by
 induction L with
 | nil=>intro i hi;simp at hi
 | cons s L ih =>
  intro i hi k v h;rw[List.flatMap_cons];have hl:(iw s).length=7:=rfl
  cases i with
  | zero =>
   simp only[List.getElem_cons_zero]at h;have hk:=(List.getElem?_eq_some_iff.1 h).1;rw[Nat.zero_mul,Nat.zero_add,List.getElem?_append_left hk];exact h
  | succ i =>
   simp only[List.getElem_cons_succ]at h;rw[List.getElem?_append_right (by rw[hl];omega),hl,show(i+1)*7+k-7=i*7+k by omega];exact ih i (by simpa using hi) k v h
theorem Xc{w:World}{base:Nat}{v:Value}{E:List Er}(h:w.ownsRow base 241 7 v E.length (E.flatMap iw)) :
  (v=.slice none 0 0/\E=[])\/∃(ga:Addr) (cap:Nat),v=.slice (some ga) E.length cap/\E.length<=cap/\base<=ga.block/\ga.block<w.heap.size/\ga.spot=none/\∀i (hi:i<E.length),EdAt w (ga.add (i*7)) E[i]:=by
 rcases h.2 with⟨h1,h2⟩|⟨g,cap,cur,h1,hb,hg,hn,hm,hs,ht⟩
 ·exact Or.inl ⟨h1,List.length_eq_zero_iff.1 h2⟩
 ·refine Or.inr ⟨⟨g,0,none⟩,cap,h1,hn,hb,(aA hg),rfl,fun i hi=>Xa fun k u hu=>?_⟩;have:=NG E i hi k u hu;exact h.cells (g:=g) (by rw[h1];rfl) (i*7+k) u this
theorem add_block(a:Addr)(n:Nat):(a.add n).block=a.block:=by unfold Addr.add;split<;>rfl
theorem yF{w:World}{base:Nat}{e:TypeId}{size:Nat}{g n cap:Nat}{xs:List Value}(h:w.ownsRow base e size (.slice (some ⟨g,0,none⟩) n cap) n xs)(o:Nat)(x:Value)(ho:o<n*size):(w.setCell ⟨g,o,none⟩ x).ownsRow base e size (.slice (some ⟨g,0,none⟩) n cap) n (xs.set o x):=by
 refine⟨by rw[List.length_set];exact h.1,?_⟩
 rcases h.2 with⟨h1,_⟩|⟨g',cap',cur,h1,hb,hg,hn,hm,hs,ht⟩
 ·cases h1
 ·cases h1
  refine Or.inr ⟨g,cap,cur.setIfInBounds o x,rfl,hb,?_,hn,hm,by simpa using hs,?_⟩
  ·simp[World.setCell,Array.getElem?_modify,hg]
  ·rw[Array.toList_setIfInBounds,List.take_set,ht]
theorem GG:∀(T:List V),(outs T).length<=T.length
 | []=>Nat.le_refl _
 | [a]=>Nat.le_refl _
 | a :: b :: r=>by have:=GG r;simp only[outs,List.length_cons];omega
theorem Xd(e:Er):fA (fM (aP e).at_ l7 true)=[.int .i64 e.a1,.int .i64 e.a2,.int .i64 e.a3,.string e.a4,.string ⟨#[]⟩,.int .i64 0,.int .i64 0,.int .i64 0,.string ⟨#[]⟩,.string ⟨#[]⟩,.bool true]:=by
 simp only[fA,fM,aP,l7,Go.Joins.bytes_eta]
theorem NH{w wa wb:World}{B:Nat}{row:Option Nat}(h:w.grownBy wa (some B))(hg:wa.grownBy wb row)(hr:∀q,row=some q->w.heap.size<=q):w.grownBy wb (some B) :=
 ⟨hg.os.trans h.os,hg.tape.trans h.tape,hg.output.trans h.output,Nat.le_trans h.size hg.size,fun k hk hn=>(hg.block k (Nat.lt_of_lt_of_le hk h.size) (fun e=>by have:=hr k e.symm;omega)).trans (h.block k hk hn)⟩
theorem AL(g k:Nat):(⟨g,0,none⟩:Addr).add k=⟨g,k,none⟩:=by
 unfold Addr.add;split
 ·rename_i h;rw[h]
 ·simp
theorem yG{P l:List Value}{k:Nat}(hP:P.length=k)(q:Nat)(v:Value):(P++l).set (k+q) v=P++l.set q v:=by
 rw[List.set_append_right _ _ (by omega),hP,Nat.add_sub_cancel_left]
theorem Xe(e:Er)(y:V){P:List Value}{k:Nat}(hP:P.length=k) :
  ((((((P++fA (fM y l7 true)).set (k+5) (.int .i64 e.a1)).set (k+6) (.int .i64 e.a2)).set (k+7) (.int .i64 e.a3)).set (k+8) (.string e.a4)).set (k+9) (.string ⟨#[]⟩)).set (k+10) (.bool false)=P++fA (fM y (aP e).at_ false):=by
 rw[yG hP,yG hP,yG hP,yG hP,yG hP,yG hP];simp only[fA,fM,aP,l7,Go.Joins.bytes_eta,List.set]
theorem yH{w:World}{base:Nat}{gs capS M:Nat}{A:List Sp}{s:Sp}(h:w.ownsRow base 181 11 (.slice (some ⟨gs,0,none⟩) (M+1) capS) (M+1) ((A++[s]).flatMap fA))(hA:A.length=M)(q:Nat)(v:Value)(hq:(fA s)[q]?=some v):w.cell? ⟨gs,M*11+q,none⟩=some v:=by
 have h1:=flat_get (A++[s]) M (by rw[List.length_append,hA];simp) q v (by rw[List.getElem_append_right (by omega)];simpa [hA] using hq);have:=h.cells (g:=gs) rfl (M*11+q) v h1;rw[AL]at this;exact this
theorem Xf{w:World}{base:Nat}{e:TypeId}{size gs n cap:Nat}{xs:List Value}(h:w.ownsRow base e size (.slice (some ⟨gs,0,none⟩) n cap) n xs)(o:Nat):w.frozen? ⟨gs,o,none⟩=false:=by
 rcases h.2 with⟨h1,_⟩|⟨g',cap',cur,h1,hb,hg,_⟩
 ·cases h1
 ·cases h1;exact Lib.frozen_of_heap hg o
theorem NI(Ls:List (List Sp))(h:∀l∈Ls,l.length<=1048576):∀k,(dM k Ls).length<=2097152*Ls.length:=by
 induction Ls with
 | nil=>intro k;simp[dM]
 | cons l Ls ih =>
  intro k;have h1:=ih (fun l' hl'=>h l' (by simp[hl'])) (k+1);have h2:=yD k l;have h3:=h l (by simp);rw[dM,List.length_append,List.length_cons];omega
theorem NJ(n:Nat):having n (fun _=>0)=0:=by
 unfold having
 induction n with
 | zero=>rfl
 | succ n ih=>rw[List.range_succ,List.map_append,List.sum_append,ih];rfl
open Go.RowKit
theorem Xg(x y:Er)(w:World)(hx:x.a4.size<=1048576)(hy:y.a4.size<=1048576) :
  Calls prog 179 #[.agg (iw x).toArray,.agg (iw y).toArray] w fun e w'=>e=.returned (.int .i64 (aB (aP x).at_ (aP y).at_))/\Gr w w':=by
 obtain⟨a1,a2,a3,a4,a5,l,d⟩:=x;obtain⟨b1,b2,b3,b4,b5,m,c⟩:=y;obtain⟨r,hr⟩:=zN (aB (aP ⟨a1,a2,a3,a4,a5,l,d⟩).at_ (aP ⟨b1,b2,b3,b4,b5,m,c⟩).at_);have CC:Hd (∀w,Calls prog 88 #[.agg #[.int .i64 a1,.int .i64 a2,.int .i64 a3,.string a4,.string a5],.agg #[.int .i64 b1,.int .i64 b2,.int .i64 b3,.string b4,.string b5]] w fun e w'=>e=.returned (.int .i64 r)/\Gr w w'):=fun w=>by
  rw[<-hr];exact G.compare_any a1 a2 a3 b1 b2 b3 a4 a5 b4 b5 w (by simp at hx;omega) (by simp at hy;omega)
 rw[hr];clear hr hx hy;show Calls prog 179 #[.agg #[.int .i64 a1,.int .i64 a2,.int .i64 a3,.string a4,.string a5,.int .i64 l,.int .i64 d],.agg #[.int .i64 b1,.int .i64 b2,.int .i64 b3,.string b4,.string b5,.int .i64 m,.int .i64 c]] w _;go_enter func179,ntmps179;go_wp2_with (go_at_call 88;refine(CC.o _).mono ?_);rintro e w1 ⟨rfl,hg⟩;go_wp2;go_ret;exact⟨rfl,uy (Ar (Ar (Aq w) _) _) hg⟩
open Go.RowKit
theorem Xh:(prog.info? 3).map (fun i=>(i.zero,i.size,i.bytes))=some (some (.int .i64 0),1,8):=by kernel_rfl
def BegunAt(w:World)(B n:Nat)(b:Nat->Int):Prop:=w.heap[B]?=some (.cells ((List.range n).map fun j=>Value.int .i64 (b j)).toArray 3 (0,0))
theorem BegunAt.cell{w:World}{B n:Nat}{b:Nat->Int}(h:BegunAt w B n b){j:Nat}(hj:j<n):w.cell? ⟨B,j,none⟩=some (.int .i64 (b j)):=by
 rw[ag h];simp[hj]
theorem BegunAt.f{w:World}{B n:Nat}{b:Nat->Int}(h:BegunAt w B n b)(j:Nat):w.frozen? ⟨B,j,none⟩=false:=Lib.frozen_of_heap h j
theorem BegunAt.set{w:World}{B n:Nat}{b:Nat->Int}(h:BegunAt w B n b){l:Nat}(hl:l<n)(d:Int):BegunAt (w.setCell ⟨B,l,none⟩ (.int .i64 (b l+d))) B n (upd b l d):=by
 unfold BegunAt at h ⊢;simp only[World.setCell,Array.getElem?_modify,h,if_true,Option.map_some];congr 2;apply Array.ext';apply List.ext_getElem?;intro k;simp only[Option.isSome_none,Bool.false_eq_true,if_false];rw[Array.toList_setIfInBounds];simp only[List.getElem?_set,List.getElem?_map,List.length_map,List.length_range]
 by_cases hk:l=k
 ·subst hk;simp[hl,upd]
 ·simp only[hk,if_false]
  by_cases hkn:k<n
  ·simp[hkn,upd];intro e;exact absurd e.symm hk
  ·simp[hkn]
theorem BegunAt.grow{w w':World}{B n:Nat}{b:Nat->Int}{r:Option Nat}(h:BegunAt w B n b)(hg:w.grownBy w' r)(hn:some B≠r):BegunAt w' B n b:=by
 unfold BegunAt at h ⊢;rw[hg.block B ((aA h)) hn];exact h
theorem BegunAt.drew{w:World}{B n:Nat}{b:Nat->Int}(h:BegunAt w B n b)(m:Nat):BegunAt (w.drewN m) B n b:=h
theorem Xi(n:Nat):madeCells #[Value.int .i64 0] n=((List.range n).map fun _=>Value.int .i64 0).toArray:=by
 apply Array.ext';simp[madeCells];intro a ha;rw[Nat.mod_one];rfl
theorem NK{w:World}{b b':Nat}{e:TypeId}{size:Nat}{v:Value}{n:Nat}{xs:List Value}(h:w.ownsRow b e size v n xs)(hb:b'<=b):w.ownsRow b' e size v n xs:=by
 refine⟨h.1,?_⟩
 rcases h.2 with h|⟨g,cap,cur,h1,h2,h3⟩
 ·exact Or.inl h
 ·exact Or.inr ⟨g,cap,cur,h1,Nat.le_trans hb h2,h3⟩
def SweepPost(ch:Int->Bool)(Ls:List (List Sp))(w:World)(e:Ending)(w':World):Prop :=
 w.grownBy w' none/\((¬Ls.all (·.all gI)=true/\e=.returned (.tuple #[.slice none 0 0,.int .i64 2])) ∨
  (Ls.all (·.all gI)=true/\∃(E:List Er) (vs:Value),E.Perm (dM 0 Ls)/\nY (E.map aP)/\e=.returned (.tuple #[vs,.int .i64 0])/\SpS w' vs (outs (eP (fun b=>ch (having Ls.length b)) (fun _=>0) false (E.map aP)))/\w'.ownsRow w.heap.size 181 11 vs (outs (eP (fun b=>ch (having Ls.length b)) (fun _=>0) false (E.map aP))).length ((outs (eP (fun b=>ch (having Ls.length b)) (fun _=>0) false (E.map aP))).flatMap fA)))
theorem Xj{p0 p1 p2 p3 p4 p5 p6 p7 p8 p9:Addr}{c0 c1 c2 c3 c4 c5 c6 c7 c8 c9:Value}{w w':World}(hg:w.grownBy w' none)(h:w.cell? p0=some c0/\w.cell? p1=some c1/\w.cell? p2=some c2/\w.cell? p3=some c3/\w.cell? p4=some c4/\w.cell? p5=some c5/\w.cell? p6=some c6/\w.cell? p7=some c7/\w.cell? p8=some c8/\w.cell? p9=some c9):w'.cell? p0=some c0/\w'.cell? p1=some c1/\w'.cell? p2=some c2/\w'.cell? p3=some c3/\w'.cell? p4=some c4/\w'.cell? p5=some c5/\w'.cell? p6=some c6/\w'.cell? p7=some c7/\w'.cell? p8=some c8/\w'.cell? p9=some c9:=by
 obtain⟨h0,h1,h2,h3,h4,h5,h6,h7,h8,h9⟩:=h;exact⟨hg.cell h0 (by simp),hg.cell h1 (by simp),hg.cell h2 (by simp),hg.cell h3 (by simp),hg.cell h4 (by simp),hg.cell h5 (by simp),hg.cell h6 (by simp),hg.cell h7 (by simp),hg.cell h8 (by simp),hg.cell h9 (by simp)⟩
def Xk(ch:Int->Bool)(n B:Nat)(E:List Er)(w2:World)(vs vh von vi:Value)(wk:World):Prop :=
 ∃(i:Nat) (b:Nat->Int) (on:Bool) (T:List V),vi=.int .i64 i/\i<=E.length/\vh=.int .i64 (having n b)/\von=.bool on/\(∀j,-(i:Int)<=b j/\b j<=i) ∧
  eP (fun b=>ch (having n b)) (fun _=>0) false (E.map aP)=T++eP (fun b=>ch (having n b)) b on ((E.map aP).drop i)/\T.length<=i/\(T.length % 2=if on=true then 1 else 0) ∧
  BegunAt wk B n b/\wk.ownsRow w2.heap.size 181 11 vs (outs T).length ((outs T).flatMap fA)/\w2.grownBy wk (some B)
theorem NL(fid:Nat)(n:Nat)(ch:Int->Bool)(hfn:∀x w,Calls prog fid #[.int .i64 x,.int .i64 (n:Int)] w fun e w'=>e=.returned (.bool (ch x))/\w'=w)(heg:∀args w,(callFunc fid args).run prog w=.ok (.enter fid args) w)(hsort:AB)(a:Addr)(cap:Nat)(Ls:List (List Sp))(w:World)(hn:Ls.length=n)(hcap:n<=cap)(hn2:n<=2)(h:Lists w a Ls)(hsz:∀l∈Ls,l.length<=1048576/\∀s∈l,jg s) :
  Calls prog 131 #[.func (.func fid) #[] #[],.slice (some a) n cap] w (SweepPost ch Ls w):=by
 have HA:=ae h;have HS:=ae hsz;have HN:=ae hn;have CE:=ae (fun w (h:Lists w a Ls)=>WT hsort a n cap Ls w hn hcap hn2 h hsz);have hmk:=run_make_row' (P:=prog) 25 3 (.int .i64 0) 8 underlying25 Xh rfl .i64 .i64 n (by omega) (by omega);have uI:=ae hfn;clear h hsz hn hfn;go_enter func131,ntmps131;go_wp2;go_loopw [18] (fun vi wr=>∃j:Nat,vi=.int .i64 j/\j<=n/\(∀k (hk:k<Ls.length),k<j->Ls[k].all gI=true)/\w.grownBy wr none) (fun vi _=>n-(intOf vi).toNat)
 case atStart=>exact⟨0,rfl,Nat.zero_le _,fun k hk h=>absurd h (by omega),ak _ _⟩
 case round =>
  obtain⟨j,rfl,hj,hp,hg⟩:=hrel;have HP:=ae hp;have HG:=ae hg;clear hp hg
  by_cases hlt:j<n
  ·have hjl:j<Ls.length:=by rw[HN.o];exact hlt
   obtain⟨sl,hcell,hsp⟩:=HA.o j hjl;have cj:=HG.o.cell hcell (by simp);have CS:=ae (WH sl Ls[j] wr (hsp.grow HG.o) (HS.o _ (List.getElem_mem hjl)).1 (HS.o _ (List.getElem_mem hjl)).2);obtain⟨b,hb⟩:=zN (Ls[j].all gI);rw[hb]at CS;have HB:=ae hb;clear hcell hsp hb;go_wp2_with (go_at_call 157;refine CS.o.mono ?_);rintro e w1 ⟨rfl,hg⟩;replace HG:=ae (ah HG.o hg);clear hg cj
   cases b with
   | false =>
    go_wp2;refine bodyPost_ret (results_tmp2 rfl _ _ _) rfl ⟨HG.o,Or.inl ⟨fun hall=>?_,rfl⟩⟩;have:=List.all_eq_true.1 hall _ (List.getElem_mem hjl);rw[HB.o]at this;exact absurd this (by decide)
   | true =>
    go_wp2;go_roundw
    case rel =>
     refine⟨j+1,by go_num,by omega,fun k hk hkj=>?_,HG.o⟩
     by_cases hkj':k<j
     ·exact HP.o k hk hkj'
     ·have e:k=j:=by omega
      subst e;exact HB.o
    case measure=>simp[intOf];omega
  ·have kY:Hd (Ls.all (·.all gI)=true):=by
    show _=true;rw[List.all_eq_true];intro l hl;obtain⟨k,hk,rfl⟩:=List.getElem_of_mem hl;exact HP.o k hk (by rw[HN.o]at hk;omega)
   clear HP;go_wp2_with (go_at_call 158;refine(CE.o _ (HA.o.grow (au HG.o _))).mono ?_);rintro e w2 ⟨ve,E,rfl,hp,hso,ho2,hb2⟩;obtain⟨B,hB⟩:=zN (wr.heap.size);have yI:Hd (BegunAt w2 B n (fun _=>0)):=by
    show w2.heap[B]?=_;rw[hb2.block B (by rw[<-hB];simp),<-hB,heap_alloc_new wr,Xi]
   have hB2:=(aA yI.o);have HG2:=ae (ah (au HG.o _) (Au hb2));have DZ:Hd (w.heap.size<=B):=by show _<=_;rw[<-hB];exact HG.o.size
   have NM:Hd (E.Perm (dM 0 Ls)/\nY (E.map aP)):=⟨hp,hso⟩;have kD:Hd (E.length<=8388608/\∀e∈E,e.l<n/\(e.d=1\/e.d=-1)/\e.a4.size<=1048576):=by
    show _/\_;have hl:=NI Ls (fun l hl=>(HS.o l hl).1) 0;rw[HN.o]at hl;refine⟨by rw[hp.length_eq];omega,fun e he=>?_⟩;have he':=hp.mem_iff.1 he;have h1:=W9 Ls 0 e he';have h2:=Gy Ls HS.o 0 e he';rw[HN.o]at h1;exact⟨by omega,h1.2.2,h2⟩
   have hbase:(wr.alloc (.cells (madeCells #[.int .i64 0] n) 3)).heap.size=B+1:=by rw[<-hB];simp
   rw[hbase]at ho2;rw[hB];have hef:=Xc ho2;clear hB hb2 hp hso ho2 hbase HG hmk;have FIN:Hd (∀(vs:Value) (T:List V) (wk:World),w2.grownBy wk (some B)->wk.ownsRow w2.heap.size 181 11 vs (outs T).length ((outs T).flatMap fA)->eP (fun b=>ch (having n b)) (fun _=>0) false (E.map aP)=T->SweepPost ch Ls w (.returned (.tuple #[vs,.int .i64 0])) wk):=by
    intro vs T wk h1 h2 h3;have h4:w.grownBy wk none:=⟨h1.os.trans HG2.o.os,h1.tape.trans HG2.o.tape,h1.output.trans HG2.o.output,Nat.le_trans HG2.o.size h1.size,fun k hk _=>(h1.block k (Nat.lt_of_lt_of_le hk HG2.o.size) (by have:=DZ.o;simp;omega)).trans (HG2.o.block k hk (by simp))⟩;refine⟨h4,Or.inr ⟨kY.o,E,vs,NM.o.1,NM.o.2,rfl,?_⟩⟩;rw[HN.o,h3];exact⟨Nu h2,NK h2 HG2.o.size⟩
   rcases hef with⟨rfl,hE⟩|⟨ga,capE,rfl,hcE,hga,NP,hgs,NQ⟩
   ·have jP:=ae hE;clear hE;go_wp2;go_loopw [8,9,10,33] (fun vs vh von vi wk=>vi=.int .i64 0/\vs=.slice none 0 0/\w2.grownBy wk (some B)) (fun _ _ _ vi _=>0)
    case atStart=>exact⟨rfl,rfl,ak _ _⟩
    case round =>
     obtain⟨rfl,rfl,hgk⟩:=hrel;have HF:=ae (FIN.o (.slice none 0 0) [] wr hgk (World.ownsRow_nil _ _ _ _) (by rw[jP.o];rfl));clear hgk;go_wp2;exact bodyPost_ret (results_tmp2 (t:=4) (u:=5) rfl _ _ _) rfl HF.o
   ·have NR:=ae NQ;have kZ:Hd (B<ga.block/\ga.block<w2.heap.size/\ga.spot=none):=⟨by omega,NP,hgs⟩;clear NQ hga NP hgs;go_wp2;go_loopw [8,9,10,33] (fun vs vh von vi wk=>Xk ch n B E w2 vs vh von vi wk) (fun _ _ _ vi _=>E.length-(intOf vi).toNat)
    case atStart=>exact⟨0,fun _=>0,false,[],rfl,Nat.zero_le _,by rw[NJ],rfl,fun _=>by simp,rfl,Nat.le_refl _,rfl,yI.o,World.ownsRow_nil _ _ _ _,ak _ _⟩
    case round =>
     obtain⟨i,b,on,T,rfl,hi,rfl,rfl,hbb,hT,GH,GI,hbg,how,hgw⟩:=hrel
     by_cases hlt:i<E.length
     ·obtain⟨er,her⟩:=zN (E[i]);have HE:Hd (EdAt wr (ga.add (i*7)) er):=by
       show EdAt wr _ er;rw[<-her];exact(NR.o i hlt).grow hgw (by rw[add_block];have:=kZ.o.1;simp;omega)
      obtain⟨e0,e1,e2,e3,e4,e5,e6⟩:=HE.o;have hme:=kD.o.2 er (by rw[<-her];exact List.getElem_mem hlt);have GK:=kD.o.1;obtain⟨N,hN⟩:=zN (wr.heap.size);obtain⟨W3,hW3⟩:=zN (wr.alloc (.cells #[.int .i64 er.a1,.int .i64 er.a2,.int .i64 er.a3,.string er.a4,.string er.a5,.int .i64 er.l,.int .i64 er.d] 241));have hg3:wr.grownBy W3 none:=by rw[<-hW3];exact au (ak wr none) _
      have hNl:w2.heap.size<=N:=by rw[<-hN];exact hgw.size
      have AO:Hd (N≠B/\w2.heap.size<=N):=⟨by omega,hNl⟩;have HR3:Hd (EdAt W3 ⟨N,0,none⟩ er):=by
       show EdAt W3 _ er;have hr:W3.heap[N]?=some (.cells #[.int .i64 er.a1,.int .i64 er.a2,.int .i64 er.a3,.string er.a4,.string er.a5,.int .i64 er.l,.int .i64 er.d] 241 (0,0)):=by rw[<-hW3,<-hN];exact heap_alloc_new wr _
       exact⟨by rw[ag hr];rfl,by rw[ag hr];rfl,by rw[ag hr];rfl,by rw[ag hr];rfl,by rw[ag hr];rfl,by rw[ag hr];rfl,by rw[ag hr];rfl⟩
      have GL:=ae (hbg.grow hg3 (by simp));have uH:=ae (oN how hg3);have dJ:=ae (ah hgw (bH hg3 _));obtain⟨d0,d1,d2,d3,d4,d5,d6⟩:=HR3.o;simp only[Nat.zero_add]at d1 d2 d3 d4 d5 d6;have cb:=GL.o.cell hme.1;have fb:=GL.o.f er.l;have hbl:=hbb er.l;have CB:=ae (fun wx (h1:wx.cell? ⟨B,er.l,none⟩=some (.int .i64 (b er.l))) (h2:wx.frozen? ⟨B,er.l,none⟩=false)=>WM B er.l (b er.l) er.d wx h1 h2 (by omega) (by omega));have hhb:=WZ n b i hbb;have hni:(n:Int)*i<=2*8388608:=by
       have h1:(n:Int)<=2:=by omega
       have h2:(i:Int)<=8388608:=by omega
       have h3:(n:Int)*i<=2*i:=Int.mul_le_mul_of_nonneg_right h1 (by omega);omega
      have hw:IntKind.i64.wrap (having n b+(min (b er.l+er.d) 1-min (b er.l) 1))=having n (upd b er.l er.d):=by
       rw[WY n er.l er.d b hme.1,IntKind.wrap_i64];omega
      have hln:=hme.1;have Xl:=AO.o.1;have yJ:Hd (er.l<n/\(er.d=1\/er.d=-1)/\er.a4.size<=1048576/\E.length<=8388608):=⟨hme.1,hme.2.1,hme.2.2,GK⟩;have l9:=ae hbb;have jo:Hd (eP (fun b=>ch (having n b)) (fun _=>0) false (E.map aP)=T++eP (fun b=>ch (having n b)) b on ((E.map aP).drop i)/\T.length<=i/\(T.length % 2=if on=true then 1 else 0)):=⟨hT,GH,GI⟩;have Xm:=ae her;clear hbb hT GH GI hbg how hgw her hme GK hbl hhb hni hg3 hNl;have kk:∀o v,W3.cell? ⟨N,o,none⟩=some v->(W3.setCell ⟨B,er.l,none⟩ (.int .i64 (b er.l+er.d))).cell? ⟨N,o,none⟩=some v:=fun o v h=>by
       rw[<-h];exact World.cell?_of_block (heap_setCell_other W3 _ N _ Xl)
      have k0:=kk 0 _ d0;have k1:=kk 1 _ d1;have k2:=kk 2 _ d2;have k3:=kk 3 _ d3;have k4:=kk 4 _ d4;have k5:=kk 5 _ d5;have k6:=kk 6 _ d6;obtain⟨W4,iE⟩:=zN ((W3.setCell ⟨B,er.l,none⟩ (.int .i64 (b er.l+er.d))).drew);have HR4:Hd (EdAt W4 ⟨N,0,none⟩ er):=by show EdAt W4 _ er;rw[<-iE];exact⟨k0,k1,k2,k3,k4,k5,k6⟩
      have NU:Hd (BegunAt W4 B n (upd b er.l er.d)):=by show BegunAt W4 _ _ _;rw[<-iE];exact GL.o.set yJ.o.1 er.d
      have gm:Hd (w2.grownBy W4 (some B)):=by show w2.grownBy W4 _;rw[<-iE];exact aF (bF dJ.o _ _) 1
      have NV:Hd (W4.ownsRow w2.heap.size 181 11 u8 (outs T).length ((outs T).flatMap fA)):=by
       show World.ownsRow _ _ _ _ _ _ _;rw[<-iE];refine uH.o.kept (w':=(W3.setCell ⟨B,er.l,none⟩ (.int .i64 (b er.l+er.d))).drew) (aF (bF (ak W3 (some B)) er.l (.int .i64 (b er.l+er.d))) 1) ?_
       cases ho:u8.ownBlock with
       | none=>exact Or.inl rfl
       | some q=>exact Or.inr (fun e=>by have:=(uH.o.lt q ho).1;injection e with e;omega)
      clear kk;have j5:W4.cell? ⟨N,5,none⟩=some (.int .i64 er.l):=HR4.o.2.2.2.2.2.1;have j6:W4.cell? ⟨N,6,none⟩=some (.int .i64 er.d):=HR4.o.2.2.2.2.2.2;go_wp2
      go_region_held3 (fun w'=>w'.cell? ⟨N,5,none⟩=some (.int .i64 er.l)/\w'.cell? ⟨N,6,none⟩=some (.int .i64 er.d)) ((first|exact⟨d5,d6⟩|exact⟨j5,j6⟩|exact⟨k5,k6⟩|go_keep)) (first|(go_at_call 159;refine(CB.o W3.drew cb fb).mono ?_;rintro e w4 ⟨rfl,rfl⟩))
      try rw[iE]
      clear iE j5 j6 k0 k1 k2 k3 k4 k5 k6 cb fb hw d0 d1 d2 d3 d4 d5 d6 CB hW3 hN;obtain⟨d0,d1,d2,d3,d4,d5,d6⟩:=HR4.o;simp only[Nat.zero_add]at d1 d2 d3 d4 d5 d6;have HST:Hd (eP (fun b=>ch (having n b)) b on ((E.map aP).drop i)=if kW (aP er) ((E.map aP).drop (i+1))=true then eP (fun b=>ch (having n b)) (upd b er.l er.d) on ((E.map aP).drop (i+1)) else if ch (having n (upd b er.l er.d))=on then eP (fun b=>ch (having n b)) (upd b er.l er.d) on ((E.map aP).drop (i+1)) else(aP er).at_ :: eP (fun b=>ch (having n b)) (upd b er.l er.d) (ch (having n (upd b er.l er.d))) ((E.map aP).drop (i+1))):=by
       show eP _ _ _ _=_;have hd:(E.map aP).drop i=aP er :: (E.map aP).drop (i+1):=by
        rw[List.drop_eq_getElem_cons (by simpa using hlt),List.getElem_map,Xm.o]
       rw[hd];rfl
      have AP:Hd (∀j,-((i+1:Nat):Int)<=upd b er.l er.d j/\upd b er.l er.d j<=((i+1:Nat):Int)):=by
       intro k;have h1:=l9.o k;have h2:=yJ.o.2.1;unfold upd;split<;>omega
      have GK:=yJ.o.2.2.2;have hw1:IntKind.i64.wrap ((i:Int)+1)=((i+1:Nat):Int):=by rw[IntKind.wrap_i64];omega
      obtain⟨H,hH⟩:=zN (having n (upd b er.l er.d));have HH:=ae hH;rw[hH];clear hH
      rcases Nat.lt_or_ge (i+1) E.length with hnx|hnl
      all_goals (
       first
        | (obtain⟨er2,D5⟩:=zN (E[i+1])
           have HE2:Hd (EdAt W4 (ga.add ((i+1)*7)) er2):=by
            show EdAt W4 _ er2;rw[<-D5];exact(NR.o (i+1) hnx).grow gm.o (by rw[add_block];have:=kZ.o.1;simp;omega)
           obtain⟨x,hx⟩:=zN (aB (aP er).at_ (aP er2).at_);have hm2:=(kD.o.2 er2 (by rw[<-D5];exact List.getElem_mem hnx)).2.2;have bK:Hd (kW (aP er) ((E.map aP).drop (i+1))=decide (x=0)):=by
            show kW _ _=_;rw[List.drop_eq_getElem_cons (by simpa using hnx),List.getElem_map,D5,<-hx];rfl
           have CC:Hd (∀w,Calls prog 88 #[.agg #[.int .i64 er.a1,.int .i64 er.a2,.int .i64 er.a3,.string er.a4,.string er.a5],.agg #[.int .i64 er2.a1,.int .i64 er2.a2,.int .i64 er2.a3,.string er2.a4,.string er2.a5]] w fun e w'=>e=.returned (.int .i64 x)/\w.grownBy w' none):=fun w=>by
            rw[<-hx];exact compare_any er.a1 er.a2 er.a3 er2.a1 er2.a2 er2.a3 er.a4 er.a5 er2.a4 er2.a5 w (by have:=yJ.o.2.2.1;omega) (by omega)
           obtain⟨q0,q1,q2,q3,q4,q5,q6⟩:=HE2.o;clear hx D5 hm2;have hnx2:decide (((i+1:Nat):Int)<(E.length:Int))=true:=by simp;omega
           have hnx3:decide (i+1<E.length)=true:=by simp;omega
           have GM:decide ((i:Int)+1<(E.length:Int))=true:=by simp;omega
           have Xn:((i+1:Nat):Int)<(E.length:Int):=by omega
           have Xo:(0:Int)<=((i+1:Nat):Int):=by omega
           have Xp:(i:Int)+1<(E.length:Int):=by omega
           have Xq:(0:Int)<=(i:Int)+1:=by omega
           have Xt:((i:Int)+1).toNat=i+1:=by omega
           go_wp2
           go_region_held3 (fun w'=>w'.cell? ⟨N,0,none⟩=some (.int .i64 er.a1)/\w'.cell? ⟨N,1,none⟩=some (.int .i64 er.a2)/\w'.cell? ⟨N,2,none⟩=some (.int .i64 er.a3)/\w'.cell? ⟨N,3,none⟩=some (.string er.a4)/\w'.cell? ⟨N,4,none⟩=some (.string er.a5)/\w'.cell? (ga.add ((i+1)*7))=some (.int .i64 er2.a1)/\w'.cell? ⟨(ga.add ((i+1)*7)).block,(ga.add ((i+1)*7)).off+1,none⟩=some (.int .i64 er2.a2)/\w'.cell? ⟨(ga.add ((i+1)*7)).block,(ga.add ((i+1)*7)).off+2,none⟩=some (.int .i64 er2.a3)/\w'.cell? ⟨(ga.add ((i+1)*7)).block,(ga.add ((i+1)*7)).off+3,none⟩=some (.string er2.a4)/\w'.cell? ⟨(ga.add ((i+1)*7)).block,(ga.add ((i+1)*7)).off+4,none⟩=some (.string er2.a5)) ((first|exact Xj (by assumption) (by assumption)|go_keep)) (first|(go_at_call 88;refine(CC.o _).mono ?_;rintro e w5 ⟨rfl,hg5⟩))
           have D6:=ae (HR4.o.grow (cZ hg5) (by simp));have yK:=ae (NU.o.grow (cZ hg5) (by simp));have qj:=ae (oN NV.o (cZ hg5));have jQ:=ae (ah gm.o (bH (cZ hg5) _));clear hg5 q0 q1 q2 q3 q4 q5 q6 d0 d1 d2 d3 d4 d5 d6 hnx2 hnx3 GM Xn Xo Xp Xq Xt
           by_cases hxx:x=0
           ·have hx0:(x == 0)=true:=by simp[hxx]
            have rW:Hd (eP (fun b=>ch (having n b)) (fun _=>0) false (E.map aP)=T++eP (fun b=>ch (having n b)) (upd b er.l er.d) on ((E.map aP).drop (i+1))):=by
             show _=_;rw[jo.o.1,HST.o,bK.o,hxx];rfl
            have jq:Hd (T.length<=i/\(T.length % 2=if on=true then 1 else 0)):=⟨jo.o.2.1,jo.o.2.2⟩;clear jo HST;go_wp2;go_roundw
            case rel=>exact⟨i+1,upd b er.l er.d,on,T,by go_num,by omega,by rw[HH.o],rfl,AP.o,rW.o,by have:=jq.o.1;omega,jq.o.2,yK.o,qj.o,jQ.o⟩
            case measure=>simp[intOf];omega
           have hx0:(x == 0)=false:=by simp[hxx]
           have NW:Hd (kW (aP er) ((E.map aP).drop (i+1))=false):=by show kW _ _=_;rw[bK.o,decide_eq_false hxx]
           replace bK:=NW;clear hxx NW)
        | (have bK:Hd (kW (aP er) ((E.map aP).drop (i+1))=false):=by
            show kW _ _=false;rw[List.drop_of_length_le (by simp;omega)];rfl
           have hnx2:decide (((i+1:Nat):Int)<(E.length:Int))=false:=by simp;omega
           have hnx3:decide (i+1<E.length)=false:=by simp;omega
           have GM:decide ((i:Int)+1<(E.length:Int))=false:=by simp;omega
           go_wp2;go_quiet (fail);obtain⟨w5,hw5⟩:=zN (W4.drewN nq);have D6:Hd (EdAt w5 ⟨N,0,none⟩ er):=by show EdAt w5 _ er;rw[<-hw5];exact HR4.o
           have yK:Hd (BegunAt w5 B n (upd b er.l er.d)):=by show BegunAt w5 _ _ _;rw[<-hw5];exact NU.o
           have qj:Hd (w5.ownsRow w2.heap.size 181 11 u8 (outs T).length ((outs T).flatMap fA)):=by show World.ownsRow _ _ _ _ _ _ _;rw[<-hw5];exact oN NV.o (aF (ak W4 none) nq)
           have jQ:Hd (w2.grownBy w5 (some B)):=by show w2.grownBy w5 _;rw[<-hw5];exact aF gm.o nq
           try rw[hw5]
           clear hw5 d0 d1 d2 d3 d4 d5 d6 hnx2 hnx3 GM)
       have yL:Hd (ch (having n (upd b er.l er.d))=ch H):=by show ch _=_;rw[HH.o]
       obtain⟨d0,d1,d2,d3,d4,d5,d6⟩:=D6.o;simp only[Nat.zero_add]at d1 d2 d3 d4 d5 d6
       cases hc:ch H with
       | false =>
        rw[hc]at yL
        cases on with
        | false =>
         have rW:Hd (eP (fun b=>ch (having n b)) (fun _=>0) false (E.map aP)=T++eP (fun b=>ch (having n b)) (upd b er.l er.d) false ((E.map aP).drop (i+1))):=by
          show _=_;rw[jo.o.1,HST.o,bK.o,yL.o];rfl
         have jq:Hd (T.length<=i/\(T.length % 2=if false=true then 1 else 0)):=⟨jo.o.2.1,jo.o.2.2⟩;clear jo HST;go_wp2_with (first|(with_reducible refine(uI.o _ _).mono ?_;rintro e w' ⟨rfl,rfl⟩));go_roundw
         case rel=>exact⟨i+1,upd b er.l er.d,false,T,by go_num,by omega,by rw[HH.o],rfl,AP.o,rW.o,by have:=jq.o.1;omega,jq.o.2,yK.o,qj.o,jQ.o⟩
         case measure=>simp[intOf];omega
        | true =>
         have GN:=ae (fun w=>Nv er.a1 er.a2 er.a3 er.a4 er.a5 w (by have:=yJ.o.2.2.1;omega));have rW:Hd (eP (fun b=>ch (having n b)) (fun _=>0) false (E.map aP)=(T++[(aP er).at_])++eP (fun b=>ch (having n b)) (upd b er.l er.d) false ((E.map aP).drop (i+1))):=by
          show _=_;rw[jo.o.1,HST.o,bK.o,yL.o,List.append_assoc];rfl
         have jq:Hd (T.length<=i/\T.length % 2=1):=⟨jo.o.2.1,by have:=jo.o.2.2;simpa using this⟩;have NY:(outs T).length<=8388608:=by have q1:=GG T;have q2:=jq.o.1;omega
         obtain⟨A,y,hA1,hA2⟩:=NE T (aP er).at_ jq.o.2;rw[hA1]at qj NY;obtain⟨M,hM⟩:=zN (A.length);have hlen:(A++[fM y l7 true]).length=M+1:=by rw[List.length_append,hM];rfl
         rw[hlen]at qj NY;obtain⟨gs,capS,Xu⟩:∃gs capS,u8=.slice (some ⟨gs,0,none⟩) (M+1) capS:=by
          rcases qj.o.2 with⟨_,h0⟩|⟨g,cap,cur,h1,_⟩
          ·omega
          ·exact⟨g,cap,h1⟩
         subst Xu;have HA2:Hd (outs (T++[(aP er).at_])=A++[fM y (aP er).at_ false]/\A.length=M):=⟨hA2,hM⟩;have hm1:IntKind.i64.wrap (((M+1:Nat):Int)-1)=((M:Nat):Int):=by rw[IntKind.wrap_i64];omega
         have hm2:((M+1:Nat):Int)-1=(M:Int):=by omega
         have hm3:(M:Int)<((M+1:Nat):Int):=by omega
         have hm4:(M:Int)<(M:Int)+1:=by omega
         clear jo HST hA1 hA2 hM hlen;go_wp2_with (first|(go_at_call 160;refine(GN.o _).mono ?_)|(with_reducible refine(uI.o _ _).mono ?_;rintro e w9 ⟨rfl,AQ⟩;rw[AQ];clear AQ));rintro e w6 ⟨rfl,mf⟩;have rX:=ae (oN qj.o mf);have Xv:=ae (yK.o.grow mf (by simp));have qo:=ae (ah jQ.o (bH mf _));have wC:=ae ((rX.o.lt gs rfl).1);have c5:=yH rX.o HA2.o.2 5 _ rfl;have c6:=yH rX.o HA2.o.2 6 _ rfl;have c7:=yH rX.o HA2.o.2 7 _ rfl;have c8:=yH rX.o HA2.o.2 8 _ rfl;have c9:=yH rX.o HA2.o.2 9 _ rfl;have c10:=yH rX.o HA2.o.2 10 _ rfl;have fz:=Xf rX.o;clear mf d0 d1 d2 d3 d4 d5 d6;go_wp2;clear c5 c6 c7 c8 c9 c10 fz;have g9:w6.grownBy ((((((w6.setCell ⟨gs,M*11+5,none⟩ (.int .i64 er.a1)).setCell ⟨gs,M*11+5+1,none⟩ (.int .i64 er.a2)).setCell ⟨gs,M*11+5+2,none⟩ (.int .i64 er.a3)).setCell ⟨gs,M*11+5+3,none⟩ (.string er.a4)).setCell ⟨gs,M*11+5+4,none⟩ (.string ⟨#[]⟩)).setCell ⟨gs,M*11+10,none⟩ (.bool false)) (some gs):=bF (bF (bF (bF (bF (bF (ak w6 (some gs)) _ _) _ _) _ _) _ _) _ _) _ _
         have o9:=yF (yF (yF (yF (yF (yF rX.o (M*11+5) (.int .i64 er.a1) (by omega)) (M*11+5+1) (.int .i64 er.a2) (by omega)) (M*11+5+2) (.int .i64 er.a3) (by omega)) (M*11+5+3) (.string er.a4) (by omega)) (M*11+5+4) (.string ⟨#[]⟩) (by omega)) (M*11+10) (.bool false) (by omega);have hfl:(A++[fM y l7 true]).flatMap fA=A.flatMap fA++fA (fM y l7 true):=by rw[List.flatMap_append];simp
         have hPl:(A.flatMap fA).length=M*11:=by rw[WX,HA2.o.2]
         rw[hfl]at o9;have hcl:=Xe er y hPl;have hol:(outs (T++[(aP er).at_])).length=M+1:=by rw[HA2.o.1,List.length_append,HA2.o.2];rfl
         have hof:(outs (T++[(aP er).at_])).flatMap fA=A.flatMap fA++fA (fM y (aP er).at_ false):=by rw[HA2.o.1,List.flatMap_append];simp
         have Xw:B≠gs:=by have:=wC.o;omega
         refine⟨⟨i+1,upd b er.l er.d,false,T++[(aP er).at_],by go_num,by omega,by rw[HH.o],rfl,AP.o,rW.o,by have:=jq.o.1;simp;omega,by have:=jq.o.2;simp;omega,Xv.o.grow g9 (by simpa using Xw),?_,NH qo.o g9 (fun q hq=>by injection hq with hq;have:=wC.o;omega)⟩,by simp[intOf];omega⟩;rw[hol,hof,<-hcl];exact o9
       | true =>
        rw[hc]at yL
        cases on with
        | false =>
         have GN:=ae (fun w=>Nv er.a1 er.a2 er.a3 er.a4 er.a5 w (by have:=yJ.o.2.2.1;omega));have rW:Hd (eP (fun b=>ch (having n b)) (fun _=>0) false (E.map aP)=(T++[(aP er).at_])++eP (fun b=>ch (having n b)) (upd b er.l er.d) true ((E.map aP).drop (i+1))):=by
          show _=_;rw[jo.o.1,HST.o,bK.o,yL.o,List.append_assoc];rfl
         have jq:Hd (T.length<=i/\T.length % 2=0):=⟨jo.o.2.1,by have:=jo.o.2.2;simpa using this⟩;have NZ:Hd ((outs T).length<=8388608):=by show _<=_;have q1:=GG T;have q2:=jq.o.1;omega
         have hinfo:=Nr;obtain⟨i1,hj0,hjj⟩:=Option.map_eq_some_iff.1 hinfo;simp only[Prod.mk.injEq]at hjj;obtain⟨hy0,hy1,hyb⟩:=hjj;clear jo HST hinfo;go_wp2_with (first|(go_at_call 160;refine(GN.o _).mono ?_;rintro e w6 ⟨rfl,mf⟩)|(at_builtin;refine wpList_append_own _ rfl _ _ 142 rfl w2.heap.size 181 i1 _ 11 120 underlying142 hj0 hy0 hy1 hyb rfl (by decide) _ _ _ rfl ((oN qj.o mf).alloc _) _ 1 1 (fA (fM (aP er).at_ l7 true)) rfl rfl (by rw[Xd];exact World.news_of_block (heap_alloc_new _ _)) (Ns _) (by unfold maxLen;have:=NZ.o;omega) (by have:=NZ.o;omega) (by have q1:=jQ.o.size;have q2:=mf.size;simp;omega) ?_;intro v' w7 hown7 hgrow _)|(with_reducible refine(uI.o _ _).mono ?_;rintro e w9 ⟨rfl,AQ⟩;rw[AQ];clear AQ));have lg:w5.grownBy (w6.alloc (.cells #[.int .i64 er.a1,.int .i64 er.a2,.int .i64 er.a3,.string er.a4,.string ⟨#[]⟩,.int .i64 0,.int .i64 0,.int .i64 0,.string ⟨#[]⟩,.string ⟨#[]⟩,.bool true] 181)) none:=ah mf (au (ak w6 none) _)
         have hrow:=fun q (hq:u8.ownBlock=some q)=>(qj.o.lt q hq).1
         have lh:=ae ((yK.o.grow lg (by simp)).grow hgrow (fun e=>by have:=hrow B e.symm;omega));have HF2:=ae (NH (ah jQ.o (bH lg _)) hgrow hrow);have HF3:Hd (w7.ownsRow w2.heap.size 181 11 v' (outs (T++[(aP er).at_])).length ((outs (T++[(aP er).at_])).flatMap fA)):=by
          show World.ownsRow _ _ _ _ _ _ _;rw[ND T _ jq.o.2,List.length_append,List.flatMap_append];simpa using hown7
         exact⟨⟨i+1,upd b er.l er.d,true,T++[(aP er).at_],by go_num,by omega,by rw[HH.o],rfl,AP.o,rW.o,by have:=jq.o.1;simp;omega,by have:=jq.o.2;simp;omega,lh.o,HF3.o,HF2.o⟩,by simp[intOf];omega⟩
        | true =>
         have rW:Hd (eP (fun b=>ch (having n b)) (fun _=>0) false (E.map aP)=T++eP (fun b=>ch (having n b)) (upd b er.l er.d) true ((E.map aP).drop (i+1))):=by
          show _=_;rw[jo.o.1,HST.o,bK.o,yL.o];rfl
         have jq:Hd (T.length<=i/\(T.length % 2=if true=true then 1 else 0)):=⟨jo.o.2.1,jo.o.2.2⟩;clear jo HST;go_wp2_with (first|(with_reducible refine(uI.o _ _).mono ?_;rintro e w' ⟨rfl,rfl⟩));go_roundw
         case rel=>exact⟨i+1,upd b er.l er.d,true,T,by go_num,by omega,by rw[HH.o],rfl,AP.o,rW.o,by have:=jq.o.1;omega,jq.o.2,yK.o,qj.o,jQ.o⟩
         case measure=>simp[intOf];omega)
     ·have hie:i=E.length:=by omega
      have HF:=ae (FIN.o u8 T wr hgw how (by rw[hT,hie,List.drop_of_length_le (by simp)];simp[eP]));clear hT GH GI hbg how hgw hbb hie hi;go_wp2;exact bodyPost_ret (results_tmp2 (t:=4) (u:=5) rfl _ _ _) rfl HF.o
theorem Xx(hsort:AB)(a:Addr)(n cap:Nat)(Ls:List (List Sp))(w:World)(hn:Ls.length=n)(hcap:n<=cap)(hn2:n<=2)(h:Lists w a Ls)(hsz:∀l∈Ls,l.length<=1048576/\∀s∈l,jg s) :
  Calls prog 131 #[.func (.func 132) #[] #[],.slice (some a) n cap] w (SweepPost (fun x=>decide (0<x)) Ls w) :=
 NL 132 n _ (fun x w=>WJ x n w) Tryz.call132 hsort a cap Ls w hn hcap hn2 h hsz
theorem Xy(hsort:AB)(a:Addr)(n cap:Nat)(Ls:List (List Sp))(w:World)(hn:Ls.length=n)(hcap:n<=cap)(hn2:n<=2)(h:Lists w a Ls)(hsz:∀l∈Ls,l.length<=1048576/\∀s∈l,jg s) :
  Calls prog 131 #[.func (.func 176) #[] #[],.slice (some a) n cap] w (SweepPost (fun x=>decide (x=(n:Int))) Ls w) :=
 NL 176 n _ (fun x w=>WL x n w) Tryz.call176 hsort a cap Ls w hn hcap hn2 h hsz
open Go.RowKit Go.Shelf Go.Sort
abbrev Eb:={e:Er // e.a4.size<=1048576}
instance:Inhabited Eb:=⟨⟨default,by show(0:Nat)<=_;omega⟩⟩
def lN(x:Eb):List Value:=iw x.1
def wE(x y:Eb):Int:=aB (aP x.1).at_ (aP y.1).at_
theorem Xz:SWO (ltOf wE) where
 irrefl x:=by unfold ltOf wE;rw[Ak];rfl
 trans x y z h1 h2:=by
  unfold ltOf wE at *;have a1:=of_decide_eq_true h1;have a2:=of_decide_eq_true h2;exact decide_eq_true (Ap a1 a2)
 ntrans x y z h1 h2:=by
  unfold ltOf wE at *;have a1:=of_decide_eq_false h1;have a2:=of_decide_eq_false h2;apply decide_eq_false;intro h3;have b1:=eH (aP x.1).at_ (aP y.1).at_;have b2:=eH (aP y.1).at_ (aP z.1).at_;have b3:=oK (show aB (aP z.1).at_ (aP y.1).at_<=0 by omega) (show aB (aP y.1).at_ (aP x.1).at_<=0 by omega);have b4:=eH (aP z.1).at_ (aP x.1).at_;omega
theorem XA{w w':World}(h:Gr w w'):∃q os,w'=grow (w.drewN q) os:=by
 refine⟨w'.drawn-w.drawn,w'.heap.extract w.heap.size w'.heap.size,?_⟩;obtain⟨hg,hd⟩:=h;have hh:w'.heap=w.heap++w'.heap.extract w.heap.size w'.heap.size:=by
  apply Array.ext_getElem?;intro k
  by_cases hk:k<w.heap.size
  ·rw[Array.getElem?_append_left hk];exact hg.block k hk (by simp)
  ·rw[Array.getElem?_append_right (by omega),Array.getElem?_extract]
   by_cases hk2:k<w'.heap.size
   ·rw[if_pos (by omega)];congr 1;omega
   ·rw[if_neg (by omega),Array.getElem?_eq_none (by omega)]
 have h1:=hg.os;have h2:=hg.tape;have h3:=hg.output
 cases w';cases w
 simp only[grow,World.drewN,World.mk.injEq]at *;exact⟨hh,h2,by omega,h1,h3⟩
theorem XB(w:World)(blk off size:Nat):CmpLays prog 179 #[] lN 7 wE blk off size w:=by
 intro m os dk hdk x y;refine(Xg x.1 y.1 _ x.2 y.2).mono ?_;rintro e w' ⟨rfl,hg⟩;exact⟨rfl,XA hg⟩
theorem N7(x:Eb):(lN x).length=7:=rfl
theorem XC(x:Eb):∀v∈lN x,v.oneCell'=true:=DV x.1
theorem GU(d:Array Eb):(flatK lN 7 d).toList=(d.toList.map (·.1)).flatMap iw:=by
 apply List.ext_getElem?;intro j;have hl:((d.toList.map (·.1)).flatMap iw).length=d.size*7:=by
  have:∀L:List Er,(L.flatMap iw).length=L.length*7:=by
   intro L
   induction L with
   | nil=>rfl
   | cons e L ih=>rw[List.flatMap_cons,List.length_append,ih,List.length_cons];show 7+_=_;omega
  rw[this];simp
 by_cases hj:j<d.size*7
 ·have hi:j / 7<d.size:=by omega
  have h1:(flatK lN 7 d).toList[j]?=some ((lN d[j / 7]!)[j % 7]!):=by
   rw[Array.getElem?_toList,Array.getElem?_eq_getElem (by simpa using hj)];have:=get_flatK lN 7 d j hj;rw[getElem!_pos _ j (by simpa using hj)]at this;rw[this]
  have h2:=NG (d.toList.map (·.1)) (j / 7) (by simpa using hi) (j % 7) ((lN d[j / 7]!)[j % 7]!) (by
   rw[getElem!_pos d (j / 7) hi];have hk:j % 7<(lN d[j / 7]).length:=by rw[N7];omega
   rw[getElem!_pos _ (j % 7) hk];rw[List.getElem_map,Array.getElem_toList];exact List.getElem?_eq_getElem hk)
  rw[show j / 7*7+j % 7=j by omega]at h2;rw[h1,h2]
 ·rw[List.getElem?_eq_none (by simp;omega),List.getElem?_eq_none (by rw[hl];omega)]
theorem eg:∀args w,(callFunc 179 args).run prog w=.ok (.enter 179 args) w:=enters_of func179 (by kernel_rfl) rfl
theorem N8:AB:=by
 intro ve E base w hown hlen hsmall;obtain⟨D,hD⟩:∃D:Array Eb,D.toList.map (·.1)=E:=⟨(E.attach.map fun e=>(⟨e.1,hsmall e.1 e.2⟩:Eb)).toArray,by simp⟩;have hDs:D.size=E.length:=by rw[<-hD];simp
 have hown':=hown
 rcases hown.2 with⟨rfl,h0⟩|⟨g,cap,cur,rfl,hb,hg,hn,hm,hs,ht⟩
 ·refine(AnyF.slices_SortFunc_none Tryz.laysSort none 0 (.func (.func 179) #[] #[]) w).mono ?_;rintro e w' ⟨rfl,rfl⟩;have hE:=List.eq_nil_of_length_eq_zero h0;subst hE;exact⟨rfl,[],List.Perm.refl _,List.Pairwise.nil,hown',⟨rfl,rfl,rfl,Nat.le_refl _,fun _ _ _=>rfl⟩⟩
 ·have hH:HoldsK lN 7 w g 0 D:=by
   intro j hj;have hj':j<(E.flatMap iw).length:=by rw[hown.1,<-hDs];simpa using hj
   refine⟨?_,Lib.frozen_of_heap hg _⟩;have h1:(flatK lN 7 D).toList[j]?=(E.flatMap iw)[j]?:=by rw[GU,hD]
   rw[Array.getElem?_toList,Array.getElem?_eq_getElem hj]at h1;rw[Nat.zero_add,ag hg];rw[getElem!_pos _ j hj];show cur[j]?=some (id _);rw[id,h1,<-ht,List.getElem?_take_of_lt (by rw[hown.1]at hj';exact hj')];simp
  rw[<-hDs];refine(AnyQ.slices_SortFunc Tryz.laysSort 7 isAgg241 sizeOf241 lN N7 XC wE Xz 179 #[] g 0 cap D w eg (XB w g 0 D.size) hH (aA hg) (by omega)).mono ?_;rintro e w' ⟨rfl,d',m,os,hperm,hsort,hw'⟩;have hds:=hperm.1;have hgl:=(aA hg);have hheap:w'.heap=(w.heap.modify g (onCells (putCells id 0 (flatK lN 7 d'))))++os:=by rw[hw'];rfl
  have hg':w'.heap[g]?=some (.cells (putCells id 0 (flatK lN 7 d') cur) 241):=by
   rw[hheap,Array.getElem?_append_left (by simpa using hgl),Array.getElem?_modify,if_pos rfl,hg];rfl
  have GV:(flatK lN 7 d').size=D.size*7:=by simp[hds]
  have hcs:D.size*7<=cur.size:=by rw[hs,hDs];omega
  have hlen2:((d'.toList.map (·.1)).flatMap iw).length=D.size*7:=by rw[<-GU,Array.length_toList,GV]
  refine⟨rfl,d'.toList.map (·.1),?_,?_,⟨?_,.inr ⟨g,cap,_,?_,hb,hg',?_,hm,?_,?_⟩⟩,?_⟩
  ·rw[<-hD];apply List.Perm.map;have:=hperm.2.2;rw[Array.extract_size]at this;rw[show d'.extract 0 D.size=d' by rw[<-hds,Array.extract_size]]at this;exact this
  ·show List.Pairwise _ _;rw[List.pairwise_iff_getElem];intro i j hi hj hij;simp only[List.length_map,Array.length_toList]at hi hj;have:=hsort i j (Nat.zero_le _) hij (by omega);rw[getElem!_pos d' j hj,getElem!_pos d' i hi]at this;have h3:=of_decide_eq_false this;have h4:=eH (aP d'[j].1).at_ (aP d'[i].1).at_;simp only[List.getElem_map,Array.getElem_toList];unfold wE at h3;omega
  ·rw[hlen2];simp[hds]
  ·simp[hds]
  ·simp[hds];omega
  ·simp[putCells,hs]
  ·rw[show(d'.toList.map (·.1)).length=D.size by simp[hds],<-GU];apply List.ext_getElem?;intro j
   by_cases hj:j<D.size*7
   ·rw[List.getElem?_take_of_lt hj,Array.getElem?_toList,Array.getElem?_toList];rw[putCells,Array.getElem?_mapIdx,Array.getElem?_eq_getElem (show j<cur.size by omega)];rw[Option.map_some,if_pos ⟨Nat.zero_le _,by omega⟩,Nat.sub_zero,id,getElem!_pos _ j (by omega)];exact(Array.getElem?_eq_getElem _).symm
   ·rw[List.getElem?_eq_none (by simp;omega),List.getElem?_eq_none (by rw[Array.length_toList];omega)]
  ·refine⟨by rw[hw'];rfl,by rw[hw'];rfl,by rw[hw'];rfl,?_,?_⟩
   ·rw[hheap];simp
   ·intro k hk hne;have hkg:g≠k:=by
     intro h;subst h;exact hne rfl
    rw[hheap,Array.getElem?_append_left (by simpa using hk),Array.getElem?_modify,if_neg hkg]
open Go.RowKit
theorem yM{w:World}{sl:Value}{L:List Sp}(h:SpS w sl L):∃o n c,sl=.slice o n c:=by
 rcases h with⟨rfl,_⟩|⟨a,cap,rfl,_⟩
 ·exact⟨_,_,_,rfl⟩
 ·exact⟨_,_,_,rfl⟩
theorem SweepPost.from{ch:Int->Bool}{Ls:List (List Sp)}{w w1:World}{e:Ending}{w':World}(hg:w.grownBy w1 none)(h:SweepPost ch Ls w1 e w'):SweepPost ch Ls w e w':=by
 refine⟨ah hg h.1,?_⟩
 rcases h.2 with h1|⟨h1,E,vs,h2,h3,h4,h5,h6⟩
 ·exact Or.inl h1
 ·exact Or.inr ⟨h1,E,vs,h2,h3,h4,h5,NK h6 hg.size⟩
theorem SweepPost.two{ch:Int->Bool}{Ls:List (List Sp)}{w:World}{e:Ending}{w':World}(h:SweepPost ch Ls w e w'):∃o n c r,e=.returned (.tuple #[.slice o n c,.int .i64 r]):=by
 rcases h.2 with⟨_,rfl⟩|⟨_,E,vs,_,_,rfl,hs,_⟩
 ·exact⟨_,_,_,_,rfl⟩
 ·obtain⟨o,n,c,rfl⟩:=yM hs;exact⟨_,_,_,_,rfl⟩
theorem XD(sl:Value)(L:List Sp)(w:World)(h:SpS w sl L)(hL:L.length<=1048576)(hsz:∀s∈L,jg s) :
  Calls prog 105 #[sl] w (SweepPost (fun x=>decide (0<x)) [L] w):=by
 have HA:=ae h;have CS:=ae (fun a w (h:Lists w a [L])=>Xx N8 a 1 1 [L] w rfl (by omega) (by omega) h (by intro l hl;simp at hl;subst hl;exact⟨hL,hsz⟩));obtain⟨o,n,c,rfl⟩:=yM h;clear h hL hsz;go_enter func105,ntmps105;go_wp2_with (go_at_call 131;refine(CS.o _ _ ?_).mono ?_)
 ·have hg:=au (ak w none) (.cells #[.slice o n c] 142);intro j hj;have hj':j=0:=by simp at hj;omega
  subst hj';exact⟨.slice o n c,by rw[show(⟨w.heap.size,0,none⟩:Addr).add 0=⟨w.heap.size,0,none⟩ from AL _ _,ag (heap_alloc_new w _)];rfl,HA.o.grow hg⟩
 intro e w1 hp;have HP:=SweepPost.from (au (ak w none) _) hp
 clear hp;obtain⟨o2,n2,c2,r2,rfl⟩:=HP.two;have HQ:=ae HP;clear HP;go_wp2;exact bodyPost_ret (results_tmp2 (t:=2) (u:=3) rfl _ _ _) rfl HQ.o
theorem XE(sl sm:Value)(L M:List Sp)(w:World)(h:SpS w sl L)(h':SpS w sm M)(hL:L.length<=1048576)(hsz:∀s∈L,jg s)(hM:M.length<=1048576)(hsm:∀s∈M,jg s) :
  Calls prog 154 #[sl,sm] w (SweepPost (fun x=>decide (x=((2:Nat):Int))) [L,M] w):=by
 have HA:=ae h;have HB:=ae h';have CS:=ae (fun a w (h:Lists w a [L,M])=>Xy N8 a 2 2 [L,M] w rfl (by omega) (by omega) h (by intro l hl;simp at hl;rcases hl with rfl|rfl<;>first|exact⟨hL,hsz⟩|exact⟨hM,hsm⟩));obtain⟨o,n,c,rfl⟩:=yM h;obtain⟨o',n',c',rfl⟩:=yM h';clear h';clear hM hsm;clear h hL hsz;go_enter func154,ntmps154;go_wp2_with (go_at_call 131;refine(CS.o _ _ ?_).mono ?_)
 ·have hg:=au (ak w none) (.cells #[.slice o n c,.slice o' n' c'] 142);intro j hj;have hj':j=0\/j=1:=by simp at hj;omega
  rcases hj' with rfl|rfl
  ·exact⟨.slice o n c,by rw[show(⟨w.heap.size,0,none⟩:Addr).add 0=⟨w.heap.size,0,none⟩ from AL _ _,ag (heap_alloc_new w _)];rfl,HA.o.grow hg⟩
  ·exact⟨.slice o' n' c',by rw[show(⟨w.heap.size,0,none⟩:Addr).add 1=⟨w.heap.size,1,none⟩ from AL _ _,ag (heap_alloc_new w _)];rfl,HB.o.grow hg⟩
 intro e w1 hp;have HP:=SweepPost.from (au (ak w none) _) hp
 clear hp;obtain⟨o2,n2,c2,r2,rfl⟩:=HP.two;have HQ:=ae HP;clear HP;go_wp2;exact bodyPost_ret (results_tmp2 (t:=4) (u:=5) rfl _ _ _) rfl HQ.o
theorem AU(h:V->Bool):∀(ps:List V) (on:Bool),(rF h on ps).Sublist ps
 | [],on=>List.Sublist.slnil
 | p :: ps,on=>by
  rw[rF];split
  ·exact(AU h ps on).cons _
  ·exact(AU h ps (h p)).cons_cons _
def par:List V->V->Bool
 | [],_=>false
 | t :: r,x=>decide (aB t x<=0) ^^ par r x
theorem par_none(T:List V)(x:V)(h:∀t∈T,aB x t<0):par T x=false:=by
 induction T with
 | nil=>rfl
 | cons t r ih =>
  have h1:=h t (by simp);have h2:=eH x t;rw[par,ih (fun t' ht'=>h t' (by simp[ht'])),decide_eq_false (by omega)];rfl
theorem D7{t:V}{r:List V}(h:rG (t :: r)):rG r:=(List.pairwise_cons.1 h).2
theorem AV{t:V}{r:List V}(h:rG (t :: r)):∀x∈r,aB t x<0:=(List.pairwise_cons.1 h).1
theorem GX(x y:V)(o:Bool):rM (fM x y o)=x:=by
 cases x;simp[rM,fM]
theorem N9(x y:V)(o:Bool):uC (fM x y o)=y:=by
 cases y;simp[uC,fM]
theorem Oa:∀(T:List V),rG T->∀x,eu (outs T) x=par T x
 | [],_,x=>rfl
 | [a],_,x=>by
  rw[outs,eu,List.any_cons,List.any_nil,rO,GX,par,par];show(decide (aB a x<=0) && (true || _) || false)=_
  cases decide (aB a x<=0)<;>rfl
 | a :: b :: r,h,x=>by
  have hab:=AV h b (by simp);have hr:=D7 h;have ih:=Oa r (D7 hr) x;unfold eu at ih;rw[outs,eu,List.any_cons,ih,rO,GX,N9,par,par];show(decide (aB a x<=0) && (false || decide (aB x b<0)) || par r x)=_;have a1:=eH x b
  by_cases hb:aB b x<=0
  ·have ha:=oK (show aB a b<=0 by omega) hb;rw[decide_eq_true ha,decide_eq_true hb,decide_eq_false (by omega)]
   cases par r x<;>rfl
  ·have hp:=par_none r x fun t ht=>Ap (show aB x b<0 by omega) (AV hr t ht)
   rw[hp,decide_eq_false hb,decide_eq_true (show aB x b<0 by omega)]
   cases decide (aB a x<=0)<;>rfl
def NF(N:List Sp):Prop:=∃T,N=outs T/\rG T/\(∀t∈T,fJ true t.pre=true/\t.pre.length<=1048576)/\T.length<=4194304
theorem NF.len{N:List Sp}(h:NF N):N.length<=4194304:=by
 obtain⟨T,rfl,_,_,hl⟩:=h;have:∀T:List V,(outs T).length<=T.length:=by
  intro T
  induction T using outs.induct with
  | case1=>simp[outs]
  | case2 x=>simp[outs]
  | case3 x y r ih=>rw[outs,List.length_cons,List.length_cons,List.length_cons];omega
 exact Nat.le_trans (this T) hl
theorem GY:∀(T:List V) (s:Sp),s∈outs T->(∃x∈T,s=fM x l7 true)\/∃x∈T,∃y∈T,s=fM x y false
 | [],s,h=>by simp[outs]at h
 | [a],s,h=>by
  have e:s=fM a l7 true:=by simpa [outs] using h
  exact Or.inl ⟨a,by simp,e⟩
 | a :: b :: r,s,h=>by
  rw[outs]at h
  rcases List.mem_cons.1 h with e|h
  ·exact Or.inr ⟨a,by simp,b,by simp,e⟩
  ·rcases GY r s h with⟨x,hx,e⟩|⟨x,hx,y,hy,e⟩
   ·exact Or.inl ⟨x,by simp[hx],e⟩
   ·exact Or.inr ⟨x,by simp[hx],y,by simp[hy],e⟩
theorem NF.small{N:List Sp}(h:NF N):∀s∈N,jg s:=by
 obtain⟨T,rfl,_,hp,hl⟩:=h;have hsz:∀l:List UInt8,(⟨l.toArray⟩:ByteArray).size=l.length:=fun l=>by simp[ByteArray.size]
 have h0:(⟨#[]⟩:ByteArray).size=0:=rfl;intro s hs
 rcases GY T s hs with⟨x,hx,rfl⟩|⟨x,hx,y,hy,rfl⟩
 ·refine⟨?_,?_,?_,?_⟩
  ·show(⟨x.pre.toArray⟩:ByteArray).size<=_;rw[hsz];exact(hp x hx).2
  ·show(⟨#[]⟩:ByteArray).size<=_;rw[h0];omega
  ·show(⟨l7.pre.toArray⟩:ByteArray).size<=_;rw[hsz];show 0<=_;omega
  ·show(⟨#[]⟩:ByteArray).size<=_;rw[h0];omega
 ·refine⟨?_,?_,?_,?_⟩
  ·show(⟨x.pre.toArray⟩:ByteArray).size<=_;rw[hsz];exact(hp x hx).2
  ·show(⟨#[]⟩:ByteArray).size<=_;rw[h0];omega
  ·show(⟨y.pre.toArray⟩:ByteArray).size<=_;rw[hsz];exact(hp y hy).2
  ·show(⟨#[]⟩:ByteArray).size<=_;rw[h0];omega
theorem XF(Ls:List (List Sp))(h:Ls.all (·.all gI)=true):∀(k:Nat),∀e∈dM k Ls,fJ true (aP e).at_.pre=true:=by
 induction Ls with
 | nil=>intro k e he;simp[dM]at he
 | cons l Ls ih =>
  intro k e he;rw[List.all_cons,Bool.and_eq_true]at h;rw[dM]at he
  rcases List.mem_append.1 he with he|he
  ·obtain⟨s,hs,he⟩:=List.mem_flatMap.1 he;have hm:=List.all_eq_true.1 h.1 s hs;unfold gI at hm;rw[Bool.and_eq_true]at hm;have hf:fJ true s.f4.data.toList=true:=by
    have:=hm.1;unfold jM uA at this;simp only[Bool.and_eq_true]at this;exact this.2.2.2.1
   unfold dL at he;split at he
   ·simp at he;rw[he];exact hf
   ·rename_i ho;have ht:fJ true s.t4.data.toList=true:=by
     have:=hm.2;rw[Bool.or_eq_true]at this
     rcases this with h|this
     ·exact absurd h ho
     ·unfold jM uB at this;simp only[Bool.and_eq_true]at this;exact this.2.2.2.1
    split at he
    ·simp at he
     rcases he with rfl|rfl
     ·exact hf
     ·exact ht
    ·simp at he
  ·exact ih h.2 (k+1) e he
end Go.Proofs.YtapodndfpecglaaGreatDoor
