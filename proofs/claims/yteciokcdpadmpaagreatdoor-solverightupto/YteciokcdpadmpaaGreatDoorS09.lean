import Derived.Test.YteciokcdpadmpaaGreatDoorS05
import Derived.Test.YteciokcdpadmpaaGreatDoorS06
import Derived.Test.YteciokcdpadmpaaGreatDoorS08
import Derived.Lib.SmallJoins
import Derived.Deep.OwnRows
set_option linter.all false
set_option maxRecDepth 100000
set_option maxHeartbeats 0
open Go.Proofs.Tryz
namespace Go.Proofs.YteciokcdpadmpaaGreatDoor
open Go.RowKit
theorem Ij{w:World}{A t:Nat}{s:Sp}(h:w.heap[A]?=some (.cells #[.int .i64 s.f1,.int .i64 s.f2,.int .i64 s.f3,.string s.f4,.string s.f5,.int .i64 s.t1,.int .i64 s.t2,.int .i64 s.t3,.string s.t4,.string s.t5,.bool s.o] t (0,0))):EltAt w ⟨A,0,none⟩ s :=
 ⟨by rw[ah h];rfl,by rw[ah h];rfl,by rw[ah h];rfl,by rw[ah h];rfl,by rw[ah h];rfl,by rw[ah h];rfl,by rw[ah h];rfl,by rw[ah h];rfl,by rw[ah h];rfl,by rw[ah h];rfl,by rw[ah h];rfl⟩
theorem XF(a:Addr)(cap:Nat)(L:List Sp)(w:World)(hL:L.length<2 ^ 62)(hcap:L.length<=cap)(h:SpAt w a L)(hsz:∀s∈L,jK s) :
  Calls prog 163 #[.slice (some a) L.length cap] w fun e w'=>e=.returned (.bool (L.all fZ))/\w.grownBy w' none:=by
 have HA:=ae h;have HS:=ae hsz;clear h hsz;obtain⟨R,hR⟩:=zN (L.all fZ);have HR:=ae hR;rw[hR];clear hR;go_enter func163,ntmps163;go_wp2;go_loopw [7] (fun vi wr=>∃i:Nat,vi=.int .i64 i/\i<=L.length/\(∀j (hj:j<L.length),j<i->fZ L[j]=true)/\w.grownBy wr none) (fun vi _=>L.length-(intOf vi).toNat)
 case atStart=>exact⟨0,rfl,Nat.zero_le _,fun j hj h=>absurd h (by omega),ak _ _⟩
 case round =>
  obtain⟨i,rfl,hi,hp,hg⟩:=hrel;have HP:=ae hp;have HG:=ae hg;clear hp hg
  by_cases hlt:i<L.length
  ·obtain⟨s,hs⟩:=zN (L[i]);have HE:Hd (EltAt wr (a.add (i*11)) s):=by show EltAt wr _ s;rw[<-hs];exact(HA.o i hlt).grow HG.o
   have hm:jK s:=by rw[<-hs];exact HS.o _ (List.getElem_mem hlt)
   have nR:=ae hs;have CF:Hd (∀w,Calls prog 181 #[.agg #[.int .i64 s.f1,.int .i64 s.f2,.int .i64 s.f3,.string s.f4,.string s.f5]] w fun e w'=>e=.returned (.bool (kE (uY s)))/\w.grownBy w' none):=fun w=>Oo s.f1 s.f2 s.f3 s.f4 s.f5 w (by have:=hm.1;omega) (by have:=hm.2.1;omega)
   have CT:Hd (∀w,Calls prog 181 #[.agg #[.int .i64 s.t1,.int .i64 s.t2,.int .i64 s.t3,.string s.t4,.string s.t5]] w fun e w'=>e=.returned (.bool (kE (uZ s)))/\w.grownBy w' none):=fun w=>Oo s.t1 s.t2 s.t3 s.t4 s.t5 w (by have:=hm.2.2.1;omega) (by have:=hm.2.2.2;omega)
   obtain⟨x,hx⟩:=zN (kE (uY s));obtain⟨y,hy⟩:=zN (kE (uZ s));rw[hx]at CF;rw[hy]at CT;have gX:Hd (fZ s=(x && (s.o || y))):=by show fZ s=_;unfold fZ;rw[hx,hy]
   clear hx hy hm hs;obtain⟨e0,e1,e2,e3,e4,e5,e6,e7,e8,e9,e10⟩:=HE.o;go_wp2_with (go_at_call 181;refine(CF.o _).mono ?_);rintro e w1 ⟨rfl,hg⟩;obtain⟨N,hN⟩:=zN (wr.heap.size);have Bo:Hd (EltAt w1 ⟨N,0,none⟩ s):=by
    refine EltAt.grow ?_ hg;rw[<-hN];exact Ij (t:=179) (heap_alloc_new wr _)
   replace HG:=ae (ag (aj HG.o _) hg);rw[hN];clear hN hg e0 e1 e2 e3 e4 e5 e6 e7 e8 e9 e10;obtain⟨e0,e1,e2,e3,e4,e5,e6,e7,e8,e9,e10⟩:=Bo.o;simp only[Nat.zero_add]at e1 e2 e3 e4 e5 e6 e7 e8 e9 e10;obtain⟨ob,hob⟩:=zN s.o;rw[hob]at e10 gX;clear hob
   cases x with
   | false =>
    rw[Bool.false_and]at gX;have nT:Hd (R=false):=by
     show R=false;rw[<-HR.o,List.all_eq_false];exact⟨L[i],List.getElem_mem hlt,by rw[nR.o,gX.o];decide⟩
    clear gX;go_wp2;go_ret;exact⟨aJ nT.o.symm,HG.o⟩
   | true =>
    rw[Bool.true_and]at gX
    cases ob with
    | true =>
     rw[Bool.true_or]at gX;have HT:Hd (fZ s=true):=by show fZ s=true;rw[gX.o]
     clear gX;go_wp2;go_roundw
     case rel =>
      refine⟨i+1,by go_num,by omega,fun j hj hji=>?_,HG.o⟩
      by_cases hji':j<i
      ·exact HP.o j hj hji'
      ·have e:j=i:=by omega
       subst e;rw[nR.o];exact HT.o
     case measure=>simp[intOf];omega
    | false =>
     rw[Bool.false_or]at gX;go_wp2_with (go_at_call 181;refine(CT.o _).mono ?_);rintro e w2 ⟨rfl,hg⟩;replace HG:=ae (ag HG.o hg);clear hg e0 e1 e2 e3 e4 e5 e6 e7 e8 e9 e10
     cases y with
     | true =>
      have HT:Hd (fZ s=true):=by show fZ s=true;rw[gX.o]
      clear gX;go_wp2;go_roundw
      case rel =>
       refine⟨i+1,by go_num,by omega,fun j hj hji=>?_,HG.o⟩
       by_cases hji':j<i
       ·exact HP.o j hj hji'
       ·have e:j=i:=by omega
        subst e;rw[nR.o];exact HT.o
      case measure=>simp[intOf];omega
     | false =>
      have nT:Hd (R=false):=by
       show R=false;rw[<-HR.o,List.all_eq_false];exact⟨L[i],List.getElem_mem hlt,by rw[nR.o,gX.o];decide⟩
      clear gX;go_wp2;go_ret;exact⟨aJ nT.o.symm,HG.o⟩
  ·have tH:Hd (R=true):=by
    show R=true;rw[<-HR.o,List.all_eq_true];intro t ht;obtain⟨j,hj,rfl⟩:=List.getElem_of_mem ht;exact HP.o j hj (by omega)
   clear hi;go_wp2;go_ret;exact⟨aJ tH.o.symm,HG.o⟩
theorem XG(w:World):Calls prog 163 #[.slice none 0 0] w fun e w'=>e=.returned (.bool true)/\w.grownBy w' none:=by
 go_enter func163,ntmps163;go_wp2;go_loopw [7] (fun vi wr=>vi=.int .i64 0/\w.grownBy wr none) (fun vi _=>0)
 case atStart=>exact⟨rfl,ak _ _⟩
 case round =>
  obtain⟨rfl,hg⟩:=hrel;have HG:=ae hg;clear hg;go_wp2;go_ret;exact⟨rfl,HG.o⟩
theorem XH(a:Addr)(cap:Nat)(L:List Sp)(v1 v2 v3:Int)(v4 v5:ByteArray)(w:World)(hL:L.length<2 ^ 62)(hcap:L.length<=cap)(h:SpAt w a L)(hsz:∀s∈L,jK s)(hv:v4.size<=1048576) :
  Calls prog 79 #[.slice (some a) L.length cap,.agg #[.int .i64 v1,.int .i64 v2,.int .i64 v3,.string v4,.string v5]] w fun e w'=>e=.returned (.bool (fB L ⟨v1,v2,v3,v4.data.toList⟩))/\w.grownBy w' none:=by
 have HA:=ae h;have HS:=ae hsz;have Oz:=ae hv;clear h hsz hv;obtain⟨v,hv⟩:∃v:V,v=⟨v1,v2,v3,v4.data.toList⟩:=⟨_,rfl⟩;have HV:=ae hv;rw[<-hv];obtain⟨R,hR⟩:=zN (fB L v);have HR:=ae hR;rw[hR];clear hR hv;go_enter func79,ntmps79;go_wp2;obtain⟨A,hA⟩:=zN (w.heap.size);obtain⟨W,hW⟩:=zN (w.alloc (.cells #[.int .i64 v1,.int .i64 v2,.int .i64 v3,.string v4,.string v5] 108));have jk:Hd (w.grownBy W none):=by show w.grownBy W none;rw[<-hW];exact aj (ak w none) _
 have STv:Hd (St A v1 v2 v3 v4 v5 W):=by show St _ _ _ _ _ _ W;rw[<-hW,<-hA];exact l9 (t:=108) (heap_alloc_new w _)
 try rw[hW]
 try rw[hA]
 clear hW hA;go_loopw [9] (fun vi wr=>∃i:Nat,vi=.int .i64 i/\i<=L.length/\(∀j (hj:j<L.length),j<i->sW L[j] v=false)/\W.grownBy wr none) (fun vi _=>L.length-(intOf vi).toNat)
 case atStart=>exact⟨0,rfl,Nat.zero_le _,fun j hj h=>absurd h (by omega),ak _ _⟩
 case round =>
  obtain⟨i,rfl,hi,hp,hg⟩:=hrel;have HP:=ae hp;have HG:=ae hg;have STr:=ae (STv.o.grow hg);clear hp hg
  by_cases hlt:i<L.length
  ·obtain⟨s,hs⟩:=zN (L[i]);have HE:Hd (EltAt wr (a.add (i*11)) s):=by show EltAt wr _ s;rw[<-hs];exact((HA.o i hlt).grow jk.o).grow HG.o
   have hm:jK s:=by rw[<-hs];exact HS.o _ (List.getElem_mem hlt)
   have nR:=ae hs;obtain⟨x,hx⟩:=zN (aC v (sV s));obtain⟨y,hy⟩:=zN (aC v (vg s));have CF:Hd (∀w,Calls prog 86 #[.agg #[.int .i64 v1,.int .i64 v2,.int .i64 v3,.string v4,.string v5],.agg #[.int .i64 s.f1,.int .i64 s.f2,.int .i64 s.f3,.string s.f4,.string s.f5]] w fun e w'=>e=.returned (.int .i64 x)/\w.grownBy w' none):=fun w=>by
    rw[<-hx,HV.o];exact compare_any v1 v2 v3 s.f1 s.f2 s.f3 v4 v5 s.f4 s.f5 w (by have:=Oz.o;omega) (by have:=hm.1;omega)
   have CT:Hd (∀w,Calls prog 86 #[.agg #[.int .i64 v1,.int .i64 v2,.int .i64 v3,.string v4,.string v5],.agg #[.int .i64 s.t1,.int .i64 s.t2,.int .i64 s.t3,.string s.t4,.string s.t5]] w fun e w'=>e=.returned (.int .i64 y)/\w.grownBy w' none):=fun w=>by
    rw[<-hy,HV.o];exact compare_any v1 v2 v3 s.t1 s.t2 s.t3 v4 v5 s.t4 s.t5 w (by have:=Oz.o;omega) (by have:=hm.2.2.1;omega)
   have gX:Hd (sW s v=(decide (0<=x) && (s.o || decide (y<0)))):=by
    show sW s v=_;unfold sW;have:=wU.anti v (sV s);rw[hx]at this;rw[this,hy];congr 1;rw[Bool.eq_iff_iff];simp
   clear hm hs hx hy;obtain⟨e0,e1,e2,e3,e4,e5,e6,e7,e8,e9,e10⟩:=HE.o;obtain⟨N,hN⟩:=zN (wr.heap.size);obtain⟨W2,hW2⟩:=zN (wr.alloc (.cells #[.int .i64 s.f1,.int .i64 s.f2,.int .i64 s.f3,.string s.f4,.string s.f5,.int .i64 s.t1,.int .i64 s.t2,.int .i64 s.t3,.string s.t4,.string s.t5,.bool s.o] 179));have hg2:wr.grownBy W2 none:=by rw[<-hW2];exact aj (ak wr none) _
   have HE2:Hd (EltAt W2 ⟨N,0,none⟩ s):=by
    show EltAt W2 _ s;rw[<-hN,<-hW2];exact Ij (t:=179) (heap_alloc_new wr _)
   replace STr:=ae (STr.o.grow hg2);replace HG:=ae (ag HG.o hg2);clear hg2;obtain⟨s1,s2,s3,s4,s5⟩:=STr.o;obtain⟨d0,d1,d2,d3,d4,d5,d6,d7,d8,d9,d10⟩:=HE2.o;simp only[Nat.zero_add]at d1 d2 d3 d4 d5 d6 d7 d8 d9 d10;go_wp2_with (go_at_call 86;refine(CF.o _).mono ?_);rintro e w1 ⟨rfl,hg⟩;have Bo:=ae (HE2.o.grow hg);replace STr:=ae (STr.o.grow hg);replace HG:=ae (ag HG.o hg)
   try rw[hN]
   clear hN hW2 hg e0 e1 e2 e3 e4 e5 e6 e7 e8 e9 e10 s1 s2 s3 s4 s5 d0 d1 d2 d3 d4 d5 d6 d7 d8 d9 d10;obtain⟨e0,e1,e2,e3,e4,e5,e6,e7,e8,e9,e10⟩:=Bo.o;simp only[Nat.zero_add]at e1 e2 e3 e4 e5 e6 e7 e8 e9 e10;obtain⟨s1,s2,s3,s4,s5⟩:=STr.o;obtain⟨ob,hob⟩:=zN s.o;rw[hob]at e10 gX;clear hob
   by_cases hx0:0<=x
   ·rw[decide_eq_true hx0,Bool.true_and]at gX
    cases ob with
    | true =>
     rw[Bool.true_or]at gX;have tH:Hd (R=true):=by
      show R=true;rw[<-HR.o];unfold fB;rw[List.any_eq_true];exact⟨L[i],List.getElem_mem hlt,by rw[nR.o];exact gX.o⟩
     go_wp2;go_ret;exact⟨aJ tH.o.symm,ag jk.o HG.o⟩
    | false =>
     rw[Bool.false_or]at gX;go_wp2_with (go_at_call 86;refine(CT.o _).mono ?_);rintro e w2 ⟨rfl,hg⟩;replace HG:=ae (ag HG.o hg);clear hg e0 e1 e2 e3 e4 e5 e6 e7 e8 e9 e10 s1 s2 s3 s4 s5
     by_cases hy0:y<0
     ·rw[decide_eq_true hy0]at gX;have tH:Hd (R=true):=by
       show R=true;rw[<-HR.o];unfold fB;rw[List.any_eq_true];exact⟨L[i],List.getElem_mem hlt,by rw[nR.o];exact gX.o⟩
      go_wp2;go_ret;exact⟨aJ tH.o.symm,ag jk.o HG.o⟩
     ·rw[decide_eq_false hy0]at gX;go_wp2;go_roundw
      case rel =>
       refine⟨i+1,by go_num,by omega,fun j hj hji=>?_,HG.o⟩
       by_cases hji':j<i
       ·exact HP.o j hj hji'
       ·have e:j=i:=by omega
        subst e;rw[nR.o];exact gX.o
      case measure=>simp[intOf];omega
   ·rw[decide_eq_false hx0,Bool.false_and]at gX;go_wp2;go_roundw
    case rel =>
     refine⟨i+1,by go_num,by omega,fun j hj hji=>?_,HG.o⟩
     by_cases hji':j<i
     ·exact HP.o j hj hji'
     ·have e:j=i:=by omega
      subst e;rw[nR.o];exact gX.o
    case measure=>simp[intOf];omega
  ·have nT:Hd (R=false):=by
    show R=false;rw[<-HR.o];unfold fB;rw[List.any_eq_false];intro t ht;obtain⟨j,hj,rfl⟩:=List.getElem_of_mem ht;rw[HP.o j hj (by omega)];decide
   clear hi;go_wp2;go_ret;exact⟨aJ nT.o.symm,ag jk.o HG.o⟩
theorem XI(v1 v2 v3:Int)(v4 v5:ByteArray)(w:World):Calls prog 79 #[.slice none 0 0,.agg #[.int .i64 v1,.int .i64 v2,.int .i64 v3,.string v4,.string v5]] w fun e w'=>e=.returned (.bool false)/\w.grownBy w' none:=by
 go_enter func79,ntmps79;go_wp2;go_loopw [9] (fun vi wr=>vi=.int .i64 0/\w.grownBy wr none) (fun vi _=>0)
 case atStart=>exact⟨rfl,aj (ak _ _) _⟩
 case round =>
  obtain⟨rfl,hg⟩:=hrel;have HG:=ae hg;clear hg;go_wp2;go_ret;exact⟨rfl,HG.o⟩
open Go.RowKit
theorem Bq:(prog.info? 179).map (fun i=>(i.zero,i.size,i.bytes))=some (some (.agg #[.int .i64 0,.int .i64 0,.int .i64 0,.string ⟨#[]⟩,.string ⟨#[]⟩,.int .i64 0,.int .i64 0,.int .i64 0,.string ⟨#[]⟩,.string ⟨#[]⟩,.bool false]),11,120):=by kernel_rfl
theorem jL{w w':World}{base:Nat}{e:TypeId}{size:Nat}{v:Value}{n:Nat}{xs:List Value}(h:w.ownsRow base e size v n xs)(hg:w.grownBy w' none):w'.ownsRow base e size v n xs :=
 h.kept hg (by cases v.ownBlock<;>simp)
theorem Bv(s:Sp):∀u∈bW s,u.oneCell'=true:=by
 intro u hu;simp only[bW,List.mem_cons,List.not_mem_nil,or_false]at hu
 rcases hu with rfl|rfl|rfl|rfl|rfl|rfl|rfl|rfl|rfl|rfl|rfl<;>rfl
theorem cell_lt{w:World}{a:Addr}{v:Value}(h:w.cell? a=some v):a.block<w.heap.size:=by
 unfold World.cell? at h
 cases hb:w.heap[a.block]? with
 | none=>rw[hb]at h;simp at h
 | some o=>exact(aB hb)
theorem XJ{B:Nat}{a w w':World}(h:Below B a w)(hB:B<=w.heap.size)(hg:w.grownBy w' none):Below B a w' :=
 ⟨hg.os.trans h.os,hg.tape.trans h.tape,hg.output.trans h.output,Nat.le_trans h.size hg.size,fun k hk=>(hg.block k (Nat.lt_of_lt_of_le hk hB) (by simp)).trans (h.block k hk)⟩
open Go.RowKit
def SpS(w:World)(sl:Value)(L:List Sp):Prop:=(sl=.slice none 0 0/\L=[])\/∃a cap,sl=.slice (some a) L.length cap/\L.length<=cap/\SpAt w a L
theorem SpS.grow{w w':World}{sl:Value}{L:List Sp}(h:SpS w sl L)(hg:w.grownBy w' none):SpS w' sl L:=by
 rcases h with h|⟨a,cap,h1,h2,h3⟩
 ·exact Or.inl h
 ·exact Or.inr ⟨a,cap,h1,h2,h3.grow hg⟩
theorem flat_get(L:List Sp):∀(i:Nat) (hi:i<L.length) (k:Nat) (v:Value),(bW L[i])[k]?=some v->(L.flatMap bW)[i*11+k]?=some v:=by
 induction L with
 | nil=>intro i hi;simp at hi
 | cons s L ih =>
  intro i hi k v h;rw[List.flatMap_cons];have hl:(bW s).length=11:=rfl
  cases i with
  | zero =>
   simp only[List.getElem_cons_zero]at h;have hk:=(List.getElem?_eq_some_iff.1 h).1;rw[Nat.zero_mul,Nat.zero_add,List.getElem?_append_left hk];exact h
  | succ i =>
   simp only[List.getElem_cons_succ]at h;rw[List.getElem?_append_right (by rw[hl];omega),hl,show(i+1)*11+k-11=i*11+k by omega];exact ih i (by simpa using hi) k v h
theorem Ik{w:World}{base:Nat}{v:Value}{L:List Sp}(h:w.ownsRow base 179 11 v L.length (L.flatMap bW)):SpS w v L:=by
 rcases h.2 with⟨h1,h2⟩|⟨g,cap,cur,h1,hb,hg,hn,hm,hs,ht⟩
 ·exact Or.inl ⟨h1,List.length_eq_zero_iff.1 h2⟩
 ·refine Or.inr ⟨⟨g,0,none⟩,cap,h1,hn,fun i hi=>WY fun k u hu=>?_⟩;have:=flat_get L i hi k u hu;exact h.cells (g:=g) (by rw[h1];rfl) (i*11+k) u this
theorem OB(sl:Value)(L:List Sp)(w:World)(h:SpS w sl L)(hL:L.length<=1048576)(hsz:∀s∈L,jK s) :
  Calls prog 163 #[sl] w fun e w'=>e=.returned (.bool (L.all fZ))/\w.grownBy w' none:=by
 rcases h with⟨rfl,rfl⟩|⟨a,cap,rfl,h2,h3⟩
 ·exact XG w
 ·exact XF a cap L w (by omega) h2 h3 hsz
open Go.RowKit
theorem XK(sl:Value)(L:List Sp)(v1 v2 v3:Int)(v4 v5:ByteArray)(w:World)(h:SpS w sl L)(hL:L.length<=4194304)(hsz:∀s∈L,jK s)(hv:v4.size<=1048576) :
  Calls prog 79 #[sl,.agg #[.int .i64 v1,.int .i64 v2,.int .i64 v3,.string v4,.string v5]] w fun e w'=>e=.returned (.bool (fB L ⟨v1,v2,v3,v4.data.toList⟩))/\w.grownBy w' none:=by
 rcases h with⟨rfl,rfl⟩|⟨a,cap,rfl,h2,h3⟩
 ·exact XI v1 v2 v3 v4 v5 w
 ·exact XH a cap L v1 v2 v3 v4 v5 w (by omega) h2 h3 hsz hv
open Go.RowKit
theorem vF(x y:Int)(w:World):Calls prog 134 #[.int .i64 x,.int .i64 y] w fun e w'=>e=.returned (.bool (decide (0<x)))/\w'=w:=by
 go_enter func134,ntmps134;go_wp2;go_ret;exact⟨rfl,rfl⟩
theorem vG(x y:Int)(w:World):Calls prog 180 #[.int .i64 x,.int .i64 y] w fun e w'=>e=.returned (.bool (decide (x=y)))/\w'=w:=by
 go_enter func180,ntmps180;go_wp2;go_ret;exact⟨aJ (by rw[Bool.eq_iff_iff];simp),rfl⟩
theorem OC(g o:Nat)(x d:Int)(w:World)(h:w.cell? ⟨g,o,none⟩=some (.int .i64 x))(hf:w.frozen? ⟨g,o,none⟩=false)(h1:-4611686018427387904<=x/\x<=4611686018427387904)(h2:-1<=d/\d<=1) :
  Calls prog 165 #[.pointer (some ⟨g,o,none⟩),.int .i64 d] w fun e w'=>e=.returned (.int .i64 (min (x+d) 1-min x 1))/\w'=w.setCell ⟨g,o,none⟩ (.int .i64 (x+d)):=by
 have r1:IntKind.i64.wrap (x+d)=x+d:=by rw[IntKind.wrap_i64];omega
 have r2:IntKind.i64.wrap (min (x+d) 1-min x 1)=min (x+d) 1-min x 1:=by rw[IntKind.wrap_i64];omega
 go_enter func165,ntmps165;go_wp2;go_ret;exact⟨rfl,rfl⟩
theorem vH(a1 a2 a3:Int)(a4 a5:ByteArray)(w:World)(hs:a4.size<=281474976710656) :
  Calls prog 166 #[.agg #[.int .i64 a1,.int .i64 a2,.int .i64 a3,.string a4,.string a5]] w fun e w'=>e=.returned (.agg #[.int .i64 a1,.int .i64 a2,.int .i64 a3,.string a4,.string ⟨#[]⟩])/\w.grownBy w' none:=by
 have CC:=ae (fun w=>clone_any a4 w hs);clear hs;go_enter func166,ntmps166;go_wp2_with (go_at_call 157;refine(CC.o _).mono ?_);rintro e w1 ⟨rfl,hg⟩;obtain⟨A,hA⟩:=zN (w.heap.size);have jM:Hd (VX A a1 a2 a3 a4 a5 w1):=by
  show w1.heap[A]?=_;rw[hg.block A (by rw[<-hA];simp;omega) (by simp),<-hA,Lib.alloc_old _ _ _ (by simp)];exact heap_alloc_new w _
 have HXB:Hd (VX (A+1) 0 0 0 ⟨#[]⟩ ⟨#[]⟩ w1):=by
  show w1.heap[A+1]?=_;rw[hg.block (A+1) (by rw[<-hA];simp) (by simp)];have:=heap_alloc_new (w.alloc (.cells #[.int .i64 a1,.int .i64 a2,.int .i64 a3,.string a4,.string a5] 108)) (.cells #[.int .i64 0,.int .i64 0,.int .i64 0,.string ⟨#[]⟩,.string ⟨#[]⟩] 108);rw[<-hA];simpa using this
 have HG:=ae (ag (aj (aj (ak w none) _) _) hg);have dR:=ae (Nat.le_of_eq hA);rw[hA];clear hA hg;obtain⟨v0,v1,v2,v3,v4⟩:=jM.o.cells;have vf:=jM.o.f;obtain⟨u0,u1,u2,u3,u4⟩:=HXB.o.cells;have uf:=HXB.o.f;go_wp2;have hB:VX (A+1) 0 0 0 ⟨#[]⟩ ⟨#[]⟩ ((w1.setCell ⟨A,3,none⟩ (.string a4)).setCell ⟨A,4,none⟩ (.string ⟨#[]⟩)):=(HXB.o.other (by omega) _ _).other (by omega) _ _;refine bodyPost_ret (results_cell_row rfl _ _ (A+1) 108 #[.int .i64 a1,.int .i64 a2,.int .i64 a3,.string a4,.string ⟨#[]⟩] (0,0) _ rfl (Ez hB a1 a2 a3 a4 ⟨#[]⟩) underlying108 rfl (by kernel_rfl)) rfl ⟨rfl,?_⟩;have h0:=dR.o;exact oV (fF (fF HG.o h0 _ _) h0 _ _) (by omega) a1 a2 a3 a4 ⟨#[]⟩
open Go.RowKit
structure Er where
 a1:Int
 a2:Int
 a3:Int
 a4:ByteArray
 a5:ByteArray
 l:Nat
 d:Int
instance:Inhabited Er:=⟨⟨0,0,0,⟨#[]⟩,⟨#[]⟩,0,0⟩⟩
def iI(e:Er):List Value:=[.int .i64 e.a1,.int .i64 e.a2,.int .i64 e.a3,.string e.a4,.string e.a5,.int .i64 e.l,.int .i64 e.d]
def aA(e:Er):Ed:=⟨⟨e.a1,e.a2,e.a3,e.a4.data.toList⟩,e.l,e.d⟩
def tJ(s:Sp):Sg:=⟨sV s,vg s,s.o⟩
def vI(k:Nat)(s:Sp):Er:=⟨s.f1,s.f2,s.f3,s.f4,s.f5,k,1⟩
def EK(k:Nat)(s:Sp):Er:=⟨s.t1,s.t2,s.t3,s.t4,s.t5,k,-1⟩
def dS(k:Nat)(s:Sp):List Er:=if s.o=true then[vI k s] else if aC (sV s) (vg s)<0 then[vI k s,EK k s] else[]
def dU:Nat->List (List Sp)->List Er
 | _,[]=>[]
 | k,l :: Ls=>l.flatMap (dS k)++dU (k+1) Ls
theorem XL(k:Nat)(s:Sp):(dS k s).map aA=zg k (tJ s):=by
 unfold dS zg tJ;simp only;split
 ·rfl
 ·split<;>rfl
theorem OD:∀(Ls:List (List Sp)) (k:Nat),(dU k Ls).map aA=uU k (Ls.map (·.map tJ))
 | [],k=>rfl
 | l :: Ls,k=>by
  rw[dU,List.map_append,List.map_cons,uU,OD Ls (k+1)];congr 1
  induction l with
  | nil=>rfl
  | cons s l ih=>rw[List.flatMap_cons,List.map_append,List.map_cons,List.flatMap_cons,ih,XL]
theorem XM(k:Nat)(s:Sp):(dS k s).length<=2:=by
 unfold dS;split
 ·simp
 ·split<;>simp
theorem zo(k:Nat)(l:List Sp):(l.flatMap (dS k)).length<=2*l.length:=by
 induction l with
 | nil=>simp
 | cons s l ih=>rw[List.flatMap_cons,List.length_append,List.length_cons];have:=XM k s;omega
theorem XN:(prog.info? 245).map (fun i=>(i.zero,i.size,i.bytes))=some (some (.agg #[.int .i64 0,.int .i64 0,.int .i64 0,.string ⟨#[]⟩,.string ⟨#[]⟩,.int .i64 0,.int .i64 0]),7,72):=by kernel_rfl
def Lists(w:World)(a:Addr)(Ls:List (List Sp)):Prop:=∀j (hj:j<Ls.length),∃sl,w.cell? (a.add j)=some sl/\SpS w sl Ls[j]
theorem Lists.grow{w w':World}{a:Addr}{Ls:List (List Sp)}(h:Lists w a Ls)(hg:w.grownBy w' none):Lists w' a Ls:=fun j hj=>by
 obtain⟨sl,h1,h2⟩:=h j hj;exact⟨sl,hg.cell h1 (by simp),h2.grow hg⟩
theorem OE:∀(A:List (List Sp)) (k:Nat) (l:List Sp),dU k (A++[l])=dU k A++l.flatMap (dS (k+A.length))
 | [],k,l=>by simp[dU]
 | b :: A,k,l=>by
  rw[List.cons_append,dU,OE A (k+1) l,dU,List.append_assoc,List.length_cons,show k+1+A.length=k+(A.length+1) by omega]
theorem EL(e:Er):∀u∈iI e,u.oneCell'=true:=by
 intro u hu;simp only[iI,List.mem_cons,List.not_mem_nil,or_false]at hu
 rcases hu with rfl|rfl|rfl|rfl|rfl|rfl|rfl<;>rfl
theorem XO(e f:Er):∀u∈iI e++iI f,u.oneCell'=true:=fun u hu=>by
 rcases List.mem_append.1 hu with h|h
 ·exact EL e u h
 ·exact EL f u h
def xe(w:World)(E:List Er)(ve:Value)(wr:World):Prop:=wr.ownsRow w.heap.size 245 7 ve E.length (E.flatMap iI)/\Below w.heap.size w wr
def OG(Ls:List (List Sp))(w:World)(e:Ending)(w':World):Prop:=∃(ve:Value) (E:List Er),e=.returned ve/\E.Perm (dU 0 Ls)/\nN (E.map aA)/\w'.ownsRow w.heap.size 245 7 ve E.length (E.flatMap iI)/\Below w.heap.size w w'
def EM:Prop:=∀(ve:Value) (E:List Er) (base:Nat) (w:World),w.ownsRow base 245 7 ve E.length (E.flatMap iI)->E.length<=8388608->(∀e∈E,e.a4.size<=1048576) →
 Calls prog 182 #[ve,.func (.func 183) #[] #[]] w fun e w'=>e=.returned (.tuple #[])/\∃E':List Er,E'.Perm E/\nN (E'.map aA)/\w'.ownsRow base 245 7 ve E'.length (E'.flatMap iI)/\w.grownBy w' ve.ownBlock
theorem EN(Ls:List (List Sp))(h:∀l∈Ls,l.length<=1048576/\∀s∈l,jK s):∀(k:Nat),∀e∈dU k Ls,e.a4.size<=1048576:=by
 induction Ls with
 | nil=>intro k e he;simp[dU]at he
 | cons l Ls ih =>
  intro k e he;rw[dU]at he
  rcases List.mem_append.1 he with he|he
  ·obtain⟨s,hs,he⟩:=List.mem_flatMap.1 he;have hm:=(h l (by simp)).2 s hs;unfold dS at he;split at he
   ·simp at he;rw[he];exact hm.1
   ·split at he
    ·simp at he
     rcases he with rfl|rfl
     ·exact hm.1
     ·exact hm.2.2.1
    ·simp at he
  ·exact ih (fun l' hl'=>h l' (by simp[hl'])) (k+1) e he
theorem XP{w w':World}{a:Addr}{L:List Sp}(h:SpAt w a L)(hb:Below w.heap.size w w'):SpAt w' a L:=h.grow ⟨hb.os,hb.tape,hb.output,hb.size,fun k hk _=>hb.block k hk⟩
theorem OH(hsort:EM)(a:Addr)(n cap:Nat)(Ls:List (List Sp))(w:World)(hn:Ls.length=n)(hcap:n<=cap)(hn2:n<=2)(h:Lists w a Ls)(hsz:∀l∈Ls,l.length<=1048576/\∀s∈l,jK s) :
  Calls prog 164 #[.slice (some a) n cap] w (OG Ls w):=by
 have hinfo:=XN;obtain⟨i0,hi0,hii⟩:=Option.map_eq_some_iff.1 hinfo;simp only[Prod.mk.injEq]at hii;obtain⟨hz0,hz1,hzb⟩:=hii;clear hinfo;have HA:=ae h;have HS:=ae hsz;have HN:=ae hn;clear h hsz hn;go_enter func164,ntmps164;go_wp2;go_loopw [3,10] (fun ve vi wr=>∃j:Nat,vi=.int .i64 j/\j<=n/\(dU 0 (Ls.take j)).length<=2097152*j/\xe w (dU 0 (Ls.take j)) ve wr) (fun _ vi _=>n-(intOf vi).toNat)
 case atStart=>exact⟨0,rfl,Nat.zero_le _,by simp[dU],World.ownsRow_nil _ _ _ _,Below.refl _ _⟩
 case round =>
  obtain⟨j,rfl,hj,hlen,hown,hb⟩:=hrel
  by_cases hlt:j<n
  ·have hjl:j<Ls.length:=by rw[HN.o];exact hlt
   obtain⟨sl,hcell,hsp⟩:=HA.o j hjl;have gW:w.grownBy wr none:=⟨hb.os,hb.tape,hb.output,hb.size,fun k hk _=>hb.block k hk⟩;have cj:=gW.cell hcell (by simp);obtain⟨l,hl⟩:=zN (Ls[j]);rw[hl]at hsp;have EO:Hd (l.length<=1048576/\∀s∈l,jK s):=by rw[<-hl];exact HS.o _ (List.getElem_mem hjl)
   have bD:Hd (dU 0 (Ls.take (j+1))=dU 0 (Ls.take j)++l.flatMap (dS j)):=by
    show dU 0 _=_;rw[List.take_succ_eq_append_getElem hjl,OE,hl,List.length_take,Nat.min_eq_left (Nat.le_of_lt hjl),Nat.zero_add]
   obtain⟨E0,hE0⟩:=zN (dU 0 (Ls.take j));rw[hE0]at bD hlen hown;have EP:=ae hlen;have HO:Hd (xe w E0 u3 wr):=⟨hown,hb⟩;have kF:=ae hsp;clear hE0 hl hcell hlen hown hb hsp gW;have NEXT:Hd (∀ve wk,xe w (E0++l.flatMap (dS j)) ve wk->j+1<=n/\(dU 0 (Ls.take (j+1))).length<=2097152*(j+1)/\xe w (dU 0 (Ls.take (j+1))) ve wk):=by
    intro ve wk h;rw[bD.o];refine⟨by omega,?_,h⟩;have q1:=EP.o;have q2:=zo j l;have q3:=EO.o.1;rw[List.length_append];omega
   rcases kF.o with⟨rfl,hnil⟩|⟨a',cap',rfl,hc',hat⟩
   ·have XQ:=ae hnil;clear hnil;go_wp2;go_loopw [3,17] (fun ve vi wk=>vi=.int .i64 0/\xe w E0 ve wk) (fun _ vi _=>0)
    case atStart=>exact⟨rfl,HO.o⟩
    case round =>
     obtain⟨rfl,hO⟩:=hrel;have Il:=ae hO;clear hO;go_wp2;go_roundw
     case rel =>
      have:=NEXT.o u3 wr (by rw[XQ.o];simpa using Il.o);exact⟨j+1,by go_num,this.1,this.2.1,this.2.2⟩
     case measure=>simp[intOf];omega
   ·have HAT:=ae hat;clear hat;go_wp2;go_loopw [3,17] (fun ve vi wk=>∃k:Nat,vi=.int .i64 k/\k<=l.length/\xe w (E0++(l.take k).flatMap (dS j)) ve wk) (fun _ vi _=>l.length-(intOf vi).toNat)
    case atStart=>exact⟨0,rfl,Nat.zero_le _,by simpa using HO.o⟩
    case round =>
     obtain⟨k,rfl,hk,hown,hb⟩:=hrel
     by_cases hkl:k<l.length
     ·obtain⟨s,hs⟩:=zN (l[k]);have afb:=EO.o.1;have HE:Hd (EltAt wr (a'.add (k*11)) s):=by show EltAt wr _ s;rw[<-hs];exact(XP HAT.o hb) k hkl
      have hm:jK s:=by rw[<-hs];exact EO.o.2 _ (List.getElem_mem hkl)
      have jO:Hd ((l.take (k+1)).flatMap (dS j)=(l.take k).flatMap (dS j)++dS j s):=by
       show _=_;rw[List.take_succ_eq_append_getElem hkl,List.flatMap_append,hs];simp
      have HLEN:Hd ((E0++(l.take k).flatMap (dS j)).length+2<=8388608):=by
       show _<=_;have q1:=EP.o;have q2:=zo j (l.take k);have q3:=EO.o.1;rw[List.length_append];rw[List.length_take]at q2;omega
      obtain⟨x,hx⟩:=zN (aC (sV s) (vg s));have CF:Hd (∀w,Calls prog 86 #[.agg #[.int .i64 s.f1,.int .i64 s.f2,.int .i64 s.f3,.string s.f4,.string s.f5],.agg #[.int .i64 s.t1,.int .i64 s.t2,.int .i64 s.t3,.string s.t4,.string s.t5]] w fun e w'=>e=.returned (.int .i64 x)/\w.grownBy w' none):=fun w=>by
       rw[<-hx];exact compare_any s.f1 s.f2 s.f3 s.t1 s.t2 s.t3 s.f4 s.f5 s.t4 s.t5 w (by have:=hm.1;omega) (by have:=hm.2.2.1;omega)
      have HX:=ae hx;obtain⟨e0,e1,e2,e3,e4,e5,e6,e7,e8,e9,e10⟩:=HE.o;obtain⟨N,hN⟩:=zN (wr.heap.size);obtain⟨W2,hW2⟩:=zN (wr.alloc (.cells #[.int .i64 s.f1,.int .i64 s.f2,.int .i64 s.f3,.string s.f4,.string s.f5,.int .i64 s.t1,.int .i64 s.t2,.int .i64 s.t3,.string s.t4,.string s.t5,.bool s.o] 179));have HE2:Hd (EltAt W2 ⟨N,0,none⟩ s):=by
       show EltAt W2 _ s;rw[<-hN,<-hW2];exact Ij (t:=179) (heap_alloc_new wr _)
      have dA:Hd (W2.ownsRow w.heap.size 245 7 u3 (E0++(l.take k).flatMap (dS j)).length ((E0++(l.take k).flatMap (dS j)).flatMap iI)):=by show World.ownsRow _ _ _ _ _ _ _;rw[<-hW2];exact hown.alloc _
      have HB2:Hd (Below w.heap.size w W2):=by show Below _ _ _;rw[<-hW2];exact hb.alloc hb.size _
      clear hx hm hs hown hb;obtain⟨d0,d1,d2,d3,d4,d5,d6,d7,d8,d9,d10⟩:=HE2.o;simp only[Nat.zero_add]at d1 d2 d3 d4 d5 d6 d7 d8 d9 d10
      cases ho:s.o with
      | true =>
       have Bz:Hd (dS j s=[vI j s]):=by show dS j s=_;unfold dS;rw[if_pos ho]
       rw[ho]at d10;clear ho;go_wp2_with (first|(at_builtin;refine wpList_append_own _ rfl _ _ 242 rfl w.heap.size 245 i0 (.agg #[.int .i64 0,.int .i64 0,.int .i64 0,.string ⟨#[]⟩,.string ⟨#[]⟩,.int .i64 0,.int .i64 0]) 7 72 underlying242 hi0 hz0 hz1 hzb rfl (by decide) _ _ _ rfl (dA.o.alloc _) _ 1 1 (iI (vI j s)) rfl rfl (World.news_of_block (heap_alloc_new _ _)) (EL _) (by unfold maxLen;have:=HLEN.o;omega) (by have:=HLEN.o;omega) (by have:=HB2.o.size;simp;omega) ?_;intro v' w3 hown3 hgrow _));have hb3:=(HB2.o.alloc (HB2.o.size) _).grown hgrow (by have:=HB2.o.size;simp;omega) (fun q hq=>(dA.o.lt q hq).1);have hl3:(E0++(l.take (k+1)).flatMap (dS j))=(E0++(l.take k).flatMap (dS j))++dS j s:=by rw[jO.o,List.append_assoc]
       refine⟨⟨k+1,by go_num,by omega,?_,hb3⟩,by simp[intOf];omega⟩;rw[hl3,Bz.o,List.length_append,List.flatMap_append];simpa using hown3
      | false =>
       rw[ho]at d10;have zq:=ae ho;clear ho;go_wp2_with (go_at_call 86;refine(CF.o _).mono ?_);rintro e w1 ⟨rfl,hg⟩;have EQ:=ae (HE2.o.grow hg);have pY:=ae (jL dA.o hg);have HB3:=ae (XJ HB2.o HB2.o.size hg)
       try rw[hN]
       clear hN hW2 hg e0 e1 e2 e3 e4 e5 e6 e7 e8 e9 e10 d0 d1 d2 d3 d4 d5 d6 d7 d8 d9 d10;obtain⟨d0,d1,d2,d3,d4,d5,d6,d7,d8,d9,d10⟩:=EQ.o;simp only[Nat.zero_add]at d1 d2 d3 d4 d5 d6 d7 d8 d9 d10
       by_cases hx0:x<0
       ·have Bz:Hd (dS j s=[vI j s,EK j s]):=by
         show dS j s=_;unfold dS;rw[if_neg (by rw[zq.o];decide),if_pos (by rw[HX.o];exact hx0)]
        go_wp2_with (first|(at_builtin;refine wpList_append_own _ rfl _ _ 242 rfl w.heap.size 245 i0 (.agg #[.int .i64 0,.int .i64 0,.int .i64 0,.string ⟨#[]⟩,.string ⟨#[]⟩,.int .i64 0,.int .i64 0]) 7 72 underlying242 hi0 hz0 hz1 hzb rfl (by decide) _ _ _ rfl (pY.o.alloc _) _ 2 2 (iI (vI j s)++iI (EK j s)) rfl rfl (World.news_of_block (heap_alloc_new _ _)) (XO _ _) (by unfold maxLen;have:=HLEN.o;omega) (by have:=HLEN.o;omega) (by have:=HB3.o.size;simp;omega) ?_;intro v' w3 hown3 hgrow _));have hb3:=(HB3.o.alloc (HB3.o.size) _).grown hgrow (by have:=HB3.o.size;simp;omega) (fun q hq=>(pY.o.lt q hq).1);have hl3:(E0++(l.take (k+1)).flatMap (dS j))=(E0++(l.take k).flatMap (dS j))++dS j s:=by rw[jO.o,List.append_assoc]
        refine⟨⟨k+1,by go_num,by omega,?_,hb3⟩,by simp[intOf];omega⟩;rw[hl3,Bz.o,List.length_append,List.flatMap_append];simpa using hown3
       ·have Bz:Hd (dS j s=[]):=by
         show dS j s=_;unfold dS;rw[if_neg (by rw[zq.o];decide),if_neg (by rw[HX.o];exact hx0)]
        go_wp2;go_roundw
        case rel =>
         have hl3:(E0++(l.take (k+1)).flatMap (dS j))=(E0++(l.take k).flatMap (dS j))++dS j s:=by rw[jO.o,List.append_assoc]
         refine⟨k+1,by go_num,by omega,?_⟩;rw[hl3,Bz.o,List.append_nil];exact⟨pY.o,HB3.o⟩
        case measure=>simp[intOf];omega
     ·have hkl2:k=l.length:=by omega
      have Il:Hd (xe w (E0++l.flatMap (dS j)) u3 wr):=by
       have:=hown;rw[hkl2,List.take_length]at this;exact⟨this,hb⟩
      clear hkl2 hown hb hk;go_wp2;go_roundw
      case rel =>
       have:=NEXT.o u3 wr Il.o;exact⟨j+1,by go_num,this.1,this.2.1,this.2.2⟩
      case measure=>simp[intOf];omega
  ·have hjn:j=n:=by omega
   have hto:Ls.take j=Ls:=List.take_of_length_le (by rw[HN.o];omega);rw[hto]at hown hlen;have CS:=hsort u3 (dU 0 Ls) w.heap.size wr hown (by omega) (EN Ls HS.o 0);have XR:=ae CS;have HB:=ae hb;have xg:=ae (fun q (hq:u3.ownBlock=some q)=>(hown.lt q hq).1);clear CS hown hb hlen hto hjn hj;go_wp2_with (go_at_call 182;refine XR.o.mono ?_);rintro e w3 ⟨rfl,E',hp,hso,ho3,hg3⟩;have HF:Hd (OG Ls w (.returned u3) w3):=⟨u3,E',rfl,hp,hso,ho3,HB.o.grown hg3 HB.o.size xg.o⟩;clear hp hso ho3 hg3;go_wp2;exact bodyPost_ret (results_tmp (t:=2) rfl _ _ _) rfl HF.o
open Go.RowKit
def iJ:V:=⟨0,0,0,[]⟩
def dD(x y:V)(o:Bool):Sp:=⟨x.major,x.minor,x.patch,⟨x.pre.toArray⟩,⟨#[]⟩,y.major,y.minor,y.patch,⟨y.pre.toArray⟩,⟨#[]⟩,o⟩
def outs:List V->List Sp
 | []=>[]
 | [x]=>[dD x iJ true]
 | x :: y :: r=>dD x y false :: outs r
theorem BC:∀(T:List V) (x:V),T.length % 2=0->outs (T++[x])=outs T++[dD x iJ true]
 | [],x,_=>rfl
 | [a],x,h=>by simp at h
 | a :: b :: r,x,h=>by
  have:=BC r x (by simp at h;omega);simp only[List.cons_append,outs,this]
theorem BD:∀(T:List V) (x:V),T.length % 2=1->∃A y,outs T=A++[dD y iJ true]/\outs (T++[x])=A++[dD y x false]
 | [],x,h=>by simp at h
 | [a],x,_=>⟨[],a,rfl,rfl⟩
 | a :: b :: r,x,h=>by
  obtain⟨A,y,h1,h2⟩:=BD r x (by simp at h;omega);exact⟨dD a b false :: A,y,by simp only[outs,h1,List.cons_append],by simp only[List.cons_append,outs,h2]⟩
theorem XT(s:Sp):(bW s).length=11:=rfl
theorem ER(L:List Sp):(L.flatMap bW).length=L.length*11:=by
 induction L with
 | nil=>rfl
 | cons s L ih=>rw[List.flatMap_cons,List.length_append,ih,XT,List.length_cons];omega
theorem OI(n l:Nat)(d:Int)(b:Nat->Int)(hl:l<n):having n (upd b l d)=having n b+(min (b l+d) 1-min (b l) 1):=by
 unfold having
 induction n with
 | zero=>omega
 | succ n ih =>
  rw[List.range_succ,List.map_append,List.sum_append,List.map_append,List.sum_append];simp only[List.map_cons,List.map_nil,List.sum_cons,List.sum_nil]
  by_cases h:l=n
  ·subst h;have:(List.range l).map (fun j=>min (upd b l d j) 1)=(List.range l).map (fun j=>min (b j) 1):=by
    apply List.map_congr_left;intro j hj;have:=List.mem_range.1 hj;unfold upd;rw[if_neg (by omega)]
   rw[this];unfold upd;rw[if_pos rfl];omega
  ·have h2:=ih (by omega);rw[h2];unfold upd;rw[if_neg (fun e=>h e.symm)];omega
theorem OJ(n:Nat)(b:Nat->Int)(i:Nat)(h:∀j,-(i:Int)<=b j/\b j<=i):-(n*i:Int)<=having n b/\having n b<=n:=by
 unfold having
 induction n with
 | zero=>simp
 | succ n ih =>
  rw[List.range_succ,List.map_append,List.sum_append];simp only[List.map_cons,List.map_nil,List.sum_cons,List.sum_nil];have hn:=h n;have e:((n+1:Nat):Int)*(i:Int)=(n:Int)*i+i:=by rw[Int.natCast_add,Int.add_mul];simp
  rw[e];omega
theorem OM(Ls:List (List Sp)):∀(k:Nat),∀e∈dU k Ls,k<=e.l/\e.l<k+Ls.length/\(e.d=1\/e.d=-1):=by
 induction Ls with
 | nil=>intro k e he;simp[dU]at he
 | cons l Ls ih =>
  intro k e he;rw[dU]at he
  rcases List.mem_append.1 he with he|he
  ·obtain⟨s,hs,he⟩:=List.mem_flatMap.1 he;unfold dS at he;split at he
   ·simp at he;rw[he];simp[vI]
   ·split at he
    ·simp at he
     rcases he with rfl|rfl
     ·simp[vI]
     ·simp[EK]
    ·simp at he
  ·have:=ih (k+1) e he;simp;omega
def EdAt(w:World)(p:Addr)(e:Er):Prop:=w.cell? p=some (.int .i64 e.a1)/\w.cell? ⟨p.block,p.off+1,none⟩=some (.int .i64 e.a2)/\w.cell? ⟨p.block,p.off+2,none⟩=some (.int .i64 e.a3)/\w.cell? ⟨p.block,p.off+3,none⟩=some (.string e.a4)/\w.cell? ⟨p.block,p.off+4,none⟩=some (.string e.a5)/\w.cell? ⟨p.block,p.off+5,none⟩=some (.int .i64 e.l)/\w.cell? ⟨p.block,p.off+6,none⟩=some (.int .i64 e.d)
theorem EdAt.grow{w w':World}{p:Addr}{e:Er}{r:Option Nat}(h:EdAt w p e)(hg:w.grownBy w' r)(hn:some p.block≠r):EdAt w' p e:=by
 obtain⟨h0,h1,h2,h3,h4,h5,h6⟩:=h;exact⟨hg.cell h0 hn,hg.cell h1 hn,hg.cell h2 hn,hg.cell h3 hn,hg.cell h4 hn,hg.cell h5 hn,hg.cell h6 hn⟩
theorem XU{w:World}{a:Addr}{n:Nat}{e:Er}(h:∀k v,(iI e)[k]?=some v->w.cell? (a.add (n+k))=some v):EdAt w (a.add n) e :=
 ⟨by have:=h 0 _ rfl;simpa using this,by have:=h 1 _ rfl;rw[jg a n 1 (by omega)]at this;exact this,by have:=h 2 _ rfl;rw[jg a n 2 (by omega)]at this;exact this,by have:=h 3 _ rfl;rw[jg a n 3 (by omega)]at this;exact this,by have:=h 4 _ rfl;rw[jg a n 4 (by omega)]at this;exact this,by have:=h 5 _ rfl;rw[jg a n 5 (by omega)]at this;exact this,by have:=h 6 _ rfl;rw[jg a n 6 (by omega)]at this;exact this⟩
theorem OO(L:List Er):∀(i:Nat) (hi:i<L.length) (k:Nat) (v:Value),(iI L[i])[k]?=some v->(L.flatMap iI)[i*7+k]?=some v:=by
 induction L with
 | nil=>intro i hi;simp at hi
 | cons s L ih =>
  intro i hi k v h;rw[List.flatMap_cons];have hl:(iI s).length=7:=rfl
  cases i with
  | zero =>
   simp only[List.getElem_cons_zero]at h;have hk:=(List.getElem?_eq_some_iff.1 h).1;rw[Nat.zero_mul,Nat.zero_add,List.getElem?_append_left hk];exact h
  | succ i =>
   simp only[List.getElem_cons_succ]at h;rw[List.getElem?_append_right (by rw[hl];omega),hl,show(i+1)*7+k-7=i*7+k by omega];exact ih i (by simpa using hi) k v h
theorem OQ{w:World}{base:Nat}{v:Value}{E:List Er}(h:w.ownsRow base 245 7 v E.length (E.flatMap iI)) :
  (v=.slice none 0 0/\E=[])\/∃(ga:Addr) (cap:Nat),v=.slice (some ga) E.length cap/\E.length<=cap/\base<=ga.block/\ga.block<w.heap.size/\ga.spot=none/\∀i (hi:i<E.length),EdAt w (ga.add (i*7)) E[i]:=by
 rcases h.2 with⟨h1,h2⟩|⟨g,cap,cur,h1,hb,hg,hn,hm,hs,ht⟩
 ·exact Or.inl ⟨h1,List.length_eq_zero_iff.1 h2⟩
 ·refine Or.inr ⟨⟨g,0,none⟩,cap,h1,hn,hb,(aB hg),rfl,fun i hi=>XU fun k u hu=>?_⟩;have:=OO E i hi k u hu;exact h.cells (g:=g) (by rw[h1];rfl) (i*7+k) u this
theorem add_block(a:Addr)(n:Nat):(a.add n).block=a.block:=by unfold Addr.add;split<;>rfl
theorem iR{w:World}{base:Nat}{e:TypeId}{size:Nat}{g n cap:Nat}{xs:List Value}(h:w.ownsRow base e size (.slice (some ⟨g,0,none⟩) n cap) n xs)(o:Nat)(x:Value)(ho:o<n*size):(w.setCell ⟨g,o,none⟩ x).ownsRow base e size (.slice (some ⟨g,0,none⟩) n cap) n (xs.set o x):=by
 refine⟨by rw[List.length_set];exact h.1,?_⟩
 rcases h.2 with⟨h1,_⟩|⟨g',cap',cur,h1,hb,hg,hn,hm,hs,ht⟩
 ·cases h1
 ·cases h1
  refine Or.inr ⟨g,cap,cur.setIfInBounds o x,rfl,hb,?_,hn,hm,by simpa using hs,?_⟩
  ·simp[World.setCell,Array.getElem?_modify,hg]
  ·rw[Array.toList_setIfInBounds,List.take_set,ht]
theorem tK:∀(T:List V),(outs T).length<=T.length
 | []=>Nat.le_refl _
 | [a]=>Nat.le_refl _
 | a :: b :: r=>by have:=tK r;simp only[outs,List.length_cons];omega
theorem ES(e:Er):bW (dD (aA e).at_ iJ true)=[.int .i64 e.a1,.int .i64 e.a2,.int .i64 e.a3,.string e.a4,.string ⟨#[]⟩,.int .i64 0,.int .i64 0,.int .i64 0,.string ⟨#[]⟩,.string ⟨#[]⟩,.bool true]:=by
 simp only[bW,dD,aA,iJ,Go.Joins.bytes_eta]
theorem vJ{w wa wb:World}{B:Nat}{row:Option Nat}(h:w.grownBy wa (some B))(hg:wa.grownBy wb row)(hr:∀q,row=some q->w.heap.size<=q):w.grownBy wb (some B) :=
 ⟨hg.os.trans h.os,hg.tape.trans h.tape,hg.output.trans h.output,Nat.le_trans h.size hg.size,fun k hk hn=>(hg.block k (Nat.lt_of_lt_of_le hk h.size) (fun e=>by have:=hr k e.symm;omega)).trans (h.block k hk hn)⟩
theorem BF(g k:Nat):(⟨g,0,none⟩:Addr).add k=⟨g,k,none⟩:=by
 unfold Addr.add;split
 ·rename_i h;rw[h]
 ·simp
theorem zt{P l:List Value}{k:Nat}(hP:P.length=k)(q:Nat)(v:Value):(P++l).set (k+q) v=P++l.set q v:=by
 rw[List.set_append_right _ _ (by omega),hP,Nat.add_sub_cancel_left]
theorem ET(e:Er)(y:V){P:List Value}{k:Nat}(hP:P.length=k) :
  ((((((P++bW (dD y iJ true)).set (k+5) (.int .i64 e.a1)).set (k+6) (.int .i64 e.a2)).set (k+7) (.int .i64 e.a3)).set (k+8) (.string e.a4)).set (k+9) (.string ⟨#[]⟩)).set (k+10) (.bool false)=P++bW (dD y (aA e).at_ false):=by
 rw[zt hP,zt hP,zt hP,zt hP,zt hP,zt hP];simp only[bW,dD,aA,iJ,Go.Joins.bytes_eta,List.set]
theorem iT{w:World}{base:Nat}{gs capS M:Nat}{A:List Sp}{s:Sp}(h:w.ownsRow base 179 11 (.slice (some ⟨gs,0,none⟩) (M+1) capS) (M+1) ((A++[s]).flatMap bW))(hA:A.length=M)(q:Nat)(v:Value)(hq:(bW s)[q]?=some v):w.cell? ⟨gs,M*11+q,none⟩=some v:=by
 have h1:=flat_get (A++[s]) M (by rw[List.length_append,hA];simp) q v (by rw[List.getElem_append_right (by omega)];simpa [hA] using hq);have:=h.cells (g:=gs) rfl (M*11+q) v h1;rw[BF]at this;exact this
theorem EU{w:World}{base:Nat}{e:TypeId}{size gs n cap:Nat}{xs:List Value}(h:w.ownsRow base e size (.slice (some ⟨gs,0,none⟩) n cap) n xs)(o:Nat):w.frozen? ⟨gs,o,none⟩=false:=by
 rcases h.2 with⟨h1,_⟩|⟨g',cap',cur,h1,hb,hg,_⟩
 ·cases h1
 ·cases h1;exact Lib.frozen_of_heap hg o
theorem Io(Ls:List (List Sp))(h:∀l∈Ls,l.length<=1048576):∀k,(dU k Ls).length<=2097152*Ls.length:=by
 induction Ls with
 | nil=>intro k;simp[dU]
 | cons l Ls ih =>
  intro k;have h1:=ih (fun l' hl'=>h l' (by simp[hl'])) (k+1);have h2:=zo k l;have h3:=h l (by simp);rw[dU,List.length_append,List.length_cons];omega
theorem Ip(n:Nat):having n (fun _=>0)=0:=by
 unfold having
 induction n with
 | zero=>rfl
 | succ n ih=>rw[List.range_succ,List.map_append,List.sum_append,ih];rfl
open Go.RowKit
theorem XV(x y:Er)(w:World)(hx:x.a4.size<=1048576)(hy:y.a4.size<=1048576) :
  Calls prog 183 #[.agg (iI x).toArray,.agg (iI y).toArray] w fun e w'=>e=.returned (.int .i64 (aC (aA x).at_ (aA y).at_))/\Gr w w':=by
 obtain⟨a1,a2,a3,a4,a5,l,d⟩:=x;obtain⟨b1,b2,b3,b4,b5,m,c⟩:=y;obtain⟨r,hr⟩:=zN (aC (aA ⟨a1,a2,a3,a4,a5,l,d⟩).at_ (aA ⟨b1,b2,b3,b4,b5,m,c⟩).at_);have CC:Hd (∀w,Calls prog 86 #[.agg #[.int .i64 a1,.int .i64 a2,.int .i64 a3,.string a4,.string a5],.agg #[.int .i64 b1,.int .i64 b2,.int .i64 b3,.string b4,.string b5]] w fun e w'=>e=.returned (.int .i64 r)/\Gr w w'):=fun w=>by
  rw[<-hr];exact G.compare_any a1 a2 a3 b1 b2 b3 a4 a5 b4 b5 w (by simp at hx;omega) (by simp at hy;omega)
 rw[hr];clear hr hx hy;show Calls prog 183 #[.agg #[.int .i64 a1,.int .i64 a2,.int .i64 a3,.string a4,.string a5,.int .i64 l,.int .i64 d],.agg #[.int .i64 b1,.int .i64 b2,.int .i64 b3,.string b4,.string b5,.int .i64 m,.int .i64 c]] w _;go_enter func183,ntmps183;go_wp2_with (go_at_call 86;refine(CC.o _).mono ?_);rintro e w1 ⟨rfl,hg⟩;go_wp2;go_ret;exact⟨rfl,uV (Bj (Bj (Bi w) _) _) hg⟩
open Go.RowKit Go.Shelf Go.Sort
abbrev Eb:={e:Er // e.a4.size<=1048576}
instance:Inhabited Eb:=⟨⟨default,by show(0:Nat)<=_;omega⟩⟩
def mD(x:Eb):List Value:=iI x.1
def xh(x y:Eb):Int:=aC (aA x.1).at_ (aA y.1).at_
theorem XW:SWO (ltOf xh) where
 irrefl x:=by unfold ltOf xh;rw[Be];rfl
 trans x y z h1 h2:=by
  unfold ltOf xh at *;have a1:=of_decide_eq_true h1;have a2:=of_decide_eq_true h2;exact decide_eq_true (Bg a1 a2)
 ntrans x y z h1 h2:=by
  unfold ltOf xh at *;have a1:=of_decide_eq_false h1;have a2:=of_decide_eq_false h2;apply decide_eq_false;intro h3;have b1:=gJ (aA x.1).at_ (aA y.1).at_;have b2:=gJ (aA y.1).at_ (aA z.1).at_;have b3:=qW (show aC (aA z.1).at_ (aA y.1).at_<=0 by omega) (show aC (aA y.1).at_ (aA x.1).at_<=0 by omega);have b4:=gJ (aA z.1).at_ (aA x.1).at_;omega
theorem XX{w w':World}(h:Gr w w'):∃q os,w'=grow (w.drewN q) os:=by
 refine⟨w'.drawn-w.drawn,w'.heap.extract w.heap.size w'.heap.size,?_⟩;obtain⟨hg,hd⟩:=h;have hh:w'.heap=w.heap++w'.heap.extract w.heap.size w'.heap.size:=by
  apply Array.ext_getElem?;intro k
  by_cases hk:k<w.heap.size
  ·rw[Array.getElem?_append_left hk];exact hg.block k hk (by simp)
  ·rw[Array.getElem?_append_right (by omega),Array.getElem?_extract]
   by_cases hk2:k<w'.heap.size
   ·rw[if_pos (by omega)];congr 1;omega
   ·rw[if_neg (by omega),Array.getElem?_eq_none (by omega)]
 have h1:=hg.os;have h2:=hg.tape;have h3:=hg.output
 cases w';cases w
 simp only[grow,World.drewN,World.mk.injEq]at *;exact⟨hh,h2,by omega,h1,h3⟩
theorem XY(w:World)(blk off size:Nat):CmpLays prog 183 #[] mD 7 xh blk off size w:=by
 intro m os dk hdk x y;refine(XV x.1 y.1 _ x.2 y.2).mono ?_;rintro e w' ⟨rfl,hg⟩;exact⟨rfl,XX hg⟩
theorem OU(x:Eb):(mD x).length=7:=rfl
theorem XZ(x:Eb):∀v∈mD x,v.oneCell'=true:=EL x.1
theorem Iq(d:Array Eb):(flatK mD 7 d).toList=(d.toList.map (·.1)).flatMap iI:=by
 apply List.ext_getElem?;intro j;have hl:((d.toList.map (·.1)).flatMap iI).length=d.size*7:=by
  have:∀L:List Er,(L.flatMap iI).length=L.length*7:=by
   intro L
   induction L with
   | nil=>rfl
   | cons e L ih=>rw[List.flatMap_cons,List.length_append,ih,List.length_cons];show 7+_=_;omega
  rw[this];simp
 by_cases hj:j<d.size*7
 ·have hi:j / 7<d.size:=by omega
  have h1:(flatK mD 7 d).toList[j]?=some ((mD d[j / 7]!)[j % 7]!):=by
   rw[Array.getElem?_toList,Array.getElem?_eq_getElem (by simpa using hj)];have:=get_flatK mD 7 d j hj;rw[getElem!_pos _ j (by simpa using hj)]at this;rw[this]
  have h2:=OO (d.toList.map (·.1)) (j / 7) (by simpa using hi) (j % 7) ((mD d[j / 7]!)[j % 7]!) (by
   rw[getElem!_pos d (j / 7) hi];have hk:j % 7<(mD d[j / 7]).length:=by rw[OU];omega
   rw[getElem!_pos _ (j % 7) hk];rw[List.getElem_map,Array.getElem_toList];exact List.getElem?_eq_getElem hk)
  rw[show j / 7*7+j % 7=j by omega]at h2;rw[h1,h2]
 ·rw[List.getElem?_eq_none (by simp;omega),List.getElem?_eq_none (by rw[hl];omega)]
theorem eg:∀args w,(callFunc 183 args).run prog w=.ok (.enter 183 args) w:=enters_of func183 (by kernel_rfl) rfl
theorem OV:EM:=by
 intro ve E base w hown hlen hsmall;obtain⟨D,hD⟩:∃D:Array Eb,D.toList.map (·.1)=E:=⟨(E.attach.map fun e=>(⟨e.1,hsmall e.1 e.2⟩:Eb)).toArray,by simp⟩;have hDs:D.size=E.length:=by rw[<-hD];simp
 have hown':=hown
 rcases hown.2 with⟨rfl,h0⟩|⟨g,cap,cur,rfl,hb,hg,hn,hm,hs,ht⟩
 ·refine(AnyF.slices_SortFunc_none Tryz.laysSort none 0 (.func (.func 183) #[] #[]) w).mono ?_;rintro e w' ⟨rfl,rfl⟩;have hE:=List.eq_nil_of_length_eq_zero h0;subst hE;exact⟨rfl,[],List.Perm.refl _,List.Pairwise.nil,hown',⟨rfl,rfl,rfl,Nat.le_refl _,fun _ _ _=>rfl⟩⟩
 ·have hH:HoldsK mD 7 w g 0 D:=by
   intro j hj;have hj':j<(E.flatMap iI).length:=by rw[hown.1,<-hDs];simpa using hj
   refine⟨?_,Lib.frozen_of_heap hg _⟩;have h1:(flatK mD 7 D).toList[j]?=(E.flatMap iI)[j]?:=by rw[Iq,hD]
   rw[Array.getElem?_toList,Array.getElem?_eq_getElem hj]at h1;rw[Nat.zero_add,ah hg];rw[getElem!_pos _ j hj];show cur[j]?=some (id _);rw[id,h1,<-ht,List.getElem?_take_of_lt (by rw[hown.1]at hj';exact hj')];simp
  rw[<-hDs];refine(AnyQ.slices_SortFunc Tryz.laysSort 7 isAgg245 sizeOf245 mD OU XZ xh XW 183 #[] g 0 cap D w eg (XY w g 0 D.size) hH (aB hg) (by omega)).mono ?_;rintro e w' ⟨rfl,d',m,os,hperm,hsort,hw'⟩;have hds:=hperm.1;have hgl:=(aB hg);have hheap:w'.heap=(w.heap.modify g (onCells (putCells id 0 (flatK mD 7 d'))))++os:=by rw[hw'];rfl
  have hg':w'.heap[g]?=some (.cells (putCells id 0 (flatK mD 7 d') cur) 245):=by
   rw[hheap,Array.getElem?_append_left (by simpa using hgl),Array.getElem?_modify,if_pos rfl,hg];rfl
  have Ir:(flatK mD 7 d').size=D.size*7:=by simp[hds]
  have hcs:D.size*7<=cur.size:=by rw[hs,hDs];omega
  have hlen2:((d'.toList.map (·.1)).flatMap iI).length=D.size*7:=by rw[<-Iq,Array.length_toList,Ir]
  refine⟨rfl,d'.toList.map (·.1),?_,?_,⟨?_,.inr ⟨g,cap,_,?_,hb,hg',?_,hm,?_,?_⟩⟩,?_⟩
  ·rw[<-hD];apply List.Perm.map;have:=hperm.2.2;rw[Array.extract_size]at this;rw[show d'.extract 0 D.size=d' by rw[<-hds,Array.extract_size]]at this;exact this
  ·show List.Pairwise _ _;rw[List.pairwise_iff_getElem];intro i j hi hj hij;simp only[List.length_map,Array.length_toList]at hi hj;have:=hsort i j (Nat.zero_le _) hij (by omega);rw[getElem!_pos d' j hj,getElem!_pos d' i hi]at this;have h3:=of_decide_eq_false this;have h4:=gJ (aA d'[j].1).at_ (aA d'[i].1).at_;simp only[List.getElem_map,Array.getElem_toList];unfold xh at h3;omega
  ·rw[hlen2];simp[hds]
  ·simp[hds]
  ·simp[hds];omega
  ·simp[putCells,hs]
  ·rw[show(d'.toList.map (·.1)).length=D.size by simp[hds],<-Iq];apply List.ext_getElem?;intro j
   by_cases hj:j<D.size*7
   ·rw[List.getElem?_take_of_lt hj,Array.getElem?_toList,Array.getElem?_toList];rw[putCells,Array.getElem?_mapIdx,Array.getElem?_eq_getElem (show j<cur.size by omega)];rw[Option.map_some,if_pos ⟨Nat.zero_le _,by omega⟩,Nat.sub_zero,id,getElem!_pos _ j (by omega)];exact(Array.getElem?_eq_getElem _).symm
   ·rw[List.getElem?_eq_none (by simp;omega),List.getElem?_eq_none (by rw[Array.length_toList];omega)]
  ·refine⟨by rw[hw'];rfl,by rw[hw'];rfl,by rw[hw'];rfl,?_,?_⟩
   ·rw[hheap];simp
   ·intro k hk hne;have hkg:g≠k:=by
     intro h;subst h;exact hne rfl
    rw[hheap,Array.getElem?_append_left (by simpa using hk),Array.getElem?_modify,if_neg hkg]
open Go.RowKit
theorem OW:(prog.info? 3).map (fun i=>(i.zero,i.size,i.bytes))=some (some (.int .i64 0),1,8):=by kernel_rfl
def BegunAt(w:World)(B n:Nat)(b:Nat->Int):Prop:=w.heap[B]?=some (.cells ((List.range n).map fun j=>Value.int .i64 (b j)).toArray 3 (0,0))
theorem BegunAt.cell{w:World}{B n:Nat}{b:Nat->Int}(h:BegunAt w B n b){j:Nat}(hj:j<n):w.cell? ⟨B,j,none⟩=some (.int .i64 (b j)):=by
 rw[ah h];simp[hj]
theorem BegunAt.f{w:World}{B n:Nat}{b:Nat->Int}(h:BegunAt w B n b)(j:Nat):w.frozen? ⟨B,j,none⟩=false:=Lib.frozen_of_heap h j
theorem BegunAt.set{w:World}{B n:Nat}{b:Nat->Int}(h:BegunAt w B n b){l:Nat}(hl:l<n)(d:Int):BegunAt (w.setCell ⟨B,l,none⟩ (.int .i64 (b l+d))) B n (upd b l d):=by
 unfold BegunAt at h ⊢;simp only[World.setCell,Array.getElem?_modify,h,if_true,Option.map_some];congr 2;apply Array.ext';apply List.ext_getElem?;intro k;simp only[Option.isSome_none,Bool.false_eq_true,if_false];rw[Array.toList_setIfInBounds];simp only[List.getElem?_set,List.getElem?_map,List.length_map,List.length_range]
 by_cases hk:l=k
 ·subst hk;simp[hl,upd]
 ·simp only[hk,if_false]
  by_cases hkn:k<n
  ·simp[hkn,upd];intro e;exact absurd e.symm hk
  ·simp[hkn]
theorem BegunAt.grow{w w':World}{B n:Nat}{b:Nat->Int}{r:Option Nat}(h:BegunAt w B n b)(hg:w.grownBy w' r)(hn:some B≠r):BegunAt w' B n b:=by
 unfold BegunAt at h ⊢;rw[hg.block B ((aB h)) hn];exact h
theorem BegunAt.drew{w:World}{B n:Nat}{b:Nat->Int}(h:BegunAt w B n b)(m:Nat):BegunAt (w.drewN m) B n b:=h
theorem OY(n:Nat):madeCells #[Value.int .i64 0] n=((List.range n).map fun _=>Value.int .i64 0).toArray:=by
 apply Array.ext';simp[madeCells];intro a ha;rw[Nat.mod_one];rfl
theorem Iu{w:World}{b b':Nat}{e:TypeId}{size:Nat}{v:Value}{n:Nat}{xs:List Value}(h:w.ownsRow b e size v n xs)(hb:b'<=b):w.ownsRow b' e size v n xs:=by
 refine⟨h.1,?_⟩
 rcases h.2 with h|⟨g,cap,cur,h1,h2,h3⟩
 ·exact Or.inl h
 ·exact Or.inr ⟨g,cap,cur,h1,Nat.le_trans hb h2,h3⟩
def SweepPost(ch:Int->Bool)(Ls:List (List Sp))(w:World)(e:Ending)(w':World):Prop :=
 w.grownBy w' none/\((¬Ls.all (·.all fZ)=true/\e=.returned (.tuple #[.slice none 0 0,.int .i64 2])) ∨
  (Ls.all (·.all fZ)=true/\∃(E:List Er) (vs:Value),E.Perm (dU 0 Ls)/\nN (E.map aA)/\e=.returned (.tuple #[vs,.int .i64 0])/\SpS w' vs (outs (bQ (fun b=>ch (having Ls.length b)) (fun _=>0) false (E.map aA)))/\w'.ownsRow w.heap.size 179 11 vs (outs (bQ (fun b=>ch (having Ls.length b)) (fun _=>0) false (E.map aA))).length ((outs (bQ (fun b=>ch (having Ls.length b)) (fun _=>0) false (E.map aA))).flatMap bW)))
theorem OZ{p0 p1 p2 p3 p4 p5 p6 p7 p8 p9:Addr}{c0 c1 c2 c3 c4 c5 c6 c7 c8 c9:Value}{w w':World}(hg:w.grownBy w' none)(h:w.cell? p0=some c0/\w.cell? p1=some c1/\w.cell? p2=some c2/\w.cell? p3=some c3/\w.cell? p4=some c4/\w.cell? p5=some c5/\w.cell? p6=some c6/\w.cell? p7=some c7/\w.cell? p8=some c8/\w.cell? p9=some c9):w'.cell? p0=some c0/\w'.cell? p1=some c1/\w'.cell? p2=some c2/\w'.cell? p3=some c3/\w'.cell? p4=some c4/\w'.cell? p5=some c5/\w'.cell? p6=some c6/\w'.cell? p7=some c7/\w'.cell? p8=some c8/\w'.cell? p9=some c9:=by
 obtain⟨h0,h1,h2,h3,h4,h5,h6,h7,h8,h9⟩:=h;exact⟨hg.cell h0 (by simp),hg.cell h1 (by simp),hg.cell h2 (by simp),hg.cell h3 (by simp),hg.cell h4 (by simp),hg.cell h5 (by simp),hg.cell h6 (by simp),hg.cell h7 (by simp),hg.cell h8 (by simp),hg.cell h9 (by simp)⟩
def O0(ch:Int->Bool)(n B:Nat)(E:List Er)(w2:World)(vs vh von vi:Value)(wk:World):Prop :=
 ∃(i:Nat) (b:Nat->Int) (on:Bool) (T:List V),vi=.int .i64 i/\i<=E.length/\vh=.int .i64 (having n b)/\von=.bool on/\(∀j,-(i:Int)<=b j/\b j<=i) ∧
  bQ (fun b=>ch (having n b)) (fun _=>0) false (E.map aA)=T++bQ (fun b=>ch (having n b)) b on ((E.map aA).drop i)/\T.length<=i/\(T.length % 2=if on=true then 1 else 0) ∧
  BegunAt wk B n b/\wk.ownsRow w2.heap.size 179 11 vs (outs T).length ((outs T).flatMap bW)/\w2.grownBy wk (some B)
theorem X4(hsort:EM)(a:Addr)(n cap:Nat)(Ls:List (List Sp))(w:World)(hn:Ls.length=n)(hcap:n<=cap)(hn2:n<=2)(h:Lists w a Ls)(hsz:∀l∈Ls,l.length<=1048576/\∀s∈l,jK s) :
  Calls prog 133 #[.func (.func 134) #[] #[],.slice (some a) n cap] w (SweepPost (fun x=>decide (0<x)) Ls w):=by
 have HA:=ae h;have HS:=ae hsz;have HN:=ae hn;have CE:=ae (fun w (h:Lists w a Ls)=>OH hsort a n cap Ls w hn hcap hn2 h hsz);have hmk:=run_make_row' (P:=prog) 25 3 (.int .i64 0) 8 underlying25 OW rfl .i64 .i64 n (by omega) (by omega);obtain⟨ch,hch⟩:∃ch:Int->Bool,ch=fun x=>decide (0<x):=⟨_,rfl⟩
 have xm:=ae hch;rw[<-hch];clear h hsz hn hch;go_enter func133,ntmps133;go_wp2;go_loopw [18] (fun vi wr=>∃j:Nat,vi=.int .i64 j/\j<=n/\(∀k (hk:k<Ls.length),k<j->Ls[k].all fZ=true)/\w.grownBy wr none) (fun vi _=>n-(intOf vi).toNat)
 case atStart=>exact⟨0,rfl,Nat.zero_le _,fun k hk h=>absurd h (by omega),ak _ _⟩
 case round =>
  obtain⟨j,rfl,hj,hp,hg⟩:=hrel;have HP:=ae hp;have HG:=ae hg;clear hp hg
  by_cases hlt:j<n
  ·have hjl:j<Ls.length:=by rw[HN.o];exact hlt
   obtain⟨sl,hcell,hsp⟩:=HA.o j hjl;have cj:=HG.o.cell hcell (by simp);have CS:=ae (OB sl Ls[j] wr (hsp.grow HG.o) (HS.o _ (List.getElem_mem hjl)).1 (HS.o _ (List.getElem_mem hjl)).2);obtain⟨b,hb⟩:=zN (Ls[j].all fZ);rw[hb]at CS;have HB:=ae hb;clear hcell hsp hb;go_wp2_with (go_at_call 163;refine CS.o.mono ?_);rintro e w1 ⟨rfl,hg⟩;replace HG:=ae (ag HG.o hg);clear hg cj
   cases b with
   | false =>
    go_wp2;refine bodyPost_ret (results_tmp2 rfl _ _ _) rfl ⟨HG.o,Or.inl ⟨fun hall=>?_,rfl⟩⟩;have:=List.all_eq_true.1 hall _ (List.getElem_mem hjl);rw[HB.o]at this;exact absurd this (by decide)
   | true =>
    go_wp2;go_roundw
    case rel =>
     refine⟨j+1,by go_num,by omega,fun k hk hkj=>?_,HG.o⟩
     by_cases hkj':k<j
     ·exact HP.o k hk hkj'
     ·have e:k=j:=by omega
      subst e;exact HB.o
    case measure=>simp[intOf];omega
  ·have lg:Hd (Ls.all (·.all fZ)=true):=by
    show _=true;rw[List.all_eq_true];intro l hl;obtain⟨k,hk,rfl⟩:=List.getElem_of_mem hl;exact HP.o k hk (by rw[HN.o]at hk;omega)
   clear HP;go_wp2_with (go_at_call 164;refine(CE.o _ (HA.o.grow (aj HG.o _))).mono ?_);rintro e w2 ⟨ve,E,rfl,hp,hso,ho2,hb2⟩;obtain⟨B,hB⟩:=zN (wr.heap.size);have tN:Hd (BegunAt w2 B n (fun _=>0)):=by
    show w2.heap[B]?=_;rw[hb2.block B (by rw[<-hB];simp),<-hB,heap_alloc_new wr,OY]
   have hB2:=(aB tN.o);have HG2:=ae (ag (aj HG.o _) (pW hb2));have zu:Hd (w.heap.size<=B):=by show _<=_;rw[<-hB];exact HG.o.size
   have BG:Hd (E.Perm (dU 0 Ls)/\nN (E.map aA)):=⟨hp,hso⟩;have kH:Hd (E.length<=8388608/\∀e∈E,e.l<n/\(e.d=1\/e.d=-1)/\e.a4.size<=1048576):=by
    show _/\_;have hl:=Io Ls (fun l hl=>(HS.o l hl).1) 0;rw[HN.o]at hl;refine⟨by rw[hp.length_eq];omega,fun e he=>?_⟩;have he':=hp.mem_iff.1 he;have h1:=OM Ls 0 e he';have h2:=EN Ls HS.o 0 e he';rw[HN.o]at h1;exact⟨by omega,h1.2.2,h2⟩
   have hbase:(wr.alloc (.cells (madeCells #[.int .i64 0] n) 3)).heap.size=B+1:=by rw[<-hB];simp
   rw[hbase]at ho2;rw[hB];have hef:=OQ ho2;clear hB hb2 hp hso ho2 hbase HG hmk;have FIN:Hd (∀(vs:Value) (T:List V) (wk:World),w2.grownBy wk (some B)->wk.ownsRow w2.heap.size 179 11 vs (outs T).length ((outs T).flatMap bW)->bQ (fun b=>ch (having n b)) (fun _=>0) false (E.map aA)=T->SweepPost ch Ls w (.returned (.tuple #[vs,.int .i64 0])) wk):=by
    intro vs T wk h1 h2 h3;have h4:w.grownBy wk none:=⟨h1.os.trans HG2.o.os,h1.tape.trans HG2.o.tape,h1.output.trans HG2.o.output,Nat.le_trans HG2.o.size h1.size,fun k hk _=>(h1.block k (Nat.lt_of_lt_of_le hk HG2.o.size) (by have:=zu.o;simp;omega)).trans (HG2.o.block k hk (by simp))⟩;refine⟨h4,Or.inr ⟨lg.o,E,vs,BG.o.1,BG.o.2,rfl,?_⟩⟩;rw[HN.o,h3];exact⟨Ik h2,Iu h2 HG2.o.size⟩
   rcases hef with⟨rfl,hE⟩|⟨ga,capE,rfl,hcE,hga,BH,hgs,BI⟩
   ·have jC:=ae hE;clear hE;go_wp2;go_loopw [8,9,10,33] (fun vs vh von vi wk=>vi=.int .i64 0/\vs=.slice none 0 0/\w2.grownBy wk (some B)) (fun _ _ _ vi _=>0)
    case atStart=>exact⟨rfl,rfl,ak _ _⟩
    case round =>
     obtain⟨rfl,rfl,hgk⟩:=hrel;have HF:=ae (FIN.o (.slice none 0 0) [] wr hgk (World.ownsRow_nil _ _ _ _) (by rw[jC.o];rfl));clear hgk;go_wp2;exact bodyPost_ret (results_tmp2 (t:=4) (u:=5) rfl _ _ _) rfl HF.o
   ·have BJ:=ae BI;have kJ:Hd (B<ga.block/\ga.block<w2.heap.size/\ga.spot=none):=⟨by omega,BH,hgs⟩;clear BI hga BH hgs;go_wp2;go_loopw [8,9,10,33] (fun vs vh von vi wk=>O0 ch n B E w2 vs vh von vi wk) (fun _ _ _ vi _=>E.length-(intOf vi).toNat)
    case atStart=>exact⟨0,fun _=>0,false,[],rfl,Nat.zero_le _,by rw[Ip],rfl,fun _=>by simp,rfl,Nat.le_refl _,rfl,tN.o,World.ownsRow_nil _ _ _ _,ak _ _⟩
    case round =>
     obtain⟨i,b,on,T,rfl,hi,rfl,rfl,hbb,hT,xq,xu,hbg,how,hgw⟩:=hrel
     by_cases hlt:i<E.length
     ·obtain⟨er,her⟩:=zN (E[i]);have HE:Hd (EdAt wr (ga.add (i*7)) er):=by
       show EdAt wr _ er;rw[<-her];exact(BJ.o i hlt).grow hgw (by rw[add_block];have:=kJ.o.1;simp;omega)
      obtain⟨e0,e1,e2,e3,e4,e5,e6⟩:=HE.o;have hme:=kH.o.2 er (by rw[<-her];exact List.getElem_mem hlt);have xw:=kH.o.1;obtain⟨N,hN⟩:=zN (wr.heap.size);obtain⟨W3,hW3⟩:=zN (wr.alloc (.cells #[.int .i64 er.a1,.int .i64 er.a2,.int .i64 er.a3,.string er.a4,.string er.a5,.int .i64 er.l,.int .i64 er.d] 245));have hg3:wr.grownBy W3 none:=by rw[<-hW3];exact aj (ak wr none) _
      have hNl:w2.heap.size<=N:=by rw[<-hN];exact hgw.size
      have xx:Hd (N≠B/\w2.heap.size<=N):=⟨by omega,hNl⟩;have HR3:Hd (EdAt W3 ⟨N,0,none⟩ er):=by
       show EdAt W3 _ er;have hr:W3.heap[N]?=some (.cells #[.int .i64 er.a1,.int .i64 er.a2,.int .i64 er.a3,.string er.a4,.string er.a5,.int .i64 er.l,.int .i64 er.d] 245 (0,0)):=by rw[<-hW3,<-hN];exact heap_alloc_new wr _
       exact⟨by rw[ah hr];rfl,by rw[ah hr];rfl,by rw[ah hr];rfl,by rw[ah hr];rfl,by rw[ah hr];rfl,by rw[ah hr];rfl,by rw[ah hr];rfl⟩
      have xy:=ae (hbg.grow hg3 (by simp));have pY:=ae (jL how hg3);have dJ:=ae (ag hgw (bH hg3 _));obtain⟨d0,d1,d2,d3,d4,d5,d6⟩:=HR3.o;simp only[Nat.zero_add]at d1 d2 d3 d4 d5 d6;have cb:=xy.o.cell hme.1;have fb:=xy.o.f er.l;have hbl:=hbb er.l;have CB:=ae (fun wx (h1:wx.cell? ⟨B,er.l,none⟩=some (.int .i64 (b er.l))) (h2:wx.frozen? ⟨B,er.l,none⟩=false)=>OC B er.l (b er.l) er.d wx h1 h2 (by omega) (by omega));have hhb:=OJ n b i hbb;have hni:(n:Int)*i<=2*8388608:=by
       have h1:(n:Int)<=2:=by omega
       have h2:(i:Int)<=8388608:=by omega
       have h3:(n:Int)*i<=2*i:=Int.mul_le_mul_of_nonneg_right h1 (by omega);omega
      have hw:IntKind.i64.wrap (having n b+(min (b er.l+er.d) 1-min (b er.l) 1))=having n (upd b er.l er.d):=by
       rw[OI n er.l er.d b hme.1,IntKind.wrap_i64];omega
      have hln:=hme.1;have Iw:=xx.o.1;have kK:Hd (er.l<n/\(er.d=1\/er.d=-1)/\er.a4.size<=1048576/\E.length<=8388608):=⟨hme.1,hme.2.1,hme.2.2,xw⟩;have nU:=ae hbb;have bG:Hd (bQ (fun b=>ch (having n b)) (fun _=>0) false (E.map aA)=T++bQ (fun b=>ch (having n b)) b on ((E.map aA).drop i)/\T.length<=i/\(T.length % 2=if on=true then 1 else 0)):=⟨hT,xq,xu⟩;have Iy:=ae her;clear hbb hT xq xu hbg how hgw her hme xw hbl hhb hni hg3 hNl;have kk:∀o v,W3.cell? ⟨N,o,none⟩=some v->(W3.setCell ⟨B,er.l,none⟩ (.int .i64 (b er.l+er.d))).cell? ⟨N,o,none⟩=some v:=fun o v h=>by
       rw[<-h];exact World.cell?_of_block (heap_setCell_other W3 _ N _ Iw)
      have k0:=kk 0 _ d0;have k1:=kk 1 _ d1;have k2:=kk 2 _ d2;have k3:=kk 3 _ d3;have k4:=kk 4 _ d4;have k5:=kk 5 _ d5;have k6:=kk 6 _ d6;obtain⟨W4,gp⟩:=zN ((W3.setCell ⟨B,er.l,none⟩ (.int .i64 (b er.l+er.d))).drew);have HR4:Hd (EdAt W4 ⟨N,0,none⟩ er):=by show EdAt W4 _ er;rw[<-gp];exact⟨k0,k1,k2,k3,k4,k5,k6⟩
      have BK:Hd (BegunAt W4 B n (upd b er.l er.d)):=by show BegunAt W4 _ _ _;rw[<-gp];exact xy.o.set kK.o.1 er.d
      have gB:Hd (w2.grownBy W4 (some B)):=by show w2.grownBy W4 _;rw[<-gp];exact aG (aW dJ.o _ _) 1
      have BL:Hd (W4.ownsRow w2.heap.size 179 11 u8 (outs T).length ((outs T).flatMap bW)):=by
       show World.ownsRow _ _ _ _ _ _ _;rw[<-gp];refine pY.o.kept (w':=(W3.setCell ⟨B,er.l,none⟩ (.int .i64 (b er.l+er.d))).drew) (aG (aW (ak W3 (some B)) er.l (.int .i64 (b er.l+er.d))) 1) ?_
       cases ho:u8.ownBlock with
       | none=>exact Or.inl rfl
       | some q=>exact Or.inr (fun e=>by have:=(pY.o.lt q ho).1;injection e with e;omega)
      clear kk;have j5:W4.cell? ⟨N,5,none⟩=some (.int .i64 er.l):=HR4.o.2.2.2.2.2.1;have j6:W4.cell? ⟨N,6,none⟩=some (.int .i64 er.d):=HR4.o.2.2.2.2.2.2;go_wp2
      go_region_held3 (fun w'=>w'.cell? ⟨N,5,none⟩=some (.int .i64 er.l)/\w'.cell? ⟨N,6,none⟩=some (.int .i64 er.d)) ((first|exact⟨d5,d6⟩|exact⟨j5,j6⟩|exact⟨k5,k6⟩|go_keep)) (first|(go_at_call 165;refine(CB.o W3.drew cb fb).mono ?_;rintro e w4 ⟨rfl,rfl⟩))
      try rw[gp]
      clear gp j5 j6 k0 k1 k2 k3 k4 k5 k6 cb fb hw d0 d1 d2 d3 d4 d5 d6 CB hW3 hN;obtain⟨d0,d1,d2,d3,d4,d5,d6⟩:=HR4.o;simp only[Nat.zero_add]at d1 d2 d3 d4 d5 d6;have HST:Hd (bQ (fun b=>ch (having n b)) b on ((E.map aA).drop i)=if kG (aA er) ((E.map aA).drop (i+1))=true then bQ (fun b=>ch (having n b)) (upd b er.l er.d) on ((E.map aA).drop (i+1)) else if ch (having n (upd b er.l er.d))=on then bQ (fun b=>ch (having n b)) (upd b er.l er.d) on ((E.map aA).drop (i+1)) else(aA er).at_ :: bQ (fun b=>ch (having n b)) (upd b er.l er.d) (ch (having n (upd b er.l er.d))) ((E.map aA).drop (i+1))):=by
       show bQ _ _ _ _=_;have hd:(E.map aA).drop i=aA er :: (E.map aA).drop (i+1):=by
        rw[List.drop_eq_getElem_cons (by simpa using hlt),List.getElem_map,Iy.o]
       rw[hd];rfl
      have kM:Hd (∀j,-((i+1:Nat):Int)<=upd b er.l er.d j/\upd b er.l er.d j<=((i+1:Nat):Int)):=by
       intro k;have h1:=nU.o k;have h2:=kK.o.2.1;unfold upd;split<;>omega
      have xw:=kK.o.2.2.2;have hw1:IntKind.i64.wrap ((i:Int)+1)=((i+1:Nat):Int):=by rw[IntKind.wrap_i64];omega
      obtain⟨H,hH⟩:=zN (having n (upd b er.l er.d));have HH:=ae hH;rw[hH];clear hH
      by_cases hnx:i+1<E.length
      ·obtain⟨er2,tV⟩:=zN (E[i+1]);have HE2:Hd (EdAt W4 (ga.add ((i+1)*7)) er2):=by
        show EdAt W4 _ er2;rw[<-tV];exact(BJ.o (i+1) hnx).grow gB.o (by rw[add_block];have:=kJ.o.1;simp;omega)
       obtain⟨x,hx⟩:=zN (aC (aA er).at_ (aA er2).at_);have hm2:=(kH.o.2 er2 (by rw[<-tV];exact List.getElem_mem hnx)).2.2;have bD:Hd (kG (aA er) ((E.map aA).drop (i+1))=decide (x=0)):=by
        show kG _ _=_;rw[List.drop_eq_getElem_cons (by simpa using hnx),List.getElem_map,tV,<-hx];rfl
       have CC:Hd (∀w,Calls prog 86 #[.agg #[.int .i64 er.a1,.int .i64 er.a2,.int .i64 er.a3,.string er.a4,.string er.a5],.agg #[.int .i64 er2.a1,.int .i64 er2.a2,.int .i64 er2.a3,.string er2.a4,.string er2.a5]] w fun e w'=>e=.returned (.int .i64 x)/\w.grownBy w' none):=fun w=>by
        rw[<-hx];exact compare_any er.a1 er.a2 er.a3 er2.a1 er2.a2 er2.a3 er.a4 er.a5 er2.a4 er2.a5 w (by have:=kK.o.2.2.1;omega) (by omega)
       obtain⟨q0,q1,q2,q3,q4,q5,q6⟩:=HE2.o;clear hx tV hm2;have hnx2:decide (((i+1:Nat):Int)<(E.length:Int))=true:=by simp;omega
       have hnx3:decide (i+1<E.length)=true:=by simp;omega
       have xA:decide ((i:Int)+1<(E.length:Int))=true:=by simp;omega
       have Iz:((i+1:Nat):Int)<(E.length:Int):=by omega
       have IA:(0:Int)<=((i+1:Nat):Int):=by omega
       have IB:(i:Int)+1<(E.length:Int):=by omega
       have IC:(0:Int)<=(i:Int)+1:=by omega
       have IE:((i:Int)+1).toNat=i+1:=by omega
       go_wp2
       go_region_held3 (fun w'=>w'.cell? ⟨N,0,none⟩=some (.int .i64 er.a1)/\w'.cell? ⟨N,1,none⟩=some (.int .i64 er.a2)/\w'.cell? ⟨N,2,none⟩=some (.int .i64 er.a3)/\w'.cell? ⟨N,3,none⟩=some (.string er.a4)/\w'.cell? ⟨N,4,none⟩=some (.string er.a5)/\w'.cell? (ga.add ((i+1)*7))=some (.int .i64 er2.a1)/\w'.cell? ⟨(ga.add ((i+1)*7)).block,(ga.add ((i+1)*7)).off+1,none⟩=some (.int .i64 er2.a2)/\w'.cell? ⟨(ga.add ((i+1)*7)).block,(ga.add ((i+1)*7)).off+2,none⟩=some (.int .i64 er2.a3)/\w'.cell? ⟨(ga.add ((i+1)*7)).block,(ga.add ((i+1)*7)).off+3,none⟩=some (.string er2.a4)/\w'.cell? ⟨(ga.add ((i+1)*7)).block,(ga.add ((i+1)*7)).off+4,none⟩=some (.string er2.a5)) ((first|exact OZ (by assumption) (by assumption)|go_keep)) (first|(go_at_call 86;refine(CC.o _).mono ?_;rintro e w5 ⟨rfl,hg5⟩))
       have tX:=ae (HR4.o.grow (bZ hg5) (by simp));have jD:=ae (BK.o.grow (bZ hg5) (by simp));have eP:=ae (jL BL.o (bZ hg5));have fC:=ae (ag gB.o (bH (bZ hg5) _));clear hg5 q0 q1 q2 q3 q4 q5 q6 d0 d1 d2 d3 d4 d5 d6 hnx2 hnx3 xA Iz IA IB IC IE
       cases hx0:(x == 0) with
       | true =>
        have hxx:x=0:=by simpa using hx0
        have fD:Hd (bQ (fun b=>ch (having n b)) (fun _=>0) false (E.map aA)=T++bQ (fun b=>ch (having n b)) (upd b er.l er.d) on ((E.map aA).drop (i+1))):=by
         show _=_;rw[bG.o.1,HST.o,bD.o,hxx];rfl
        have bK:Hd (T.length<=i/\(T.length % 2=if on=true then 1 else 0)):=⟨bG.o.2.1,bG.o.2.2⟩;clear bG HST;go_wp2;go_roundw
        case rel=>exact⟨i+1,upd b er.l er.d,on,T,by go_num,by omega,by rw[HH.o],rfl,kM.o,fD.o,by have:=bK.o.1;omega,bK.o.2,jD.o,eP.o,fC.o⟩
        case measure=>simp[intOf];omega
       | false =>
        have hxx:decide (x=0)=false:=by simpa using hx0
        rw[hxx]at bD;clear hxx hx0;have iq:Hd (ch (having n (upd b er.l er.d))=decide (0<H)):=by show ch _=_;rw[xm.o,HH.o]
        obtain⟨d0,d1,d2,d3,d4,d5,d6⟩:=tX.o;simp only[Nat.zero_add]at d1 d2 d3 d4 d5 d6
        cases hc:decide (0<H) with
        | false =>
         rw[hc]at iq
         cases on with
         | false =>
          have fD:Hd (bQ (fun b=>ch (having n b)) (fun _=>0) false (E.map aA)=T++bQ (fun b=>ch (having n b)) (upd b er.l er.d) false ((E.map aA).drop (i+1))):=by
           show _=_;rw[bG.o.1,HST.o,bD.o,iq.o];rfl
          have bK:Hd (T.length<=i/\(T.length % 2=if false=true then 1 else 0)):=⟨bG.o.2.1,bG.o.2.2⟩;clear bG HST;go_wp2_with (go_at_call 134;refine(vF _ _ _).mono ?_;rintro e w' ⟨rfl,rfl⟩);go_roundw
          case rel=>exact⟨i+1,upd b er.l er.d,false,T,by go_num,by omega,by rw[HH.o],rfl,kM.o,fD.o,by have:=bK.o.1;omega,bK.o.2,jD.o,eP.o,fC.o⟩
          case measure=>simp[intOf];omega
         | true =>
          have mF:=ae (fun w=>vH er.a1 er.a2 er.a3 er.a4 er.a5 w (by have:=kK.o.2.2.1;omega));have fD:Hd (bQ (fun b=>ch (having n b)) (fun _=>0) false (E.map aA)=(T++[(aA er).at_])++bQ (fun b=>ch (having n b)) (upd b er.l er.d) false ((E.map aA).drop (i+1))):=by
           show _=_;rw[bG.o.1,HST.o,bD.o,iq.o,List.append_assoc];rfl
          have bK:Hd (T.length<=i/\T.length % 2=1):=⟨bG.o.2.1,by have:=bG.o.2.2;simpa using this⟩;have qc:(outs T).length<=8388608:=by have q1:=tK T;have q2:=bK.o.1;omega
          obtain⟨A,y,hA1,hA2⟩:=BD T (aA er).at_ bK.o.2;rw[hA1]at eP qc;obtain⟨M,hM⟩:=zN (A.length);have hlen:(A++[dD y iJ true]).length=M+1:=by rw[List.length_append,hM];rfl
          rw[hlen]at eP qc;obtain⟨gs,capS,xB⟩:∃gs capS,u8=.slice (some ⟨gs,0,none⟩) (M+1) capS:=by
           rcases eP.o.2 with⟨_,h0⟩|⟨g,cap,cur,h1,_⟩
           ·omega
           ·exact⟨g,cap,h1⟩
          subst xB;have HA2:Hd (outs (T++[(aA er).at_])=A++[dD y (aA er).at_ false]/\A.length=M):=⟨hA2,hM⟩;have hm1:IntKind.i64.wrap (((M+1:Nat):Int)-1)=((M:Nat):Int):=by rw[IntKind.wrap_i64];omega
          have hm2:((M+1:Nat):Int)-1=(M:Int):=by omega
          have IG:(M:Int)<((M+1:Nat):Int):=by omega
          have hm4:(M:Int)<(M:Int)+1:=by omega
          clear bG HST hA1 hA2 hM hlen;go_wp2_with (first|(go_at_call 134;refine(vF _ _ _).mono ?_;rintro e w9 ⟨rfl,iZ⟩;rw[iZ];clear iZ)|(go_at_call 166;refine(mF.o _).mono ?_));rintro e w6 ⟨rfl,dG⟩;have eG:=ae (jL eP.o dG);have xC:=ae (jD.o.grow dG (by simp));have lS:=ae (ag fC.o (bH dG _));have lT:=ae ((eG.o.lt gs rfl).1);have c5:=iT eG.o HA2.o.2 5 _ rfl;have c6:=iT eG.o HA2.o.2 6 _ rfl;have c7:=iT eG.o HA2.o.2 7 _ rfl;have c8:=iT eG.o HA2.o.2 8 _ rfl;have c9:=iT eG.o HA2.o.2 9 _ rfl;have c10:=iT eG.o HA2.o.2 10 _ rfl;have fz:=EU eG.o;clear dG d0 d1 d2 d3 d4 d5 d6;go_wp2;clear c5 c6 c7 c8 c9 c10 fz;have g9:w6.grownBy ((((((w6.setCell ⟨gs,M*11+5,none⟩ (.int .i64 er.a1)).setCell ⟨gs,M*11+5+1,none⟩ (.int .i64 er.a2)).setCell ⟨gs,M*11+5+2,none⟩ (.int .i64 er.a3)).setCell ⟨gs,M*11+5+3,none⟩ (.string er.a4)).setCell ⟨gs,M*11+5+4,none⟩ (.string ⟨#[]⟩)).setCell ⟨gs,M*11+10,none⟩ (.bool false)) (some gs):=aW (aW (aW (aW (aW (aW (ak w6 (some gs)) _ _) _ _) _ _) _ _) _ _) _ _
          have o9:=iR (iR (iR (iR (iR (iR eG.o (M*11+5) (.int .i64 er.a1) (by omega)) (M*11+5+1) (.int .i64 er.a2) (by omega)) (M*11+5+2) (.int .i64 er.a3) (by omega)) (M*11+5+3) (.string er.a4) (by omega)) (M*11+5+4) (.string ⟨#[]⟩) (by omega)) (M*11+10) (.bool false) (by omega);have hfl:(A++[dD y iJ true]).flatMap bW=A.flatMap bW++bW (dD y iJ true):=by rw[List.flatMap_append];simp
          have hPl:(A.flatMap bW).length=M*11:=by rw[ER,HA2.o.2]
          rw[hfl]at o9;have hcl:=ET er y hPl;have hol:(outs (T++[(aA er).at_])).length=M+1:=by rw[HA2.o.1,List.length_append,HA2.o.2];rfl
          have hof:(outs (T++[(aA er).at_])).flatMap bW=A.flatMap bW++bW (dD y (aA er).at_ false):=by rw[HA2.o.1,List.flatMap_append];simp
          have xE:B≠gs:=by have:=lT.o;omega
          refine⟨⟨i+1,upd b er.l er.d,false,T++[(aA er).at_],by go_num,by omega,by rw[HH.o],rfl,kM.o,fD.o,by have:=bK.o.1;simp;omega,by have:=bK.o.2;simp;omega,xC.o.grow g9 (by simpa using xE),?_,vJ lS.o g9 (fun q hq=>by injection hq with hq;have:=lT.o;omega)⟩,by simp[intOf];omega⟩;rw[hol,hof,<-hcl];exact o9
        | true =>
         rw[hc]at iq
         cases on with
         | false =>
          have mF:=ae (fun w=>vH er.a1 er.a2 er.a3 er.a4 er.a5 w (by have:=kK.o.2.2.1;omega));have fD:Hd (bQ (fun b=>ch (having n b)) (fun _=>0) false (E.map aA)=(T++[(aA er).at_])++bQ (fun b=>ch (having n b)) (upd b er.l er.d) true ((E.map aA).drop (i+1))):=by
           show _=_;rw[bG.o.1,HST.o,bD.o,iq.o,List.append_assoc];rfl
          have bK:Hd (T.length<=i/\T.length % 2=0):=⟨bG.o.2.1,by have:=bG.o.2.2;simpa using this⟩;have qg:Hd ((outs T).length<=8388608):=by show _<=_;have q1:=tK T;have q2:=bK.o.1;omega
          have hinfo:=Bq;obtain⟨i1,hj0,hjj⟩:=Option.map_eq_some_iff.1 hinfo;simp only[Prod.mk.injEq]at hjj;obtain⟨hy0,hy1,hyb⟩:=hjj;clear bG HST hinfo;go_wp2_with (first|(go_at_call 134;refine(vF _ _ _).mono ?_;rintro e w9 ⟨rfl,iZ⟩;rw[iZ];clear iZ)|(go_at_call 166;refine(mF.o _).mono ?_;rintro e w6 ⟨rfl,dG⟩)|(at_builtin;refine wpList_append_own _ rfl _ _ 139 rfl w2.heap.size 179 i1 _ 11 120 underlying139 hj0 hy0 hy1 hyb rfl (by decide) _ _ _ rfl ((jL eP.o dG).alloc _) _ 1 1 (bW (dD (aA er).at_ iJ true)) rfl rfl (by rw[ES];exact World.news_of_block (heap_alloc_new _ _)) (Bv _) (by unfold maxLen;have:=qg.o;omega) (by have:=qg.o;omega) (by have q1:=fC.o.size;have q2:=dG.size;simp;omega) ?_;intro v' w7 hown7 hgrow _));have gK:w5.grownBy (w6.alloc (.cells #[.int .i64 er.a1,.int .i64 er.a2,.int .i64 er.a3,.string er.a4,.string ⟨#[]⟩,.int .i64 0,.int .i64 0,.int .i64 0,.string ⟨#[]⟩,.string ⟨#[]⟩,.bool true] 179)) none:=ag dG (aj (ak w6 none) _)
          have hrow:=fun q (hq:u8.ownBlock=some q)=>(eP.o.lt q hq).1
          have jl:=ae ((jD.o.grow gK (by simp)).grow hgrow (fun e=>by have:=hrow B e.symm;omega));have HF2:=ae (vJ (ag fC.o (bH gK _)) hgrow hrow);have HF3:Hd (w7.ownsRow w2.heap.size 179 11 v' (outs (T++[(aA er).at_])).length ((outs (T++[(aA er).at_])).flatMap bW)):=by
           show World.ownsRow _ _ _ _ _ _ _;rw[BC T _ bK.o.2,List.length_append,List.flatMap_append];simpa using hown7
          exact⟨⟨i+1,upd b er.l er.d,true,T++[(aA er).at_],by go_num,by omega,by rw[HH.o],rfl,kM.o,fD.o,by have:=bK.o.1;simp;omega,by have:=bK.o.2;simp;omega,jl.o,HF3.o,HF2.o⟩,by simp[intOf];omega⟩
         | true =>
          have fD:Hd (bQ (fun b=>ch (having n b)) (fun _=>0) false (E.map aA)=T++bQ (fun b=>ch (having n b)) (upd b er.l er.d) true ((E.map aA).drop (i+1))):=by
           show _=_;rw[bG.o.1,HST.o,bD.o,iq.o];rfl
          have bK:Hd (T.length<=i/\(T.length % 2=if true=true then 1 else 0)):=⟨bG.o.2.1,bG.o.2.2⟩;clear bG HST;go_wp2_with (go_at_call 134;refine(vF _ _ _).mono ?_;rintro e w' ⟨rfl,rfl⟩);go_roundw
          case rel=>exact⟨i+1,upd b er.l er.d,true,T,by go_num,by omega,by rw[HH.o],rfl,kM.o,fD.o,by have:=bK.o.1;omega,bK.o.2,jD.o,eP.o,fC.o⟩
          case measure=>simp[intOf];omega
      ·have bD:Hd (kG (aA er) ((E.map aA).drop (i+1))=false):=by
        show kG _ _=false;rw[List.drop_of_length_le (by simp;omega)];rfl
       have hnx2:decide (((i+1:Nat):Int)<(E.length:Int))=false:=by simp;omega
       have hnx3:decide (i+1<E.length)=false:=by simp;omega
       have xA:decide ((i:Int)+1<(E.length:Int))=false:=by simp;omega
       go_wp2;go_quiet (fail);obtain⟨w5,hw5⟩:=zN (W4.drewN nq);have tX:Hd (EdAt w5 ⟨N,0,none⟩ er):=by show EdAt w5 _ er;rw[<-hw5];exact HR4.o
       have jD:Hd (BegunAt w5 B n (upd b er.l er.d)):=by show BegunAt w5 _ _ _;rw[<-hw5];exact BK.o
       have eP:Hd (w5.ownsRow w2.heap.size 179 11 u8 (outs T).length ((outs T).flatMap bW)):=by show World.ownsRow _ _ _ _ _ _ _;rw[<-hw5];exact jL BL.o (aG (ak W4 none) nq)
       have fC:Hd (w2.grownBy w5 (some B)):=by show w2.grownBy w5 _;rw[<-hw5];exact aG gB.o nq
       try rw[hw5]
       clear hw5 d0 d1 d2 d3 d4 d5 d6 hnx2 hnx3 xA;have iq:Hd (ch (having n (upd b er.l er.d))=decide (0<H)):=by show ch _=_;rw[xm.o,HH.o]
       obtain⟨d0,d1,d2,d3,d4,d5,d6⟩:=tX.o;simp only[Nat.zero_add]at d1 d2 d3 d4 d5 d6
       cases hc:decide (0<H) with
       | false =>
        rw[hc]at iq
        cases on with
        | false =>
         have fD:Hd (bQ (fun b=>ch (having n b)) (fun _=>0) false (E.map aA)=T++bQ (fun b=>ch (having n b)) (upd b er.l er.d) false ((E.map aA).drop (i+1))):=by
          show _=_;rw[bG.o.1,HST.o,bD.o,iq.o];rfl
         have bK:Hd (T.length<=i/\(T.length % 2=if false=true then 1 else 0)):=⟨bG.o.2.1,bG.o.2.2⟩;clear bG HST;go_wp2_with (go_at_call 134;refine(vF _ _ _).mono ?_;rintro e w' ⟨rfl,rfl⟩);go_roundw
         case rel=>exact⟨i+1,upd b er.l er.d,false,T,by go_num,by omega,by rw[HH.o],rfl,kM.o,fD.o,by have:=bK.o.1;omega,bK.o.2,jD.o,eP.o,fC.o⟩
         case measure=>simp[intOf];omega
        | true =>
         have mF:=ae (fun w=>vH er.a1 er.a2 er.a3 er.a4 er.a5 w (by have:=kK.o.2.2.1;omega));have fD:Hd (bQ (fun b=>ch (having n b)) (fun _=>0) false (E.map aA)=(T++[(aA er).at_])++bQ (fun b=>ch (having n b)) (upd b er.l er.d) false ((E.map aA).drop (i+1))):=by
          show _=_;rw[bG.o.1,HST.o,bD.o,iq.o,List.append_assoc];rfl
         have bK:Hd (T.length<=i/\T.length % 2=1):=⟨bG.o.2.1,by have:=bG.o.2.2;simpa using this⟩;have qc:(outs T).length<=8388608:=by have q1:=tK T;have q2:=bK.o.1;omega
         obtain⟨A,y,hA1,hA2⟩:=BD T (aA er).at_ bK.o.2;rw[hA1]at eP qc;obtain⟨M,hM⟩:=zN (A.length);have hlen:(A++[dD y iJ true]).length=M+1:=by rw[List.length_append,hM];rfl
         rw[hlen]at eP qc;obtain⟨gs,capS,xB⟩:∃gs capS,u8=.slice (some ⟨gs,0,none⟩) (M+1) capS:=by
          rcases eP.o.2 with⟨_,h0⟩|⟨g,cap,cur,h1,_⟩
          ·omega
          ·exact⟨g,cap,h1⟩
         subst xB;have HA2:Hd (outs (T++[(aA er).at_])=A++[dD y (aA er).at_ false]/\A.length=M):=⟨hA2,hM⟩;have hm1:IntKind.i64.wrap (((M+1:Nat):Int)-1)=((M:Nat):Int):=by rw[IntKind.wrap_i64];omega
         have hm2:((M+1:Nat):Int)-1=(M:Int):=by omega
         have IG:(M:Int)<((M+1:Nat):Int):=by omega
         have hm4:(M:Int)<(M:Int)+1:=by omega
         clear bG HST hA1 hA2 hM hlen;go_wp2_with (first|(go_at_call 134;refine(vF _ _ _).mono ?_;rintro e w9 ⟨rfl,iZ⟩;rw[iZ];clear iZ)|(go_at_call 166;refine(mF.o _).mono ?_));rintro e w6 ⟨rfl,dG⟩;have eG:=ae (jL eP.o dG);have xC:=ae (jD.o.grow dG (by simp));have lS:=ae (ag fC.o (bH dG _));have lT:=ae ((eG.o.lt gs rfl).1);have c5:=iT eG.o HA2.o.2 5 _ rfl;have c6:=iT eG.o HA2.o.2 6 _ rfl;have c7:=iT eG.o HA2.o.2 7 _ rfl;have c8:=iT eG.o HA2.o.2 8 _ rfl;have c9:=iT eG.o HA2.o.2 9 _ rfl;have c10:=iT eG.o HA2.o.2 10 _ rfl;have fz:=EU eG.o;clear dG d0 d1 d2 d3 d4 d5 d6;go_wp2;clear c5 c6 c7 c8 c9 c10 fz;have g9:w6.grownBy ((((((w6.setCell ⟨gs,M*11+5,none⟩ (.int .i64 er.a1)).setCell ⟨gs,M*11+5+1,none⟩ (.int .i64 er.a2)).setCell ⟨gs,M*11+5+2,none⟩ (.int .i64 er.a3)).setCell ⟨gs,M*11+5+3,none⟩ (.string er.a4)).setCell ⟨gs,M*11+5+4,none⟩ (.string ⟨#[]⟩)).setCell ⟨gs,M*11+10,none⟩ (.bool false)) (some gs):=aW (aW (aW (aW (aW (aW (ak w6 (some gs)) _ _) _ _) _ _) _ _) _ _) _ _
         have o9:=iR (iR (iR (iR (iR (iR eG.o (M*11+5) (.int .i64 er.a1) (by omega)) (M*11+5+1) (.int .i64 er.a2) (by omega)) (M*11+5+2) (.int .i64 er.a3) (by omega)) (M*11+5+3) (.string er.a4) (by omega)) (M*11+5+4) (.string ⟨#[]⟩) (by omega)) (M*11+10) (.bool false) (by omega);have hfl:(A++[dD y iJ true]).flatMap bW=A.flatMap bW++bW (dD y iJ true):=by rw[List.flatMap_append];simp
         have hPl:(A.flatMap bW).length=M*11:=by rw[ER,HA2.o.2]
         rw[hfl]at o9;have hcl:=ET er y hPl;have hol:(outs (T++[(aA er).at_])).length=M+1:=by rw[HA2.o.1,List.length_append,HA2.o.2];rfl
         have hof:(outs (T++[(aA er).at_])).flatMap bW=A.flatMap bW++bW (dD y (aA er).at_ false):=by rw[HA2.o.1,List.flatMap_append];simp
         have xE:B≠gs:=by have:=lT.o;omega
         refine⟨⟨i+1,upd b er.l er.d,false,T++[(aA er).at_],by go_num,by omega,by rw[HH.o],rfl,kM.o,fD.o,by have:=bK.o.1;simp;omega,by have:=bK.o.2;simp;omega,xC.o.grow g9 (by simpa using xE),?_,vJ lS.o g9 (fun q hq=>by injection hq with hq;have:=lT.o;omega)⟩,by simp[intOf];omega⟩;rw[hol,hof,<-hcl];exact o9
       | true =>
        rw[hc]at iq
        cases on with
        | false =>
         have mF:=ae (fun w=>vH er.a1 er.a2 er.a3 er.a4 er.a5 w (by have:=kK.o.2.2.1;omega));have fD:Hd (bQ (fun b=>ch (having n b)) (fun _=>0) false (E.map aA)=(T++[(aA er).at_])++bQ (fun b=>ch (having n b)) (upd b er.l er.d) true ((E.map aA).drop (i+1))):=by
          show _=_;rw[bG.o.1,HST.o,bD.o,iq.o,List.append_assoc];rfl
         have bK:Hd (T.length<=i/\T.length % 2=0):=⟨bG.o.2.1,by have:=bG.o.2.2;simpa using this⟩;have qg:Hd ((outs T).length<=8388608):=by show _<=_;have q1:=tK T;have q2:=bK.o.1;omega
         have hinfo:=Bq;obtain⟨i1,hj0,hjj⟩:=Option.map_eq_some_iff.1 hinfo;simp only[Prod.mk.injEq]at hjj;obtain⟨hy0,hy1,hyb⟩:=hjj;clear bG HST hinfo;go_wp2_with (first|(go_at_call 134;refine(vF _ _ _).mono ?_;rintro e w9 ⟨rfl,iZ⟩;rw[iZ];clear iZ)|(go_at_call 166;refine(mF.o _).mono ?_;rintro e w6 ⟨rfl,dG⟩)|(at_builtin;refine wpList_append_own _ rfl _ _ 139 rfl w2.heap.size 179 i1 _ 11 120 underlying139 hj0 hy0 hy1 hyb rfl (by decide) _ _ _ rfl ((jL eP.o dG).alloc _) _ 1 1 (bW (dD (aA er).at_ iJ true)) rfl rfl (by rw[ES];exact World.news_of_block (heap_alloc_new _ _)) (Bv _) (by unfold maxLen;have:=qg.o;omega) (by have:=qg.o;omega) (by have q1:=fC.o.size;have q2:=dG.size;simp;omega) ?_;intro v' w7 hown7 hgrow _));have gK:w5.grownBy (w6.alloc (.cells #[.int .i64 er.a1,.int .i64 er.a2,.int .i64 er.a3,.string er.a4,.string ⟨#[]⟩,.int .i64 0,.int .i64 0,.int .i64 0,.string ⟨#[]⟩,.string ⟨#[]⟩,.bool true] 179)) none:=ag dG (aj (ak w6 none) _)
         have hrow:=fun q (hq:u8.ownBlock=some q)=>(eP.o.lt q hq).1
         have jl:=ae ((jD.o.grow gK (by simp)).grow hgrow (fun e=>by have:=hrow B e.symm;omega));have HF2:=ae (vJ (ag fC.o (bH gK _)) hgrow hrow);have HF3:Hd (w7.ownsRow w2.heap.size 179 11 v' (outs (T++[(aA er).at_])).length ((outs (T++[(aA er).at_])).flatMap bW)):=by
          show World.ownsRow _ _ _ _ _ _ _;rw[BC T _ bK.o.2,List.length_append,List.flatMap_append];simpa using hown7
         exact⟨⟨i+1,upd b er.l er.d,true,T++[(aA er).at_],by go_num,by omega,by rw[HH.o],rfl,kM.o,fD.o,by have:=bK.o.1;simp;omega,by have:=bK.o.2;simp;omega,jl.o,HF3.o,HF2.o⟩,by simp[intOf];omega⟩
        | true =>
         have fD:Hd (bQ (fun b=>ch (having n b)) (fun _=>0) false (E.map aA)=T++bQ (fun b=>ch (having n b)) (upd b er.l er.d) true ((E.map aA).drop (i+1))):=by
          show _=_;rw[bG.o.1,HST.o,bD.o,iq.o];rfl
         have bK:Hd (T.length<=i/\(T.length % 2=if true=true then 1 else 0)):=⟨bG.o.2.1,bG.o.2.2⟩;clear bG HST;go_wp2_with (go_at_call 134;refine(vF _ _ _).mono ?_;rintro e w' ⟨rfl,rfl⟩);go_roundw
         case rel=>exact⟨i+1,upd b er.l er.d,true,T,by go_num,by omega,by rw[HH.o],rfl,kM.o,fD.o,by have:=bK.o.1;omega,bK.o.2,jD.o,eP.o,fC.o⟩
         case measure=>simp[intOf];omega
     ·have hie:i=E.length:=by omega
      have HF:=ae (FIN.o u8 T wr hgw how (by rw[hT,hie,List.drop_of_length_le (by simp)];simp[bQ]));clear hT xq xu hbg how hgw hbb hie hi;go_wp2;exact bodyPost_ret (results_tmp2 (t:=4) (u:=5) rfl _ _ _) rfl HF.o
end Go.Proofs.YteciokcdpadmpaaGreatDoor
