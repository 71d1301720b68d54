import Derived.Test.YtbcfhgpfgdbjgaaGreatDoorK09
import Derived.Test.YtbcfhgpfgdbjgaaGreatDoorK10
import Derived.Deep.OwnRows
set_option linter.all false
set_option maxRecDepth 100000
set_option maxHeartbeats 0
open Go.Proofs.Tryz
namespace Go.Proofs.YtbcfhgpfgdbjgaaGreatDoor
open Go.RowKit
variable{P xs:List Value}{B cap gs k n:Nat}{r:Option Nat}{e:TypeId}{sl v:Value}{w w':World}
theorem WM{A t:Nat}{s:Sp}(h:w.heap[A]?=some (.cells #[.int .i64 s.f1,.int .i64 s.f2,.int .i64 s.f3,.string s.f4,.string s.f5,.int .i64 s.t1,.int .i64 s.t2,.int .i64 s.t3,.string s.t4,.string s.t5,.bool s.o] t (0,0))):EltAt w ⟨A,0,none⟩ s :=
 ⟨by rw[aj h];rfl,by rw[aj h];rfl,by rw[aj h];rfl,by rw[aj h];rfl,by rw[aj h];rfl,by rw[aj h];rfl,by rw[aj h];rfl,by rw[aj h];rfl,by rw[aj h];rfl,by rw[aj h];rfl,by rw[aj h];rfl⟩
theorem aej(a:Addr)(cap:Nat)(L:List Sp)(w:World)(hL:L.length<2 ^ 62)(hcap:L.length<=cap)(h:SpAt w a L)(hsz:∀s∈L,lN s) :
  Calls prog 137 #[.slice (some a) L.length cap] w fun e w'=>e=.returned (.bool (L.all iF))/\w.grownBy w' none:=by
 have HA:=ae h;have HS:=ae hsz;clear h hsz;obtain⟨R,hR⟩:=zN (L.all iF);have HR:=ae hR;rw[hR];clear hR;go_enter func137,ntmps137;go_wp2;go_loopw [7] (fun vi wr=>∃i:Nat,vi=.int .i64 i/\i<=L.length/\(∀j (hj:j<L.length),j<i->iF L[j]=true)/\w.grownBy wr none) (fun vi _=>L.length-(intOf vi).toNat)
 case atStart=>exact⟨0,rfl,Nat.zero_le _,fun j hj h=>absurd h (by omega),ax _ _⟩
 case round=>
  obtain⟨i,rfl,hi,hp,hg⟩:=hrel;have HP:=ae hp;have HG:=ae hg;clear hp hg
  by_cases hlt:i<L.length
  ·obtain⟨s,hs⟩:=zN (L[i]);have HE:Hd (EltAt wr (a.add (i*11)) s):=by show EltAt wr _ s;rw[<-hs];exact(HA.o i hlt).grow HG.o
   have hm:lN s:=by rw[<-hs];exact HS.o _ (List.getElem_mem hlt)
   have iU:=ae hs;have CF:Hd (∀w,Calls prog 163 #[.agg #[.int .i64 s.f1,.int .i64 s.f2,.int .i64 s.f3,.string s.f4,.string s.f5]] w fun e w'=>e=.returned (.bool (nM (xM s)))/\w.grownBy w' none):=fun w=>Vg s.f1 s.f2 s.f3 s.f4 s.f5 w (by have:=hm.1;omega) (by have:=hm.2.1;omega)
   have CT:Hd (∀w,Calls prog 163 #[.agg #[.int .i64 s.t1,.int .i64 s.t2,.int .i64 s.t3,.string s.t4,.string s.t5]] w fun e w'=>e=.returned (.bool (nM (xN s)))/\w.grownBy w' none):=fun w=>Vg s.t1 s.t2 s.t3 s.t4 s.t5 w (by have:=hm.2.2.1;omega) (by have:=hm.2.2.2;omega)
   obtain⟨x,hx⟩:=zN (nM (xM s));obtain⟨y,hy⟩:=zN (nM (xN s));rw[hx]at CF;rw[hy]at CT;have mX:Hd (iF s=(x && (s.o || y))):=by show iF s=_;unfold iF;rw[hx,hy]
   clear hx hy hm hs;obtain⟨e0,e1,e2,e3,e4,e5,e6,e7,e8,e9,e10⟩:=HE.o;go_wp2_with (go_at_call 163;refine(CF.o _).mono ?_);rintro e w1 ⟨rfl,hg⟩;obtain⟨N,hN⟩:=zN (wr.heap.size);have lK:Hd (EltAt w1 ⟨N,0,none⟩ s):=by
    refine EltAt.grow ?_ hg;rw[<-hN];exact WM (t:=221) (heap_alloc_new wr _)
   replace HG:=ae (ak (aH HG.o _) hg);rw[hN];clear hN hg e0 e1 e2 e3 e4 e5 e6 e7 e8 e9 e10;obtain⟨e0,e1,e2,e3,e4,e5,e6,e7,e8,e9,e10⟩:=lK.o;simp only[Nat.zero_add]at e1 e2 e3 e4 e5 e6 e7 e8 e9 e10;obtain⟨ob,hob⟩:=zN s.o;rw[hob]at e10 mX;clear hob
   cases x with
   |false=>
    rw[Bool.false_and]at mX;have Oy:Hd (R=false):=by
     show R=false;rw[<-HR.o,List.all_eq_false];exact⟨L[i],List.getElem_mem hlt,by rw[iU.o,mX.o];decide⟩
    clear mX;go_wp2;go_ret;exact⟨bu Oy.o.symm,HG.o⟩
   |true=>
    rw[Bool.true_and]at mX
    cases ob with
    |true=>
     rw[Bool.true_or]at mX;have HT:Hd (iF s=true):=by show iF s=true;rw[mX.o]
     clear mX;go_wp2;go_roundw
     case rel=>
      refine⟨i+1,by go_num,by omega,fun j hj hji=>?_,HG.o⟩
      by_cases hji':j<i
      ·exact HP.o j hj hji'
      ·have e:j=i:=by omega
       subst e;rw[iU.o];exact HT.o
     case measure=>simp[intOf];omega
    |false=>
     rw[Bool.false_or]at mX;go_wp2_with (go_at_call 163;refine(CT.o _).mono ?_);rintro e w2 ⟨rfl,hg⟩;replace HG:=ae (ak HG.o hg);clear hg e0 e1 e2 e3 e4 e5 e6 e7 e8 e9 e10
     cases y with
     |true=>
      have HT:Hd (iF s=true):=by show iF s=true;rw[mX.o]
      clear mX;go_wp2;go_roundw
      case rel=>
       refine⟨i+1,by go_num,by omega,fun j hj hji=>?_,HG.o⟩
       by_cases hji':j<i
       ·exact HP.o j hj hji'
       ·have e:j=i:=by omega
        subst e;rw[iU.o];exact HT.o
      case measure=>simp[intOf];omega
     |false=>
      have Oy:Hd (R=false):=by
       show R=false;rw[<-HR.o,List.all_eq_false];exact⟨L[i],List.getElem_mem hlt,by rw[iU.o,mX.o];decide⟩
      clear mX;go_wp2;go_ret;exact⟨bu Oy.o.symm,HG.o⟩
  ·have HRT:Hd (R=true):=by
    show R=true;rw[<-HR.o,List.all_eq_true];intro t ht;obtain⟨j,hj,rfl⟩:=List.getElem_of_mem ht;exact HP.o j hj (by omega)
   clear hi;go_wp2;go_ret;exact⟨bu HRT.o.symm,HG.o⟩
theorem aek(w:World):Calls prog 137 #[.slice none 0 0] w fun e w'=>e=.returned (.bool true)/\w.grownBy w' none:=by
 go_enter func137,ntmps137;go_wp2;go_loopw [7] (fun vi wr=>vi=.int .i64 0/\w.grownBy wr none) (fun vi _=>0)
 case atStart=>exact⟨rfl,ax _ _⟩
 case round=>
  obtain⟨rfl,hg⟩:=hrel;have HG:=ae hg;clear hg;go_wp2;go_ret;exact⟨rfl,HG.o⟩
theorem WN:(prog.info? 221).map (fun i=>(i.zero,i.size,i.bytes))=some (some (.agg #[.int .i64 0,.int .i64 0,.int .i64 0,.string ⟨#[]⟩,.string ⟨#[]⟩,.int .i64 0,.int .i64 0,.int .i64 0,.string ⟨#[]⟩,.string ⟨#[]⟩,.bool false]),11,120):=by kernel_rfl
theorem sF{base:Nat}{size:Nat}(h:w.ownsRow base e size v n xs)(hg:w.grownBy w' none):w'.ownsRow base e size v n xs :=
 h.kept hg (by cases v.ownBlock<;>simp)
theorem WO(s:Sp):∀u∈fM s,u.oneCell'=true:=by
 intro u hu;simp only[fM,List.mem_cons,List.not_mem_nil,or_false]at hu
 rcases hu with rfl|rfl|rfl|rfl|rfl|rfl|rfl|rfl|rfl|rfl|rfl<;>rfl
theorem cell_lt{a:Addr}(h:w.cell? a=some v):a.block<w.heap.size:=by
 unfold World.cell? at h
 cases hb:w.heap[a.block]? with
 |none=>rw[hb]at h;simp at h
 |some o=>exact(bJ hb)
theorem ael{a:World}(h:Below B a w)(hB:B<=w.heap.size)(hg:w.grownBy w' none):Below B a w' :=
 ⟨hg.os.trans h.os,hg.tape.trans h.tape,hg.output.trans h.output,Nat.le_trans h.size hg.size,fun k hk=>(hg.block k (Nat.lt_of_lt_of_le hk hB) (by simp)).trans (h.block k hk)⟩
def SpS(w:World)(sl:Value)(L:List Sp):Prop:=(sl=.slice none 0 0/\L=[])\/∃a cap,sl=.slice (some a) L.length cap/\L.length<=cap/\SpAt w a L
theorem SpS.grow{L:List Sp}(h:SpS w sl L)(hg:w.grownBy w' none):SpS w' sl L:=by
 rcases h with h|⟨a,cap,h1,h2,h3⟩
 ·exact Or.inl h
 ·exact Or.inr ⟨a,cap,h1,h2,h3.grow hg⟩
theorem flat_get(L:List Sp):∀(i:Nat) (hi:i<L.length) (k:Nat) (v:Value),(fM L[i])[k]?=some v->(L.flatMap fM)[i*11+k]?=some v:=by
 induction L with
 |nil=>intro i hi;simp at hi
 |cons s L ih=>
  intro i hi k v h;rw[List.flatMap_cons];have hl:(fM s).length=11:=rfl
  cases i with
  |zero=>
   simp only[List.getElem_cons_zero]at h;have hk:=(List.getElem?_eq_some_iff.1 h).1;rw[Nat.zero_mul,Nat.zero_add,List.getElem?_append_left hk];exact h
  |succ i=>
   simp only[List.getElem_cons_succ]at h;rw[List.getElem?_append_right (by rw[hl];omega),hl,show(i+1)*11+k-11=i*11+k by omega];exact ih i (by simpa using hi) k v h
theorem WP{base:Nat}{L:List Sp}(h:w.ownsRow base 221 11 v L.length (L.flatMap fM)):SpS w v L:=by
 rcases h.2 with⟨h1,h2⟩|⟨g,cap,cur,h1,hb,hg,hn,hm,hs,ht⟩
 ·exact Or.inl ⟨h1,List.length_eq_zero_iff.1 h2⟩
 ·refine Or.inr ⟨⟨g,0,none⟩,cap,h1,hn,fun i hi=>acX fun k u hu=>?_⟩;have:=flat_get L i hi k u hu;exact h.cells (g:=g) (by rw[h1];rfl) (i*11+k) u this
theorem aem(sl:Value)(L:List Sp)(w:World)(h:SpS w sl L)(hL:L.length<=1048576)(hsz:∀s∈L,lN s) :
  Calls prog 137 #[sl] w fun e w'=>e=.returned (.bool (L.all iF))/\w.grownBy w' none:=by
 rcases h with⟨rfl,rfl⟩|⟨a,cap,rfl,h2,h3⟩
 ·exact aek w
 ·exact aej a cap L w (by omega) h2 h3 hsz
theorem aen(x y:Int)(w:World):Calls prog 111 #[.int .i64 x,.int .i64 y] w fun e w'=>e=.returned (.bool (decide (0<x)))/\w'=w:=by
 go_enter func111,ntmps111;go_wp2;go_ret;exact⟨rfl,rfl⟩
theorem aeo(x y:Int)(w:World):Calls prog 162 #[.int .i64 x,.int .i64 y] w fun e w'=>e=.returned (.bool (decide (x=y)))/\w'=w:=by
 go_enter func162,ntmps162;go_wp2;go_ret;exact⟨bu (by rw[Bool.eq_iff_iff];simp),rfl⟩
theorem aep(g o:Nat)(x d:Int)(w:World)(h:w.cell? ⟨g,o,none⟩=some (.int .i64 x))(hf:w.frozen? ⟨g,o,none⟩=false)(h1:-4611686018427387904<=x/\x<=4611686018427387904)(h2:-1<=d/\d<=1) :
  Calls prog 139 #[.pointer (some ⟨g,o,none⟩),.int .i64 d] w fun e w'=>e=.returned (.int .i64 (min (x+d) 1-min x 1))/\w'=w.setCell ⟨g,o,none⟩ (.int .i64 (x+d)):=by
 have r1:IntKind.i64.wrap (x+d)=x+d:=by rw[IntKind.wrap_i64];omega
 have r2:IntKind.i64.wrap (min (x+d) 1-min x 1)=min (x+d) 1-min x 1:=by rw[IntKind.wrap_i64];omega
 go_enter func139,ntmps139;go_wp2;go_ret;exact⟨rfl,rfl⟩
theorem WQ(a1 a2 a3:Int)(a4 a5:ByteArray)(w:World)(hs:a4.size<=281474976710656) :
  Calls prog 141 #[.agg #[.int .i64 a1,.int .i64 a2,.int .i64 a3,.string a4,.string a5]] w fun e w'=>e=.returned (.agg #[.int .i64 a1,.int .i64 a2,.int .i64 a3,.string a4,.string ⟨#[]⟩])/\w.grownBy w' none:=by
 have CC:=ae (fun w=>clone_any a4 w hs);clear hs;go_enter func141,ntmps141;go_wp2_with (go_at_call 123;refine(CC.o _).mono ?_);rintro e w1 ⟨rfl,hg⟩;obtain⟨A,hA⟩:=zN (w.heap.size);have pW:Hd (VX A a1 a2 a3 a4 a5 w1):=by
  show w1.heap[A]?=_;rw[hg.block A (by rw[<-hA];simp;omega) (by simp),<-hA,Lib.alloc_old _ _ _ (by simp)];exact heap_alloc_new w _
 have HXB:Hd (VX (A+1) 0 0 0 ⟨#[]⟩ ⟨#[]⟩ w1):=by
  show w1.heap[A+1]?=_;rw[hg.block (A+1) (by rw[<-hA];simp) (by simp)];have:=heap_alloc_new (w.alloc (.cells #[.int .i64 a1,.int .i64 a2,.int .i64 a3,.string a4,.string a5] 84)) (.cells #[.int .i64 0,.int .i64 0,.int .i64 0,.string ⟨#[]⟩,.string ⟨#[]⟩] 84);rw[<-hA];simpa using this
 have HG:=ae (ak (aH (aH (ax w none) _) _) hg);have qU:=ae (Nat.le_of_eq hA);rw[hA];clear hA hg;obtain⟨v0,v1,v2,v3,v4⟩:=pW.o.cells;have vf:=pW.o.f;obtain⟨u0,u1,u2,u3,u4⟩:=HXB.o.cells;have uf:=HXB.o.f;go_wp2;have hB:VX (A+1) 0 0 0 ⟨#[]⟩ ⟨#[]⟩ ((w1.setCell ⟨A,3,none⟩ (.string a4)).setCell ⟨A,4,none⟩ (.string ⟨#[]⟩)):=(HXB.o.other (by omega) _ _).other (by omega) _ _;refine bodyPost_ret (results_cell_row rfl _ _ (A+1) 84 #[.int .i64 a1,.int .i64 a2,.int .i64 a3,.string a4,.string ⟨#[]⟩] (0,0) _ rfl (IM hB a1 a2 a3 a4 ⟨#[]⟩) underlying84 rfl (by kernel_rfl)) rfl ⟨rfl,?_⟩;have h0:=qU.o;exact Bg (kD (kD HG.o h0 _ _) h0 _ _) (by omega) a1 a2 a3 a4 ⟨#[]⟩
structure Er where
 a1:Int
 a2:Int
 a3:Int
 a4:ByteArray
 a5:ByteArray
 l:Nat
 d:Int
instance:Inhabited Er:=⟨⟨0,0,0,⟨#[]⟩,⟨#[]⟩,0,0⟩⟩
def iM(e:Er):List Value:=[.int .i64 e.a1,.int .i64 e.a2,.int .i64 e.a3,.string e.a4,.string e.a5,.int .i64 e.l,.int .i64 e.d]
def aO(e:Er):Ed:=⟨⟨e.a1,e.a2,e.a3,e.a4.data.toList⟩,e.l,e.d⟩
def yh(k:Nat)(s:Sp):Er:=⟨s.f1,s.f2,s.f3,s.f4,s.f5,k,1⟩
def Jr(k:Nat)(s:Sp):Er:=⟨s.t1,s.t2,s.t3,s.t4,s.t5,k,-1⟩
def dZ(k:Nat)(s:Sp):List Er:=if s.o=true then[yh k s] else if dY (Va s) (Vb s)<0 then[yh k s,Jr k s] else[]
def eP:Nat->List (List Sp)->List Er
 | _,[]=>[]
 | k,l :: Ls=>l.flatMap (dZ k)++eP (k+1) Ls
theorem aeq(k:Nat)(s:Sp):(dZ k s).length<=2:=by
 unfold dZ;split
 ·simp
 ·split<;>simp
theorem BQ(k:Nat)(l:List Sp):(l.flatMap (dZ k)).length<=2*l.length:=by
 induction l with
 |nil=>simp
 |cons s l ih=>rw[List.flatMap_cons,List.length_append,List.length_cons];have:=aeq k s;omega
theorem aer:(prog.info? 240).map (fun i=>(i.zero,i.size,i.bytes))=some (some (.agg #[.int .i64 0,.int .i64 0,.int .i64 0,.string ⟨#[]⟩,.string ⟨#[]⟩,.int .i64 0,.int .i64 0]),7,72):=by kernel_rfl
def Lists(w:World)(a:Addr)(Ls:List (List Sp)):Prop:=∀j (hj:j<Ls.length),∃sl,w.cell? (a.add j)=some sl/\SpS w sl Ls[j]
theorem Lists.grow{a:Addr}{Ls:List (List Sp)}(h:Lists w a Ls)(hg:w.grownBy w' none):Lists w' a Ls:=fun j hj=>by
 obtain⟨sl,h1,h2⟩:=h j hj;exact⟨sl,hg.cell h1 (by simp),h2.grow hg⟩
theorem WR:∀(A:List (List Sp)) (k:Nat) (l:List Sp),eP k (A++[l])=eP k A++l.flatMap (dZ (k+A.length))
 | [],k,l=>by simp[eP]
 | b :: A,k,l=>by
  rw[List.cons_append,eP,WR A (k+1) l,eP,List.append_assoc,List.length_cons,show k+1+A.length=k+(A.length+1) by omega]
theorem Js(e:Er):∀u∈iM e,u.oneCell'=true:=by
 intro u hu;simp only[iM,List.mem_cons,List.not_mem_nil,or_false]at hu
 rcases hu with rfl|rfl|rfl|rfl|rfl|rfl|rfl<;>rfl
theorem aes(e f:Er):∀u∈iM e++iM f,u.oneCell'=true:=fun u hu=>by
 rcases List.mem_append.1 hu with h|h
 ·exact Js e u h
 ·exact Js f u h
def zG(w:World)(E:List Er)(ve:Value)(wr:World):Prop:=wr.ownsRow w.heap.size 240 7 ve E.length (E.flatMap iM)/\Below w.heap.size w wr
def WS(Ls:List (List Sp))(w:World)(e:Ending)(w':World):Prop:=∃(ve:Value) (E:List Er),e=.returned ve/\E.Perm (eP 0 Ls)/\rW (E.map aO)/\w'.ownsRow w.heap.size 240 7 ve E.length (E.flatMap iM)/\Below w.heap.size w w'
def FD:Prop:=∀(ve:Value) (E:List Er) (base:Nat) (w:World),w.ownsRow base 240 7 ve E.length (E.flatMap iM)->E.length<=8388608->(∀e∈E,e.a4.size<=1048576) →
 Calls prog 164 #[ve,.func (.func 165) #[] #[]] w fun e w'=>e=.returned (.tuple #[])/\∃E':List Er,E'.Perm E/\rW (E'.map aO)/\w'.ownsRow base 240 7 ve E'.length (E'.flatMap iM)/\w.grownBy w' ve.ownBlock
theorem Oz(Ls:List (List Sp))(h:∀l∈Ls,l.length<=1048576/\∀s∈l,lN s):∀(k:Nat),∀e∈eP k Ls,e.a4.size<=1048576:=by
 induction Ls with
 |nil=>intro k e he;simp[eP]at he
 |cons l Ls ih=>
  intro k e he;rw[eP]at he
  rcases List.mem_append.1 he with he|he
  ·obtain⟨s,hs,he⟩:=List.mem_flatMap.1 he;have hm:=(h l (by simp)).2 s hs;unfold dZ at he;split at he
   ·simp at he;rw[he];exact hm.1
   ·split at he
    ·simp at he
     rcases he with rfl|rfl
     ·exact hm.1
     ·exact hm.2.2.1
    ·simp at he
  ·exact ih (fun l' hl'=>h l' (by simp[hl'])) (k+1) e he
theorem aet{a:Addr}{L:List Sp}(h:SpAt w a L)(hb:Below w.heap.size w w'):SpAt w' a L:=h.grow ⟨hb.os,hb.tape,hb.output,hb.size,fun k hk _=>hb.block k hk⟩
theorem aeu(hsort:FD)(a:Addr)(n cap:Nat)(Ls:List (List Sp))(w:World)(hn:Ls.length=n)(hcap:n<=cap)(hn2:n<=2)(h:Lists w a Ls)(hsz:∀l∈Ls,l.length<=1048576/\∀s∈l,lN s) :
  Calls prog 138 #[.slice (some a) n cap] w (WS Ls w):=by
 have hinfo:=aer;obtain⟨i0,hi0,hii⟩:=Option.map_eq_some_iff.1 hinfo;simp only[Prod.mk.injEq]at hii;obtain⟨hz0,hz1,hzb⟩:=hii;clear hinfo;have HA:=ae h;have HS:=ae hsz;have HN:=ae hn;clear h hsz hn;go_enter func138,ntmps138;go_wp2;go_loopw [3,10] (fun ve vi wr=>∃j:Nat,vi=.int .i64 j/\j<=n/\(eP 0 (Ls.take j)).length<=2097152*j/\zG w (eP 0 (Ls.take j)) ve wr) (fun _ vi _=>n-(intOf vi).toNat)
 case atStart=>exact⟨0,rfl,Nat.zero_le _,by simp[eP],World.ownsRow_nil _ _ _ _,Below.refl _ _⟩
 case round=>
  obtain⟨j,rfl,hj,hlen,hown,hb⟩:=hrel
  by_cases hlt:j<n
  ·have hjl:j<Ls.length:=by rw[HN.o];exact hlt
   obtain⟨sl,hcell,hsp⟩:=HA.o j hjl;have gW:w.grownBy wr none:=⟨hb.os,hb.tape,hb.output,hb.size,fun k hk _=>hb.block k hk⟩;have cj:=gW.cell hcell (by simp);obtain⟨l,hl⟩:=zN (Ls[j]);rw[hl]at hsp;have Ju:Hd (l.length<=1048576/\∀s∈l,lN s):=by rw[<-hl];exact HS.o _ (List.getElem_mem hjl)
   have ed:Hd (eP 0 (Ls.take (j+1))=eP 0 (Ls.take j)++l.flatMap (dZ j)):=by
    show eP 0 _=_;rw[List.take_succ_eq_append_getElem hjl,WR,hl,List.length_take,Nat.min_eq_left (Nat.le_of_lt hjl),Nat.zero_add]
   obtain⟨E0,hE0⟩:=zN (eP 0 (Ls.take j));rw[hE0]at ed hlen hown;have zH:=ae hlen;have HO:Hd (zG w E0 u3 wr):=⟨hown,hb⟩;have gQ:=ae hsp;clear hE0 hl hcell hlen hown hb hsp gW;have NEXT:Hd (∀ve wk,zG w (E0++l.flatMap (dZ j)) ve wk->j+1<=n/\(eP 0 (Ls.take (j+1))).length<=2097152*(j+1)/\zG w (eP 0 (Ls.take (j+1))) ve wk):=by
    intro ve wk h;rw[ed.o];refine⟨by omega,?_,h⟩;have q1:=zH.o;have q2:=BQ j l;have q3:=Ju.o.1;rw[List.length_append];omega
   rcases gQ.o with⟨rfl,hnil⟩|⟨a',cap',rfl,hc',hat⟩
   ·have HNI:=ae hnil;clear hnil;go_wp2;go_loopw [3,17] (fun ve vi wk=>vi=.int .i64 0/\zG w E0 ve wk) (fun _ vi _=>0)
    case atStart=>exact⟨rfl,HO.o⟩
    case round=>
     obtain⟨rfl,hO⟩:=hrel;have OB:=ae hO;clear hO;go_wp2;go_roundw
     case rel=>
      have:=NEXT.o u3 wr (by rw[HNI.o];simpa using OB.o);exact⟨j+1,by go_num,this.1,this.2.1,this.2.2⟩
     case measure=>simp[intOf];omega
   ·have HAT:=ae hat;clear hat;go_wp2;go_loopw [3,17] (fun ve vi wk=>∃k:Nat,vi=.int .i64 k/\k<=l.length/\zG w (E0++(l.take k).flatMap (dZ j)) ve wk) (fun _ vi _=>l.length-(intOf vi).toNat)
    case atStart=>exact⟨0,rfl,Nat.zero_le _,by simpa using HO.o⟩
    case round=>
     obtain⟨k,rfl,hk,hown,hb⟩:=hrel
     by_cases hkl:k<l.length
     ·obtain⟨s,hs⟩:=zN (l[k]);have akZ:=Ju.o.1;have HE:Hd (EltAt wr (a'.add (k*11)) s):=by show EltAt wr _ s;rw[<-hs];exact(aet HAT.o hb) k hkl
      have hm:lN s:=by rw[<-hs];exact Ju.o.2 _ (List.getElem_mem hkl)
      have Jv:Hd ((l.take (k+1)).flatMap (dZ j)=(l.take k).flatMap (dZ j)++dZ j s):=by
       show _=_;rw[List.take_succ_eq_append_getElem hkl,List.flatMap_append,hs];simp
      have HLEN:Hd ((E0++(l.take k).flatMap (dZ j)).length+2<=8388608):=by
       show _<=_;have q1:=zH.o;have q2:=BQ j (l.take k);have q3:=Ju.o.1;rw[List.length_append];rw[List.length_take]at q2;omega
      obtain⟨x,hx⟩:=zN (dY (Va s) (Vb s));have CF:Hd (∀w,Calls prog 140 #[.agg #[.int .i64 s.f1,.int .i64 s.f2,.int .i64 s.f3,.string s.f4,.string s.f5],.agg #[.int .i64 s.t1,.int .i64 s.t2,.int .i64 s.t3,.string s.t4,.string s.t5]] w fun e w'=>e=.returned (.int .i64 x)/\w.grownBy w' none):=fun w=>by
       rw[<-hx];exact compare_any s.f1 s.f2 s.f3 s.t1 s.t2 s.t3 s.f4 s.f5 s.t4 s.t5 w (by have:=hm.1;omega) (by have:=hm.2.2.1;omega)
      have HX:=ae hx;obtain⟨e0,e1,e2,e3,e4,e5,e6,e7,e8,e9,e10⟩:=HE.o;obtain⟨N,hN⟩:=zN (wr.heap.size);obtain⟨W2,hW2⟩:=zN (wr.alloc (.cells #[.int .i64 s.f1,.int .i64 s.f2,.int .i64 s.f3,.string s.f4,.string s.f5,.int .i64 s.t1,.int .i64 s.t2,.int .i64 s.t3,.string s.t4,.string s.t5,.bool s.o] 221));have HE2:Hd (EltAt W2 ⟨N,0,none⟩ s):=by
       show EltAt W2 _ s;rw[<-hN,<-hW2];exact WM (t:=221) (heap_alloc_new wr _)
      have kG:Hd (W2.ownsRow w.heap.size 240 7 u3 (E0++(l.take k).flatMap (dZ j)).length ((E0++(l.take k).flatMap (dZ j)).flatMap iM)):=by show World.ownsRow _ _ _ _ _ _ _;rw[<-hW2];exact hown.alloc _
      have HB2:Hd (Below w.heap.size w W2):=by show Below _ _ _;rw[<-hW2];exact hb.alloc hb.size _
      clear hx hm hs hown hb;obtain⟨d0,d1,d2,d3,d4,d5,d6,d7,d8,d9,d10⟩:=HE2.o;simp only[Nat.zero_add]at d1 d2 d3 d4 d5 d6 d7 d8 d9 d10
      cases ho:s.o with
      |true=>
       have uI:Hd (dZ j s=[yh j s]):=by show dZ j s=_;unfold dZ;rw[if_pos ho]
       rw[ho]at d10;clear ho;go_wp2_with (first|(at_builtin;refine wpList_append_own _ rfl _ _ 237 rfl w.heap.size 240 i0 (.agg #[.int .i64 0,.int .i64 0,.int .i64 0,.string ⟨#[]⟩,.string ⟨#[]⟩,.int .i64 0,.int .i64 0]) 7 72 underlying237 hi0 hz0 hz1 hzb rfl (by decide) _ _ _ rfl (kG.o.alloc _) _ 1 1 (iM (yh j s)) rfl rfl (World.news_of_block (heap_alloc_new _ _)) (Js _) (by unfold maxLen;have:=HLEN.o;omega) (by have:=HLEN.o;omega) (by have:=HB2.o.size;simp;omega) ?_;intro v' w3 hown3 hgrow _));have hb3:=(HB2.o.alloc (HB2.o.size) _).grown hgrow (by have:=HB2.o.size;simp;omega) (fun q hq=>(kG.o.lt q hq).1);have hl3:(E0++(l.take (k+1)).flatMap (dZ j))=(E0++(l.take k).flatMap (dZ j))++dZ j s:=by rw[Jv.o,List.append_assoc]
       refine⟨⟨k+1,by go_num,by omega,?_,hb3⟩,by simp[intOf];omega⟩;rw[hl3,uI.o,List.length_append,List.flatMap_append];simpa using hown3
      |false=>
       rw[ho]at d10;have WU:=ae ho;clear ho;go_wp2_with (go_at_call 140;refine(CF.o _).mono ?_);rintro e w1 ⟨rfl,hg⟩;have xI:=ae (HE2.o.grow hg);have BR:=ae (sF kG.o hg);have HB3:=ae (ael HB2.o HB2.o.size hg)
       try rw[hN]
       clear hN hW2 hg e0 e1 e2 e3 e4 e5 e6 e7 e8 e9 e10 d0 d1 d2 d3 d4 d5 d6 d7 d8 d9 d10;obtain⟨d0,d1,d2,d3,d4,d5,d6,d7,d8,d9,d10⟩:=xI.o;simp only[Nat.zero_add]at d1 d2 d3 d4 d5 d6 d7 d8 d9 d10
       by_cases hx0:x<0
       ·have uI:Hd (dZ j s=[yh j s,Jr j s]):=by
         show dZ j s=_;unfold dZ;rw[if_neg (by rw[WU.o];decide),if_pos (by rw[HX.o];exact hx0)]
        go_wp2_with (first|(at_builtin;refine wpList_append_own _ rfl _ _ 237 rfl w.heap.size 240 i0 (.agg #[.int .i64 0,.int .i64 0,.int .i64 0,.string ⟨#[]⟩,.string ⟨#[]⟩,.int .i64 0,.int .i64 0]) 7 72 underlying237 hi0 hz0 hz1 hzb rfl (by decide) _ _ _ rfl (BR.o.alloc _) _ 2 2 (iM (yh j s)++iM (Jr j s)) rfl rfl (World.news_of_block (heap_alloc_new _ _)) (aes _ _) (by unfold maxLen;have:=HLEN.o;omega) (by have:=HLEN.o;omega) (by have:=HB3.o.size;simp;omega) ?_;intro v' w3 hown3 hgrow _));have hb3:=(HB3.o.alloc (HB3.o.size) _).grown hgrow (by have:=HB3.o.size;simp;omega) (fun q hq=>(BR.o.lt q hq).1);have hl3:(E0++(l.take (k+1)).flatMap (dZ j))=(E0++(l.take k).flatMap (dZ j))++dZ j s:=by rw[Jv.o,List.append_assoc]
        refine⟨⟨k+1,by go_num,by omega,?_,hb3⟩,by simp[intOf];omega⟩;rw[hl3,uI.o,List.length_append,List.flatMap_append];simpa using hown3
       ·have uI:Hd (dZ j s=[]):=by
         show dZ j s=_;unfold dZ;rw[if_neg (by rw[WU.o];decide),if_neg (by rw[HX.o];exact hx0)]
        go_wp2;go_roundw
        case rel=>
         have hl3:(E0++(l.take (k+1)).flatMap (dZ j))=(E0++(l.take k).flatMap (dZ j))++dZ j s:=by rw[Jv.o,List.append_assoc]
         refine⟨k+1,by go_num,by omega,?_⟩;rw[hl3,uI.o,List.append_nil];exact⟨BR.o,HB3.o⟩
        case measure=>simp[intOf];omega
     ·have hkl2:k=l.length:=by omega
      have OB:Hd (zG w (E0++l.flatMap (dZ j)) u3 wr):=by
       have:=hown;rw[hkl2,List.take_length]at this;exact⟨this,hb⟩
      clear hkl2 hown hb hk;go_wp2;go_roundw
      case rel=>
       have:=NEXT.o u3 wr OB.o;exact⟨j+1,by go_num,this.1,this.2.1,this.2.2⟩
      case measure=>simp[intOf];omega
  ·have hjn:j=n:=by omega
   have hto:Ls.take j=Ls:=List.take_of_length_le (by rw[HN.o];omega);rw[hto]at hown hlen;have CS:=hsort u3 (eP 0 Ls) w.heap.size wr hown (by omega) (Oz Ls HS.o 0);have CSH:=ae CS;have HB:=ae hb;have zI:=ae (fun q (hq:u3.ownBlock=some q)=>(hown.lt q hq).1);clear CS hown hb hlen hto hjn hj;go_wp2_with (go_at_call 164;refine CSH.o.mono ?_);rintro e w3 ⟨rfl,E',hp,hso,ho3,hg3⟩;have HF:Hd (WS Ls w (.returned u3) w3):=⟨u3,E',rfl,hp,hso,ho3,HB.o.grown hg3 HB.o.size zI.o⟩;clear hp hso ho3 hg3;go_wp2;exact bodyPost_ret (results_tmp (t:=2) rfl _ _ _) rfl HF.o
def oV:V:=⟨0,0,0,[]⟩
def iI(x y:V)(o:Bool):Sp:=⟨x.major,x.minor,x.patch,⟨x.pre.toArray⟩,⟨#[]⟩,y.major,y.minor,y.patch,⟨y.pre.toArray⟩,⟨#[]⟩,o⟩
def outs:List V->List Sp
 | []=>[]
 | [x]=>[iI x oV true]
 | x :: y :: r=>iI x y false :: outs r
theorem WV:∀(T:List V) (x:V),T.length % 2=0->outs (T++[x])=outs T++[iI x oV true]
 | [],x,_=>rfl
 | [a],x,h=>by simp at h
 | a :: b :: r,x,h=>by
  have:=WV r x (by simp at h;omega);simp only[List.cons_append,outs,this]
theorem WX:∀(T:List V) (x:V),T.length % 2=1->∃A y,outs T=A++[iI y oV true]/\outs (T++[x])=A++[iI y x false]
 | [],x,h=>by simp at h
 | [a],x,_=>⟨[],a,rfl,rfl⟩
 | a :: b :: r,x,h=>by
  obtain⟨A,y,h1,h2⟩:=WX r x (by simp at h;omega);exact⟨iI a b false :: A,y,by simp only[outs,h1,List.cons_append],by simp only[List.cons_append,outs,h2]⟩
theorem aev(s:Sp):(fM s).length=11:=rfl
theorem aew(L:List Sp):(L.flatMap fM).length=L.length*11:=by
 induction L with
 |nil=>rfl
 |cons s L ih=>rw[List.flatMap_cons,List.length_append,ih,aev,List.length_cons];omega
theorem aex(n l:Nat)(d:Int)(b:Nat->Int)(hl:l<n):having n (upd b l d)=having n b+(min (b l+d) 1-min (b l) 1):=by
 unfold having
 induction n with
 |zero=>omega
 |succ n ih=>
  rw[List.range_succ,List.map_append,List.sum_append,List.map_append,List.sum_append];simp only[List.map_cons,List.map_nil,List.sum_cons,List.sum_nil]
  by_cases h:l=n
  ·subst h;have:(List.range l).map (fun j=>min (upd b l d j) 1)=(List.range l).map (fun j=>min (b j) 1):=by
    apply List.map_congr_left;intro j hj;have:=List.mem_range.1 hj;unfold upd;rw[if_neg (by omega)]
   rw[this];unfold upd;rw[if_pos rfl];omega
  ·have h2:=ih (by omega);rw[h2];unfold upd;rw[if_neg (fun e=>h e.symm)];omega
theorem aey(n:Nat)(b:Nat->Int)(i:Nat)(h:∀j,-(i:Int)<=b j/\b j<=i):-(n*i:Int)<=having n b/\having n b<=n:=by
 unfold having
 induction n with
 |zero=>simp
 |succ n ih=>
  rw[List.range_succ,List.map_append,List.sum_append];simp only[List.map_cons,List.map_nil,List.sum_cons,List.sum_nil];have hn:=h n;have e:((n+1:Nat):Int)*(i:Int)=(n:Int)*i+i:=by rw[Int.natCast_add,Int.add_mul];simp
  rw[e];omega
theorem aez(Ls:List (List Sp)):∀(k:Nat),∀e∈eP k Ls,k<=e.l/\e.l<k+Ls.length/\(e.d=1\/e.d=-1):=by
 induction Ls with
 |nil=>intro k e he;simp[eP]at he
 |cons l Ls ih=>
  intro k e he;rw[eP]at he
  rcases List.mem_append.1 he with he|he
  ·obtain⟨s,hs,he⟩:=List.mem_flatMap.1 he;unfold dZ at he;split at he
   ·simp at he;rw[he];simp[yh]
   ·split at he
    ·simp at he
     rcases he with rfl|rfl
     ·simp[yh]
     ·simp[Jr]
    ·simp at he
  ·have:=ih (k+1) e he;simp;omega
def EdAt(w:World)(p:Addr)(e:Er):Prop:=w.cell? p=some (.int .i64 e.a1)/\w.cell? ⟨p.block,p.off+1,none⟩=some (.int .i64 e.a2)/\w.cell? ⟨p.block,p.off+2,none⟩=some (.int .i64 e.a3)/\w.cell? ⟨p.block,p.off+3,none⟩=some (.string e.a4)/\w.cell? ⟨p.block,p.off+4,none⟩=some (.string e.a5)/\w.cell? ⟨p.block,p.off+5,none⟩=some (.int .i64 e.l)/\w.cell? ⟨p.block,p.off+6,none⟩=some (.int .i64 e.d)
theorem EdAt.grow{p:Addr}{e:Er}(h:EdAt w p e)(hg:w.grownBy w' r)(hn:some p.block≠r):EdAt w' p e:=by
 obtain⟨h0,h1,h2,h3,h4,h5,h6⟩:=h;exact⟨hg.cell h0 hn,hg.cell h1 hn,hg.cell h2 hn,hg.cell h3 hn,hg.cell h4 hn,hg.cell h5 hn,hg.cell h6 hn⟩
theorem aeA{a:Addr}{e:Er}(h:∀k v,(iM e)[k]?=some v->w.cell? (a.add (n+k))=some v):EdAt w (a.add n) e :=
 ⟨by have:=h 0 _ rfl;simpa using this,by have:=h 1 _ rfl;rw[mZ a n 1 (by omega)]at this;exact this,by have:=h 2 _ rfl;rw[mZ a n 2 (by omega)]at this;exact this,by have:=h 3 _ rfl;rw[mZ a n 3 (by omega)]at this;exact this,by have:=h 4 _ rfl;rw[mZ a n 4 (by omega)]at this;exact this,by have:=h 5 _ rfl;rw[mZ a n 5 (by omega)]at this;exact this,by have:=h 6 _ rfl;rw[mZ a n 6 (by omega)]at this;exact this⟩
theorem WY(L:List Er):∀(i:Nat) (hi:i<L.length) (k:Nat) (v:Value),(iM L[i])[k]?=some v->(L.flatMap iM)[i*7+k]?=some v:=by
 induction L with
 |nil=>intro i hi;simp at hi
 |cons s L ih=>
  intro i hi k v h;rw[List.flatMap_cons];have hl:(iM s).length=7:=rfl
  cases i with
  |zero=>
   simp only[List.getElem_cons_zero]at h;have hk:=(List.getElem?_eq_some_iff.1 h).1;rw[Nat.zero_mul,Nat.zero_add,List.getElem?_append_left hk];exact h
  |succ i=>
   simp only[List.getElem_cons_succ]at h;rw[List.getElem?_append_right (by rw[hl];omega),hl,show(i+1)*7+k-7=i*7+k by omega];exact ih i (by simpa using hi) k v h
theorem aeB{base:Nat}{E:List Er}(h:w.ownsRow base 240 7 v E.length (E.flatMap iM)) :
  (v=.slice none 0 0/\E=[])\/∃(ga:Addr) (cap:Nat),v=.slice (some ga) E.length cap/\E.length<=cap/\base<=ga.block/\ga.block<w.heap.size/\ga.spot=none/\∀i (hi:i<E.length),EdAt w (ga.add (i*7)) E[i]:=by
 rcases h.2 with⟨h1,h2⟩|⟨g,cap,cur,h1,hb,hg,hn,hm,hs,ht⟩
 ·exact Or.inl ⟨h1,List.length_eq_zero_iff.1 h2⟩
 ·refine Or.inr ⟨⟨g,0,none⟩,cap,h1,hn,hb,(bJ hg),rfl,fun i hi=>aeA fun k u hu=>?_⟩;have:=WY E i hi k u hu;exact h.cells (g:=g) (by rw[h1];rfl) (i*7+k) u this
theorem add_block(a:Addr)(n:Nat):(a.add n).block=a.block:=by unfold Addr.add;split<;>rfl
theorem BU{base:Nat}{size:Nat}{g:Nat}(h:w.ownsRow base e size (.slice (some ⟨g,0,none⟩) n cap) n xs)(o:Nat)(x:Value)(ho:o<n*size):(w.setCell ⟨g,o,none⟩ x).ownsRow base e size (.slice (some ⟨g,0,none⟩) n cap) n (xs.set o x):=by
 refine⟨by rw[List.length_set];exact h.1,?_⟩
 rcases h.2 with⟨h1,_⟩|⟨g',cap',cur,h1,hb,hg,hn,hm,hs,ht⟩
 ·cases h1
 ·cases h1
  refine Or.inr ⟨g,cap,cur.setIfInBounds o x,rfl,hb,?_,hn,hm,by simpa using hs,?_⟩
  ·simp[World.setCell,Array.getElem?_modify,hg]
  ·rw[Array.toList_setIfInBounds,List.take_set,ht]
theorem OC:∀(T:List V),(outs T).length<=T.length
 | []=>Nat.le_refl _
 | [a]=>Nat.le_refl _
 | a :: b :: r=>by have:=OC r;simp only[outs,List.length_cons];omega
theorem aeC(e:Er):fM (iI (aO e).at_ oV true)=[.int .i64 e.a1,.int .i64 e.a2,.int .i64 e.a3,.string e.a4,.string ⟨#[]⟩,.int .i64 0,.int .i64 0,.int .i64 0,.string ⟨#[]⟩,.string ⟨#[]⟩,.bool true]:=by
 simp only[fM,iI,aO,oV,Go.Joins.bytes_eta]
theorem WZ{wa wb:World}{row:Option Nat}(h:w.grownBy wa (some B))(hg:wa.grownBy wb row)(hr:∀q,row=some q->w.heap.size<=q):w.grownBy wb (some B) :=
 ⟨hg.os.trans h.os,hg.tape.trans h.tape,hg.output.trans h.output,Nat.le_trans h.size hg.size,fun k hk hn=>(hg.block k (Nat.lt_of_lt_of_le hk h.size) (fun e=>by have:=hr k e.symm;omega)).trans (h.block k hk hn)⟩
theorem FH(g k:Nat):(⟨g,0,none⟩:Addr).add k=⟨g,k,none⟩:=by
 unfold Addr.add;split
 ·rename_i h;rw[h]
 ·simp
theorem BV{l:List Value}(hP:P.length=k)(q:Nat)(v:Value):(P++l).set (k+q) v=P++l.set q v:=by
 rw[List.set_append_right _ _ (by omega),hP,Nat.add_sub_cancel_left]
theorem aeD(e:Er)(y:V)(hP:P.length=k) :
  ((((((P++fM (iI y oV true)).set (k+5) (.int .i64 e.a1)).set (k+6) (.int .i64 e.a2)).set (k+7) (.int .i64 e.a3)).set (k+8) (.string e.a4)).set (k+9) (.string ⟨#[]⟩)).set (k+10) (.bool false)=P++fM (iI y (aO e).at_ false):=by
 rw[BV hP,BV hP,BV hP,BV hP,BV hP,BV hP];simp only[fM,iI,aO,oV,Go.Joins.bytes_eta,List.set]
theorem BX{base:Nat}{capS M:Nat}{A:List Sp}{s:Sp}(h:w.ownsRow base 221 11 (.slice (some ⟨gs,0,none⟩) (M+1) capS) (M+1) ((A++[s]).flatMap fM))(hA:A.length=M)(q:Nat)(v:Value)(hq:(fM s)[q]?=some v):w.cell? ⟨gs,M*11+q,none⟩=some v:=by
 have h1:=flat_get (A++[s]) M (by rw[List.length_append,hA];simp) q v (by rw[List.getElem_append_right (by omega)];simpa [hA] using hq);have:=h.cells (g:=gs) rfl (M*11+q) v h1;rw[FH]at this;exact this
theorem aeE{base:Nat}{size:Nat}(h:w.ownsRow base e size (.slice (some ⟨gs,0,none⟩) n cap) n xs)(o:Nat):w.frozen? ⟨gs,o,none⟩=false:=by
 rcases h.2 with⟨h1,_⟩|⟨g',cap',cur,h1,hb,hg,_⟩
 ·cases h1
 ·cases h1;exact Lib.frozen_of_heap hg o
theorem W9(Ls:List (List Sp))(h:∀l∈Ls,l.length<=1048576):∀k,(eP k Ls).length<=2097152*Ls.length:=by
 induction Ls with
 |nil=>intro k;simp[eP]
 |cons l Ls ih=>
  intro k;have h1:=ih (fun l' hl'=>h l' (by simp[hl'])) (k+1);have h2:=BQ k l;have h3:=h l (by simp);rw[eP,List.length_append,List.length_cons];omega
theorem aeF(n:Nat):having n (fun _=>0)=0:=by
 unfold having
 induction n with
 |zero=>rfl
 |succ n ih=>rw[List.range_succ,List.map_append,List.sum_append,ih];rfl
theorem aeG(x y:Er)(w:World)(hx:x.a4.size<=1048576)(hy:y.a4.size<=1048576) :
  Calls prog 165 #[.agg (iM x).toArray,.agg (iM y).toArray] w fun e w'=>e=.returned (.int .i64 (dY (aO x).at_ (aO y).at_))/\Gr w w':=by
 obtain⟨a1,a2,a3,a4,a5,l,d⟩:=x;obtain⟨b1,b2,b3,b4,b5,m,c⟩:=y;obtain⟨r,hr⟩:=zN (dY (aO ⟨a1,a2,a3,a4,a5,l,d⟩).at_ (aO ⟨b1,b2,b3,b4,b5,m,c⟩).at_);have CC:Hd (∀w,Calls prog 140 #[.agg #[.int .i64 a1,.int .i64 a2,.int .i64 a3,.string a4,.string a5],.agg #[.int .i64 b1,.int .i64 b2,.int .i64 b3,.string b4,.string b5]] w fun e w'=>e=.returned (.int .i64 r)/\Gr w w'):=fun w=>by
  rw[<-hr];exact G.compare_any a1 a2 a3 b1 b2 b3 a4 a5 b4 b5 w (by simp at hx;omega) (by simp at hy;omega)
 rw[hr];clear hr hx hy;show Calls prog 165 #[.agg #[.int .i64 a1,.int .i64 a2,.int .i64 a3,.string a4,.string a5,.int .i64 l,.int .i64 d],.agg #[.int .i64 b1,.int .i64 b2,.int .i64 b3,.string b4,.string b5,.int .i64 m,.int .i64 c]] w _;go_enter func165,ntmps165;go_wp2_with (go_at_call 140;refine(CC.o _).mono ?_);rintro e w1 ⟨rfl,hg⟩;go_wp2;go_ret;exact⟨rfl,zt (U6 (U6 (I5 w) _) _) hg⟩
open Go.Shelf Go.Sort
abbrev Eb:={e:Er // e.a4.size<=1048576}
instance:Inhabited Eb:=⟨⟨default,by show(0:Nat)<=_;omega⟩⟩
def og(x:Eb):List Value:=iM x.1
def zJ(x y:Eb):Int:=dY (aO x.1).at_ (aO y.1).at_
theorem aeH:SWO (ltOf zJ) where
 irrefl x:=by unfold ltOf zJ;rw[Nk];rfl
 trans x y z h1 h2:=by
  unfold ltOf zJ at *;have a1:=of_decide_eq_true h1;have a2:=of_decide_eq_true h2;exact decide_eq_true (acg a1 a2)
 ntrans x y z h1 h2:=by
  unfold ltOf zJ at *;have a1:=of_decide_eq_false h1;have a2:=of_decide_eq_false h2;apply decide_eq_false;intro h3;have b1:=EI (aO x.1).at_ (aO y.1).at_;have b2:=EI (aO y.1).at_ (aO z.1).at_;have b3:=acf (show dY (aO z.1).at_ (aO y.1).at_<=0 by omega) (show dY (aO y.1).at_ (aO x.1).at_<=0 by omega);have b4:=EI (aO z.1).at_ (aO x.1).at_;omega
theorem aeI(h:Gr w w'):∃q os,w'=grow (w.drewN q) os:=by
 refine⟨w'.drawn-w.drawn,w'.heap.extract w.heap.size w'.heap.size,?_⟩;obtain⟨hg,hd⟩:=h;have hh:w'.heap=w.heap++w'.heap.extract w.heap.size w'.heap.size:=by
  apply Array.ext_getElem?;intro k
  by_cases hk:k<w.heap.size
  ·rw[Array.getElem?_append_left hk];exact hg.block k hk (by simp)
  ·rw[Array.getElem?_append_right (by omega),Array.getElem?_extract]
   by_cases hk2:k<w'.heap.size
   ·rw[if_pos (by omega)];congr 1;omega
   ·rw[if_neg (by omega),Array.getElem?_eq_none (by omega)]
 have h1:=hg.os;have h2:=hg.tape;have h3:=hg.output
 cases w';cases w
 simp only[grow,World.drewN,World.mk.injEq]at *;exact⟨hh,h2,by omega,h1,h3⟩
theorem aeJ(w:World)(blk off size:Nat):CmpLays prog 165 #[] og 7 zJ blk off size w:=by
 intro m os dk hdk x y;refine(aeG x.1 y.1 _ x.2 y.2).mono ?_;rintro e w' ⟨rfl,hg⟩;exact⟨rfl,aeI hg⟩
theorem Xa(x:Eb):(og x).length=7:=rfl
theorem aeK(x:Eb):∀v∈og x,v.oneCell'=true:=Js x.1
theorem OD(d:Array Eb):(flatK og 7 d).toList=(d.toList.map (·.1)).flatMap iM:=by
 apply List.ext_getElem?;intro j;have hl:((d.toList.map (·.1)).flatMap iM).length=d.size*7:=by
  have:∀L:List Er,(L.flatMap iM).length=L.length*7:=by
   intro L
   induction L with
   |nil=>rfl
   |cons e L ih=>rw[List.flatMap_cons,List.length_append,ih,List.length_cons];show 7+_=_;omega
  rw[this];simp
 by_cases hj:j<d.size*7
 ·have hi:j / 7<d.size:=by omega
  have h1:(flatK og 7 d).toList[j]?=some ((og d[j / 7]!)[j % 7]!):=by
   rw[Array.getElem?_toList,Array.getElem?_eq_getElem (by simpa using hj)];have:=get_flatK og 7 d j hj;rw[getElem!_pos _ j (by simpa using hj)]at this;rw[this]
  have h2:=WY (d.toList.map (·.1)) (j / 7) (by simpa using hi) (j % 7) ((og d[j / 7]!)[j % 7]!) (by
   rw[getElem!_pos d (j / 7) hi];have hk:j % 7<(og d[j / 7]).length:=by rw[Xa];omega
   rw[getElem!_pos _ (j % 7) hk];rw[List.getElem_map,Array.getElem_toList];exact List.getElem?_eq_getElem hk)
  rw[show j / 7*7+j % 7=j by omega]at h2;rw[h1,h2]
 ·rw[List.getElem?_eq_none (by simp;omega),List.getElem?_eq_none (by rw[hl];omega)]
theorem eg:∀args w,(callFunc 165 args).run prog w=.ok (.enter 165 args) w:=enters_of func165 (by kernel_rfl) rfl
theorem Xb:FD:=by
 intro ve E base w hown hlen hsmall;obtain⟨D,hD⟩:∃D:Array Eb,D.toList.map (·.1)=E:=⟨(E.attach.map fun e=>(⟨e.1,hsmall e.1 e.2⟩:Eb)).toArray,by simp⟩;have hDs:D.size=E.length:=by rw[<-hD];simp
 have hown':=hown
 rcases hown.2 with⟨rfl,h0⟩|⟨g,cap,cur,rfl,hb,hg,hn,hm,hs,ht⟩
 ·refine(AnyF.slices_SortFunc_none Tryz.laysSort none 0 (.func (.func 165) #[] #[]) w).mono ?_;rintro e w' ⟨rfl,rfl⟩;have hE:=List.eq_nil_of_length_eq_zero h0;subst hE;exact⟨rfl,[],List.Perm.refl _,List.Pairwise.nil,hown',⟨rfl,rfl,rfl,Nat.le_refl _,fun _ _ _=>rfl⟩⟩
 ·have hH:HoldsK og 7 w g 0 D:=by
   intro j hj;have hj':j<(E.flatMap iM).length:=by rw[hown.1,<-hDs];simpa using hj
   refine⟨?_,Lib.frozen_of_heap hg _⟩;have h1:(flatK og 7 D).toList[j]?=(E.flatMap iM)[j]?:=by rw[OD,hD]
   rw[Array.getElem?_toList,Array.getElem?_eq_getElem hj]at h1;rw[Nat.zero_add,aj hg];rw[getElem!_pos _ j hj];show cur[j]?=some (id _);rw[id,h1,<-ht,List.getElem?_take_of_lt (by rw[hown.1]at hj';exact hj')];simp
  rw[<-hDs];refine(AnyQ.slices_SortFunc Tryz.laysSort 7 isAgg240 sizeOf240 og Xa aeK zJ aeH 165 #[] g 0 cap D w eg (aeJ w g 0 D.size) hH (bJ hg) (by omega)).mono ?_;rintro e w' ⟨rfl,d',m,os,hperm,hsort,hw'⟩;have hds:=hperm.1;have hgl:=(bJ hg);have hheap:w'.heap=(w.heap.modify g (onCells (putCells id 0 (flatK og 7 d'))))++os:=by rw[hw'];rfl
  have hg':w'.heap[g]?=some (.cells (putCells id 0 (flatK og 7 d') cur) 240):=by
   rw[hheap,Array.getElem?_append_left (by simpa using hgl),Array.getElem?_modify,if_pos rfl,hg];rfl
  have hFs:(flatK og 7 d').size=D.size*7:=by simp[hds]
  have hcs:D.size*7<=cur.size:=by rw[hs,hDs];omega
  have hlen2:((d'.toList.map (·.1)).flatMap iM).length=D.size*7:=by rw[<-OD,Array.length_toList,hFs]
  refine⟨rfl,d'.toList.map (·.1),?_,?_,⟨?_,.inr ⟨g,cap,_,?_,hb,hg',?_,hm,?_,?_⟩⟩,?_⟩
  ·rw[<-hD];apply List.Perm.map;have:=hperm.2.2;rw[Array.extract_size]at this;rw[show d'.extract 0 D.size=d' by rw[<-hds,Array.extract_size]]at this;exact this
  ·show List.Pairwise _ _;rw[List.pairwise_iff_getElem];intro i j hi hj hij;simp only[List.length_map,Array.length_toList]at hi hj;have:=hsort i j (Nat.zero_le _) hij (by omega);rw[getElem!_pos d' j hj,getElem!_pos d' i hi]at this;have h3:=of_decide_eq_false this;have h4:=EI (aO d'[j].1).at_ (aO d'[i].1).at_;simp only[List.getElem_map,Array.getElem_toList];unfold zJ at h3;omega
  ·rw[hlen2];simp[hds]
  ·simp[hds]
  ·simp[hds];omega
  ·simp[putCells,hs]
  ·rw[show(d'.toList.map (·.1)).length=D.size by simp[hds],<-OD];apply List.ext_getElem?;intro j
   by_cases hj:j<D.size*7
   ·rw[List.getElem?_take_of_lt hj,Array.getElem?_toList,Array.getElem?_toList];rw[putCells,Array.getElem?_mapIdx,Array.getElem?_eq_getElem (show j<cur.size by omega)];rw[Option.map_some,if_pos ⟨Nat.zero_le _,by omega⟩,Nat.sub_zero,id,getElem!_pos _ j (by omega)];exact(Array.getElem?_eq_getElem _).symm
   ·rw[List.getElem?_eq_none (by simp;omega),List.getElem?_eq_none (by rw[Array.length_toList];omega)]
  ·refine⟨by rw[hw'];rfl,by rw[hw'];rfl,by rw[hw'];rfl,?_,?_⟩
   ·rw[hheap];simp
   ·intro k hk hne;have hkg:g≠k:=by
     intro h;subst h;exact hne rfl
    rw[hheap,Array.getElem?_append_left (by simpa using hk),Array.getElem?_modify,if_neg hkg]
theorem aeL:(prog.info? 3).map (fun i=>(i.zero,i.size,i.bytes))=some (some (.int .i64 0),1,8):=by kernel_rfl
def BegunAt(w:World)(B n:Nat)(b:Nat->Int):Prop:=w.heap[B]?=some (.cells ((List.range n).map fun j=>Value.int .i64 (b j)).toArray 3 (0,0))
theorem BegunAt.cell{b:Nat->Int}(h:BegunAt w B n b){j:Nat}(hj:j<n):w.cell? ⟨B,j,none⟩=some (.int .i64 (b j)):=by
 rw[aj h];simp[hj]
theorem BegunAt.f{b:Nat->Int}(h:BegunAt w B n b)(j:Nat):w.frozen? ⟨B,j,none⟩=false:=Lib.frozen_of_heap h j
theorem BegunAt.set{b:Nat->Int}(h:BegunAt w B n b){l:Nat}(hl:l<n)(d:Int):BegunAt (w.setCell ⟨B,l,none⟩ (.int .i64 (b l+d))) B n (upd b l d):=by
 unfold BegunAt at h ⊢;simp only[World.setCell,Array.getElem?_modify,h,if_true,Option.map_some];congr 2;apply Array.ext';apply List.ext_getElem?;intro k;simp only[Option.isSome_none,Bool.false_eq_true,if_false];rw[Array.toList_setIfInBounds];simp only[List.getElem?_set,List.getElem?_map,List.length_map,List.length_range]
 by_cases hk:l=k
 ·subst hk;simp[hl,upd]
 ·simp only[hk,if_false]
  by_cases hkn:k<n
  ·simp[hkn,upd];intro e;exact absurd e.symm hk
  ·simp[hkn]
theorem BegunAt.grow{b:Nat->Int}(h:BegunAt w B n b)(hg:w.grownBy w' r)(hn:some B≠r):BegunAt w' B n b:=by
 unfold BegunAt at h ⊢;rw[hg.block B ((bJ h)) hn];exact h
theorem BegunAt.drew{b:Nat->Int}(h:BegunAt w B n b)(m:Nat):BegunAt (w.drewN m) B n b:=h
theorem aeM(n:Nat):madeCells #[Value.int .i64 0] n=((List.range n).map fun _=>Value.int .i64 0).toArray:=by
 apply Array.ext';simp[madeCells];intro a ha;rw[Nat.mod_one];rfl
theorem Xc{b b':Nat}{size:Nat}(h:w.ownsRow b e size v n xs)(hb:b'<=b):w.ownsRow b' e size v n xs:=by
 refine⟨h.1,?_⟩
 rcases h.2 with h|⟨g,cap,cur,h1,h2,h3⟩
 ·exact Or.inl h
 ·exact Or.inr ⟨g,cap,cur,h1,Nat.le_trans hb h2,h3⟩
def SweepPost(ch:Int->Bool)(Ls:List (List Sp))(w:World)(e:Ending)(w':World):Prop :=
 w.grownBy w' none/\((¬Ls.all (·.all iF)=true/\e=.returned (.tuple #[.slice none 0 0,.int .i64 2])) ∨
  (Ls.all (·.all iF)=true/\∃(E:List Er) (vs:Value),E.Perm (eP 0 Ls)/\rW (E.map aO)/\e=.returned (.tuple #[vs,.int .i64 0])/\SpS w' vs (outs (fK (fun b=>ch (having Ls.length b)) (fun _=>0) false (E.map aO)))/\w'.ownsRow w.heap.size 221 11 vs (outs (fK (fun b=>ch (having Ls.length b)) (fun _=>0) false (E.map aO))).length ((outs (fK (fun b=>ch (having Ls.length b)) (fun _=>0) false (E.map aO))).flatMap fM)))
theorem aeN{p0 p1 p2 p3 p4 p5 p6 p7 p8 p9:Addr}{c0 c1 c2 c3 c4 c5 c6 c7 c8 c9:Value}(hg:w.grownBy w' none)(h:w.cell? p0=some c0/\w.cell? p1=some c1/\w.cell? p2=some c2/\w.cell? p3=some c3/\w.cell? p4=some c4/\w.cell? p5=some c5/\w.cell? p6=some c6/\w.cell? p7=some c7/\w.cell? p8=some c8/\w.cell? p9=some c9):w'.cell? p0=some c0/\w'.cell? p1=some c1/\w'.cell? p2=some c2/\w'.cell? p3=some c3/\w'.cell? p4=some c4/\w'.cell? p5=some c5/\w'.cell? p6=some c6/\w'.cell? p7=some c7/\w'.cell? p8=some c8/\w'.cell? p9=some c9:=by
 obtain⟨h0,h1,h2,h3,h4,h5,h6,h7,h8,h9⟩:=h;exact⟨hg.cell h0 (by simp),hg.cell h1 (by simp),hg.cell h2 (by simp),hg.cell h3 (by simp),hg.cell h4 (by simp),hg.cell h5 (by simp),hg.cell h6 (by simp),hg.cell h7 (by simp),hg.cell h8 (by simp),hg.cell h9 (by simp)⟩
def aeO(ch:Int->Bool)(n B:Nat)(E:List Er)(w2:World)(vs vh von vi:Value)(wk:World):Prop :=
 ∃(i:Nat) (b:Nat->Int) (on:Bool) (T:List V),vi=.int .i64 i/\i<=E.length/\vh=.int .i64 (having n b)/\von=.bool on/\(∀j,-(i:Int)<=b j/\b j<=i) ∧
  fK (fun b=>ch (having n b)) (fun _=>0) false (E.map aO)=T++fK (fun b=>ch (having n b)) b on ((E.map aO).drop i)/\T.length<=i/\(T.length % 2=if on=true then 1 else 0) ∧
  BegunAt wk B n b/\wk.ownsRow w2.heap.size 221 11 vs (outs T).length ((outs T).flatMap fM)/\w2.grownBy wk (some B)
theorem Xd(fid:Nat)(n:Nat)(ch:Int->Bool)(hfn:∀x w,Calls prog fid #[.int .i64 x,.int .i64 (n:Int)] w fun e w'=>e=.returned (.bool (ch x))/\w'=w)(heg:∀args w,(callFunc fid args).run prog w=.ok (.enter fid args) w)(hsort:FD)(a:Addr)(cap:Nat)(Ls:List (List Sp))(w:World)(hn:Ls.length=n)(hcap:n<=cap)(hn2:n<=2)(h:Lists w a Ls)(hsz:∀l∈Ls,l.length<=1048576/\∀s∈l,lN s) :
  Calls prog 110 #[.func (.func fid) #[] #[],.slice (some a) n cap] w (SweepPost ch Ls w):=by
 have HA:=ae h;have HS:=ae hsz;have HN:=ae hn;have CE:=ae (fun w (h:Lists w a Ls)=>aeu hsort a n cap Ls w hn hcap hn2 h hsz);have hmk:=run_make_row' (P:=prog) 46 3 (.int .i64 0) 8 underlying46 aeL rfl .i64 .i64 n (by omega) (by omega);have l9:=ae hfn;clear h hsz hn hfn;go_enter func110,ntmps110;go_wp2;go_loopw [18] (fun vi wr=>∃j:Nat,vi=.int .i64 j/\j<=n/\(∀k (hk:k<Ls.length),k<j->Ls[k].all iF=true)/\w.grownBy wr none) (fun vi _=>n-(intOf vi).toNat)
 case atStart=>exact⟨0,rfl,Nat.zero_le _,fun k hk h=>absurd h (by omega),ax _ _⟩
 case round=>
  obtain⟨j,rfl,hj,hp,hg⟩:=hrel;have HP:=ae hp;have HG:=ae hg;clear hp hg
  by_cases hlt:j<n
  ·have hjl:j<Ls.length:=by rw[HN.o];exact hlt
   obtain⟨sl,hcell,hsp⟩:=HA.o j hjl;have cj:=HG.o.cell hcell (by simp);have CS:=ae (aem sl Ls[j] wr (hsp.grow HG.o) (HS.o _ (List.getElem_mem hjl)).1 (HS.o _ (List.getElem_mem hjl)).2);obtain⟨b,hb⟩:=zN (Ls[j].all iF);rw[hb]at CS;have HB:=ae hb;clear hcell hsp hb;go_wp2_with (go_at_call 137;refine CS.o.mono ?_);rintro e w1 ⟨rfl,hg⟩;replace HG:=ae (ak HG.o hg);clear hg cj
   cases b with
   |false=>
    go_wp2;refine bodyPost_ret (results_tmp2 rfl _ _ _) rfl ⟨HG.o,Or.inl ⟨fun hall=>?_,rfl⟩⟩;have:=List.all_eq_true.1 hall _ (List.getElem_mem hjl);rw[HB.o]at this;exact absurd this (by decide)
   |true=>
    go_wp2;go_roundw
    case rel=>
     refine⟨j+1,by go_num,by omega,fun k hk hkj=>?_,HG.o⟩
     by_cases hkj':k<j
     ·exact HP.o k hk hkj'
     ·have e:k=j:=by omega
      subst e;exact HB.o
    case measure=>simp[intOf];omega
  ·have vV:Hd (Ls.all (·.all iF)=true):=by
    show _=true;rw[List.all_eq_true];intro l hl;obtain⟨k,hk,rfl⟩:=List.getElem_of_mem hl;exact HP.o k hk (by rw[HN.o]at hk;omega)
   clear HP;go_wp2_with (go_at_call 138;refine(CE.o _ (HA.o.grow (aH HG.o _))).mono ?_);rintro e w2 ⟨ve,E,rfl,hp,hso,ho2,hb2⟩;obtain⟨B,hB⟩:=zN (wr.heap.size);have Xe:Hd (BegunAt w2 B n (fun _=>0)):=by
    show w2.heap[B]?=_;rw[hb2.block B (by rw[<-hB];simp),<-hB,heap_alloc_new wr,aeM]
   have hB2:=(bJ Xe.o);have HG2:=ae (ak (aH HG.o _) (acW hb2));have HWB:Hd (w.heap.size<=B):=by show _<=_;rw[<-hB];exact HG.o.size
   have lu:Hd (E.Perm (eP 0 Ls)/\rW (E.map aO)):=⟨hp,hso⟩;have OE:Hd (E.length<=8388608/\∀e∈E,e.l<n/\(e.d=1\/e.d=-1)/\e.a4.size<=1048576):=by
    show _/\_;have hl:=W9 Ls (fun l hl=>(HS.o l hl).1) 0;rw[HN.o]at hl;refine⟨by rw[hp.length_eq];omega,fun e he=>?_⟩;have he':=hp.mem_iff.1 he;have h1:=aez Ls 0 e he';have h2:=Oz Ls HS.o 0 e he';rw[HN.o]at h1;exact⟨by omega,h1.2.2,h2⟩
   have hbase:(wr.alloc (.cells (madeCells #[.int .i64 0] n) 3)).heap.size=B+1:=by rw[<-hB];simp
   rw[hbase]at ho2;rw[hB];have hef:=aeB ho2;clear hB hb2 hp hso ho2 hbase HG hmk;have FIN:Hd (∀(vs:Value) (T:List V) (wk:World),w2.grownBy wk (some B)->wk.ownsRow w2.heap.size 221 11 vs (outs T).length ((outs T).flatMap fM)->fK (fun b=>ch (having n b)) (fun _=>0) false (E.map aO)=T->SweepPost ch Ls w (.returned (.tuple #[vs,.int .i64 0])) wk):=by
    intro vs T wk h1 h2 h3;have h4:w.grownBy wk none:=⟨h1.os.trans HG2.o.os,h1.tape.trans HG2.o.tape,h1.output.trans HG2.o.output,Nat.le_trans HG2.o.size h1.size,fun k hk _=>(h1.block k (Nat.lt_of_lt_of_le hk HG2.o.size) (by have:=HWB.o;simp;omega)).trans (HG2.o.block k hk (by simp))⟩;refine⟨h4,Or.inr ⟨vV.o,E,vs,lu.o.1,lu.o.2,rfl,?_⟩⟩;rw[HN.o,h3];exact⟨WP h2,Xc h2 HG2.o.size⟩
   rcases hef with⟨rfl,hE⟩|⟨ga,capE,rfl,hcE,hga,Xf,hgs,Xg⟩
   ·have oh:=ae hE;clear hE;go_wp2;go_loopw [8,9,10,33] (fun vs vh von vi wk=>vi=.int .i64 0/\vs=.slice none 0 0/\w2.grownBy wk (some B)) (fun _ _ _ vi _=>0)
    case atStart=>exact⟨rfl,rfl,ax _ _⟩
    case round=>
     obtain⟨rfl,rfl,hgk⟩:=hrel;have HF:=ae (FIN.o (.slice none 0 0) [] wr hgk (World.ownsRow_nil _ _ _ _) (by rw[oh.o];rfl));clear hgk;go_wp2;exact bodyPost_ret (results_tmp2 (t:=4) (u:=5) rfl _ _ _) rfl HF.o
   ·have Xh:=ae Xg;have dh:Hd (B<ga.block/\ga.block<w2.heap.size/\ga.spot=none):=⟨by omega,Xf,hgs⟩;clear Xg hga Xf hgs;go_wp2;go_loopw [8,9,10,33] (fun vs vh von vi wk=>aeO ch n B E w2 vs vh von vi wk) (fun _ _ _ vi _=>E.length-(intOf vi).toNat)
    case atStart=>exact⟨0,fun _=>0,false,[],rfl,Nat.zero_le _,by rw[aeF],rfl,fun _=>by simp,rfl,Nat.le_refl _,rfl,Xe.o,World.ownsRow_nil _ _ _ _,ax _ _⟩
    case round=>
     obtain⟨i,b,on,T,rfl,hi,rfl,rfl,hbb,hT,OG,OH,hbg,how,hgw⟩:=hrel
     by_cases hlt:i<E.length
     ·obtain⟨er,her⟩:=zN (E[i]);have HE:Hd (EdAt wr (ga.add (i*7)) er):=by
       show EdAt wr _ er;rw[<-her];exact(Xh.o i hlt).grow hgw (by rw[add_block];have:=dh.o.1;simp;omega)
      obtain⟨e0,e1,e2,e3,e4,e5,e6⟩:=HE.o;have hme:=OE.o.2 er (by rw[<-her];exact List.getElem_mem hlt);have OI:=OE.o.1;obtain⟨N,hN⟩:=zN (wr.heap.size);obtain⟨W3,hW3⟩:=zN (wr.alloc (.cells #[.int .i64 er.a1,.int .i64 er.a2,.int .i64 er.a3,.string er.a4,.string er.a5,.int .i64 er.l,.int .i64 er.d] 240));have hg3:wr.grownBy W3 none:=by rw[<-hW3];exact aH (ax wr none) _
      have hNl:w2.heap.size<=N:=by rw[<-hN];exact hgw.size
      have EC:Hd (N≠B/\w2.heap.size<=N):=⟨by omega,hNl⟩;have HR3:Hd (EdAt W3 ⟨N,0,none⟩ er):=by
       show EdAt W3 _ er;have hr:W3.heap[N]?=some (.cells #[.int .i64 er.a1,.int .i64 er.a2,.int .i64 er.a3,.string er.a4,.string er.a5,.int .i64 er.l,.int .i64 er.d] 240 (0,0)):=by rw[<-hW3,<-hN];exact heap_alloc_new wr _
       exact⟨by rw[aj hr];rfl,by rw[aj hr];rfl,by rw[aj hr];rfl,by rw[aj hr];rfl,by rw[aj hr];rfl,by rw[aj hr];rfl,by rw[aj hr];rfl⟩
      have OJ:=ae (hbg.grow hg3 (by simp));have BR:=ae (sF how hg3);have aU:=ae (ak hgw (iy hg3 _));obtain⟨d0,d1,d2,d3,d4,d5,d6⟩:=HR3.o;simp only[Nat.zero_add]at d1 d2 d3 d4 d5 d6;have cb:=OJ.o.cell hme.1;have fb:=OJ.o.f er.l;have hbl:=hbb er.l;have CB:=ae (fun wx (h1:wx.cell? ⟨B,er.l,none⟩=some (.int .i64 (b er.l))) (h2:wx.frozen? ⟨B,er.l,none⟩=false)=>aep B er.l (b er.l) er.d wx h1 h2 (by omega) (by omega));have hhb:=aey n b i hbb;have hni:(n:Int)*i<=2*8388608:=by
       have h1:(n:Int)<=2:=by omega
       have h2:(i:Int)<=8388608:=by omega
       have h3:(n:Int)*i<=2*i:=Int.mul_le_mul_of_nonneg_right h1 (by omega);omega
      have hw:IntKind.i64.wrap (having n b+(min (b er.l+er.d) 1-min (b er.l) 1))=having n (upd b er.l er.d):=by
       rw[aex n er.l er.d b hme.1,IntKind.wrap_i64];omega
      have hln:=hme.1;have hNB:=EC.o.1;have eY:Hd (er.l<n/\(er.d=1\/er.d=-1)/\er.a4.size<=1048576/\E.length<=8388608):=⟨hme.1,hme.2.1,hme.2.2,OI⟩;have zD:=ae hbb;have kH:Hd (fK (fun b=>ch (having n b)) (fun _=>0) false (E.map aO)=T++fK (fun b=>ch (having n b)) b on ((E.map aO).drop i)/\T.length<=i/\(T.length % 2=if on=true then 1 else 0)):=⟨hT,OG,OH⟩;have iO:=ae her;clear hbb hT OG OH hbg how hgw her hme OI hbl hhb hni hg3 hNl;have kk:∀o v,W3.cell? ⟨N,o,none⟩=some v->(W3.setCell ⟨B,er.l,none⟩ (.int .i64 (b er.l+er.d))).cell? ⟨N,o,none⟩=some v:=fun o v h=>by
       rw[<-h];exact World.cell?_of_block (heap_setCell_other W3 _ N _ hNB)
      have k0:=kk 0 _ d0;have k1:=kk 1 _ d1;have k2:=kk 2 _ d2;have k3:=kk 3 _ d3;have k4:=kk 4 _ d4;have k5:=kk 5 _ d5;have k6:=kk 6 _ d6;obtain⟨W4,BZ⟩:=zN ((W3.setCell ⟨B,er.l,none⟩ (.int .i64 (b er.l+er.d))).drew);have HR4:Hd (EdAt W4 ⟨N,0,none⟩ er):=by show EdAt W4 _ er;rw[<-BZ];exact⟨k0,k1,k2,k3,k4,k5,k6⟩
      have Xi:Hd (BegunAt W4 B n (upd b er.l er.d)):=by show BegunAt W4 _ _ _;rw[<-BZ];exact OJ.o.set eY.o.1 er.d
      have dn:Hd (w2.grownBy W4 (some B)):=by show w2.grownBy W4 _;rw[<-BZ];exact az (aT aU.o _ _) 1
      have Xj:Hd (W4.ownsRow w2.heap.size 221 11 u8 (outs T).length ((outs T).flatMap fM)):=by
       show World.ownsRow _ _ _ _ _ _ _;rw[<-BZ];refine BR.o.kept (w':=(W3.setCell ⟨B,er.l,none⟩ (.int .i64 (b er.l+er.d))).drew) (az (aT (ax W3 (some B)) er.l (.int .i64 (b er.l+er.d))) 1) ?_
       cases ho:u8.ownBlock with
       |none=>exact Or.inl rfl
       |some q=>exact Or.inr (fun e=>by have:=(BR.o.lt q ho).1;injection e with e;omega)
      clear kk;have j5:W4.cell? ⟨N,5,none⟩=some (.int .i64 er.l):=HR4.o.2.2.2.2.2.1;have j6:W4.cell? ⟨N,6,none⟩=some (.int .i64 er.d):=HR4.o.2.2.2.2.2.2;go_wp2
      go_region_held3 (fun w'=>w'.cell? ⟨N,5,none⟩=some (.int .i64 er.l)/\w'.cell? ⟨N,6,none⟩=some (.int .i64 er.d)) ((first|exact⟨d5,d6⟩|exact⟨j5,j6⟩|exact⟨k5,k6⟩|go_keep)) (first|(go_at_call 139;refine(CB.o W3.drew cb fb).mono ?_;rintro e w4 ⟨rfl,rfl⟩))
      try rw[BZ]
      clear BZ j5 j6 k0 k1 k2 k3 k4 k5 k6 cb fb hw d0 d1 d2 d3 d4 d5 d6 CB hW3 hN;obtain⟨d0,d1,d2,d3,d4,d5,d6⟩:=HR4.o;simp only[Nat.zero_add]at d1 d2 d3 d4 d5 d6;have HST:Hd (fK (fun b=>ch (having n b)) b on ((E.map aO).drop i)=if mW (aO er) ((E.map aO).drop (i+1))=true then fK (fun b=>ch (having n b)) (upd b er.l er.d) on ((E.map aO).drop (i+1)) else if ch (having n (upd b er.l er.d))=on then fK (fun b=>ch (having n b)) (upd b er.l er.d) on ((E.map aO).drop (i+1)) else(aO er).at_ :: fK (fun b=>ch (having n b)) (upd b er.l er.d) (ch (having n (upd b er.l er.d))) ((E.map aO).drop (i+1))):=by
       show fK _ _ _ _=_;have hd:(E.map aO).drop i=aO er :: (E.map aO).drop (i+1):=by
        rw[List.drop_eq_getElem_cons (by simpa using hlt),List.getElem_map,iO.o]
       rw[hd];rfl
      have FI:Hd (∀j,-((i+1:Nat):Int)<=upd b er.l er.d j/\upd b er.l er.d j<=((i+1:Nat):Int)):=by
       intro k;have h1:=zD.o k;have h2:=eY.o.2.1;unfold upd;split<;>omega
      have OI:=eY.o.2.2.2;have hw1:IntKind.i64.wrap ((i:Int)+1)=((i+1:Nat):Int):=by rw[IntKind.wrap_i64];omega
      obtain⟨H,hH⟩:=zN (having n (upd b er.l er.d));have HH:=ae hH;rw[hH];clear hH
      rcases Nat.lt_or_ge (i+1) E.length with hnx|hnl
      all_goals (
       first
        | (obtain⟨er2,Jw⟩:=zN (E[i+1])
           have HE2:Hd (EdAt W4 (ga.add ((i+1)*7)) er2):=by
            show EdAt W4 _ er2;rw[<-Jw];exact(Xh.o (i+1) hnx).grow dn.o (by rw[add_block];have:=dh.o.1;simp;omega)
           obtain⟨x,hx⟩:=zN (dY (aO er).at_ (aO er2).at_);have hm2:=(OE.o.2 er2 (by rw[<-Jw];exact List.getElem_mem hnx)).2.2;have ed:Hd (mW (aO er) ((E.map aO).drop (i+1))=decide (x=0)):=by
            show mW _ _=_;rw[List.drop_eq_getElem_cons (by simpa using hnx),List.getElem_map,Jw,<-hx];rfl
           have CC:Hd (∀w,Calls prog 140 #[.agg #[.int .i64 er.a1,.int .i64 er.a2,.int .i64 er.a3,.string er.a4,.string er.a5],.agg #[.int .i64 er2.a1,.int .i64 er2.a2,.int .i64 er2.a3,.string er2.a4,.string er2.a5]] w fun e w'=>e=.returned (.int .i64 x)/\w.grownBy w' none):=fun w=>by
            rw[<-hx];exact compare_any er.a1 er.a2 er.a3 er2.a1 er2.a2 er2.a3 er.a4 er.a5 er2.a4 er2.a5 w (by have:=eY.o.2.2.1;omega) (by omega)
           obtain⟨q0,q1,q2,q3,q4,q5,q6⟩:=HE2.o;clear hx Jw hm2;have hnx2:decide (((i+1:Nat):Int)<(E.length:Int))=true:=by simp;omega
           have hnx3:decide (i+1<E.length)=true:=by simp;omega
           have OL:decide ((i:Int)+1<(E.length:Int))=true:=by simp;omega
           have aeP:((i+1:Nat):Int)<(E.length:Int):=by omega
           have aeQ:(0:Int)<=((i+1:Nat):Int):=by omega
           have aeR:(i:Int)+1<(E.length:Int):=by omega
           have aeS:(0:Int)<=(i:Int)+1:=by omega
           have aeT:((i:Int)+1).toNat=i+1:=by omega
           go_wp2
           go_region_held3 (fun w'=>w'.cell? ⟨N,0,none⟩=some (.int .i64 er.a1)/\w'.cell? ⟨N,1,none⟩=some (.int .i64 er.a2)/\w'.cell? ⟨N,2,none⟩=some (.int .i64 er.a3)/\w'.cell? ⟨N,3,none⟩=some (.string er.a4)/\w'.cell? ⟨N,4,none⟩=some (.string er.a5)/\w'.cell? (ga.add ((i+1)*7))=some (.int .i64 er2.a1)/\w'.cell? ⟨(ga.add ((i+1)*7)).block,(ga.add ((i+1)*7)).off+1,none⟩=some (.int .i64 er2.a2)/\w'.cell? ⟨(ga.add ((i+1)*7)).block,(ga.add ((i+1)*7)).off+2,none⟩=some (.int .i64 er2.a3)/\w'.cell? ⟨(ga.add ((i+1)*7)).block,(ga.add ((i+1)*7)).off+3,none⟩=some (.string er2.a4)/\w'.cell? ⟨(ga.add ((i+1)*7)).block,(ga.add ((i+1)*7)).off+4,none⟩=some (.string er2.a5)) ((first|exact aeN (by assumption) (by assumption)|go_keep)) (first|(go_at_call 140;refine(CC.o _).mono ?_;rintro e w5 ⟨rfl,hg5⟩))
           have nz:=ae (HR4.o.grow (jJ hg5) (by simp));have Cb:=ae (Xi.o.grow (jJ hg5) (by simp));have uJ:=ae (sF Xj.o (jJ hg5));have fJ:=ae (ak dn.o (iy (jJ hg5) _));clear hg5 q0 q1 q2 q3 q4 q5 q6 d0 d1 d2 d3 d4 d5 d6 hnx2 hnx3 OL aeP aeQ aeR aeS aeT
           by_cases hxx:x=0
           ·have hx0:(x == 0)=true:=by simp[hxx]
            have ww:Hd (fK (fun b=>ch (having n b)) (fun _=>0) false (E.map aO)=T++fK (fun b=>ch (having n b)) (upd b er.l er.d) on ((E.map aO).drop (i+1))):=by
             show _=_;rw[kH.o.1,HST.o,ed.o,hxx];rfl
            have kJ:Hd (T.length<=i/\(T.length % 2=if on=true then 1 else 0)):=⟨kH.o.2.1,kH.o.2.2⟩;clear kH HST;go_wp2;go_roundw
            case rel=>exact⟨i+1,upd b er.l er.d,on,T,by go_num,by omega,by rw[HH.o],rfl,FI.o,ww.o,by have:=kJ.o.1;omega,kJ.o.2,Cb.o,uJ.o,fJ.o⟩
            case measure=>simp[intOf];omega
           have hx0:(x == 0)=false:=by simp[hxx]
           have Xk:Hd (mW (aO er) ((E.map aO).drop (i+1))=false):=by show mW _ _=_;rw[ed.o,decide_eq_false hxx]
           replace ed:=Xk;clear hxx Xk)
        | (have ed:Hd (mW (aO er) ((E.map aO).drop (i+1))=false):=by
            show mW _ _=false;rw[List.drop_of_length_le (by simp;omega)];rfl
           have hnx2:decide (((i+1:Nat):Int)<(E.length:Int))=false:=by simp;omega
           have hnx3:decide (i+1<E.length)=false:=by simp;omega
           have OL:decide ((i:Int)+1<(E.length:Int))=false:=by simp;omega
           go_wp2;go_quiet (fail);obtain⟨w5,hw5⟩:=zN (W4.drewN nq);have nz:Hd (EdAt w5 ⟨N,0,none⟩ er):=by show EdAt w5 _ er;rw[<-hw5];exact HR4.o
           have Cb:Hd (BegunAt w5 B n (upd b er.l er.d)):=by show BegunAt w5 _ _ _;rw[<-hw5];exact Xi.o
           have uJ:Hd (w5.ownsRow w2.heap.size 221 11 u8 (outs T).length ((outs T).flatMap fM)):=by show World.ownsRow _ _ _ _ _ _ _;rw[<-hw5];exact sF Xj.o (az (ax W4 none) nq)
           have fJ:Hd (w2.grownBy w5 (some B)):=by show w2.grownBy w5 _;rw[<-hw5];exact az dn.o nq
           try rw[hw5]
           clear hw5 d0 d1 d2 d3 d4 d5 d6 hnx2 hnx3 OL)
       have Cc:Hd (ch (having n (upd b er.l er.d))=ch H):=by show ch _=_;rw[HH.o]
       obtain⟨d0,d1,d2,d3,d4,d5,d6⟩:=nz.o;simp only[Nat.zero_add]at d1 d2 d3 d4 d5 d6
       cases hc:ch H with
       |false=>
        rw[hc]at Cc
        cases on with
        |false=>
         have ww:Hd (fK (fun b=>ch (having n b)) (fun _=>0) false (E.map aO)=T++fK (fun b=>ch (having n b)) (upd b er.l er.d) false ((E.map aO).drop (i+1))):=by
          show _=_;rw[kH.o.1,HST.o,ed.o,Cc.o];rfl
         have kJ:Hd (T.length<=i/\(T.length % 2=if false=true then 1 else 0)):=⟨kH.o.2.1,kH.o.2.2⟩;clear kH HST;go_wp2_with (first|(with_reducible refine(l9.o _ _).mono ?_;rintro e w' ⟨rfl,rfl⟩));go_roundw
         case rel=>exact⟨i+1,upd b er.l er.d,false,T,by go_num,by omega,by rw[HH.o],rfl,FI.o,ww.o,by have:=kJ.o.1;omega,kJ.o.2,Cb.o,uJ.o,fJ.o⟩
         case measure=>simp[intOf];omega
        |true=>
         have OM:=ae (fun w=>WQ er.a1 er.a2 er.a3 er.a4 er.a5 w (by have:=eY.o.2.2.1;omega));have ww:Hd (fK (fun b=>ch (having n b)) (fun _=>0) false (E.map aO)=(T++[(aO er).at_])++fK (fun b=>ch (having n b)) (upd b er.l er.d) false ((E.map aO).drop (i+1))):=by
          show _=_;rw[kH.o.1,HST.o,ed.o,Cc.o,List.append_assoc];rfl
         have kJ:Hd (T.length<=i/\T.length % 2=1):=⟨kH.o.2.1,by have:=kH.o.2.2;simpa using this⟩;have Xl:(outs T).length<=8388608:=by have q1:=OC T;have q2:=kJ.o.1;omega
         obtain⟨A,y,hA1,hA2⟩:=WX T (aO er).at_ kJ.o.2;rw[hA1]at uJ Xl;obtain⟨M,hM⟩:=zN (A.length);have hlen:(A++[iI y oV true]).length=M+1:=by rw[List.length_append,hM];rfl
         rw[hlen]at uJ Xl;obtain⟨gs,capS,hu8⟩:∃gs capS,u8=.slice (some ⟨gs,0,none⟩) (M+1) capS:=by
          rcases uJ.o.2 with⟨_,h0⟩|⟨g,cap,cur,h1,_⟩
          ·omega
          ·exact⟨g,cap,h1⟩
         subst hu8;have HA2:Hd (outs (T++[(aO er).at_])=A++[iI y (aO er).at_ false]/\A.length=M):=⟨hA2,hM⟩;have hm1:IntKind.i64.wrap (((M+1:Nat):Int)-1)=((M:Nat):Int):=by rw[IntKind.wrap_i64];omega
         have hm2:((M+1:Nat):Int)-1=(M:Int):=by omega
         have uK:(M:Int)<((M+1:Nat):Int):=by omega
         have hm4:(M:Int)<(M:Int)+1:=by omega
         clear kH HST hA1 hA2 hM hlen;go_wp2_with (first|(go_at_call 141;refine(OM.o _).mono ?_)|(with_reducible refine(l9.o _ _).mono ?_;rintro e w9 ⟨rfl,FK⟩;rw[FK];clear FK));rintro e w6 ⟨rfl,dV⟩;have wz:=ae (sF uJ.o dV);have aeU:=ae (Cb.o.grow dV (by simp));have lL:=ae (ak fJ.o (iy dV _));have kC:=ae ((wz.o.lt gs rfl).1);have c5:=BX wz.o HA2.o.2 5 _ rfl;have c6:=BX wz.o HA2.o.2 6 _ rfl;have c7:=BX wz.o HA2.o.2 7 _ rfl;have c8:=BX wz.o HA2.o.2 8 _ rfl;have c9:=BX wz.o HA2.o.2 9 _ rfl;have c10:=BX wz.o HA2.o.2 10 _ rfl;have fz:=aeE wz.o;clear dV d0 d1 d2 d3 d4 d5 d6;go_wp2;clear c5 c6 c7 c8 c9 c10 fz;have g9:w6.grownBy ((((((w6.setCell ⟨gs,M*11+5,none⟩ (.int .i64 er.a1)).setCell ⟨gs,M*11+5+1,none⟩ (.int .i64 er.a2)).setCell ⟨gs,M*11+5+2,none⟩ (.int .i64 er.a3)).setCell ⟨gs,M*11+5+3,none⟩ (.string er.a4)).setCell ⟨gs,M*11+5+4,none⟩ (.string ⟨#[]⟩)).setCell ⟨gs,M*11+10,none⟩ (.bool false)) (some gs):=aT (aT (aT (aT (aT (aT (ax w6 (some gs)) _ _) _ _) _ _) _ _) _ _) _ _
         have o9:=BU (BU (BU (BU (BU (BU wz.o (M*11+5) (.int .i64 er.a1) (by omega)) (M*11+5+1) (.int .i64 er.a2) (by omega)) (M*11+5+2) (.int .i64 er.a3) (by omega)) (M*11+5+3) (.string er.a4) (by omega)) (M*11+5+4) (.string ⟨#[]⟩) (by omega)) (M*11+10) (.bool false) (by omega);have hfl:(A++[iI y oV true]).flatMap fM=A.flatMap fM++fM (iI y oV true):=by rw[List.flatMap_append];simp
         have hPl:(A.flatMap fM).length=M*11:=by rw[aew,HA2.o.2]
         rw[hfl]at o9;have hcl:=aeD er y hPl;have hol:(outs (T++[(aO er).at_])).length=M+1:=by rw[HA2.o.1,List.length_append,HA2.o.2];rfl
         have hof:(outs (T++[(aO er).at_])).flatMap fM=A.flatMap fM++fM (iI y (aO er).at_ false):=by rw[HA2.o.1,List.flatMap_append];simp
         have aeV:B≠gs:=by have:=kC.o;omega
         refine⟨⟨i+1,upd b er.l er.d,false,T++[(aO er).at_],by go_num,by omega,by rw[HH.o],rfl,FI.o,ww.o,by have:=kJ.o.1;simp;omega,by have:=kJ.o.2;simp;omega,aeU.o.grow g9 (by simpa using aeV),?_,WZ lL.o g9 (fun q hq=>by injection hq with hq;have:=kC.o;omega)⟩,by simp[intOf];omega⟩;rw[hol,hof,<-hcl];exact o9
       |true=>
        rw[hc]at Cc
        cases on with
        |false=>
         have OM:=ae (fun w=>WQ er.a1 er.a2 er.a3 er.a4 er.a5 w (by have:=eY.o.2.2.1;omega));have ww:Hd (fK (fun b=>ch (having n b)) (fun _=>0) false (E.map aO)=(T++[(aO er).at_])++fK (fun b=>ch (having n b)) (upd b er.l er.d) true ((E.map aO).drop (i+1))):=by
          show _=_;rw[kH.o.1,HST.o,ed.o,Cc.o,List.append_assoc];rfl
         have kJ:Hd (T.length<=i/\T.length % 2=0):=⟨kH.o.2.1,by have:=kH.o.2.2;simpa using this⟩;have Xm:Hd ((outs T).length<=8388608):=by show _<=_;have q1:=OC T;have q2:=kJ.o.1;omega
         have hinfo:=WN;obtain⟨i1,hj0,hjj⟩:=Option.map_eq_some_iff.1 hinfo;simp only[Prod.mk.injEq]at hjj;obtain⟨hy0,hy1,hyb⟩:=hjj;clear kH HST hinfo;go_wp2_with (first|(go_at_call 141;refine(OM.o _).mono ?_;rintro e w6 ⟨rfl,dV⟩)|(at_builtin;refine wpList_append_own _ rfl _ _ 105 rfl w2.heap.size 221 i1 _ 11 120 underlying105 hj0 hy0 hy1 hyb rfl (by decide) _ _ _ rfl ((sF uJ.o dV).alloc _) _ 1 1 (fM (iI (aO er).at_ oV true)) rfl rfl (by rw[aeC];exact World.news_of_block (heap_alloc_new _ _)) (WO _) (by unfold maxLen;have:=Xm.o;omega) (by have:=Xm.o;omega) (by have q1:=fJ.o.size;have q2:=dV.size;simp;omega) ?_;intro v' w7 hown7 hgrow _)|(with_reducible refine(l9.o _ _).mono ?_;rintro e w9 ⟨rfl,FK⟩;rw[FK];clear FK));have iV:w5.grownBy (w6.alloc (.cells #[.int .i64 er.a1,.int .i64 er.a2,.int .i64 er.a3,.string er.a4,.string ⟨#[]⟩,.int .i64 0,.int .i64 0,.int .i64 0,.string ⟨#[]⟩,.string ⟨#[]⟩,.bool true] 221)) none:=ak dV (aH (ax w6 none) _)
         have hrow:=fun q (hq:u8.ownBlock=some q)=>(uJ.o.lt q hq).1
         have jo:=ae ((Cb.o.grow iV (by simp)).grow hgrow (fun e=>by have:=hrow B e.symm;omega));have HF2:=ae (WZ (ak fJ.o (iy iV _)) hgrow hrow);have HF3:Hd (w7.ownsRow w2.heap.size 221 11 v' (outs (T++[(aO er).at_])).length ((outs (T++[(aO er).at_])).flatMap fM)):=by
          show World.ownsRow _ _ _ _ _ _ _;rw[WV T _ kJ.o.2,List.length_append,List.flatMap_append];simpa using hown7
         exact⟨⟨i+1,upd b er.l er.d,true,T++[(aO er).at_],by go_num,by omega,by rw[HH.o],rfl,FI.o,ww.o,by have:=kJ.o.1;simp;omega,by have:=kJ.o.2;simp;omega,jo.o,HF3.o,HF2.o⟩,by simp[intOf];omega⟩
        |true=>
         have ww:Hd (fK (fun b=>ch (having n b)) (fun _=>0) false (E.map aO)=T++fK (fun b=>ch (having n b)) (upd b er.l er.d) true ((E.map aO).drop (i+1))):=by
          show _=_;rw[kH.o.1,HST.o,ed.o,Cc.o];rfl
         have kJ:Hd (T.length<=i/\(T.length % 2=if true=true then 1 else 0)):=⟨kH.o.2.1,kH.o.2.2⟩;clear kH HST;go_wp2_with (first|(with_reducible refine(l9.o _ _).mono ?_;rintro e w' ⟨rfl,rfl⟩));go_roundw
         case rel=>exact⟨i+1,upd b er.l er.d,true,T,by go_num,by omega,by rw[HH.o],rfl,FI.o,ww.o,by have:=kJ.o.1;omega,kJ.o.2,Cb.o,uJ.o,fJ.o⟩
         case measure=>simp[intOf];omega)
     ·have hie:i=E.length:=by omega
      have HF:=ae (FIN.o u8 T wr hgw how (by rw[hT,hie,List.drop_of_length_le (by simp)];simp[fK]));clear hT OG OH hbg how hgw hbb hie hi;go_wp2;exact bodyPost_ret (results_tmp2 (t:=4) (u:=5) rfl _ _ _) rfl HF.o
theorem aeW(hsort:FD)(a:Addr)(n cap:Nat)(Ls:List (List Sp))(w:World)(hn:Ls.length=n)(hcap:n<=cap)(hn2:n<=2)(h:Lists w a Ls)(hsz:∀l∈Ls,l.length<=1048576/\∀s∈l,lN s) :
  Calls prog 110 #[.func (.func 111) #[] #[],.slice (some a) n cap] w (SweepPost (fun x=>decide (0<x)) Ls w) :=
 Xd 111 n _ (fun x w=>aen x n w) Tryz.call111 hsort a cap Ls w hn hcap hn2 h hsz
theorem aeX(hsort:FD)(a:Addr)(n cap:Nat)(Ls:List (List Sp))(w:World)(hn:Ls.length=n)(hcap:n<=cap)(hn2:n<=2)(h:Lists w a Ls)(hsz:∀l∈Ls,l.length<=1048576/\∀s∈l,lN s) :
  Calls prog 110 #[.func (.func 162) #[] #[],.slice (some a) n cap] w (SweepPost (fun x=>decide (x=(n:Int))) Ls w) :=
 Xd 162 n _ (fun x w=>aeo x n w) Tryz.call162 hsort a cap Ls w hn hcap hn2 h hsz
theorem Ce{L:List Sp}(h:SpS w sl L):∃o n c,sl=.slice o n c:=by
 rcases h with⟨rfl,_⟩|⟨a,cap,rfl,_⟩
 ·exact⟨_,_,_,rfl⟩
 ·exact⟨_,_,_,rfl⟩
theorem SweepPost.from{ch:Int->Bool}{Ls:List (List Sp)}{w1:World}{e:Ending}(hg:w.grownBy w1 none)(h:SweepPost ch Ls w1 e w'):SweepPost ch Ls w e w':=by
 refine⟨ak hg h.1,?_⟩
 rcases h.2 with h1|⟨h1,E,vs,h2,h3,h4,h5,h6⟩
 ·exact Or.inl h1
 ·exact Or.inr ⟨h1,E,vs,h2,h3,h4,h5,Xc h6 hg.size⟩
theorem SweepPost.two{ch:Int->Bool}{Ls:List (List Sp)}{e:Ending}(h:SweepPost ch Ls w e w'):∃o n c r,e=.returned (.tuple #[.slice o n c,.int .i64 r]):=by
 rcases h.2 with⟨_,rfl⟩|⟨_,E,vs,_,_,rfl,hs,_⟩
 ·exact⟨_,_,_,_,rfl⟩
 ·obtain⟨o,n,c,rfl⟩:=Ce hs;exact⟨_,_,_,_,rfl⟩
theorem aeY(sl:Value)(L:List Sp)(w:World)(h:SpS w sl L)(hL:L.length<=1048576)(hsz:∀s∈L,lN s) :
  Calls prog 80 #[sl] w (SweepPost (fun x=>decide (0<x)) [L] w):=by
 have HA:=ae h;have CS:=ae (fun a w (h:Lists w a [L])=>aeW Xb a 1 1 [L] w rfl (by omega) (by omega) h (by intro l hl;simp at hl;subst hl;exact⟨hL,hsz⟩));obtain⟨o,n,c,rfl⟩:=Ce h;clear h hL hsz;go_enter func80,ntmps80;go_wp2_with (go_at_call 110;refine(CS.o _ _ ?_).mono ?_)
 ·have hg:=aH (ax w none) (.cells #[.slice o n c] 105);intro j hj;have hj':j=0:=by simp at hj;omega
  subst hj';exact⟨.slice o n c,by rw[show(⟨w.heap.size,0,none⟩:Addr).add 0=⟨w.heap.size,0,none⟩ from FH _ _,aj (heap_alloc_new w _)];rfl,HA.o.grow hg⟩
 intro e w1 hp;have HP:=SweepPost.from (aH (ax w none) _) hp
 clear hp;obtain⟨o2,n2,c2,r2,rfl⟩:=HP.two;have HQ:=ae HP;clear HP;go_wp2;exact bodyPost_ret (results_tmp2 (t:=2) (u:=3) rfl _ _ _) rfl HQ.o
theorem aeZ(sl sm:Value)(L M:List Sp)(w:World)(h:SpS w sl L)(h':SpS w sm M)(hL:L.length<=1048576)(hsz:∀s∈L,lN s)(hM:M.length<=1048576)(hsm:∀s∈M,lN s) :
  Calls prog 134 #[sl,sm] w (SweepPost (fun x=>decide (x=((2:Nat):Int))) [L,M] w):=by
 have HA:=ae h;have HB:=ae h';have CS:=ae (fun a w (h:Lists w a [L,M])=>aeX Xb a 2 2 [L,M] w rfl (by omega) (by omega) h (by intro l hl;simp at hl;rcases hl with rfl|rfl<;>first|exact⟨hL,hsz⟩|exact⟨hM,hsm⟩));obtain⟨o,n,c,rfl⟩:=Ce h;obtain⟨o',n',c',rfl⟩:=Ce h';clear h';clear hM hsm;clear h hL hsz;go_enter func134,ntmps134;go_wp2_with (go_at_call 110;refine(CS.o _ _ ?_).mono ?_)
 ·have hg:=aH (ax w none) (.cells #[.slice o n c,.slice o' n' c'] 105);intro j hj;have hj':j=0\/j=1:=by simp at hj;omega
  rcases hj' with rfl|rfl
  ·exact⟨.slice o n c,by rw[show(⟨w.heap.size,0,none⟩:Addr).add 0=⟨w.heap.size,0,none⟩ from FH _ _,aj (heap_alloc_new w _)];rfl,HA.o.grow hg⟩
  ·exact⟨.slice o' n' c',by rw[show(⟨w.heap.size,0,none⟩:Addr).add 1=⟨w.heap.size,1,none⟩ from FH _ _,aj (heap_alloc_new w _)];rfl,HB.o.grow hg⟩
 intro e w1 hp;have HP:=SweepPost.from (aH (ax w none) _) hp
 clear hp;obtain⟨o2,n2,c2,r2,rfl⟩:=HP.two;have HQ:=ae HP;clear HP;go_wp2;exact bodyPost_ret (results_tmp2 (t:=4) (u:=5) rfl _ _ _) rfl HQ.o
end Go.Proofs.YtbcfhgpfgdbjgaaGreatDoor
