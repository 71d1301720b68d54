import Derived.Test.YtiinliaoojfjaaaGreatDoorF31
import Derived.Test.YtiinliaoojfjaaaGreatDoorF32
import Derived.Test.YtiinliaoojfjaaaGreatDoorF23
import Derived.Test.YtiinliaoojfjaaaGreatDoorF25
set_option linter.all false
set_option maxRecDepth 100000
set_option maxHeartbeats 0
open Go.Proofs.Tryz
namespace Go.Proofs.YtiinliaoojfjaaaGreatDoor
open Go.RowKit
theorem FC:(prog.info? 3).map (fun i=>(i.zero,i.size,i.bytes))=some (some (.int .i64 0),1,8):=by kernel_rfl
theorem afA(n:Nat):madeCells #[Value.int .i64 0] n=((List.range n).map fun _=>Value.int .i64 0).toArray:=by
 apply Array.ext';simp[madeCells];intro a ha;rw[Nat.mod_one];rfl
def NxAt(w:World)(B:Nat)(N:List Nat)(i:Nat):Prop:=w.heap[B]?=some (.cells (((N.take i).map fun(k:Nat)=>Value.int .i64 (k:Int))++List.replicate (N.length-i) (Value.int .i64 0)).toArray 3 (0,0))
theorem NxAt.cell{w:World}{B:Nat}{N:List Nat}{i:Nat}(h:NxAt w B N i)(hi:i<N.length):w.cell? ⟨B,i,none⟩=some (.int .i64 0):=by
 rw[ah h];have h1:((N.take i).map fun(k:Nat)=>Value.int .i64 (k:Int)).length=i:=by rw[List.length_map,List.length_take];omega
 simp only[List.getElem?_toArray];rw[List.getElem?_append_right (by omega),h1,Nat.sub_self,List.getElem?_replicate,if_pos (by omega)]
theorem NxAt.f{w:World}{B:Nat}{N:List Nat}{i:Nat}(h:NxAt w B N i)(j:Nat):w.frozen? ⟨B,j,none⟩=false:=Lib.frozen_of_heap h j
theorem NxAt.grow{w w':World}{B:Nat}{N:List Nat}{i:Nat}(h:NxAt w B N i)(hg:w.grownBy w' none):NxAt w' B N i:=by
 unfold NxAt at h ⊢;rw[hg.block B ((aC h)) (by simp)];exact h
theorem NxAt.set{w:World}{B:Nat}{N:List Nat}{i:Nat}(h:NxAt w B N i)(hi:i<N.length){k:Nat}(hk:N[i]=k):NxAt (w.setCell ⟨B,i,none⟩ (.int .i64 (k:Int))) B N (i+1):=by
 unfold NxAt at h ⊢;simp only[World.setCell,Array.getElem?_modify,h,if_true,Option.map_some];congr 2;apply Array.ext';simp only[Option.isSome_none,Bool.false_eq_true,if_false];rw[Array.toList_setIfInBounds];have h1:((N.take i).map fun(k:Nat)=>Value.int .i64 (k:Int)).length=i:=by rw[List.length_map,List.length_take];omega
 have h2:N.length-i=(N.length-(i+1))+1:=by omega
 simp only[];rw[List.set_append_right _ _ (by omega),h1,Nat.sub_self,h2,List.replicate_succ,List.set_cons_zero,List.take_succ_eq_append_getElem hi,List.map_append,List.append_assoc,hk];rfl
theorem V7{w wa wb:World}{row:Option Nat}(h:w.grownBy wa none)(hg:wa.grownBy wb row)(hr:∀q,row=some q->w.heap.size<=q):w.grownBy wb none :=
 ⟨hg.os.trans h.os,hg.tape.trans h.tape,hg.output.trans h.output,Nat.le_trans h.size hg.size,fun k hk hn=>(hg.block k (Nat.lt_of_lt_of_le hk h.size) (fun e=>by have:=hr k e.symm;omega)).trans (h.block k hk hn)⟩
def afB(M:List It)(w:World)(e:Ending)(w':World):Prop:=∃(B:Nat) (E:List It),e=.returned (.slice (some ⟨B,0,none⟩) E.length E.length)/\w.heap.size<=B/\NxAt w' B (E.map (·.k)) E.length/\w.grownBy w' none/\E.Perm M/\E.Pairwise (fun a b=>0<=eF b a)
theorem afC(sl:Value)(L:List Re)(name:ByteArray)(w:World)(h:ReS w sl L)(hL:L.length<=1048576)(hV:∀x∈L,x.ve.size<2 ^ 62) :
  Calls prog 90 #[sl,.string name] w (afB (bn name L 0) w):=by
 have CI:=ae (UN sl L name w h hL hV);have oh:=ae (Nat.le_trans (ww name L 0) hL);have CJ:=ae (fun x (hx:x∈bn name L 0)=>(MK name L 0 x hx).1);obtain⟨o0,n0,c0,rfl⟩:∃o n c,sl=.slice o n c:=by
  rcases h with⟨rfl,-⟩|⟨a,cap,rfl,-⟩
  ·exact⟨_,_,_,rfl⟩
  ·exact⟨_,_,_,rfl⟩
 obtain⟨M,hM⟩:=zN (bn name L 0);rw[hM]at CI oh CJ ⊢;clear h hM hV;go_enter func90,ntmps90;go_wp2_with (go_at_call 118;refine CI.o.mono ?_);rintro e w1 ⟨vs,rfl,ho,hb⟩;have CS:=ae (afj vs M w.heap.size w1 ho (by have:=oh.o;omega) CJ.o);have HO:=ae ho;obtain⟨ov,cv,rfl,-⟩:=NI (MJ ho);have HG:=ae (gz hb);clear ho hb;go_wp2_with (first|(go_at_call 119;refine CS.o.mono ?_));rintro e w2 ⟨rfl,E,hp,hso,hrow,hg⟩;have NM:=hp.length_eq;have HE:Hd (E.Perm M/\E.Pairwise (fun a b=>0<=eF b a)):=⟨hp,hso⟩;replace HG:=ae (V7 HG.o hg (fun q hq=>(HO.o.lt q hq).1));have NP:Hd (E.length<=1048576):=by rw[NM];exact oh.o
 have hits:=MJ hrow;rw[<-NM]at hits ⊢;have HIT:=ae hits;have hov:∀i,i<E.length->∃a,ov=some a/\E.length<=cv:=by
  obtain⟨ov',cv',afD,hov⟩:=NI hits
  cases afD
  exact hov
 clear hp hso hrow hg NM hits HO CS CI oh CJ;obtain⟨N,hN⟩:=zN (E.map (·.k));have HN:=ae hN;have hNl:N.length=E.length:=by rw[<-hN];simp
 have oP:=ae hNl;have hmk:=run_make_row' (P:=prog) 31 3 (.int .i64 0) 8 underlying31 FC rfl .i64 .i64 E.length (by have:=NP.o;omega) (by have:=NP.o;omega);clear hN hNl;go_wp2;obtain⟨B,hB⟩:=zN (w2.heap.size);obtain⟨W1,hW1⟩:=zN (w2.alloc (.cells (madeCells #[.int .i64 0] E.length) 3));have HX0:Hd (NxAt W1 B N 0):=by
  show W1.heap[B]?=_;rw[<-hW1,<-hB,heap_alloc_new w2,afA];congr 2;apply Array.ext';have:=oP.o;simp[List.map_const',this]
 have bD:Hd (w2.grownBy W1 none):=by show w2.grownBy W1 none;rw[<-hW1];exact ak (ai w2 none) _
 have HB:Hd (w2.heap.size<=B):=by show _<=_;omega
 have Dc:=ae (Nat.le_trans HG.o.size HB.o)
 try rw[hW1]
 try rw[hB]
 clear hW1 hB hmk;go_loopw [19] (fun vi wk=>∃i:Nat,vi=.int .i64 i/\i<=E.length/\NxAt wk B N i/\w2.grownBy wk none) (fun vi _=>E.length-(intOf vi).toNat)
 case atStart=>exact⟨0,rfl,Nat.zero_le _,HX0.o,bD.o⟩
 case round =>
  obtain⟨i,rfl,hi,htx,hgk⟩:=hrel;have HX:=ae htx;have jv:=ae hgk;clear htx hgk;have hml:=NP.o
  by_cases hlt:i<E.length
  ·obtain⟨a,rfl,hcv⟩:=hov i hlt;obtain⟨x,hx⟩:=zN (E[i]);have hat:ItAt wr (a.add (i*6)) x:=by
    rcases HIT.o with⟨e,-⟩|⟨a',cap',e,-,h3⟩
    ·cases e
    ·cases e
     rw[<-hx];exact(h3 i hlt).grow jv.o
   have HS:Hd (∀h:i<N.length,N[i]=x.k):=fun h=>by
    have e:=HN.o;subst e;rw[List.getElem_map,hx]
   obtain⟨xk,⟨z1,z2,z3,z4,z5⟩⟩:=x;obtain⟨e0,e1,e2,e3,e4,e5⟩:=hat;simp only[]at e0 e1 e2 e3 e4 e5;have NQ:i<N.length:=by have:=oP.o;omega
   have bW:=ae NQ;have gA:=ak (ai wr none) (.cells #[.int .i64 (xk:Int),.int .i64 z1,.int .i64 z2,.int .i64 z3,.string ⟨z4.toArray⟩,.string ⟨z5.toArray⟩] 183);have hc:=(HX.o.grow gA).cell NQ;have hf:=(HX.o.grow gA).f i;clear hx gA NQ;go_wp2;exact⟨⟨i+1,by go_num,by omega,(HX.o.grow (ak (ai wr none) _)).set bW.o (HS.o bW.o),V7 (ag jv.o (ak (ai wr none) _)) (bI (ai _ (some B)) _ _) (fun q hq=>by injection hq with hq;have:=HB.o;omega)⟩,by simp[intOf];omega⟩
  ·have hil:i=E.length:=by omega
   have HXF:Hd (NxAt wr B (E.map (·.k)) E.length):=by
    show NxAt _ _ _ _;rw[HN.o,<-hil];exact HX.o
   clear hil hi;go_wp2;refine bodyPost_ret (results_tmp (t:=4) rfl _ _ _) rfl ⟨B,E,rfl,Dc.o,HXF.o,ag HG.o jv.o,HE.o.1,HE.o.2⟩
open Go.RowKit
theorem FH{w:World}{base:Nat}{e:TypeId}{size:Nat}{g n cap:Nat}{xs:List Value}(h:w.ownsRow base e size (.slice (some ⟨g,0,none⟩) n cap) n xs)(o:Nat)(x:Value)(ho:o<n*size):(w.setCell ⟨g,o,none⟩ x).ownsRow base e size (.slice (some ⟨g,0,none⟩) n cap) n (xs.set o x):=by
 refine⟨by rw[List.length_set];exact h.1,?_⟩
 rcases h.2 with⟨h1,_⟩|⟨g',cap',cur,h1,hb,hg,hn,hm,hs,ht⟩
 ·cases h1
 ·cases h1
  refine Or.inr ⟨g,cap,cur.setIfInBounds o x,rfl,hb,?_,hn,hm,by simpa using hs,?_⟩
  ·simp[World.setCell,Array.getElem?_modify,hg]
  ·rw[Array.toList_setIfInBounds,List.take_set,ht]
theorem V8(g k:Nat):(⟨g,0,none⟩:Addr).add k=⟨g,k,none⟩:=by
 unfold Addr.add;split
 ·rename_i h;rw[h]
 ·simp
theorem NR{w:World}{base:Nat}{e:TypeId}{size gs n cap:Nat}{xs:List Value}(h:w.ownsRow base e size (.slice (some ⟨gs,0,none⟩) n cap) n xs)(o:Nat):w.frozen? ⟨gs,o,none⟩=false:=by
 rcases h.2 with⟨h1,_⟩|⟨g',cap',cur,h1,hb,hg,_⟩
 ·cases h1
 ·cases h1;exact Lib.frozen_of_heap hg o
theorem V9{x y z:It}(h1:0<=eF x y)(h2:0<=eF y z):0<=eF x z:=by
 have a1:¬eF x y<0:=by omega
 have a2:¬eF y z<0:=by omega
 have goal:¬eF x z<0:=by
  rw[qW]at a1 a2 ⊢;have d1:=dN (cutV x.v) (cutV y.v);have d2:=dN (cutV y.v) (cutV z.v);have d3:=dN (cutV x.v) (cutV z.v);have e1:=rE (show aB (cutV x.v) (cutV y.v)<=0 by omega) (show aB (cutV y.v) (cutV z.v)<=0 by omega)
  by_cases h0:aB (cutV x.v) (cutV z.v)=0
  ·have f1:aB (cutV x.v) (cutV y.v)=0:=by
    by_cases hh:aB (cutV x.v) (cutV y.v)<0
    ·have:=AB hh (show aB (cutV y.v) (cutV z.v)<=0 by omega);omega
    ·omega
   have f2:aB (cutV y.v) (cutV z.v)=0:=by
    by_cases hh:aB (cutV y.v) (cutV z.v)<0
    ·have:=Eg (show aB (cutV x.v) (cutV y.v)<=0 by omega) hh;omega
    ·omega
   omega
  ·omega
 omega
theorem afE{x y:It}(h:aB (cutV x.v) (cutV y.v)<=0)(hk:y.k<x.k):0<=eF x y:=by
 have a:¬eF x y<0:=by
  rw[qW];have d:=dN (cutV x.v) (cutV y.v);omega
 omega
theorem afF{x y:It}(h:0<aB (cutV x.v) (cutV y.v)):0<=eF y x:=by
 have a:¬eF y x<0:=by
  rw[qW];omega
 omega
theorem NU{α:Type}(r:α->α->Prop):∀(A B:List α),A.Perm B->A.Pairwise r->B.Pairwise r->(∀a∈A,∀b∈A,r a b->r b a->a=b)->A=B
 | [],B,hp,_,_,_=>(List.Perm.nil_eq hp)
 | a :: A,[],hp,_,_,_=>by have:=hp.length_eq;simp at this
 | a :: A,b :: B,hp,hA,hB,hu=>by
  have hab:a=b:=by
   have h1:a∈b :: B:=hp.subset (by simp);have h2:b∈a :: A:=hp.symm.subset (by simp)
   rcases List.mem_cons.1 h1 with e|h1
   ·exact e
   ·rcases List.mem_cons.1 h2 with e|h2
    ·exact e.symm
    ·exact hu a (by simp) b (by simp[h2]) ((List.pairwise_cons.1 hA).1 b h2) ((List.pairwise_cons.1 hB).1 a h1)
  subst hab;have hp':A.Perm B:=(List.perm_cons a).1 hp;rw[NU r A B hp' (List.pairwise_cons.1 hA).2 (List.pairwise_cons.1 hB).2 (fun x hx y hy=>hu x (by simp[hx]) y (by simp[hy]))]
theorem FI(name:ByteArray):∀(L:List Re) (k:Nat),∀x∈bn name L k,k<=x.k
 | [],k,x,hx=>by simp[bn]at hx
 | y :: r,k,x,hx=>by
  unfold bn at hx;split at hx
  ·rcases List.mem_cons.1 hx with rfl|hx
   ·exact Nat.le_refl _
   ·have:=FI name r (k+1) x hx;omega
  ·have:=FI name r (k+1) x hx;omega
theorem NV(name:ByteArray):∀(L:List Re) (k:Nat),∀x∈bn name L k,∀y∈bn name L k,x.k=y.k->x=y
 | [],k,x,hx,y,hy,e=>by simp[bn]at hx
 | z :: r,k,x,hx,y,hy,e=>by
  unfold bn at hx hy;split at hx
  ·rename_i h;rw[if_pos h]at hy
   rcases List.mem_cons.1 hx with rfl|hx
   ·rcases List.mem_cons.1 hy with rfl|hy
    ·rfl
    ·have:=FI name r (k+1) y hy;simp only[]at e;omega
   ·rcases List.mem_cons.1 hy with rfl|hy
    ·have:=FI name r (k+1) x hx;simp only[]at e;omega
    ·exact NV name r (k+1) x hx y hy e
  ·rename_i h;rw[if_neg h]at hy;exact NV name r (k+1) x hx y hy e
theorem afG(name:ByteArray)(L:List Re)(E D:List It)(h1:E.Perm (bn name L 0))(h2:D.Perm (bn name L 0))(s1:E.Pairwise (fun a b=>0<=eF b a))(s2:D.Pairwise (fun a b=>0<=eF b a)):E=D:=by
 refine NU _ E D (h1.trans h2.symm) s1 s2 (fun a ha b hb r1 r2=>?_);have c1:¬eF b a<0:=by omega
 have c2:¬eF a b<0:=by omega
 rw[qW]at c1 c2;have d:=dN (cutV a.v) (cutV b.v);exact NV name L 0 a (h1.subset ha) b (h1.subset hb) (by omega)
theorem afH{A B:List It}{x:It}(h:(A++B).Pairwise (fun a b=>0<=eF b a))(hB:∀b∈B,0<aB (cutV x.v) (cutV b.v))(hA:∀A0 y,A=A0++[y]->aB (cutV x.v) (cutV y.v)<=0/\y.k<x.k):(A++x :: B).Pairwise (fun a b=>0<=eF b a):=by
 rw[List.pairwise_append]at h ⊢;obtain⟨p1,p2,p3⟩:=h;have ax:∀a∈A,0<=eF x a:=by
  intro a ha
  rcases List.eq_nil_or_concat A with e|⟨A0,y,e⟩
  ·rw[e]at ha;simp at ha
  ·rw[List.concat_eq_append]at e;have hy:=hA A0 y e;have hxy:=afE hy.1 hy.2;rw[e]at ha p1
   rcases List.mem_append.1 ha with ha|ha
   ·exact V9 hxy ((List.pairwise_append.1 p1).2.2 a ha y (by simp))
   ·rw[List.mem_singleton.1 ha];exact hxy
 refine⟨p1,List.pairwise_cons.2 ⟨fun b hb=>afF (hB b hb),p2⟩,fun a ha b hb=>?_⟩
 rcases List.mem_cons.1 hb with rfl|hb
 ·exact ax a ha
 ·exact p3 a ha b hb
open Go.RowKit Go.Maps Go.Joins
theorem FK(name:ByteArray):∀(L:List Re) (k:Nat) (x:It),x∈bn name L k->∃j,x.k=k+j/\∃h:j<L.length,L[j].nm=name
 | [],k,x,hx=>by simp[bn]at hx
 | y :: r,k,x,hx=>by
  unfold bn at hx;split at hx
  ·rename_i hc
   rcases List.mem_cons.1 hx with rfl|hx
   ·exact⟨0,rfl,by simp,by simp at hc;exact hc.1⟩
   ·obtain⟨j,h1,h2,h3⟩:=FK name r (k+1) x hx;exact⟨j+1,by omega,by simp;omega,by simpa using h3⟩
  ·obtain⟨j,h1,h2,h3⟩:=FK name r (k+1) x hx;exact⟨j+1,by omega,by simp;omega,by simpa using h3⟩
theorem afI{w:World}{B:Nat}{N:List Nat}(h:NxAt w B N N.length):IS w (.slice (some ⟨B,0,none⟩) N.length N.length) (N.map fun(k:Nat)=>(k:Int)):=by
 refine Or.inr ⟨⟨B,0,none⟩,N.length,by rw[List.length_map],by rw[List.length_map];exact Nat.le_refl _,fun j hj=>?_⟩;rw[List.length_map]at hj;rw[x9,ah h];simp[hj]
theorem afJ(b n c j:Nat)(h:j+1<=c)(wx:World):(Instr.slice 31 (.slice (some ⟨b,0,none⟩) n c) (some (.int .i64 (j:Int))) (some (.int .i64 ((j:Int)+1))) none).run prog wx=.ok (.slice (some ⟨b,j,none⟩) 1 (c-j)) wx:=by
 have ht:prog.underlying 31=some (.slice (prog.elem 31)):=by kernel_rfl
 have hsz:∀w,(sizeOf (prog.elem 31)).run prog w=.ok 1 w:=fun w=>by kernel_rfl
 rw[run_slice_lh wx _ _ n c ht .i64 .i64 (j:Int) ((j:Int)+1) (by omega) (by omega) (by omega),hsz];have e1:((j:Int)).toNat=j:=by omega
 have e2:((j:Int)+1).toNat=j+1:=by omega
 simp only[Result.andThen,sliced,e1,e2];rw[if_neg (by omega),Option.map_some,Nat.mul_one,x9,show j+1-j=1 by omega]
theorem afK(b n c j:Nat)(h:j+1<=n)(hc:n<=c)(wx:World):(Instr.slice 31 (.slice (some ⟨b,0,none⟩) n c) (some (.int .i64 ((j:Int)+1))) none none).run prog wx=.ok (.slice (some ⟨b,if c=j+1 then 0 else j+1,none⟩) (n-(j+1)) (c-(j+1))) wx:=by
 have ht:prog.underlying 31=some (.slice (prog.elem 31)):=by kernel_rfl
 have hsz:∀w,(sizeOf (prog.elem 31)).run prog w=.ok 1 w:=fun w=>by kernel_rfl
 rw[run_slice_l wx _ _ n c ht .i64 ((j:Int)+1) (by omega) (by omega),hsz];have e2:((j:Int)+1).toNat=j+1:=by omega
 simp only[Result.andThen,sliced,e2]
 by_cases hc':c=j+1
 ·rw[if_pos hc',if_pos hc']
 ·rw[if_neg hc',if_neg hc',Option.map_some,Nat.mul_one,x9]
theorem afL{p q:Addr}{x y:Value}{w w':World}(hg:w.grownBy w' none)(h:w.cell? p=some x/\w.cell? q=some y):w'.cell? p=some x/\w'.cell? q=some y:=⟨hg.cell h.1 (by simp),hg.cell h.2 (by simp)⟩
theorem We(b o n:Nat):(⟨b,o,none⟩:Addr).add n=⟨b,o+n,none⟩:=by
 unfold Addr.add;split
 ·rename_i h;rw[h];rfl
 ·simp
def c3(N:List Nat)(j i:Nat):List Int:=match i with
 | 0=>((N.drop j).take 1).map fun(k:Nat)=>(k:Int)
 | 1=>(N.take j).map fun(k:Nat)=>(k:Int)
 | _=>(N.drop (j+1)).map fun(k:Nat)=>(k:Int)
def a3(B j o i:Nat):Addr:=match i with
 | 0=>⟨B,j,none⟩
 | 1=>⟨B,0,none⟩
 | _=>⟨B,o,none⟩
def k3(n j i:Nat):Nat:=match i with
 | 0=>n-j
 | 1=>n
 | _=>n-(j+1)
theorem Wh(N:List Nat)(j:Nat)(hj:j<N.length):(gX (c3 N j) 3).length=N.length/\∀x∈gX (c3 N j) 3,∃k∈N,x=(k:Int):=by
 have e:gX (c3 N j) 3=([]++c3 N j 0++c3 N j 1)++c3 N j 2:=rfl;rw[e];refine⟨by simp[c3];omega,fun x hx=>?_⟩;simp only[List.nil_append,List.mem_append,c3,List.mem_map]at hx
 rcases hx with(⟨k,hk,rfl⟩|⟨k,hk,rfl⟩)|⟨k,hk,rfl⟩
 ·exact⟨k,List.mem_of_mem_drop (List.mem_of_mem_take hk),rfl⟩
 ·exact⟨k,List.mem_of_mem_take hk,rfl⟩
 ·exact⟨k,List.mem_of_mem_drop hk,rfl⟩
theorem afM(N:List Nat)(B j o q:Nat)(hj:j<N.length)(hN:N.length<=64)(ho:(if N.length=j+1 then 0 else j+1)=o)(w:World)(h:IS w (.slice (some ⟨B,0,none⟩) N.length N.length) (N.map fun(k:Nat)=>(k:Int)))(hq:w.heap[q]?=some (.cells #[.slice (some ⟨B,j,none⟩) 1 (N.length-j),.slice (some ⟨B,0,none⟩) j N.length,.slice (some ⟨B,o,none⟩) (N.length-(j+1)) (N.length-(j+1))] 31 (0,0))) :
  Calls prog 95 #[.slice (some ⟨q,0,none⟩) 3 3] w fun e w'=>∃v,e=.returned v/\w'.ownsRow w.heap.size 3 1 v (gX (c3 N j) 3).length ((gX (c3 N j) 3).map (Value.int .i64))/\w.grownBy w' none:=by
 have hcell:∀t (ht:t<N.length),w.cell? ⟨B,t,none⟩=some (.int .i64 (N[t]:Int)):=fun t ht=>by
  rcases h with⟨e,-⟩|⟨a,cap,e,-,h3⟩
  ·cases e
  ·injection e with e _ _
   cases e
   have:=h3 t (by simpa using ht);rw[x9,List.getElem_map]at this;exact this
 refine aev q (a3 B j o) (c3 N j) (k3 N.length j) w (fun i hi=>?_) (fun i hi t u hu=>?_) (fun i hi=>?_) ?_
 ·rw[ah hq]
  rcases(show i=0\/i=1\/i=2 by omega) with rfl|rfl|rfl
  ·have:(c3 N j 0).length=1:=by simp[c3];omega
   rw[this];rfl
  ·have:(c3 N j 1).length=j:=by simp[c3];omega
   rw[this];rfl
  ·have:(c3 N j 2).length=N.length-(j+1):=by simp[c3]
   rw[this];rfl
 ·obtain⟨x,hx,rfl⟩:=Option.map_eq_some_iff.1 ((List.getElem?_map (f:=Value.int .i64)) ▸ hu)
  rcases(show i=0\/i=1\/i=2 by omega) with rfl|rfl|rfl
  ·obtain⟨k,hk,rfl⟩:=Option.map_eq_some_iff.1 ((List.getElem?_map (f:=fun(k:Nat)=>(k:Int))) ▸ hx);rw[List.getElem?_take]at hk;split at hk
   ·rename_i ht;obtain rfl:t=0:=by omega
    rw[List.getElem?_drop]at hk;obtain⟨h1,h2⟩:=List.getElem?_eq_some_iff.1 hk;show w.cell? ((⟨B,j,none⟩:Addr).add 0)=_;rw[We,hcell (j+0) h1,h2]
   ·cases hk
  ·obtain⟨k,hk,rfl⟩:=Option.map_eq_some_iff.1 ((List.getElem?_map (f:=fun(k:Nat)=>(k:Int))) ▸ hx);rw[List.getElem?_take]at hk;split at hk
   ·obtain⟨h1,h2⟩:=List.getElem?_eq_some_iff.1 hk;show w.cell? ((⟨B,0,none⟩:Addr).add t)=_;rw[x9,hcell t h1,h2]
   ·cases hk
  ·obtain⟨k,hk,rfl⟩:=Option.map_eq_some_iff.1 ((List.getElem?_map (f:=fun(k:Nat)=>(k:Int))) ▸ hx);rw[List.getElem?_drop]at hk;obtain⟨h1,h2⟩:=List.getElem?_eq_some_iff.1 hk;rw[if_neg (by omega)]at ho;subst ho;show w.cell? ((⟨B,j+1,none⟩:Addr).add t)=_;rw[We,hcell (j+1+t) h1,h2]
 ·rcases(show i=0\/i=1\/i=2 by omega) with rfl|rfl|rfl<;>(simp[c3];try omega)
 ·rw[(Wh N j hj).1];omega
open Go.RowKit Go.Maps Go.Joins Go.ChangeMaps Go.MapKept
def bG(L:List Re)(k:Nat):List ByteArray:=match L[k]? with|some x=>x.nd.map (·.n)|none=>[]
theorem Df(L:List Re)(k:Nat)(h:k<L.length):bG L k=L[k].nd.map (·.n):=by simp[bG,List.getElem?_eq_getElem h]
def Far(S M nb Mc b:Nat):Prop:=¬b=S/\¬b=M/\¬b=nb/\¬b=Mc
def Gv(S M nb Mc:Nat)(w:World)(v:Value)(cs:List Int):Prop:=(v=.slice none 0 0/\cs=[])\/∃g c,v=.slice (some ⟨g,0,none⟩) cs.length c/\cs.length<=c/\g<w.heap.size/\Far S M nb Mc g/\∀j (hj:j<cs.length),w.cell? ⟨g,j,none⟩=some (.int .i64 cs[j])
structure Nw(L:List Re)(S M nb Mc:Nat)(pv:Value)(f:Int)(bar kn km:Nat)(w:World):Prop where
 sb:Sb w S pv (.slice (some ⟨nb,0,none⟩) L.length L.length) (.map (some Mc)) (.slice none 0 0) (.map (some M)) (.slice none 0 0) f 0 bar
 mm:w.heap[M]?=some (.map #[] 0)
 row:∃cur,w.heap[nb]?=some (.cells cur 67 (0,0))/\cur.size=L.length
 nm:∀k (hk:k<L.length),k<kn->∃ng nc,w.cell? ⟨nb,k,none⟩=some (.slice (some ⟨ng,0,none⟩) (bG L k).length nc)/\(bG L k).length<=nc/\ng<w.heap.size/\Far S M nb Mc ng/\∀t (ht:t<(bG L k).length),w.cell? ⟨ng,t,none⟩=some (.string (bG L k)[t])
 cd:∃D,w.ownsMap prog 9 jo Mc km D/\∀x,∃v cs,jo v=some (D.atKey (kT x) vT,[])/\Gv S M nb Mc w v cs/\cs.length<=64/\∀c∈cs,∃k:Nat,c=(k:Int)/\k<L.length/\aF L k=x
section
variable {L:List Re} {S M nb Mc:Nat} {pv:Value} {f:Int} {bar kn km:Nat} {w w':World} {X:Nat->Prop}
theorem Gv.fx{v:Value}{cs:List Int}(h:Gv S M nb Mc w v cs)(hf:Fx X w w')(hX:∀b,b<w.heap.size->Far S M nb Mc b->¬X b):Gv S M nb Mc w' v cs:=by
 rcases h with h|⟨g,c,h1,h2,h3,h4,h5⟩
 ·exact Or.inl h
 ·exact Or.inr ⟨g,c,h1,h2,Nat.lt_of_lt_of_le h3 hf.size,h4,fun j hj=>hf.cell (h5 j hj) (hX g h3 h4)⟩
theorem Gv.is{v:Value}{cs:List Int}(h:Gv S M nb Mc w v cs):IS w v cs:=by
 rcases h with h|⟨g,c,h1,h2,h3,h4,h5⟩
 ·exact Or.inl h
 ·exact Or.inr ⟨⟨g,0,none⟩,c,h1,h2,fun j hj=>by rw[x9];exact h5 j hj⟩
theorem Nw.grow(h:Nw L S M nb Mc pv f bar kn km w)(hg:w.grownBy w' none):Nw L S M nb Mc pv f bar kn km w':=by
 have hf:Fx (fun _=>False) w w':=(Fx.refl _ w).gb hg (fun b e=>by cases e);obtain⟨cur,h1,h2⟩:=h.row;refine⟨h.sb.grow hg,(hf.block M (aC h.mm) (fun h=>h)).trans h.mm,⟨cur,(hf.block nb (aC h1) (fun h=>h)).trans h1,h2⟩,fun k hk hkn=>?_,?_⟩
 ·obtain⟨ng,nc,e1,e2,e3,e4,e5⟩:=h.nm k hk hkn;exact⟨ng,nc,hf.cell e1 (fun h=>h),e2,Nat.lt_of_lt_of_le e3 hf.size,e4,fun t ht=>hf.cell (e5 t ht) (fun h=>h)⟩
 ·obtain⟨D,d1,d2⟩:=h.cd;refine⟨D,d1.kept hg (by simp),fun x=>?_⟩;obtain⟨v,cs,e1,e2,e3⟩:=d2 x;exact⟨v,cs,e1,e2.fx hf (fun _ _ _ h=>h),e3⟩
theorem Nw.name(h:Nw L S M nb Mc pv f bar kn km w)(hd:¬S=nb/\¬M=nb/\¬Mc=nb)(hk:kn<L.length){ng nc:Nat}(hnc:(bG L kn).length<=nc)(uC:ng<w.heap.size)(hF:Far S M nb Mc ng)(hc:∀t (ht:t<(bG L kn).length),w.cell? ⟨ng,t,none⟩=some (.string (bG L kn)[t])):Nw L S M nb Mc pv f bar (kn+1) km (w.setCell ⟨nb,kn,none⟩ (.slice (some ⟨ng,0,none⟩) (bG L kn).length nc)):=by
 have hf:Fx (fun b=>b=nb) w (w.setCell ⟨nb,kn,none⟩ (.slice (some ⟨ng,0,none⟩) (bG L kn).length nc)):=(Fx.refl (fun b=>b=nb) w).set (Or.inl rfl) _ _;obtain⟨cur,h1,h2⟩:=h.row;have hb:=block_setCell (i:=kn) h1 (.slice (some ⟨ng,0,none⟩) (bG L kn).length nc);refine⟨h.sb.fx hf hd.1,(hf.block M (aC h.mm) hd.2.1).trans h.mm,⟨_,hb,by simpa using h2⟩,fun k hk hkn=>?_,?_⟩
 ·by_cases e:k=kn
  ·subst e;refine⟨ng,nc,?_,hnc,Nat.lt_of_lt_of_le uC hf.size,hF,fun t ht=>hf.cell (hc t ht) hF.2.2.1⟩;rw[ah hb,Array.getElem?_setIfInBounds_self,if_pos (by omega)]
  ·obtain⟨ng',nc',e1,e2,e3,e4,e5⟩:=h.nm k hk (by omega);refine⟨ng',nc',?_,e2,Nat.lt_of_lt_of_le e3 hf.size,e4,fun t ht=>hf.cell (e5 t ht) e4.2.2.1⟩;rw[ah h1]at e1;rw[ah hb,Array.getElem?_setIfInBounds_ne (fun h=>e h.symm)];exact e1
 ·obtain⟨D,⟨es,cl,m1,m2⟩,d2⟩:=h.cd;refine⟨D,⟨es,cl,(hf.block Mc (aC m1) hd.2.2).trans m1,m2⟩,fun x=>?_⟩;obtain⟨v,cs,e1,e2,e3⟩:=d2 x;exact⟨v,cs,e1,e2.fx hf (fun b _ hb=>hb.2.2.1),e3⟩
theorem Nw.cand{D:DataW Unit}(h:Nw L S M nb Mc pv f bar kn km w)(hd:¬S=Mc/\¬M=Mc/\¬nb=Mc)(hD:IsMap D)(d2:∀x,∃v cs,jo v=some (D.atKey (kT x) vT,[])/\Gv S M nb Mc w v cs/\cs.length<=64/\∀c∈cs,∃k:Nat,c=(k:Int)/\k<L.length/\aF L k=x){x:ByteArray}{v:Value}{cs:List Int}{d:DataW Unit}(hv:jo v=some (d,[]))(hG:Gv S M nb Mc w v cs)(hl:cs.length<=64)(hcs:∀c∈cs,∃k:Nat,c=(k:Int)/\k<L.length/\aF L k=x)(hown:w'.ownsMap prog 9 jo Mc (km+1) (D.put (kT x) d))(hg:w.grownBy w' (some Mc)):Nw L S M nb Mc pv f bar kn (km+1) w':=by
 have hf:Fx (fun b=>b=Mc) w w':=(Fx.refl _ w).gb hg (fun b e=>by cases e;exact Or.inl rfl);obtain⟨cur,h1,h2⟩:=h.row;refine⟨h.sb.fx hf hd.1,(hf.block M (aC h.mm) hd.2.1).trans h.mm,⟨cur,(hf.block nb (aC h1) hd.2.2).trans h1,h2⟩,fun k hk hkn=>?_,⟨_,hown,fun y=>?_⟩⟩
 ·obtain⟨ng,nc,e1,e2,e3,e4,e5⟩:=h.nm k hk hkn;exact⟨ng,nc,hf.cell e1 hd.2.2,e2,Nat.lt_of_lt_of_le e3 hf.size,e4,fun t ht=>hf.cell (e5 t ht) e4.2.2.2⟩
 ·by_cases e:y=x
  ·subst e;exact⟨v,cs,by rw[atKey_put_same hD (by trivial)];exact hv,hG.fx hf (fun b _ hb=>hb.2.2.2),hl,hcs⟩
  ·obtain⟨v',cs',e1,e2,e3⟩:=d2 y;exact⟨v',cs',by rw[atKey_put_other (fun h=>e (Bl h))];exact e1,e2.fx hf (fun b _ hb=>hb.2.2.2),e3⟩
theorem Nw.ro{B:Nat}{P:List Pl}(h:Nw L S M nb Mc pv f bar L.length km w)(hB:B=w.heap.size)(hd:¬nb=S/\¬nb=M/\¬Mc=S/\¬Mc=M)(hp:PlS w' pv P)(hf:Fx (Xb B S M) w w'):Ro L.length P (bG L) (fun x k=>aF L k=x) B S M nb Mc pv w':=by
 have far:∀b,b<w.heap.size->¬b=S->¬b=M->¬Xb B S M b:=fun b h1 h2 h3 h4=>by
  rcases h4 with h|h|h
  ·exact h2 h
  ·exact h3 h
  ·omega
 obtain⟨cur,r1,r2⟩:=h.row;refine⟨hp,fun k hk=>?_,?_⟩
 ·obtain⟨ng,nc,e1,e2,e3,e4,e5⟩:=h.nm k hk hk;have hn:=far ng e3 e4.1 e4.2.1;exact⟨ng,nc,hf.cell e1 (far nb (aC r1) hd.1 hd.2.1),e2,hn,fun t ht=>hf.cell (e5 t ht) hn⟩
 ·obtain⟨D,⟨es,cl,m1,m2⟩,d2⟩:=h.cd;refine⟨km,D,⟨es,cl,(hf.block Mc (aC m1) (far Mc (aC m1) hd.2.2.1 hd.2.2.2)).trans m1,m2⟩,fun x=>?_⟩;obtain⟨v,cs,e1,e2,e3,e4⟩:=d2 x;exact⟨v,cs,e1,fun w'' hf'=>(e2.fx (hf.trans hf') (fun b h1 h2=>far b h1 h2.1 h2.2.1)).is,e3,e4⟩
theorem afN(hM:w.heap[M]?=some (.map #[] 0)):InR w M []:=⟨.map [],⟨#[],0,hM,⟨by simp,stamped_empty 0,by simp⟩,Nat.le_refl _,rfl⟩,fun x=>rfl⟩
theorem afO(W:World)(a b c d:Obj):((((W.alloc a).alloc b).alloc c).alloc d).heap[W.heap.size]?=some a/\((((W.alloc a).alloc b).alloc c).alloc d).heap[W.heap.size+1]?=some b/\((((W.alloc a).alloc b).alloc c).alloc d).heap[W.heap.size+2]?=some c/\((((W.alloc a).alloc b).alloc c).alloc d).heap[W.heap.size+3]?=some d/\W.grownBy ((((W.alloc a).alloc b).alloc c).alloc d) none:=by
 have e1:(W.alloc a).heap.size=W.heap.size+1:=World.size_alloc _ _;have e2:((W.alloc a).alloc b).heap.size=W.heap.size+2:=by rw[World.size_alloc,e1]
 have e3:(((W.alloc a).alloc b).alloc c).heap.size=W.heap.size+3:=by rw[World.size_alloc,e2]
 have h1:=heap_alloc_new W a;have h2:=heap_alloc_new (W.alloc a) b;have h3:=heap_alloc_new ((W.alloc a).alloc b) c;have h4:=heap_alloc_new (((W.alloc a).alloc b).alloc c) d;rw[e1]at h2;rw[e2]at h3;rw[e3]at h4;refine⟨?_,?_,?_,h4,ak (ak (ak (ak (ai W none) _) _) _) _⟩
 ·rw[Below.heap_alloc _ _ _ (by omega),Below.heap_alloc _ _ _ (by omega),Below.heap_alloc _ _ _ (by omega),h1]
 ·rw[Below.heap_alloc _ _ _ (by omega),Below.heap_alloc _ _ _ (by omega),h2]
 ·rw[Below.heap_alloc _ _ _ (by omega),h3]
end
open Go.RowKit Go.Maps Go.Joins
def jK(O:List En)(L:List Re)(name:ByteArray):Int:=match O.find? (fun e=>decide (e.nm=name)) with|some e=>fB name e.ve L 0|none=>-1
def jw(z:Int)(l:List Nat):List Nat:=if 0<=z/\z.toNat∈l then z.toNat :: l.erase z.toNat else l
def IsCand(L:List Re)(O:List En)(name:ByteArray)(cs:List Nat):Prop:=∃E:List It,E.Perm (bn name L 0)/\E.Pairwise (fun a b=>0<=eF b a)/\cs=jw (jK O L name) (E.map (·.k))
open Classical in
noncomputable def dL(L:List Re)(O:List En)(name:ByteArray):List Nat:=if h:∃cs,IsCand L O name cs then Classical.choose h else[]
theorem zG{L:List Re}{O:List En}{name:ByteArray}{cs:List Nat}(h:IsCand L O name cs):dL L O name=cs:=by
 have hex:∃cs,IsCand L O name cs:=⟨cs,h⟩;unfold dL;rw[dif_pos hex];obtain⟨E,h1,h2,h3⟩:=h;obtain⟨E',k1,k2,k3⟩:=Classical.choose_spec hex;rw[k3,h3,afG name L E' E k1 h1 k2 h2]
theorem Wi:∀(N:List Nat) (j:Nat) (hj:j<N.length),(∀i (hi:i<j),¬N[i]=N[j])->N.erase N[j]=N.take j++N.drop (j+1)
 | [],j,hj,_=>by simp at hj
 | a :: r,0,_,_=>by simp
 | a :: r,j+1,hj,h=>by
  have h0:¬a=r[j]'(by simpa using hj):=h 0 (by omega);have ih:=Wi r j (by simpa using hj) (fun i hi=>by have:=h (i+1) (by omega);simpa using this);simp only[List.getElem_cons_succ,List.take_succ_cons,List.drop_succ_cons,List.cons_append];rw[List.erase_cons_tail (by simpa using h0),ih]
theorem afP(N:List Nat)(j:Nat)(hj:j<N.length)(h:∀i (hi:i<j),¬N[i]=N[j]):gX (c3 N j) 3=(N[j] :: N.erase N[j]).map fun(k:Nat)=>(k:Int):=by
 have e:gX (c3 N j) 3=([]++c3 N j 0++c3 N j 1)++c3 N j 2:=rfl;rw[e,Wi N j hj h];have e0:(N.drop j).take 1=[N[j]]:=by rw[List.drop_eq_getElem_cons hj];rfl
 simp[c3,e0]
theorem Wj{O:List En}{L:List Re}{name:ByteArray}(h:∀x∈O,¬x.nm=name):jK O L name=-1:=by
 have:O.find? (fun e=>decide (e.nm=name))=none:=by rw[List.find?_eq_none];intro x hx;simpa using h x hx
 unfold jK;rw[this]
theorem Wl{O:List En}{L:List Re}{name:ByteArray}{j:Nat}(hj:j<O.length)(h:O[j].nm=name)(hp:∀i (hi:i<j),¬O[i].nm=name):jK O L name=fB name O[j].ve L 0:=by
 have:O.find? (fun e=>decide (e.nm=name))=some O[j]:=by
  rw[List.find?_eq_some_iff_getElem];exact⟨by simpa using h,j,hj,rfl,fun i hi=>by simpa using hp i hi⟩
 unfold jK;rw[this]
def NW(L:List Re)(O:List En)(name:ByteArray)(w:World)(e:Ending)(w':World):Prop:=∃(g c:Nat) (cs:List Nat),e=.returned (.slice (some ⟨g,0,none⟩) cs.length c)/\w.heap.size<=g/\g<w'.heap.size/\IS w' (.slice (some ⟨g,0,none⟩) cs.length c) (cs.map fun(k:Nat)=>(k:Int))/\IsCand L O name cs/\cs.length<=64/\(∀k∈cs,k<L.length/\aF L k=name)/\w.grownBy w' none
theorem afQ(lo oo:Option Addr)(lc oc:Nat)(L:List Re)(O:List En)(name:ByteArray)(w:World)(h:ReS w (.slice lo L.length lc) L)(ho:EnS w (.slice oo O.length oc) O)(hL:L.length<=64)(hV:∀x∈L,x.ve.size<2 ^ 62)(hO:O.length<=1048576)(hOV:∀x∈O,x.ve.size<2 ^ 62) :
  Calls prog 56 #[.slice lo L.length lc,.slice oo O.length oc,.string name] w (NW L O name w):=by
 obtain⟨b,hb⟩:=zN (w.heap.size);obtain⟨W1,hW1⟩:=zN (w.alloc (.cells #[.string name] 9));have hg1:w.grownBy W1 none:=by rw[<-hW1];exact ak (ai w none) _
 have hb1:W1.heap[b]?=some (.cells #[.string name] 9 (0,0)):=by rw[<-hW1,<-hb];exact heap_alloc_new w _
 have b0:W1.cell? ⟨b,0,none⟩=some (.string name):=by rw[ah hb1];rfl
 have hs1:W1.heap.size=b+1:=by rw[<-hW1,World.size_alloc,hb]
 have CO:Hd (Calls prog 90 #[.slice lo L.length lc,.string name] W1 fun e w'=>∃(B:Nat) (N:List Nat),e=.returned (.slice (some ⟨B,0,none⟩) N.length N.length)/\Hd (b<=B/\NxAt w' B N N.length/\W1.grownBy w' none/\(∀k∈N,k<L.length/\aF L k=name)/\N.length<=L.length/\IsCand L O name (jw (jK O L name) N))):=(afC (.slice lo L.length lc) L name W1 (h.grow hg1) (by omega) hV).mono fun e w' ⟨B,E,h1,h2,h3,h4,h5,h6⟩=>by
  refine⟨B,E.map (·.k),by rw[List.length_map];exact h1,by omega,by rw[List.length_map];exact h3,h4,fun k hk=>?_,?_,E,h5,h6,rfl⟩
  ·obtain⟨x,hx,rfl⟩:=List.mem_map.1 hk;obtain⟨j,e1,e2,e3⟩:=FK name L 0 x (h5.subset hx);rw[Nat.zero_add]at e1;rw[e1,mX L j e2];exact⟨e2,e3⟩
  ·rw[List.length_map,h5.length_eq];have:=ww name L 0;omega
 have CI:Hd (∀w',W1.grownBy w' none->Calls prog 91 #[.slice oo O.length oc,.func (.func 92) #[] #[.pointer (some ⟨b,0,none⟩)]] w' fun e w''=>∃z:Int,e=.returned (.int .i64 z)/\Hd (w'.grownBy w'' none/\((z=-1/\jK O L name=-1)\/∃(j:Nat) (hj:j<O.length),z=(j:Int)/\jK O L name=fB name O[j].ve L 0))):=fun w' hg=>(aez oo oc b O name w' (ho.grow (ag hg1 hg)) hO (hg.cell b0 (by simp))).mono fun e w'' ⟨h1,z,h0,h2⟩=>by
  rcases h2 with⟨h2,h3⟩|⟨j,h2,h3,h4,h5⟩
  ·exact⟨z,h0,h1,Or.inl ⟨h2,Wj h3⟩⟩
  ·exact⟨z,h0,h1,Or.inr ⟨j,h2,h3,Wl h2 h4 h5⟩⟩
 have CF:=ae (fun w' v (hg:w.grownBy w' none) (hv:v.size<2 ^ 62)=>VK (.slice lo L.length lc) L name v w' (h.grow hg) (by omega) hV hv);have zl:=ae (fun w' (hg:w.grownBy w' none) i (hi:i<O.length)=>II (ho.grow hg) hi);have NY:=ae hOV;have HB:=ae hb;have bg:=ae hg1;have hmf:∀(fn:Fn) (first cap:Array Value) (w:World),(Instr.makeFunc fn first cap).run prog w=.ok (.func fn first cap) w:=fun _ _ _ _=>rfl
 clear h ho hV hOV hg1 hb1 hs1;go_enter func56,ntmps56;go_wp2_with (go_at_call 90;refine CO.o.mono ?_);rintro e w2 ⟨B,N,rfl,hof⟩;have sS:=ae hof.o;have C2:=ae (CI.o w2 hof.o.2.2.1);have hNl:=Nat.le_trans hof.o.2.2.2.2.1 hL;have bC:=ae (afI hof.o.2.1);have HG2:=ae (ag bg.o hof.o.2.2.1);clear hof;go_wp2_with (go_at_call 91;refine C2.o.mono ?_);rintro e w3 ⟨z,rfl,hz⟩;have dD:=ae (ag HG2.o hz.o.1);have b3:=hz.o.1.cell (sS.o.2.2.1.cell b0 (by simp)) (by simp);have HIS:=ae (bC.o.grow hz.o.1);have FM:Hd (jw (jK O L name) N=N->∀w',w3.grownBy w' none->NW L O name w (.returned (.slice (some ⟨B,0,none⟩) N.length N.length)) w'):=fun he w' hg=>by
  refine⟨B,N.length,N,rfl,by rw[HB.o];exact sS.o.1,?_,HIS.o.grow hg,?_,hNl,sS.o.2.2.2.1,ag dD.o hg⟩
  ·have h1:=(aC sS.o.2.1);have h2:=hz.o.1.size;have h3:=hg.size;omega
  ·have:=sS.o.2.2.2.2.2;rw[he]at this;exact this
 rcases hz.o.2 with⟨rfl,hke⟩|⟨j,hj,rfl,hke⟩
 ·have HE:Hd (jw (jK O L name) N=N):=by
   show jw _ N=N;rw[hke];unfold jw;rw[if_neg (by omega)]
  clear hz b0 b3 hke;go_wp2;go_ret;exact FM.o HE.o _ (ai _ _)
 ·obtain⟨a,rfl,hoc,hat⟩:=zl.o w3 dD.o j hj;obtain⟨-,e1,-⟩:=hat j hj;have wJ:=NY.o O[j] (List.getElem_mem _);obtain⟨ve,Wn⟩:=zN (O[j].ve);rw[Wn]at e1 wJ hke;have hjc:j<oc:=by omega
  have HD:Hd (w3.grownBy w3.drew none):=⟨rfl,rfl,rfl,Nat.le_refl _,fun _ _ _=>rfl⟩;have C3:=ae (CF.o w3.drew ve (ag dD.o HD.o) wJ);obtain⟨fz,hfz⟩:=zN (fB name ve L 0);rw[hfz]at C3 hke;have Dh:=ae hke;have C4:Hd (∀w4,w3.grownBy w4 none->Calls prog 93 #[.slice (some ⟨B,0,none⟩) N.length N.length,.int .i64 fz] w4 fun e w'=>w'=w4/\∃z:Int,e=.returned (.int .i64 z)/\((z=-1/\jw fz N=N)\/∃(j:Nat) (hj:j<N.length),z=(j:Int)/\jw fz N=N[j] :: N.erase N[j]/\∀i (hi:i<j),¬N[i]=N[j])):=fun w4 hg=>by
   have hlen:(N.map fun(k:Nat)=>(k:Int)).length=N.length:=by simp
   have:=aex (some ⟨B,0,none⟩) N.length (N.map fun(k:Nat)=>(k:Int)) fz w4 (by rw[hlen];exact HIS.o.grow hg) (by rw[hlen];omega);have harr:(#[Value.slice (some ⟨B,0,none⟩) N.length N.length,.int .i64 fz]:Array Value)=#[.slice (some ⟨B,0,none⟩) (N.map fun(k:Nat)=>(k:Int)).length N.length,.int .i64 fz]:=by rw[hlen]
   rw[harr];refine this.mono ?_;rintro e w' ⟨h1,z,h0,h2⟩
   rcases h2 with⟨h2,h3⟩|⟨j,hj,h2,h3,h4⟩
   ·refine⟨h1,z,h0,Or.inl ⟨h2,?_⟩⟩;unfold jw;rw[if_neg (fun hh=>h3 fz (List.mem_map.2 ⟨fz.toNat,hh.2,by omega⟩) rfl)]
   ·have hj':j<N.length:=by simpa using hj
    rw[List.getElem_map]at h3;refine⟨h1,z,h0,Or.inr ⟨j,hj',h2,?_,fun i hi e=>h4 i hi (by rw[List.getElem_map,e];exact h3)⟩⟩;unfold jw;have e5:fz.toNat=N[j]:=by omega
    rw[if_pos ⟨by omega,by rw[e5];exact List.getElem_mem _⟩,e5]
  clear hat wJ Wn hfz hz b0 C2 CO CI CF hke;go_wp2
  go_region_held3 (fun u=>u.cell? ⟨b,0,none⟩=some (.string name)/\u.cell? ⟨(a.add (j*4)).block,(a.add (j*4)).off+1,none⟩=some (.string ve)) ((first|exact afL (by assumption) (by assumption)|go_keep)) (first|(go_at_call 94;refine C3.o.mono ?_;rintro e w4 ⟨rfl,hg4⟩)|(go_at_call 93;refine(C4.o _ (ag HD.o hg4)).mono ?_;rintro e w5 ⟨rfl,z2,rfl,hz2⟩))
  have je:=ae (ag HD.o hg4);clear hg4 e1 b3
  rcases hz2 with⟨rfl,hfr⟩|⟨j2,hj2,rfl,hfr,hpre⟩
  ·have HE:Hd (jw (jK O L name) N=N):=by
    show jw _ N=N;rw[Dh.o];exact hfr
   clear hfr;go_wp2;go_ret;exact FM.o HE.o _ je.o
  ·have s1:=afJ B N.length N.length j2 (by omega);have s2:=TM (some ⟨B,0,none⟩) N.length N.length j2 (by omega);have s3:=afK B N.length N.length j2 (by omega) (Nat.le_refl _);obtain⟨o3,ho3⟩:=zN ((if N.length=j2+1 then 0 else j2+1));rw[ho3]at s3;have hgz:w3.grownBy (w5.drew.alloc (.cells #[.slice (some ⟨B,j2,none⟩) 1 (N.length-j2),.slice (some ⟨B,0,none⟩) j2 N.length,.slice (some ⟨B,o3,none⟩) (N.length-(j2+1)) (N.length-(j2+1))] 31)) none:=ak (oW je.o) _;have CC:Hd (Calls prog 95 #[.slice (some ⟨w5.heap.size,0,none⟩) 3 3] (w5.drew.alloc (.cells #[.slice (some ⟨B,j2,none⟩) 1 (N.length-j2),.slice (some ⟨B,0,none⟩) j2 N.length,.slice (some ⟨B,o3,none⟩) (N.length-(j2+1)) (N.length-(j2+1))] 31)) fun e w'=>∃(g c:Nat),e=.returned (.slice (some ⟨g,0,none⟩) N.length c)/\Hd (NW L O name w (.returned (.slice (some ⟨g,0,none⟩) N.length c)) w')):=(afM N B j2 o3 w5.heap.size hj2 hNl ho3 _ (HIS.o.grow hgz) (heap_alloc_new w5.drew _)).mono fun e w' ⟨v,h1,h2,h3⟩=>by
    have k1:=(Wh N j2 hj2).1;have k2:=afP N j2 hj2 hpre;have hmem:∀k∈N[j2] :: N.erase N[j2],k∈N:=fun k hk=>by
     rcases List.mem_cons.1 hk with rfl|hk
     ·exact List.getElem_mem _
     ·exact List.mem_of_mem_erase hk
    have h5:=Vd h2;obtain⟨g,c,hv,h6,-⟩:=yg (i:=0) h2 (by omega);rw[hv]at h1 h2 h5;obtain⟨h7,h8⟩:=sN (b:=g) h2 rfl;have h9:=hgz.size;have h10:=dD.o.size;have k3:(N[j2] :: N.erase N[j2]).length=N.length:=by rw[<-k1,k2,List.length_map]
    rw[k1]at h1 h5;rw[k2]at h5;refine⟨g,c,h1,g,c,N[j2] :: N.erase N[j2],by rw[k3],by omega,h8,by rw[k3];exact h5,?_,by omega,fun k hk=>sS.o.2.2.2.1 k (hmem k hk),ag dD.o (ag hgz h3)⟩;have:=sS.o.2.2.2.2.2;rw[Dh.o,hfr]at this;exact this
   have hwr:IntKind.i64.wrap ((j2:Int)+1)=(j2:Int)+1:=by rw[IntKind.wrap_i64];omega
   clear hgz ho3 hfr hpre;go_wp2
   go_region_held3 (fun _=>True) (trivial) (first|(go_at_call 95;refine CC.o.mono ?_;rintro e w6 ⟨g,c,rfl,hpost⟩))
   go_wp2;go_ret;exact hpost.o
end Go.Proofs.YtiinliaoojfjaaaGreatDoor
