import Derived.Test.YtmkjelchiacogaaGreatDoorM21
import Derived.Test.YtmkjelchiacogaaGreatDoorM20
import Derived.WalkLawsBesides
import Derived.Test.YtmkjelchiacogaaGreatDoorM15
set_option linter.unusedVariables false
set_option linter.unusedSimpArgs false
set_option maxRecDepth 100000
set_option maxHeartbeats 6400000
open Go.Proofs.Tryz
namespace Go.Proofs.YtmkjelchiacogaaGreatDoor
open Go.RowKit
theorem NF{w:World}{base:Nat}{e:TypeId}{size:Nat}{g n cap:Nat}{xs:List Value}(h:w.ownsRow base e size (.slice (some ⟨g,0,none⟩) n cap) n xs)(o:Nat)(x:Value)(ho:o<n*size):(w.setCell ⟨g,o,none⟩ x).ownsRow base e size (.slice (some ⟨g,0,none⟩) n cap) n (xs.set o x):=by
 refine⟨by rw[List.length_set];exact h.1,?_⟩
 rcases h.2 with⟨h1,_⟩|⟨g',cap',cur,h1,hb,hg,hn,hm,hs,ht⟩
 ·cases h1
 ·cases h1
  refine Or.inr ⟨g,cap,cur.setIfInBounds o x,rfl,hb,?_,hn,hm,by simpa using hs,?_⟩
  ·simp[World.setCell,Array.getElem?_modify,hg]
  ·rw[Array.toList_setIfInBounds,List.take_set,ht]
theorem VU(g k:Nat):(⟨g,0,none⟩:Addr).add k=⟨g,k,none⟩:=by
 unfold Addr.add;split
 ·rename_i h;rw[h]
 ·simp
theorem VV{w:World}{base:Nat}{e:TypeId}{size gs n cap:Nat}{xs:List Value}(h:w.ownsRow base e size (.slice (some ⟨gs,0,none⟩) n cap) n xs)(o:Nat):w.frozen? ⟨gs,o,none⟩=false:=by
 rcases h.2 with⟨h1,_⟩|⟨g',cap',cur,h1,hb,hg,_⟩
 ·cases h1
 ·cases h1;exact Lib.frozen_of_heap hg o
theorem adN(P:List Value)(u v:Value)(Q:List Value):((P++u :: v :: Q).set (P.length+1) u).set P.length v=P++v :: u :: Q:=by
 rw[List.set_append_right _ _ (by omega),show P.length+1-P.length=1 by omega];rw[List.set_append_right _ _ (by omega),Nat.sub_self];rfl
theorem VW{B:Nat}{a w:World}(h:Below B a w){g:Nat}(hg:B<=g)(o:Nat)(v:Value):Below B a (w.setCell ⟨g,o,none⟩ v) :=
 ⟨h.os,h.tape,h.output,by simpa [World.setCell] using h.size,fun k hk=>by rw[<-h.block k hk];exact heap_setCell_other w _ k v (by simp;omega)⟩
theorem Il{w w':World}{base:Nat}{e:TypeId}{size:Nat}{v:Value}{n:Nat}{xs:List Value}(h:w.ownsRow base e size v n xs)(hg:w.grownBy w' none):w'.ownsRow base e size v n xs :=
 h.kept hg (by cases v.ownBlock<;>simp)
theorem NG{w:World}{base g n cap:Nat}{A B:List ByteArray}{x:ByteArray}(h:w.ownsRow base 9 1 (.slice (some ⟨g,0,none⟩) n cap) n ((A++x :: B).map Value.string)):w.cell? ⟨g,A.length,none⟩=some (.string x):=by
 have:=h.cells (g:=g) rfl A.length (.string x) (by simp);rw[VU]at this;exact this
theorem sorted_at(a:Addr)(c:Nat)(L:List ByteArray)(w:World)(hL:L.length<=1048576)(hpos:0<L.length)(h:∀j (hj:j<L.length),w.cell? (a.add j)=some (.string L[j])) :
  Calls prog 22 #[.slice (some a) L.length c] w (NE L w):=by
 have lI:=Ah;obtain⟨j0,hj0,hjj⟩:=Option.map_eq_some_iff.1 lI;simp only[Prod.mk.injEq]at hjj;obtain⟨hy0,hy1,hyb⟩:=hjj;clear lI;have hnews:∀j u,(L.map Value.string)[j]?=some u->w.cell? (a.add j)=some u:=fun j u hu=>by
  obtain⟨hj,rfl⟩:=List.getElem?_eq_some_iff.1 hu;rw[List.getElem_map];exact h j (by simpa using hj)
 obtain⟨n,hn⟩:=zN (L.length);have HN:Hd (L.length=n):=hn;rw[hn]at hL hpos ⊢;clear h;go_enter func22,ntmps22;go_wp2_with (first|(at_builtin;refine wpList_append_lies _ rfl _ _ 41 rfl w.heap.size 9 j0 _ 1 16 underlying41 hj0 hy0 hy1 hyb rfl (by decide) (.slice none 0 0) 0 [] rfl (World.ownsRow_nil _ _ _ _) a n c (L.map Value.string) rfl (by rw[List.length_map,hn,Nat.mul_one]) hnews (UK _) hpos (by unfold maxLen;omega) (by omega) (Nat.le_refl _) _ rfl ?_;intro g cap1 w1 hown1 hgrow1 hat1 hlt1));simp only[Nat.zero_add]at hown1 ⊢;have eu:Hd (w1.ownsRow w.heap.size 9 1 (.slice (some ⟨g,0,none⟩) n cap1) n (L.map Value.string)):=hown1;have HB1:Hd (Below w.heap.size w w1):=⟨hgrow1.os,hgrow1.tape,hgrow1.output,hgrow1.size,fun k hk=>hgrow1.block k hk (by simp[Value.ownBlock])⟩;have HCP:Hd (n<=cap1):=by
  rcases hown1.2 with⟨h1,_⟩|⟨g',cap',cur,hv,_,_,h3,_⟩
  ·cases h1
  ·cases hv;exact h3
 clear hown1 hgrow1 hat1 hlt1 hnews hn;have hcp:=HCP.o;go_wp2;go_loopw [4] (fun vi wr=>∃(i:Nat) (P:List ByteArray),vi=.int .i64 i/\1<=i/\i<=n/\P.Perm (L.take i)/\kV P/\wr.ownsRow w.heap.size 9 1 (.slice (some ⟨g,0,none⟩) n cap1) n ((P++L.drop i).map Value.string)/\Below w.heap.size w wr) (fun vi _=>n-(intOf vi).toNat)
 case atStart=>exact⟨1,L.take 1,rfl,Nat.le_refl _,hpos,List.Perm.refl _,by
  unfold kV
  match L,HN.o with
  | [],h=>exact List.Pairwise.nil
  | x :: r,h=>simp,by rw[List.take_append_drop];exact eu.o,HB1.o⟩
 case round =>
  obtain⟨i,P,rfl,hi1,hi,hp,hs,hown,hb⟩:=hrel;have HP:Hd (P.Perm (L.take i)/\kV P):=⟨hp,hs⟩;have HB:Hd (Below w.heap.size w wr):=hb
  by_cases hlt:i<n
  ·have hlt':i<L.length:=by rw[HN.o];exact hlt
   obtain⟨x,hx⟩:=zN (L[i]);have dF:Hd (P.length=i):=by
    show _=_;rw[hp.length_eq,List.length_take];omega
   have iG:Hd (L.take (i+1)=L.take i++[x]):=by
    show _=_;rw[List.take_succ_eq_append_getElem hlt',hx]
   obtain⟨Z,hZ⟩:=zN (L.drop (i+1));have HZ:Hd (L.drop (i+1)=Z):=hZ;have HR0:Hd (wr.ownsRow w.heap.size 9 1 (.slice (some ⟨g,0,none⟩) n cap1) n ((P++x :: ([]++Z)).map Value.string)):=by
    show World.ownsRow _ _ _ _ _ _ _;rw[List.nil_append,<-hZ,<-hx,<-List.drop_eq_getElem_cons hlt'];exact hown
   clear hp hs hown hb hx hZ;go_wp2;go_loopw [5] (fun vk wk=>∃A B:List ByteArray,vk=.int .i64 (A.length:Int)/\A++B=P/\(∀b∈B,cT x b<0)/\wk.ownsRow w.heap.size 9 1 (.slice (some ⟨g,0,none⟩) n cap1) n ((A++x :: (B++Z)).map Value.string)/\Below w.heap.size w wk) (fun vk _=>(intOf vk).toNat)
   case atStart=>exact⟨P,[],by rw[dF.o],by simp,by simp,HR0.o,HB.o⟩
   case round =>
    obtain⟨A,B,rfl,hAB,hBn,hrow,hbk⟩:=hrel;have HRW:Hd (wr.ownsRow w.heap.size 9 1 (.slice (some ⟨g,0,none⟩) n cap1) n ((A++x :: (B++Z)).map Value.string)):=hrow;have jC:Hd (Below w.heap.size w wr):=hbk;have uB:Hd (∀b∈B,cT x b<0):=hBn;have HAB:Hd (A++B=P):=hAB;have Ej:Hd ((∀A0 y,A=A0++[y]->cT y x<=0)->(A++x :: B).Perm (L.take (i+1))/\kV (A++x :: B)):=fun hlast=>by
     refine⟨?_,adM (by rw[HAB.o];exact HP.o.2) uB.o hlast⟩;have h1:(A++x :: B).Perm (x :: (A++B)):=List.perm_middle;rw[HAB.o]at h1;rw[iG.o];exact h1.trans ((HP.o.1.cons x).trans (List.perm_append_singleton x _).symm)
    have Em:Hd ((A++x :: (B++Z)).map Value.string=((A++x :: B)++L.drop (i+1)).map Value.string):=by
     show _=_;rw[HZ.o];simp
    clear hAB hBn hrow hbk
    rcases List.eq_nil_or_concat A with rfl|⟨A0,y,rfl⟩
    ·have Eo:=Ej.o (fun A0 y e=>by simp at e);have Ep:Hd (([]++x :: B).Perm (L.take (i+1))/\kV ([]++x :: B)):=Eo;clear Eo Ej;have k0:(([]:List ByteArray).length:Int)=0:=rfl;rw[k0];clear k0;have hdec:decide ((0:Int)<0)=false:=by decide
     go_wp2;go_quiet (fail);go_wp2;go_roundw
     case rel=>exact⟨i+1,[]++x :: B,by go_num,by omega,by omega,Ep.o.1,Ep.o.2,by rw[<-Em.o];exact Il HRW.o (au (ai _ none) _),below_drewN jC.o _⟩
     case measure=>simp[intOf];omega
    ·simp only[List.concat_eq_append]at HRW HAB Ej Em ⊢;have d1:wr.cell? ⟨g,A0.length+1,none⟩=some (.string x):=by
      have:=NG HRW.o;simpa using this
     have d2:wr.cell? ⟨g,A0.length,none⟩=some (.string y):=by
      have h1:=HRW.o;rw[List.append_assoc]at h1;exact NG (A:=A0) (x:=y) (B:=x :: (B++Z)) h1
     have jM:Hd (A0.length+1<=i):=by
      have h1:=congrArg List.length HAB.o;have h2:=dF.o;simp only[List.length_append,List.length_cons,List.length_nil]at h1;show _<=_;omega
     obtain⟨m,hm⟩:=zN (A0.length);have hmi:=jM.o;have kl:(((A0++[y]).length:Nat):Int)=(m:Int)+1:=by simp[hm]
     rw[kl];rw[hm]at d1 d2 hmi;have VY:Hd (A0.length=m):=hm;clear hm kl;have t1:((m:Int)+1).toNat=m+1:=by omega
     have t3:(0:Int)<(m:Int)+1:=by omega
     have t4:decide ((0:Int)<(m:Int)+1)=true:=decide_eq_true t3;have t6:(m:Int)+1<(n:Int):=by omega
     have t7:(0:Int)<=(m:Int)+1:=by omega
     have t8:(m:Int)<(n:Int):=by omega
     have tE:IntKind.i64.wrap (m:Int)=(m:Int):=by
      rw[IntKind.wrap_i64];omega
     have tD:(0:Int)<=(m:Int):=by omega
     have t9:m+1<n:=by omega
     have t10:m<n:=by omega
     by_cases hr0:cT x y<0
     ·have t5:=VP hr0;have ff:=VV HRW.o;go_wp2;go_quiet (fail);go_wp2;have hgb:=(HRW.o.lt g rfl).1;refine⟨⟨A0,y :: B,by rw[VY.o],by have:=HAB.o;simpa using this,fun b hb=>?_,?_,VW (VW (below_drewN jC.o _) hgb _ _) hgb _ _⟩,by simp[intOf]⟩
      ·rcases List.mem_cons.1 hb with rfl|hb
       ·exact hr0
       ·exact uB.o b hb
      ·have e1:((A0++[y])++x :: (B++Z)).map Value.string=A0.map Value.string++.string y :: .string x :: (B++Z).map Value.string:=by simp
       have e2:(A0++x :: (y :: B++Z)).map Value.string=A0.map Value.string++.string x :: .string y :: (B++Z).map Value.string:=by simp
       have e4:m=(A0.map Value.string).length:=by rw[List.length_map];exact VY.o.symm
       have h1:∀q,(((wr.drewN q).setCell ⟨g,m+1,none⟩ (.string y)).setCell ⟨g,m,none⟩ (.string x)).ownsRow w.heap.size 9 1 (.slice (some ⟨g,0,none⟩) n cap1) n ((A0++x :: (y :: B++Z)).map Value.string):=fun q=>by
        have h:=NF (NF (Il HRW.o (au (ai wr none) q)) (m+1) (.string y) (by omega)) m (.string x) (by omega);rw[e1,e4,adN,<-e2,<-e4]at h;exact h
       exact h1 _
     ·have t5:=adK hr0;have Eo:=Ej.o (fun A1 y1 e=>by
       have e1:=List.append_inj' e rfl;have e2:y=y1:=by simpa using e1.2
       rw[<-e2];exact NC hr0)
      have Ep:Hd (((A0++[y])++x :: B).Perm (L.take (i+1))/\kV ((A0++[y])++x :: B)):=Eo;clear Eo Ej;go_wp2;go_quiet (fail);go_wp2;go_roundw
      case rel=>exact⟨i+1,(A0++[y])++x :: B,by go_num,by omega,by omega,Ep.o.1,Ep.o.2,by rw[<-Em.o];exact Il HRW.o (au (ai _ none) _),below_drewN jC.o _⟩
      case measure=>simp[intOf];omega
  ·have hil:i=n:=by omega
   have HQ:Hd (P.Perm L/\wr.ownsRow w.heap.size 9 1 (.slice (some ⟨g,0,none⟩) n cap1) P.length (P.map Value.string)):=by
    have hln:L.length=i:=HN.o.trans hil.symm;have e1:L.take i=L:=by rw[<-hln,List.take_length]
    have e2:L.drop i=[]:=by rw[<-hln,List.drop_length]
    rw[e1]at hp;rw[e2,List.append_nil]at hown;refine⟨hp,?_⟩;rw[hp.length_eq,HN.o];exact hown
   clear hp hs hown hb hil hi;go_wp2;refine bodyPost_ret (results_tmp (t:=2) rfl _ _ _) rfl ⟨_,P,rfl,HQ.o.2,HQ.o.1,HP.o.2,HB.o⟩
theorem VZ(v:Value)(L:List ByteArray)(w:World)(h:TxS w v L)(hL:L.length<=1048576):Calls prog 22 #[v] w (NE L w):=by
 obtain⟨o,c,rfl⟩:=kT h
 by_cases h0:L.length=0
 ·have hnil:=List.length_eq_zero_iff.1 h0;subst hnil;have lI:=Ah;obtain⟨j0,hj0,hjj⟩:=Option.map_eq_some_iff.1 lI;clear h lI hjj;have hz:(([]:List ByteArray).length)=0:=rfl;rw[hz];clear hz;go_enter func22,ntmps22;go_wp2_with (first|(at_builtin;refine UL rfl _ _ 41 rfl 9 j0 underlying41 hj0 rfl _ _ rfl ?_));go_wp2;go_loopw [4] (fun vi wr=>vi=.int .i64 1/\Below w.heap.size w wr) (fun vi _=>0)
  case atStart=>exact⟨rfl,Below.refl _ _⟩
  case round =>
   obtain⟨rfl,hb⟩:=hrel;have HB:Hd (Below w.heap.size w wr):=hb;clear hb;go_wp2;refine bodyPost_ret (results_tmp (t:=2) rfl _ _ _) rfl ⟨_,[],rfl,World.ownsRow_nil _ _ _ _,List.Perm.refl _,List.Pairwise.nil,HB.o⟩
 ·rcases h with⟨h1,h2⟩|⟨a,cap,h1,h2,h3⟩
  ·rw[h2]at h0;exact absurd rfl h0
  ·cases h1
   exact sorted_at a c L w hL (by omega) h3
open Go.RowKit
def tJ(a b:ByteArray):Bool:=decide (cT a b<=0)
theorem V4(a b c:ByteArray)(h1:tJ a b=true)(h2:tJ b c=true):tJ a c=true:=by
 unfold tJ at *;exact decide_eq_true (VQ (of_decide_eq_true h1) (of_decide_eq_true h2))
theorem V5(a b:ByteArray):(tJ a b || tJ b a)=true:=by
 unfold tJ;have:=qm.anti a b;simp only[Bool.or_eq_true,decide_eq_true_eq];omega
def iT(L:List ByteArray):List ByteArray:=L.mergeSort tJ
theorem rM(L:List ByteArray):(iT L).Perm L:=List.mergeSort_perm L tJ
theorem V6(L:List ByteArray):kV (iT L):=(List.pairwise_mergeSort V4 V5 L).imp (fun h=>of_decide_eq_true h)
theorem NH{S L:List ByteArray}(hp:S.Perm L)(hs:kV S):S=iT L:=adL (hp.trans (rM L).symm) hs (V6 L)
def bZ(x:En):En:=⟨x.nm,x.ve,x.dg,iT x.nd⟩
def V7(a b:En):Bool:=tJ a.nm b.nm
def jd(L:List En):List En:=L.mergeSort V7
def wW(E:List En):Prop:=E.Pairwise (fun a b=>cT a.nm b.nm<=0)
theorem tK(L:List En):(jd L).Perm L:=List.mergeSort_perm L V7
theorem V8(L:List En):wW (jd L):=(List.pairwise_mergeSort (fun a b c=>V4 a.nm b.nm c.nm) (fun a b=>V5 a.nm b.nm) L).imp (fun h=>of_decide_eq_true h)
theorem NI:∀{L:List En},(L.map (·.nm)).Nodup->∀a∈L,∀b∈L,a.nm=b.nm->a=b
 | [],_,a,ha,_,_,_=>by cases ha
 | x :: L,h,a,ha,b,hb,e=>by
  rw[List.map_cons,List.nodup_cons]at h
  rcases List.mem_cons.1 ha with ha1|ha1
  ·rcases List.mem_cons.1 hb with hb1|hb1
   ·rw[ha1,hb1]
   ·exact absurd (by rw[<-ha1,e];exact List.mem_map.2 ⟨b,hb1,rfl⟩) h.1
  ·rcases List.mem_cons.1 hb with hb1|hb1
   ·exact absurd (by rw[<-hb1,<-e];exact List.mem_map.2 ⟨a,ha1,rfl⟩) h.1
   ·exact NI h.2 a ha1 b hb1 e
theorem NJ{E L:List En}(hn:(L.map (·.nm)).Nodup)(hp:E.Perm L)(hs:wW E):E=jd L:=by
 refine ND _ E (jd L) (hp.trans (tK L).symm) hs (V8 L) (fun a ha b hb r1 r2=>?_);exact NI hn a (hp.subset ha) b (hp.subset hb) (VO (by have:=qm.anti a.nm b.nm;omega))
def kG(L:List En)(n:ByteArray):En:=(L.find? (fun e=>decide (e.nm=n))).getD ⟨⟨#[]⟩,⟨#[]⟩,⟨#[]⟩,[]⟩
theorem adO(L:List En)(n:ByteArray)(j:Nat)(hj:j<L.length)(h1:L[j].nm=n)(h2:az (L.take j) n=false):kG L n=L[j]:=by
 have:L.find? (fun e=>decide (e.nm=n))=some L[j]:=by
  rw[List.find?_eq_some_iff_getElem];refine⟨by simpa using h1,j,hj,rfl,fun k hk=>?_⟩;unfold az at h2;rw[List.any_eq_false]at h2;have:=h2 L[k] (List.mem_take_iff_getElem.2 ⟨k,by omega,rfl⟩);simpa using this
 unfold kG;rw[this];rfl
theorem V9{L:List En}(hn:(L.map (·.nm)).Nodup)(x:En)(hx:x∈L):kG L x.nm=x:=by
 unfold kG
 cases hf:L.find? (fun e=>decide (e.nm=x.nm)) with
 | none =>
  have:=List.find?_eq_none.1 hf x hx;simp at this
 | some y =>
  have h1:=List.mem_of_find?_eq_some hf;have h2:y.nm=x.nm:=by simpa using List.find?_some hf
  exact NI hn y h1 x hx h2
theorem adP{L:List En}(hn:(L.map (·.nm)).Nodup){S:List ByteArray}(hp:S.Perm (L.map (·.nm))):(S.map (kG L)).Perm L:=by
 have h1:=hp.map (kG L);rw[List.map_map]at h1;have h2:L.map (kG L ∘ (·.nm))=L:=by
  conv=>rhs;rw[<-List.map_id L]
  exact List.map_congr_left (fun x hx=>V9 hn x hx)
 rw[h2]at h1;exact h1
theorem adQ{L:List En}{S:List ByteArray}(hm:∀n∈S,(kG L n).nm=n)(hs:kV S):wW (S.map (kG L)):=by
 unfold wW;rw[List.pairwise_map];refine List.Pairwise.imp_of_mem (fun {a b} ha hb h=>?_) hs;rw[hm a ha,hm b hb];exact h
theorem adR{L:List En}(hn:(L.map (·.nm)).Nodup){S:List ByteArray}(hp:S.Perm (L.map (·.nm)))(hs:kV S):S.map (kG L)=jd L:=by
 refine NJ hn (adP hn hp) (adQ (fun n hn2=>?_) hs);obtain⟨x,hx,rfl⟩:=List.mem_map.1 (hp.subset hn2);rw[V9 hn x hx]
theorem adS:(prog.info? 43).map (fun i=>(i.zero,i.size,i.bytes))=some (some (.agg #[.string ⟨#[]⟩,.string ⟨#[]⟩,.string ⟨#[]⟩,.slice none 0 0]),4,72):=by kernel_rfl
def Et(M:List En)(w:World)(base:Nat)(vm:Value):Prop:=∃vs:List Value,∃hl:vs.length=M.length,w.ownsRow base 43 4 vm M.length (ni M vs)/\∀j (hj:j<M.length),TxS w (vs[j]'(by omega)) M[j].nd/\mZ (vs[j]'(by omega)) vm.ownBlock
theorem adT{M:List En}{w:World}{base:Nat}{v:Value}(h:Et M w base v):EnS w v M:=by
 obtain⟨vs,hl,ho,hn⟩:=h
 rcases ho.2 with⟨h1,h2⟩|⟨g,cap,cur,hv,hb,hc,h3,h4,h5,h6⟩
 ·exact Or.inl ⟨h1,List.length_eq_zero_iff.1 h2⟩
 ·refine Or.inr ⟨⟨g,0,none⟩,cap,hv,h3,fun i hi=>?_⟩;have h':=ho;rw[hv]at h';have key:∀k u,0<k->(ng M[i] (vs[i]'(by omega)))[k]?=some u->w.cell? ⟨((⟨g,0,none⟩:Addr).add (i*4)).block,((⟨g,0,none⟩:Addr).add (i*4)).off+k,none⟩=some u:=fun k u hk hu=>by
   have:=h'.cells (g:=g) rfl (i*4+k) u (DC M vs hl.symm i hi k u hu);rw[Hz _ _ k hk]at this;exact this
  have k0:=h'.cells (g:=g) rfl (i*4+0) _ (DC M vs hl.symm i hi 0 _ rfl);exact⟨by simpa using k0,key 1 _ (by omega) rfl,key 2 _ (by omega) rfl,_,key 3 _ (by omega) rfl,(hn i hi).1⟩
theorem adU{M:List En}{w w1 w3:World}{base g cap k:Nat}{vm v2:Value}{y:En}{vs:List Value}(hk:M.length=k)(hl:vs.length=M.length)(hown:w.ownsRow base 43 4 vm k (ni M vs))(hin:∀j (hj:j<M.length),TxS w (vs[j]'(by omega)) M[j].nd/\mZ (vs[j]'(by omega)) vm.ownBlock)(hg:w.grownBy w1 none)
  (ho:w3.ownsRow base 43 4 (.slice (some ⟨g,0,none⟩) (k+1) cap) (k+1) (ni M vs++ng y v2)) (hgrow:w1.grownBy w3 vm.ownBlock) (hat:vm.ownBlock=some g\/g=w1.heap.size)
  (ht:TxS w1 v2 y.nd) (hf:∀a n k,v2=.slice (some a) n k->0<n->w.heap.size<=a.block/\a.block<w1.heap.size):Et (M++[y]) w3 base (.slice (some ⟨g,0,none⟩) (k+1) cap):=by
 subst hk;refine⟨vs++[v2],by simp[hl],by rw[List.length_append,List.length_singleton,UJ M vs y v2 hl.symm];exact ho,fun j hj=>?_⟩;have We:∀v N,TxS w1 v N->mZ v vm.ownBlock->(∀a n k,v=.slice (some a) n k->0<n->a.block<w1.heap.size)->mZ v (some g):=fun v N h1 h2 h3 a n k e hn=>by
  rcases hat with h5|h5
  ·rw[<-h5];exact h2 a n k e hn
  ·intro h6;injection h6 with h6
   have:=h3 a n k e hn;omega
 by_cases hji:j<M.length
 ·obtain⟨k1,k2⟩:=hin j hji;have ej:(vs++[v2])[j]'(by simp;omega)=vs[j]'(by omega):=List.getElem_append_left (by omega);have em:(M++[y])[j]'hj=M[j]:=List.getElem_append_left hji;rw[ej,em];refine⟨(k1.grow hg).far hgrow k2,We _ _ (k1.grow hg) k2 (fun a n k e hn=>?_)⟩;have:=Dz (by rw[<-e];exact k1) hn;exact Nat.lt_of_lt_of_le this hg.size
 ·have hje:j=M.length:=by simp at hj;omega
  subst hje;have ej:(vs++[v2])[M.length]'(by simp[hl])=v2:=by simp[<-hl]
  have em:(M++[y])[M.length]'hj=y:=by simp
  rw[ej,em];have hfv:mZ v2 vm.ownBlock:=fun a n k e hn h2=>by
   have h1:=(hf a n k e hn).1;have h3:=(hown.lt a.block h2.symm).2;omega
  exact⟨ht.far hgrow hfv,We _ _ ht hfv (fun a n k e hn=>(hf a n k e hn).2)⟩
open Go.RowKit
theorem adV(L:List En)(i:Nat)(hi:i<L.length):((L.take (i+1)).map (·.nm)).map Value.string=((L.take i).map (·.nm)).map Value.string++[.string L[i].nm]:=by
 rw[List.take_succ_eq_append_getElem hi,List.map_append,List.map_append];rfl
theorem NK{w wa wb:World}{row:Option Nat}(h:w.grownBy wa none)(hg:wa.grownBy wb row)(hr:∀q,row=some q->w.heap.size<=q):w.grownBy wb none :=
 ⟨hg.os.trans h.os,hg.tape.trans h.tape,hg.output.trans h.output,Nat.le_trans h.size hg.size,fun k hk hn=>(hg.block k (Nat.lt_of_lt_of_le hk h.size) (fun e=>by have:=hr k e.symm;omega)).trans (h.block k hk hn)⟩
theorem adW(s:ByteArray):∀u∈[Value.string s],u.oneCell'=true:=by
 intro u hu;rw[List.mem_singleton.1 hu];rfl
theorem Wh(a:Addr)(cap:Nat)(L:List En)(w:World)(hL:L.length<=1048576)(hcap:L.length<=cap)(hN:∀x∈L,x.nd.length<=1048576)(hnd:(L.map (·.nm)).Nodup)(h:∀i (hi:i<L.length),EnAt w (a.add (i*4)) L[i]) :
  Calls prog 11 #[.slice (some a) L.length cap] w fun e w'=>∃v,e=.returned v/\EnS w' v ((jd L).map bZ)/\w.grownBy w' none:=by
 have xK:Hd (∀w',w.grownBy w' none->EnS w' (.slice (some a) L.length cap) L):=fun w' hg=>Or.inr ⟨a,cap,rfl,hcap,fun j hj=>(h j hj).grow hg⟩
 have HA:Hd (∀i (hi:i<L.length),EnAt w (a.add (i*4)) L[i]):=h;have CE:Hd (∀n w',w.grownBy w' none->Calls prog 23 #[.slice (some a) L.length cap,.string n] w' fun e w''=>∃c:Int,e=.returned (.int .i64 c)/\EntI L n c/\w'.grownBy w'' none):=fun n w' hg=>VG _ L n w' (xK.o w' hg) hL
 have CS:Hd (∀(v:Value) (K:List ByteArray) (w:World),TxS w v K->K.length<=1048576->Calls prog 22 #[v] w (NE K w)):=fun v K w h1 h2=>VZ v K w h1 h2
 have HND:Hd (L.map (·.nm)).Nodup:=hnd;have DR:Hd (∀x∈L,x.nd.length<=1048576):=hN;clear h hN hnd;have hinfo:=adS;obtain⟨i0,hi0,hii⟩:=Option.map_eq_some_iff.1 hinfo;simp only[Prod.mk.injEq]at hii;obtain⟨hz0,hz1,hzb⟩:=hii;have lI:=Ah;obtain⟨j0,hj0,hjj⟩:=Option.map_eq_some_iff.1 lI;simp only[Prod.mk.injEq]at hjj;obtain⟨hy0,hy1,hyb⟩:=hjj;clear hinfo lI;go_enter func11,ntmps11;go_wp2;go_loopw [3,4] (fun vm vi wr=>∃i:Nat,vi=.int .i64 i/\i<=L.length/\wr.ownsRow w.heap.size 9 1 vm i (((L.take i).map (·.nm)).map Value.string)/\Below w.heap.size w wr) (fun _ vi _=>L.length-(intOf vi).toNat)
 case atStart=>exact⟨0,rfl,Nat.zero_le _,World.ownsRow_nil _ _ _ _,Below.refl _ _⟩
 case round =>
  obtain⟨i,rfl,hi,hown,hb⟩:=hrel
  by_cases hlt:i<L.length
  ·obtain⟨e0,-,-,-⟩:=(HA.o i hlt).grow (pX hb);obtain⟨s,hs⟩:=zN (L[i].nm);rw[hs]at e0;have iG:Hd (((L.take (i+1)).map (·.nm)).map Value.string=((L.take i).map (·.nm)).map Value.string++[.string s]):=by
    show _=_;rw[adV L i hlt,hs]
   have hzz:=hb.size;clear hs;go_wp2_with (first|(at_builtin;refine wpList_append_lies _ rfl _ _ 41 rfl w.heap.size 9 j0 _ 1 16 underlying41 hj0 hy0 hy1 hyb rfl (by decide) _ _ _ rfl (hown.alloc _) _ 1 1 [.string s] rfl rfl (World.news_of_block (heap_alloc_new _ _)) (adW s) (by decide) (by unfold maxLen;omega) (by omega) (by simp;omega) _ rfl ?_;intro g cap1 w3 hown3 hgrow hat3 hlt3));have HB3:Hd (Below w.heap.size w w3):=(hb.alloc hb.size _).grown hgrow (by simp;omega) (fun q hq=>(hown.lt q hq).1);have NL:Hd (w3.ownsRow w.heap.size 9 1 (.slice (some ⟨g,0,none⟩) (i+1) cap1) (i+1) (((L.take (i+1)).map (·.nm)).map Value.string)):=by show World.ownsRow _ _ _ _ _ _ _;rw[iG.o];exact hown3
   clear hown3 hgrow hat3 hlt3 hown hb e0;go_wp2;go_roundw
   case rel=>exact⟨i+1,by go_num,by omega,NL.o,HB3.o⟩
   case measure=>simp[intOf];omega
  ·have hil:i=L.length:=by omega
   have htx:TxS wr u3 (L.map (·.nm)):=by
    rw[hil,List.take_length]at hown;exact yE (by simp) hown
   have HG:Hd (w.grownBy wr none):=pX hb;obtain⟨ou,cu,rfl⟩:=kT htx;obtain⟨nl,hnl⟩:∃n,(L.map (·.nm)).length=n:=⟨_,rfl⟩;have HNM:Hd ((L.map (·.nm)).length<=1048576):=by rw[List.length_map];exact hL
   rw[hnl]at htx
   try rw[hnl]
   have oV:Hd (TxS wr (.slice ou nl cu) (L.map (·.nm))):=htx;clear hown hb hil hi htx hnl;go_wp2_with (go_at_call 22;refine(CS.o _ (L.map (·.nm)) _ oV.o HNM.o).mono ?_);rintro e w4 ⟨v4,S,rfl,hown4,wu,hr4,hb4⟩;have Eu:TxS w4 v4 S:=yE rfl hown4;have adX:Hd (TxS w4 v4 S):=Eu;have fD:Hd (w.grownBy w4 none):=af HG.o (pX hb4);have qG:Hd (S.Perm (L.map (·.nm))/\kV S):=⟨wu,hr4⟩;have iO:Hd (S.length<=1048576):=by show _<=_;rw[wu.length_eq];simpa using hL
   obtain⟨o4,c4,rfl⟩:=kT Eu;have hsl:=iO.o;clear hown4 wu hr4 hb4 Eu;go_wp2;go_loopw [5,6] (fun vm vk wk=>∃k:Nat,vk=.int .i64 k/\k<=S.length/\Et (((S.take k).map (kG L)).map bZ) wk w4.heap.size vm/\w4.grownBy wk none) (fun _ vk _=>S.length-(intOf vk).toNat)
   case atStart=>exact⟨0,rfl,Nat.zero_le _,⟨[],rfl,World.ownsRow_nil _ _ _ _,fun j hj=>by simp at hj⟩,ai _ _⟩
   case round =>
    obtain⟨k,rfl,hk,hq,hgk⟩:=hrel;have HQ:Hd (Et (((S.take k).map (kG L)).map bZ) wr w4.heap.size u5):=hq;have jZ:Hd (w4.grownBy wr none):=hgk;have dW:Hd (w.grownBy wr none):=af fD.o hgk
    by_cases hlt:k<S.length
    ·obtain⟨b,rfl,hcv,hat⟩:=uK (adX.o.grow hgk) hlt;have g0:=hat k hlt;obtain⟨y,hy⟩:=zN (S[k]);rw[hy]at g0;have HY:Hd (S[k]=y):=hy;have HYM:Hd (y∈L.map (·.nm)):=qG.o.1.subset (by rw[<-hy];exact List.getElem_mem _);clear hq hgk hat hy;go_wp2_with (go_at_call 23;refine(CE.o _ _ dW.o).mono ?_);rintro e w5 ⟨c,rfl,hc,hg5⟩;obtain⟨jx,Wj,rfl,hjn,Wl⟩:∃j,∃hj:j<L.length,c=(j:Int)/\L[j].nm=y/\az (L.take j) y=false:=by
      rcases hc with⟨_,h2⟩|h
      ·obtain⟨x,hx,hxn⟩:=List.mem_map.1 HYM.o;unfold az at h2;rw[List.any_eq_false]at h2;have:=h2 x hx;simp[hxn]at this
      ·exact h
     obtain⟨x,hx⟩:=zN (L[jx]);have A7:Hd (kG L y=x):=by
      show _=_;rw[adO L y jx Wj hjn Wl,hx]
     have JB:Hd (x.nd.length<=1048576):=DR.o x (by rw[<-hx];exact List.getElem_mem _);obtain⟨e0,e1,e2,sv,e3,hsv⟩:EnAt w5 (a.add (jx*4)) x:=by rw[<-hx];exact(HA.o jx Wj).grow (af dW.o hg5)
     have HSV:Hd (TxS w5 sv x.nd):=hsv;obtain⟨so,sc,rfl⟩:=kT hsv;have Wn:Hd (wr.grownBy w5 none):=hg5;have NM:(jx:Int)<(L.length:Int):=by omega
     have hjN:jx<cap:=by omega
     obtain⟨A,hA⟩:=zN (w5.heap.size);clear hc hg5 hjn Wl hx hsv g0;go_wp2_with (first|(go_at_call 22;refine(CS.o _ x.nd _ (HSV.o.grow (aP (ai w5 none) _)) JB.o).mono ?_));rintro e w6 ⟨v6,T,rfl,hown6,sU,oO,hb6⟩;obtain⟨c0,c1,c2,c3⟩:=tH ((hb6.block w5.heap.size (by simp)).trans (heap_alloc_new w5 _));have NP:TxS w6 v6 T:=yE rfl hown6;have hT:T=iT x.nd:=NH sU oO;have ww:∀a n k,v6=.slice (some a) n k->0<n->w5.heap.size<=a.block/\a.block<w6.heap.size:=fun a n k e hn=>by
      rw[e]at hown6;have:=hown6.lt a.block rfl;simp at this;omega
     have Wp:w5.grownBy w6 none:=af (aP (ai w5 none) _) (pX hb6);have bG:wr.grownBy w6 none:=af Wn.o Wp;have Wq:Hd (TxS w6 v6 (bZ x).nd):=by
      show TxS _ _ _;rw[show(bZ x).nd=T from hT.symm];exact NP
     have HF6:Hd (∀a n k,v6=.slice (some a) n k->0<n->wr.heap.size<=a.block/\a.block<w6.heap.size):=fun a n k e hn=>by
      have:=ww a n k e hn;have:=Wn.o.size;omega
     have lS:Hd (wr.grownBy w6 none):=bG;obtain⟨o6,c6,rfl⟩:=kT NP;obtain⟨t6,NQ⟩:∃t,T.length=t:=⟨_,rfl⟩;rw[NQ]at Wq HF6
     try rw[NQ]
     try rw[hA]
     rw[hA]at c0 c1 c2 c3;obtain⟨M,hM⟩:=zN (((S.take k).map (kG L)).map bZ);have hq2:=HQ.o;rw[hM]at hq2;obtain⟨vs,hvl,Ew,Ws⟩:=hq2;have yM:Hd ((((S.take k).map (kG L)).map bZ).length=k):=by show _=_;rw[List.length_map,List.length_map,List.length_take];omega
     have hml:=yM.o;rw[hM]at hml;rw[hml]at Ew;have Wu:=Il Ew bG;have HOQ:Hd (wr.ownsRow w4.heap.size 43 4 u5 k (ni M vs)):=Ew;have Wv:Hd (vs.length=M.length/\M.length=k):=⟨hvl,hml⟩;have H5:Hd (∀j (hj:j<M.length),TxS wr (vs[j]'(by omega)) M[j].nd/\mZ (vs[j]'(by omega)) u5.ownBlock):=Ws;have Be:Hd (((S.take k).map (kG L)).map bZ=M):=hM;have ahj:w4.heap.size<=w6.heap.size:=Nat.le_trans jZ.o.size bG.size;have HOB:Hd (∀q,u5.ownBlock=some q->w4.heap.size<=q):=fun q hq=>(Ew.lt q hq).1
     clear hown6 sU oO hb6 NP hT ww Wp bG Ws hA NQ e0 e1 e2 e3 hM hml Ew;go_wp2_with (first|(at_builtin;refine wpList_append_lies _ rfl _ _ 22 rfl w4.heap.size 43 i0 _ 4 72 underlying22 hi0 hz0 hz1 hzb rfl (by decide) _ _ _ rfl (Wu.alloc _) _ 1 1 (ng (bZ x) (.slice o6 t6 c6)) rfl rfl (World.news_of_block (heap_alloc_new _ _)) (L9 _ _ rfl) (by decide) (by unfold maxLen;omega) (by omega) (by simp;omega) _ rfl ?_;intro g cap1 w7 hown7 hgrow7 hat7 hlt7));have adY:Hd (w4.grownBy w7 none):=by
      refine NK (af jZ.o (aP lS.o _)) hgrow7 HOB.o
     have HQ7:Hd (Et (((S.take (k+1)).map (kG L)).map bZ) w7 w4.heap.size (.slice (some ⟨g,0,none⟩) (k+1) cap1)):=by
      have e1:((S.take (k+1)).map (kG L)).map bZ=((S.take k).map (kG L)).map bZ++[bZ x]:=by
       rw[List.take_succ_eq_append_getElem hlt,List.map_append,List.map_append,HY.o,List.map_singleton,A7.o];rfl
      rw[e1,Be.o];exact adU (w1:=w6.alloc (.cells #[.string x.nm,.string x.ve,.string x.dg,.slice o6 t6 c6] 43)) Wv.o.2 Wv.o.1 HOQ.o H5.o (aP lS.o _) hown7 hgrow7 hat7 (Wq.o.grow (aP (ai w6 none) _)) (fun a n k e hn=>by have:=HF6.o a n k e hn;simp;omega)
     clear hown7 hgrow7 hat7 hlt7 Wu c0 c1 c2 c3;go_wp2;go_roundw
     case rel=>exact⟨k+1,by go_num,by omega,HQ7.o,adY.o⟩
     case measure=>simp[intOf];omega
    ·have hke:k=S.length:=by omega
     have HF:Hd (EnS wr u5 ((jd L).map bZ)):=by
      rw[hke,List.take_length,adR HND.o qG.o.1 qG.o.2]at hq;exact adT hq
     clear hq hgk hke hk;go_wp2;refine bodyPost_ret (results_tmp (t:=2) rfl _ _ _) rfl ⟨_,rfl,HF.o,dW.o⟩
open Go.RowKit
def cat(x y:ByteArray):ByteArray:=x++y
theorem gX(x y:ByteArray):(cat x y).data.toList=x.data.toList++y.data.toList:=by simp[cat]
theorem gY(x y:ByteArray):(cat x y).size=x.size+y.size:=by simp[cat]
theorem ig(x y:ByteArray)(wx:World)(h:x.size+y.size<=140737488355328):(Op.stringOp .add x y).run prog wx=.ok (.string (cat x y)) wx :=
 run_string_add_sum wx _ _ (by omega)
theorem adZ{x:ByteArray}{l:List UInt8}(h:x.data.toList=l):x=⟨l.toArray⟩:=ByteArray.ext (Array.ext' (by simpa using h))
def gm(N:List ByteArray):Nat->List UInt8
 | 0=>[]
 | k+1=>gm N k++((if 0<k then[44,32] else[])++(match N[k]? with|some y=>34 :: (y.data.toList++[34])|none=>[]))
theorem Io(N:List ByteArray)(k:Nat)(hk:k<N.length):gm N (k+1)=gm N k++((if 0<k then[44,32] else[])++34 :: (N[k].data.toList++[34])):=by
 simp[gm,List.getElem?_eq_getElem hk]
def ik(x:En):List UInt8:=[10,91,91,112,97,99,107,97,103,101,93,93,10,100,105,103,101,115,116,32,61,32,34]++(x.dg.data.toList++([34,10,110,97,109,101,32,61,32,34]++(x.nm.data.toList++([34,10,110,101,101,100,115,32,61,32,91]++(gm x.nd x.nd.length++([93,10,118,101,114,115,105,111,110,32,61,32,34]++(x.ve.data.toList++[34,10])))))))
def tN(M:List En):List UInt8:=[102,111,114,109,97,116,32,61,32,49,10]++M.flatMap ik
def Short(x:En):Prop:=x.nm.size<=1048576/\x.ve.size<=1048576/\x.dg.size<=1048576/\x.nd.length<=20/\∀y∈x.nd,y.size<=1048576
theorem Ip(N:List ByteArray)(h:∀y∈N,y.size<=1048576):∀k,k<=N.length->(gm N k).length<=k*1048580
 | 0,_=>by simp[gm]
 | k+1,hk=>by
  have h1:=Ip N h k (by omega);have h2:=h N[k] (List.getElem_mem _);have e:N[k].data.toList.length=N[k].size:=by simp
  rw[Io N k (by omega)];split
  ·simp only[List.length_append,List.length_cons,List.length_nil,e];omega
  ·simp only[List.length_append,List.length_cons,List.length_nil,e];omega
theorem ad1{L:List En}{i:Nat}{x:En}(h:nX L i x=0):i<50/\x.nd.length<=20/\az (L.take i) x.nm=false:=by
 unfold nX at h;split at h
 ·cases h
 ·rename_i h1;split at h
  ·cases h
  ·split at h
   ·cases h
   ·rename_i h3;refine⟨by omega,by omega,?_⟩
    cases hh:az (L.take i) x.nm with
    | false=>rfl
    | true=>exact absurd (Or.inl hh) h3
theorem NR(L:List En)(h:(bJ L L.length).1=0):L.length<=50/\(∀x∈L,x.nd.length<=20)/\(L.map (·.nm)).Nodup:=by
 have h0:=Vy L h;have h1:∀i (hi:i<L.length),i<50/\L[i].nd.length<=20/\az (L.take i) L[i].nm=false:=fun i hi=>by
  have:=h0 i hi;rw[Eb L i hi]at this;exact ad1 this
 refine⟨?_,fun x hx=>?_,?_⟩
 ·apply Classical.byContradiction;intro hn;have:=(h1 50 (by omega)).1;omega
 ·obtain⟨i,hi,rfl⟩:=List.getElem_of_mem hx;exact(h1 i hi).2.1
 ·unfold List.Nodup;rw[List.pairwise_iff_getElem];intro i j hi hj hij e;rw[List.length_map]at hi hj;rw[List.getElem_map,List.getElem_map]at e;have:=(h1 j hj).2.2;rw[Au L _ j i hi hij e]at this
  cases this
def ny(L:List En):ByteArray:=⟨(tN ((jd L).map bZ)).toArray⟩
noncomputable def iU(L:List En):ByteArray:=if(bJ L L.length).1=0 then ny L else⟨#[]⟩
theorem ad4{x:En}(h:Short x):Short (bZ x):=⟨h.1,h.2.1,h.2.2.1,by show(iT x.nd).length<=20;rw[(rM x.nd).length_eq];exact h.2.2.2.1,fun y hy=>h.2.2.2.2 y ((rM x.nd).subset hy)⟩
theorem Wx(M:List En)(i:Nat)(hi:i<M.length):(M.take (i+1)).flatMap ik=(M.take i).flatMap ik++ik M[i]:=by
 rw[List.take_succ_eq_append_getElem hi,List.flatMap_append];simp
theorem ad5(a:Addr)(cap:Nat)(L:List En)(w:World)(hcap:L.length<=cap)(h:∀j (hj:j<L.length),EnAt w (a.add (j*4)) L[j])(hL:L.length<=1048576)(hV:∀x∈L,x.nm.size<=1048576/\x.ve.size<=1048576/\x.dg.size<=1048576)(hN:∀x∈L,x.nd.length<=1048576)(hS:∀x∈L,∀y∈x.nd,y.size<=1048576) :
  Calls prog 6 #[.slice (some a) L.length cap] w fun e w'=>e=.returned (.tuple #[.string (iU L),.int .i64 (bJ L L.length).1,.int .i64 ((bJ L L.length).2:Int)])/\w.grownBy w' none:=by
 have CW:Hd (∀i w',i<L.length->w.grownBy w' none->Calls prog 15 #[.slice (some a) L.length cap,.int .i64 i] w' fun e w''=>e=.returned (.int .i64 (fZ L i))/\w'.grownBy w'' none):=fun i w' hi hg=>adG a cap L i w' hi hcap (fun j hj=>(h j hj).grow hg) hL (fun x hx=>by have:=hV x hx;exact⟨by omega,by omega,by omega⟩) hN (fun x hx y hy=>by have:=hS x hx y hy;omega)
 have CR:Hd (∀w',w.grownBy w' none->(L.map (·.nm)).Nodup->Calls prog 11 #[.slice (some a) L.length cap] w' fun e w''=>∃o c,e=.returned (.slice o ((jd L).map bZ).length c)/\EnS w'' (.slice o ((jd L).map bZ).length c) ((jd L).map bZ)/\w'.grownBy w'' none):=fun w' hg hn=>(Wh a cap L w' hL hcap hN hn (fun j hj=>(h j hj).grow hg)).mono fun e w'' ⟨v,h1,h2,h3⟩=>by
  obtain⟨o,c,rfl⟩:=wH h2;exact⟨o,c,h1,h2,h3⟩
 have NS:Hd ((bJ L L.length).1=0->L.length<=50/\(L.map (·.nm)).Nodup/\∀x∈(jd L).map bZ,Short x):=fun h0=>by
  obtain⟨h1,h2,h3⟩:=NR L h0;refine⟨h1,h3,fun x hx=>?_⟩;obtain⟨y,hy,rfl⟩:=List.mem_map.1 hx;have hy2:=(tK L).subset hy;exact ad4 ⟨(hV y hy2).1,(hV y hy2).2.1,(hV y hy2).2.2,h2 y hy2,hS y hy2⟩
 have yM:Hd (((jd L).map bZ).length=L.length):=by show _=_;rw[List.length_map,(tK L).length_eq]
 have HH:Hd (∀i,i<L.length->¬fZ L i=0->bJ L (L.length-i)=(fZ L i,i)):=Vw L;have HM:Hd (∀i,i<L.length->fZ L i=0->bJ L (L.length-i)=bJ L (L.length-(i+1))):=Vx L;have lU:Hd ((bJ L L.length).1=0->iU L=⟨(tN ((jd L).map bZ)).toArray⟩):=fun h0=>by
  show iU L=_;unfold iU;rw[if_pos h0];rfl
 have qg:Hd (¬(bJ L L.length).1=0->iU L=⟨#[]⟩):=fun h0=>by
  show iU L=_;unfold iU;rw[if_neg h0]
 obtain⟨T,hT⟩:=zN (iU L);rw[hT]at lU qg ⊢;obtain⟨R,hR⟩:=zN (bJ L L.length);have NT:Hd (bJ L (L.length-0)=R):=hR;rw[hR]at NS lU qg ⊢;obtain⟨M,hM⟩:=zN ((jd L).map bZ);rw[hM]at NS lU CR yM;clear h hV hN hS hR hT hM;go_enter func6,ntmps6;go_wp2;go_loopw [5] (fun vi wr=>∃i:Nat,vi=.int .i64 i/\i<=L.length/\bJ L (L.length-i)=R/\w.grownBy wr none) (fun vi _=>L.length-(intOf vi).toNat)
 case atStart=>exact⟨0,rfl,Nat.zero_le _,NT.o,ai _ _⟩
 case round =>
  obtain⟨i,rfl,hi,hc,hg⟩:=hrel;have HG:Hd (w.grownBy wr none):=hg;have HC:Hd (bJ L (L.length-i)=R):=hc
  by_cases hlt:i<L.length
  ·have NW:Hd (Calls prog 15 #[.slice (some a) L.length cap,.int .i64 i] wr fun e w'=>e=.returned (.int .i64 (fZ L i))/\wr.grownBy w' none):=CW.o i wr hlt hg;have Ey:Hd (¬fZ L i=0->R=(fZ L i,i)):=fun h=>HC.o.symm.trans (HH.o i hlt h)
   have Ez:Hd (fZ L i=0->bJ L (L.length-(i+1))=R):=fun h=>(HM.o i hlt h).symm.trans HC.o
   obtain⟨F,hF⟩:=zN (fZ L i);rw[hF]at NW Ey Ez;clear hF hc hg
   by_cases hz:F=0
   ·subst hz;go_wp2_with (go_at_call 15;refine NW.o.mono ?_;rintro e w3 ⟨rfl,hg3⟩);go_roundw
    case rel=>exact⟨i+1,by go_num,by omega,Ez.o (by trivial),af HG.o hg3⟩
    case measure=>simp[intOf];omega
   ·have hz1:(F != 0)=true:=by simp[hz]
    have HR:Hd (R=(F,i)):=Ey.o hz;have jK:Hd (T=⟨#[]⟩):=qg.o (by rw[HR.o];exact hz);clear hz;go_wp2_with (go_at_call 15;refine NW.o.mono ?_;rintro e w3 ⟨rfl,hg3⟩);refine bodyPost_ret (results_tmp3 (t:=2) (u:=3) (v:=4) rfl _ _ _) rfl ⟨?_,af HG.o hg3⟩;rw[HR.o,jK.o];rfl
  ·have hil:i=L.length:=by omega
   have HR:Hd (R=(0,0)):=by
    show R=_;rw[<-hc,hil,Nat.sub_self];rfl
   obtain⟨ad6,hnd,hsh⟩:=NS.o (by rw[HR.o]);have ad7:Hd (∀x∈M,Short x):=hsh;have NY:Hd (T=⟨(tN M).toArray⟩):=lU.o (by rw[HR.o]);have CRR:Hd (Calls prog 11 #[.slice (some a) L.length cap] wr fun e w''=>∃o c,e=.returned (.slice o M.length c)/\EnS w'' (.slice o M.length c) M/\wr.grownBy w'' none):=CR.o wr hg hnd;have hml:M.length<=50:=by rw[yM.o];exact ad6
   clear hc hg hil hi hnd hsh;go_wp2_with (go_at_call 11;refine CRR.o.mono ?_);rintro e w4 ⟨o4,c4,rfl,Wy,hg4⟩;have ad8:Hd (EnS w4 (.slice o4 M.length c4) M):=Wy;have fD:Hd (w.grownBy w4 none):=af HG.o hg4;clear Wy hg4;go_wp2;go_loopw [7,9] (fun vo vi wi=>∃(i:Nat) (O:ByteArray),vi=.int .i64 i/\vo=.string O/\i<=M.length/\O.data.toList=[102,111,114,109,97,116,32,61,32,49,10]++(M.take i).flatMap ik/\O.size<=11+i*67108864/\w4.grownBy wi none) (fun _ vi _=>M.length-(intOf vi).toNat)
   case atStart=>exact⟨0,_,rfl,rfl,Nat.zero_le _,by simp,by decide,ai _ _⟩
   case round =>
    obtain⟨i,O,rfl,rfl,hi,hO,hOs,hgi⟩:=hrel;have HO:Hd (O.data.toList=[102,111,114,109,97,116,32,61,32,49,10]++(M.take i).flatMap ik):=hO;have HGI:Hd (w4.grownBy wr none):=hgi;have dW:Hd (w.grownBy wr none):=af fD.o hgi
    by_cases hlt:i<M.length
    ·obtain⟨b,rfl,hcv,hat⟩:=Nu (ad8.o.grow hgi) hlt;obtain⟨x,hx⟩:=zN (M[i]);obtain⟨e0,e1,e2,sv,e3,hsv⟩:EnAt wr (b.add (i*4)) x:=by rw[<-hx];exact hat i hlt
     have H1:Hd (TxS wr sv x.nd):=hsv;obtain⟨so,sc,rfl⟩:=kT hsv;obtain⟨s1,s2,s3,s4,s5⟩:=ad7.o x (by rw[<-hx];exact List.getElem_mem _);have su:Hd (∀y∈x.nd,y.size<=1048576):=s5;have gU:Hd ((M.take (i+1)).flatMap ik=(M.take i).flatMap ik++ik x):=by
      show _=_;rw[Wx M i hlt,hx]
     have HEB:Hd (ik x=ik ⟨x.nm,x.ve,x.dg,x.nd⟩):=rfl;obtain⟨xn,xv,xd,N⟩:=x;simp only[]at H1 su s1 s2 s3 s4 e0 e1 e2 e3 gU;clear hO hgi hat hx hsv s5 HEB;have c1:∀wx,(Op.stringOp .add O ⟨#[10,91,91,112,97,99,107,97,103,101,93,93,10,100,105,103,101,115,116,32,61,32,34]⟩).run prog wx=.ok (.string (cat O ⟨#[10,91,91,112,97,99,107,97,103,101,93,93,10,100,105,103,101,115,116,32,61,32,34]⟩)) wx:=fun wx=>ig _ _ wx (by show _+23<=_;omega)
     have z1:(cat O ⟨#[10,91,91,112,97,99,107,97,103,101,93,93,10,100,105,103,101,115,116,32,61,32,34]⟩).size=O.size+23:=gY _ _;have l1:=gX O ⟨#[10,91,91,112,97,99,107,97,103,101,93,93,10,100,105,103,101,115,116,32,61,32,34]⟩;generalize cat O ⟨#[10,91,91,112,97,99,107,97,103,101,93,93,10,100,105,103,101,115,116,32,61,32,34]⟩=O1 at c1 z1 l1;have c2:∀wx,(Op.stringOp .add O1 xd).run prog wx=.ok (.string (cat O1 xd)) wx:=fun wx=>ig _ _ wx (by omega)
     have z2:=gY O1 xd;have l2:=gX O1 xd;generalize cat O1 xd=O2 at c2 z2 l2;have c3:∀wx,(Op.stringOp .add O2 ⟨#[34,10,110,97,109,101,32,61,32,34]⟩).run prog wx=.ok (.string (cat O2 ⟨#[34,10,110,97,109,101,32,61,32,34]⟩)) wx:=fun wx=>ig _ _ wx (by show _+10<=_;omega)
     have z3:(cat O2 ⟨#[34,10,110,97,109,101,32,61,32,34]⟩).size=O2.size+10:=gY _ _;have l3:=gX O2 ⟨#[34,10,110,97,109,101,32,61,32,34]⟩;generalize cat O2 ⟨#[34,10,110,97,109,101,32,61,32,34]⟩=O3 at c3 z3 l3;have c4:∀wx,(Op.stringOp .add O3 xn).run prog wx=.ok (.string (cat O3 xn)) wx:=fun wx=>ig _ _ wx (by omega)
     have z4:=gY O3 xn;have l4:=gX O3 xn;generalize cat O3 xn=O4 at c4 z4 l4;have c5:∀wx,(Op.stringOp .add O4 ⟨#[34,10,110,101,101,100,115,32,61,32,91]⟩).run prog wx=.ok (.string (cat O4 ⟨#[34,10,110,101,101,100,115,32,61,32,91]⟩)) wx:=fun wx=>ig _ _ wx (by show _+11<=_;omega)
     have z5:(cat O4 ⟨#[34,10,110,101,101,100,115,32,61,32,91]⟩).size=O4.size+11:=gY _ _;have l5:=gX O4 ⟨#[34,10,110,101,101,100,115,32,61,32,91]⟩;generalize cat O4 ⟨#[34,10,110,101,101,100,115,32,61,32,91]⟩=O5 at c5 z5 l5;have vP:Hd (O5.data.toList=[102,111,114,109,97,116,32,61,32,49,10]++((M.take i).flatMap ik++([10,91,91,112,97,99,107,97,103,101,93,93,10,100,105,103,101,115,116,32,61,32,34]++(xd.data.toList++([34,10,110,97,109,101,32,61,32,34]++(xn.data.toList++[34,10,110,101,101,100,115,32,61,32,91])))))):=by
      show _=_;rw[l5,l4,l3,l2,l1,HO.o];simp only[List.append_assoc]
     have hz5:O5.size<=11+i*67108864+2097200:=by omega
     clear l1 l2 l3 l4 l5 z1 z2 z3 z4 z5;obtain⟨W1,hW1⟩:∃W,wr.alloc (.cells #[.string xn,.string xv,.string xd,.slice so N.length sc] 43)=W:=⟨_,rfl⟩;have Ei:Hd (wr.alloc (.cells #[.string xn,.string xv,.string xd,.slice so N.length sc] 43)=W1):=hW1;have HW1:Hd (w4.grownBy W1 none/\W1.cell? ⟨wr.heap.size,1,none⟩=some (.string xv)/\W1.cell? ⟨wr.heap.size,3,none⟩=some (.slice so N.length sc)/\TxS W1 (.slice so N.length sc) N):=by
      rw[<-hW1];obtain⟨k0,k1,k2,k3⟩:=tH (heap_alloc_new wr (.cells #[.string xn,.string xv,.string xd,.slice so N.length sc] 43));exact⟨aP HGI.o _,k1,k3,H1.o.grow (aP (ai wr none) _)⟩
     obtain⟨A,hA⟩:=zN (wr.heap.size);have Em:Hd (wr.heap.size=A):=hA;rw[hA]at HW1;clear hW1 hA;go_wp2;clear c1 c2 c3 c4 c5 e0 e1 e2 e3
     try rw[Em.o]
     go_loopw [7,11] (fun vo vk wk=>∃(k:Nat) (Q:ByteArray),vk=.int .i64 k/\vo=.string Q/\k<=N.length/\Q.data.toList=O5.data.toList++gm N k/\Q.size<=O5.size+k*1048580/\W1.grownBy wk none) (fun _ vk _=>N.length-(intOf vk).toNat)
     case atStart=>exact⟨0,O5,rfl,rfl,Nat.zero_le _,by simp[gm],by omega,by rw[Ei.o];exact ai _ _⟩
     case round =>
      obtain⟨k,Q,rfl,rfl,hk,hQ,Lc,hgk⟩:=hrel;have ut:Hd (Q.data.toList=O5.data.toList++gm N k):=hQ;have jZ:Hd (W1.grownBy wr none):=hgk;have f1:=hgk.cell HW1.o.2.1 (by simp);have f3:=hgk.cell HW1.o.2.2.1 (by simp)
      by_cases hkl:k<N.length
      ·obtain⟨d,rfl,hdc,hdat⟩:=uK (HW1.o.2.2.2.grow hgk) hkl;have g0:=hdat k hkl;obtain⟨y,hy⟩:=zN (N[k]);rw[hy]at g0;have hys:=su.o y (by rw[<-hy];exact List.getElem_mem _);have HST:Hd (gm N (k+1)=gm N k++((if 0<k then[44,32] else[])++34 :: (y.data.toList++[34]))):=by
        show _=_;rw[Io N k hkl,hy]
       clear hQ hgk hdat hy
       by_cases hk0:0<k
       ·have d1:∀wx,(Op.stringOp .add Q ⟨#[44,32]⟩).run prog wx=.ok (.string (cat Q ⟨#[44,32]⟩)) wx:=fun wx=>ig _ _ wx (by show _+2<=_;omega)
        have y1:(cat Q ⟨#[44,32]⟩).size=Q.size+2:=gY _ _;have m1:=gX Q ⟨#[44,32]⟩;generalize cat Q ⟨#[44,32]⟩=Q1 at d1 y1 m1;have d2:∀wx,(Op.stringOp .add Q1 ⟨#[34]⟩).run prog wx=.ok (.string (cat Q1 ⟨#[34]⟩)) wx:=fun wx=>ig _ _ wx (by show _+1<=_;omega)
        have y2:(cat Q1 ⟨#[34]⟩).size=Q1.size+1:=gY _ _;have m2:=gX Q1 ⟨#[34]⟩;generalize cat Q1 ⟨#[34]⟩=Q2 at d2 y2 m2;have d3:∀wx,(Op.stringOp .add Q2 y).run prog wx=.ok (.string (cat Q2 y)) wx:=fun wx=>ig _ _ wx (by omega)
        have y3:=gY Q2 y;have m3:=gX Q2 y;generalize cat Q2 y=Q3 at d3 y3 m3;have d4:∀wx,(Op.stringOp .add Q3 ⟨#[34]⟩).run prog wx=.ok (.string (cat Q3 ⟨#[34]⟩)) wx:=fun wx=>ig _ _ wx (by show _+1<=_;omega)
        have y4:(cat Q3 ⟨#[34]⟩).size=Q3.size+1:=gY _ _;have m4:=gX Q3 ⟨#[34]⟩;generalize cat Q3 ⟨#[34]⟩=Q4 at d4 y4 m4;have NZ:Hd (Q4.data.toList=O5.data.toList++gm N (k+1)):=by
         show _=_;rw[m4,m3,m2,m1,ut.o,HST.o,if_pos hk0];simp
        have hq4:Q4.size<=O5.size+(k+1)*1048580:=by omega
        clear m1 m2 m3 m4 y1 y2 y3 y4;go_wp2;go_roundw
        case rel=>exact⟨k+1,Q4,by go_num,rfl,by omega,NZ.o,hq4,jZ.o⟩
        case measure=>simp[intOf];omega
       ·have d2:∀wx,(Op.stringOp .add Q ⟨#[34]⟩).run prog wx=.ok (.string (cat Q ⟨#[34]⟩)) wx:=fun wx=>ig _ _ wx (by show _+1<=_;omega)
        have y2:(cat Q ⟨#[34]⟩).size=Q.size+1:=gY _ _;have m2:=gX Q ⟨#[34]⟩;generalize cat Q ⟨#[34]⟩=Q2 at d2 y2 m2;have d3:∀wx,(Op.stringOp .add Q2 y).run prog wx=.ok (.string (cat Q2 y)) wx:=fun wx=>ig _ _ wx (by omega)
        have y3:=gY Q2 y;have m3:=gX Q2 y;generalize cat Q2 y=Q3 at d3 y3 m3;have d4:∀wx,(Op.stringOp .add Q3 ⟨#[34]⟩).run prog wx=.ok (.string (cat Q3 ⟨#[34]⟩)) wx:=fun wx=>ig _ _ wx (by show _+1<=_;omega)
        have y4:(cat Q3 ⟨#[34]⟩).size=Q3.size+1:=gY _ _;have m4:=gX Q3 ⟨#[34]⟩;generalize cat Q3 ⟨#[34]⟩=Q4 at d4 y4 m4;have NZ:Hd (Q4.data.toList=O5.data.toList++gm N (k+1)):=by
         show _=_;rw[m4,m3,m2,ut.o,HST.o,if_neg hk0];simp
        have hq4:Q4.size<=O5.size+(k+1)*1048580:=by omega
        clear m2 m3 m4 y2 y3 y4;go_wp2;go_roundw
        case rel=>exact⟨k+1,Q4,by go_num,rfl,by omega,NZ.o,hq4,jZ.o⟩
        case measure=>simp[intOf];omega
      ·have hke:k=N.length:=by omega
       have d1:∀wx,(Op.stringOp .add Q ⟨#[93,10,118,101,114,115,105,111,110,32,61,32,34]⟩).run prog wx=.ok (.string (cat Q ⟨#[93,10,118,101,114,115,105,111,110,32,61,32,34]⟩)) wx:=fun wx=>ig _ _ wx (by show _+13<=_;omega)
       have y1:(cat Q ⟨#[93,10,118,101,114,115,105,111,110,32,61,32,34]⟩).size=Q.size+13:=gY _ _;have m1:=gX Q ⟨#[93,10,118,101,114,115,105,111,110,32,61,32,34]⟩;generalize cat Q ⟨#[93,10,118,101,114,115,105,111,110,32,61,32,34]⟩=Q1 at d1 y1 m1;have d2:∀wx,(Op.stringOp .add Q1 xv).run prog wx=.ok (.string (cat Q1 xv)) wx:=fun wx=>ig _ _ wx (by omega)
       have y2:=gY Q1 xv;have m2:=gX Q1 xv;generalize cat Q1 xv=Q2 at d2 y2 m2;have d3:∀wx,(Op.stringOp .add Q2 ⟨#[34,10]⟩).run prog wx=.ok (.string (cat Q2 ⟨#[34,10]⟩)) wx:=fun wx=>ig _ _ wx (by show _+2<=_;omega)
       have y3:(cat Q2 ⟨#[34,10]⟩).size=Q2.size+2:=gY _ _;have m3:=gX Q2 ⟨#[34,10]⟩;generalize cat Q2 ⟨#[34,10]⟩=Q3 at d3 y3 m3;have HQ3:Hd (Q3.data.toList=[102,111,114,109,97,116,32,61,32,49,10]++(M.take (i+1)).flatMap ik):=by
        show _=_;rw[m3,m2,m1,ut.o,vP.o,gU.o,hke];unfold ik;simp only[List.append_assoc]
       have hq3:Q3.size<=11+(i+1)*67108864:=by omega
       have oD:Hd (w4.grownBy wr none):=af HW1.o.1 hgk;clear m1 m2 m3 y1 y2 y3 hQ hgk hke hk;go_wp2;go_roundw
       case rel=>exact⟨i+1,Q3,by go_num,rfl,by omega,HQ3.o,hq3,oD.o⟩
       case measure=>simp[intOf];omega
    ·have hie:i=M.length:=by omega
     have Fv:Hd (O=T):=by
      show _=_;rw[NY.o];apply adZ;rw[HO.o,hie,List.take_length];rfl
     clear hO hOs hgi hie hi;go_wp2;refine bodyPost_ret (results_tmp3 (t:=2) (u:=3) (v:=4) rfl _ _ _) rfl ⟨?_,dW.o⟩;rw[HR.o,<-Fv.o];rfl
open Go.RowKit Go.Joins
def pb(c:UInt8):Bool:=decide (32<=c.toNat/\c.toNat<127/\c.toNat≠34/\c.toNat≠92)
theorem ad9(c:UInt8)(h:pb c=true):qc c=[c]:=by
 have key:∀n:Fin 256,pb (UInt8.ofNat n.val)=true->qc (UInt8.ofNat n.val)=[UInt8.ofNat n.val]:=by decide
 have:=key ⟨c.toNat,c.toNat_lt⟩ (by simpa using h);simpa using this
theorem yN:∀s:List UInt8,s.all pb=true->s.flatMap qc=s/\Us s
 | [],_=>⟨rfl,Us.nil⟩
 | c :: r,h=>by
  simp only[List.all_cons,Bool.and_eq_true]at h;obtain⟨e,u⟩:=yN r h.2;refine⟨by rw[List.flatMap_cons,ad9 c h.1,e];rfl,?_⟩;have hc:=of_decide_eq_true h.1;exact Us.app (Hq c (by omega)) u
theorem WB{l:List UInt8}{i:Nat}{r:List UInt8}(h:l.drop i=34 :: r):nx l i=34:=fV (c:=34) h
theorem aea{l:List UInt8}{i:Nat}{r:List UInt8}(h:l.drop i=44 :: r):nx l i=44:=fV (c:=44) h
theorem aeb{l:List UInt8}{i:Nat}{r:List UInt8}(h:l.drop i=49 :: r):nx l i=49:=fV (c:=49) h
theorem aec{l:List UInt8}{i:Nat}{r:List UInt8}(h:l.drop i=91 :: r):nx l i=91:=fV (c:=91) h
theorem N7{l:List UInt8}{i:Nat}{r:List UInt8}(h:l.drop i=93 :: r):nx l i=93:=fV (c:=93) h
theorem WC{l:List UInt8}{i:Nat}{s r:List UInt8}(hs:s.all pb=true)(h:l.drop i=34 :: (s++34 :: r))(f up:Nat)(k:List UInt8)(p d:Nat)(ns:List Tn):val l (f+1) i up k p d ns=.ok (i+s.length+2,addN ns up ⟨3,k,s,0,[],p⟩):=by
 obtain⟨e,u⟩:=yN s hs;have d1:=cO (a:=[34]) (l:=l) (i:=i) h;have hl:=congrArg List.length h;simp only[List.length_drop,List.length_cons,List.length_append]at hl;have hb:=Ur l s u (l.length+1) (i+1) [] r (by rw[e];exact d1) (by rw[e];omega);rw[x9,if_pos (WB h),hb,e];simp only[List.nil_append];rw[show i+1+s.length+1=i+s.length+2 by omega]
def jt:List (List UInt8)->List UInt8
 | []=>[]
 | y :: r=>44 :: 32 :: 34 :: (y++34 :: jt r)
def jn:List (List UInt8)->List UInt8
 | []=>[]
 | y :: r=>34 :: (y++34 :: jt r)
theorem aed(y:List UInt8)(r:List (List UInt8)):jt (y :: r)=44 :: 32 :: jn (y :: r):=rfl
theorem WE{l:List UInt8}(up:Nat)(r:List UInt8):∀(N:List (List UInt8)) (sp:List UInt8) (f i:Nat) (ns:List Tn),(∀y∈N,y.all pb=true)->(sp=[]\/(sp=[32]/\N≠[]))->l.drop i=sp++(jn N++93 :: r)->N.length<f->∃ns',lst l f i up 1 ns=.ok (i+sp.length+(jn N).length+1,ns')/\ns'.map np=N.foldl (fun m y=>addN m up ⟨3,[],y,0,[],0⟩) (ns.map np)
 | [],sp,f,i,ns,_,hsp,h,hf=>by
  obtain rfl:sp=[]:=by rcases hsp with h|h;exact h;exact absurd rfl h.2
  obtain⟨f,rfl⟩:∃f',f=f'+1:=⟨f-1,by simp at hf;omega⟩;have h':l.drop i=93 :: r:=h;refine⟨ns,?_,rfl⟩;rw[zG,Hy h' (by decide) (by decide) (by decide)];simp only[];rw[if_pos (N7 h')];rfl
 | y :: N,sp,f,i,ns,hy,hsp,h,hf=>by
  obtain⟨f,rfl⟩:∃f',f=f'+1+1:=⟨f-2,by simp at hf;omega⟩;have hg:gap l (l.length+1) i=.ok (i+sp.length):=by
   rcases hsp with rfl|⟨rfl,-⟩
   ·exact Hy (c:=34) h (by decide) (by decide) (by decide)
   ·exact acJ (c:=34) h (by decide) (by decide) (by decide)
  have d1:=cO h;have d1':l.drop (i+sp.length)=34 :: (y++34 :: (jt N++93 :: r)):=by rw[d1];simp[jn]
  have hv:=WC (hy y (by simp)) d1' f up [] (i+sp.length) 1 ns;have d2:l.drop (i+sp.length+y.length+2)=jt N++93 :: r:=by
   have:=cO (a:=34 :: (y++[34])) (l:=l) (i:=i+sp.length) (r:=jt N++93 :: r) (by rw[d1'];simp);rw[<-this];simp only[List.length_cons,List.length_append,List.length_nil];rfl
  have ha:((addN ns up ⟨3,[],y,0,[],i+sp.length⟩).map np)=addN (ns.map np) up ⟨3,[],y,0,[],0⟩:=wG ns up _;have hst:lst l (f+1+1) i up 1 ns=match gap l (l.length+1) (i+sp.length+y.length+2) with
    | .error e=>.error e
    | .ok j2=>if nx l j2=44 then lst l (f+1) (j2+1) up 1 (addN ns up ⟨3,[],y,0,[],i+sp.length⟩) else if nx l j2=93 then .ok (j2+1,addN ns up ⟨3,[],y,0,[],i+sp.length⟩) else .error (2,j2):=by
   rw[zG,hg];simp only[];rw[if_neg (by rw[WB d1'];decide),hv];rfl
  cases N with
  | nil =>
   have d2':l.drop (i+sp.length+y.length+2)=93 :: r:=d2;refine⟨_,?_,ha⟩;rw[hst,Hy d2' (by decide) (by decide) (by decide)];simp only[];rw[if_neg (by rw[N7 d2'];decide),if_pos (N7 d2')];simp only[jn,jt,List.length_cons,List.length_append,List.length_nil];rw[show i+sp.length+y.length+2+1=i+sp.length+(y.length+(0+1)+1)+1 by omega]
  | cons z N =>
   have d2':l.drop (i+sp.length+y.length+2)=44 :: ([32]++(jn (z :: N)++93 :: r)):=by rw[d2,aed];rfl
   have d3:=cO (a:=[44]) (l:=l) (i:=i+sp.length+y.length+2) d2';obtain⟨ns',h1,h2⟩:=WE up r (z :: N) [32] (f+1) (i+sp.length+y.length+2+1) (addN ns up ⟨3,[],y,0,[],i+sp.length⟩) (fun x hx=>hy x (by simp only[List.mem_cons]at hx ⊢;exact Or.inr hx)) (Or.inr ⟨rfl,by simp⟩) d3 (by simp at hf ⊢;omega);refine⟨ns',?_,by rw[h2,ha];rfl⟩;rw[hst,Hy d2' (by decide) (by decide) (by decide)];simp only[];rw[if_pos (aea d2'),h1];simp only[jn,jt,List.length_cons,List.length_append,List.length_nil];congr 2;omega
theorem N8{l:List UInt8}{i j now:Nat}{k v r:List UInt8}{a b:List Tn}{own:List Nat}(hk:kt k=k)(hus:Us k)(h:l.drop i=k++([32,61,32]++v))(hb:je (nx v 0)=false)(hn:aG a now k=none)(hv:val l (2*l.length+2) (i+k.length+3) now k i 0 a=.ok (j,b))(hj:l.drop j=10 :: r):jI l ⟨i,a,own,now⟩=.ok ⟨j+1,b,own,now⟩:=by
 have h':l.drop i=kt k++32 :: (61 :: 32 :: v):=by rw[h,hk];rfl
 obtain⟨c,kr,hc,hc2⟩:=Dw k;obtain⟨n1,n2⟩:=LY hc2;have h0:nx l i=(c.toNat:Int):=by rw[hc]at h';exact fV (c:=c) h'
 have e0:bl l i=i:=by rw[hc]at h';exact wE h' n1
 have hkey:=LM hus (c:=32) (by decide) h';rw[hk]at hkey h';have d1:=cO h';have e1:=LD d1 (r:=61 :: 32 :: v) rfl;have d2:=cO (a:=[32]) d1;have d3:=cO (a:=[32,61]) d1;have e2:bl l (i+k.length+2)=i+k.length+2+1:=LD d3 hb;have m1:must l (i+k.length+1) 61=.ok (i+k.length+1+1):=by
  unfold must;rw[show nx l (i+k.length+1)=61 from fV (c:=61) d2,if_pos rfl]
 have hp:rdPair l ⟨i,a,own,now⟩=.ok ⟨j,b,own,now⟩:=by
  rw[Gw,hkey];simp only[];rw[e1,m1];simp only[];rw[hn];simp only[];rw[show bl l (i+k.length+1+1)=i+k.length+3 from e2,hv];rfl
 have hor:nx l i=34\/aV (nx l i)=true:=by
  rw[h0]
  rcases hc2 with h|h
  ·left;omega
  ·exact Or.inr h
 rw[zQ,e0,if_neg (by rw[h0];exact n2),if_pos hor,hp];exact LX (d:=⟨j,b,own,now⟩) hj
theorem add_mid(A C:List Tn)(u n:Tn):addN (A++u :: C) A.length n=A++⟨u.kd,u.ky,u.tx,u.nu,u.ks++[A.length+1+C.length],u.pl⟩ :: (C++[n]):=by
 unfold addN;rw[List.getElem?_append_right (Nat.le_refl _),Nat.sub_self];simp only[List.getElem?_cons_zero,List.length_append,List.length_cons];rw[List.set_append_right _ _ (Nat.le_refl _),Nat.sub_self,List.set_cons_zero,List.append_assoc,List.cons_append,show A.length+(C.length+1)=A.length+1+C.length by omega]
theorem aee(A C:List Tn)(u:Tn)(j:Nat):(A++u :: C)[A.length+1+j]?=C[j]?:=by
 rw[List.getElem?_append_right (by omega),show A.length+1+j-A.length=j+1 by omega,List.getElem?_cons_succ]
theorem WG(A:List Tn):∀(N:List (List UInt8)) (u:Tn) (C:List Tn),u.pl=0->N.foldl (fun m y=>addN m A.length ⟨3,[],y,0,[],0⟩) (A++u :: C)=A++⟨u.kd,u.ky,u.tx,u.nu,u.ks++List.range' (A.length+1+C.length) N.length,0⟩ :: (C++N.map fun y=>⟨3,[],y,0,[],0⟩)
 | [],u,C,h=>by
  obtain⟨a,b,c,d,e,g⟩:=u;subst h;simp
 | y :: N,u,C,h=>by
  rw[List.foldl_cons,add_mid,WG A N ⟨u.kd,u.ky,u.tx,u.nu,u.ks++[A.length+1+C.length],u.pl⟩ _ h];simp only[List.length_append,List.length_cons,List.length_nil,List.append_assoc,List.singleton_append,List.range'_succ,List.map_cons,Nat.zero_add];rfl
def lJ:List UInt8:=[100,105,103,101,115,116]
def lK:List UInt8:=[110,97,109,101]
def kW:List UInt8:=[110,101,101,100,115]
def kH:List UInt8:=[118,101,114,115,105,111,110]
def iC:List UInt8:=[112,97,99,107,97,103,101]
def jv:List UInt8:=[102,111,114,109,97,116]
def tS(k t:List UInt8):Tn:=⟨3,k,t,0,[],0⟩
def iI(b:Nat)(x:En):List Tn:=⟨0,[],[],0,[b+1,b+1+1,b+1+2,b+1+(3+x.nd.length)],0⟩ :: tS lJ x.dg.data.toList :: tS lK x.nm.data.toList :: ⟨1,kW,[],0,List.range' (b+1+3) x.nd.length,0⟩ :: (x.nd.map (fun y=>tS [] y.data.toList)++[tS kH x.ve.data.toList])
def dP:Nat->List En->List Tn
 | _,[]=>[]
 | b,x :: r=>iI b x++dP (b+5+x.nd.length) r
def dU:Nat->List En->List Nat
 | _,[]=>[]
 | b,x :: r=>b :: dU (b+5+x.nd.length) r
def fJ(ks:List Nat):Tn:=⟨0,[],[],0,ks,0⟩
def lZ:Tn:=⟨4,jv,[],1,[],0⟩
def pz(ks:List Nat):Tn:=⟨2,iC,[],0,ks,0⟩
def lL(es:List En):List Tn:=if es=[] then[fJ [1],lZ] else fJ [1,2] :: lZ :: pz (dU 3 es) :: dP 3 es
theorem wX(b:Nat)(x:En):(iI b x).length=5+x.nd.length:=by simp[iI];omega
theorem WH:∀(es:List En) (b:Nat) (x:En),dP b (es++[x])=dP b es++iI (b+(dP b es).length) x
 | [],b,x=>by simp[dP]
 | y :: r,b,x=>by
  show iI b y++dP (b+5+y.nd.length) (r++[x])=(iI b y++dP (b+5+y.nd.length) r)++_;rw[WH r,List.append_assoc];simp only[dP,List.length_append,wX];rw[show b+5+y.nd.length+(dP (b+5+y.nd.length) r).length=b+(5+y.nd.length+(dP (b+5+y.nd.length) r).length) by omega]
theorem WI:∀(es:List En) (b:Nat) (x:En),dU b (es++[x])=dU b es++[b+(dP b es).length]
 | [],b,x=>by simp[dU,dP]
 | y :: r,b,x=>by
  show b :: dU (b+5+y.nd.length) (r++[x])=b :: (dU (b+5+y.nd.length) r++_);rw[WI r];simp only[dP,List.length_append,wX];rw[show b+5+y.nd.length+(dP (b+5+y.nd.length) r).length=b+(5+y.nd.length+(dP (b+5+y.nd.length) r).length) by omega]
end Go.Proofs.YtmkjelchiacogaaGreatDoor
