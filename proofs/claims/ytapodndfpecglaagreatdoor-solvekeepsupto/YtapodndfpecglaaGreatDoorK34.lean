import Derived.Test.YtapodndfpecglaaGreatDoorK31
import Derived.Test.YtapodndfpecglaaGreatDoorK26
set_option linter.all false
set_option maxRecDepth 100000
set_option maxHeartbeats 0
namespace Go.Proofs.YtapodndfpecglaaGreatDoor
def lH(L:List Re)(k:Nat):List Nd:=match L[k]? with|some x=>x.nd|none=>[]
theorem ut(L:List Re)(k:Nat)(h:k<L.length):lH L k=L[k].nd:=by simp[lH,List.getElem?_eq_getElem h]
def Fit(N:List Nd)(L:List Re)(ch:List Nat)(k:Nat):Prop :=
 (∀y∈N,y.n=aQ L k->gu y.r (gV L k)=true)/\(∀y∈lH L k,y.n=aQ L k->gu y.r (gV L k)=true)/\(∀j∈ch,∀y∈lH L j,y.n=aQ L k->gu y.r (gV L k)=true)/\∀j∈ch,∀y∈lH L k,y.n=aQ L j->gu y.r (gV L j)=true
structure SInv(N:List Nd)(L:List Re)(row:List ByteArray)(ch:List Nat):Prop where
 le:ch.length<=row.length
 nod:row.Nodup
 nm:∀(i k:Nat),ch[i]?=some k->k<L.length/\row[i]?=some (aQ L k)
 nee:∀y∈N,y.n∈row
 ndd:∀k∈ch,∀y∈lH L k,y.n∈row
 wt:∀(i:Nat) (x:ByteArray),row[i]?=some x->(∃y∈N,y.n=x)\/∃j k:Nat,j<i/\ch[j]?=some k/\∃y∈lH L k,y.n=x
 ft0:∀k∈ch,∀y∈N,y.n=aQ L k->gu y.r (gV L k)=true
 ft:∀k∈ch,∀k'∈ch,∀y∈lH L k,y.n=aQ L k'->gu y.r (gV L k')=true
section
variable {N:List Nd} {L:List Re} {row:List ByteArray} {ch:List Nat}
theorem Ui(N:List Nd)(L:List Re):SInv N L (di [] (N.map (·.n))) [] :=
 ⟨Nat.zero_le _,Bj _ _ List.nodup_nil,fun i k h=>(by simp at h),fun y hy=>(o7 _ _).2 (Or.inr (List.mem_map.2 ⟨y,hy,rfl⟩)),fun k h=>(by cases h),fun i x h=>by
  have:=(o7 _ _).1 (List.mem_of_getElem? h)
  rcases this with h|h
  ·cases h
  ·obtain⟨y,hy,e⟩:=List.mem_map.1 h;exact Or.inl ⟨y,hy,e⟩,fun k h=>(by cases h),fun k h=>(by cases h)⟩
theorem SInv.step(h:SInv N L row ch){k:Nat}(hk:k<L.length)(hr:row[ch.length]?=some (aQ L k))(hf:Fit N L ch k):SInv N L (di row ((lH L k).map (·.n))) (ch++[k]):=by
 obtain⟨t,ht⟩:=Eh ((lH L k).map (·.n)) row;have hlt:ch.length<row.length:=(List.getElem?_eq_some_iff.1 hr).1;have hin:=@o7;have old:∀(i:Nat) (x:ByteArray),row[i]?=some x->(di row ((lH L k).map (·.n)))[i]?=some x:=fun i x hx=>by
  rw[ht,List.getElem?_append_left (List.getElem?_eq_some_iff.1 hx).1];exact hx
 have cho:∀i j:Nat,(ch++[k])[i]?=some j->ch[i]?=some j\/(i=ch.length/\j=k):=fun i j hj=>by
  rcases Nat.lt_or_ge i ch.length with hi|hi
  ·rw[List.getElem?_append_left hi]at hj;exact Or.inl hj
  ·rw[List.getElem?_append_right hi]at hj;have hi0:i-ch.length=0:=by
    have:=(List.getElem?_eq_some_iff.1 hj).1;simp at this;omega
   rw[hi0]at hj
   cases hj
   exact Or.inr ⟨by omega,rfl⟩
 have mem:∀j,j∈ch++[k]->j∈ch\/j=k:=fun j hj=>by
  rcases List.mem_append.1 hj with h|h
  ·exact Or.inl h
  ·exact Or.inr (List.mem_singleton.1 h)
 refine⟨?_,Bj _ _ h.nod,fun i j hj=>?_,fun y hy=>(o7 _ _).2 (Or.inl (h.nee y hy)),fun j hj y hy=>?_,fun i x hx=>?_,fun j hj y hy e=>?_,fun j hj j' hj' y hy e=>?_⟩
 ·rw[ht];simp only[List.length_append,List.length_cons,List.length_nil];omega
 ·rcases cho i j hj with hj|⟨rfl,rfl⟩
  ·exact⟨(h.nm i j hj).1,old _ _ (h.nm i j hj).2⟩
  ·exact⟨hk,old _ _ hr⟩
 ·rcases mem j hj with hj|rfl
  ·exact(o7 _ _).2 (Or.inl (h.ndd j hj y hy))
  ·exact(o7 _ _).2 (Or.inr (List.mem_map.2 ⟨y,hy,rfl⟩))
 ·rcases Nat.lt_or_ge i row.length with hi|hi
  ·rw[ht,List.getElem?_append_left hi]at hx
   rcases h.wt i x hx with h1|⟨j,q,h1,h2,h3⟩
   ·exact Or.inl h1
   ·exact Or.inr ⟨j,q,h1,by rw[List.getElem?_append_left (List.getElem?_eq_some_iff.1 h2).1];exact h2,h3⟩
  ·have hm:=(o7 _ _).1 (List.mem_of_getElem? hx);have hn:¬x∈row:=fun hr2=>by
    obtain⟨q,hq⟩:=List.getElem?_of_mem hr2;have Dq:=(List.getElem?_eq_some_iff.1 hq).1;have h2:=old q x hq;obtain⟨a1,a2⟩:=List.getElem?_eq_some_iff.1 h2;obtain⟨b1,b2⟩:=List.getElem?_eq_some_iff.1 hx;exact List.pairwise_iff_getElem.1 (Bj ((lH L k).map (·.n)) row h.nod) q i a1 b1 (by omega) (a2.trans b2.symm)
   rcases hm with hm|hm
   ·exact absurd hm hn
   ·obtain⟨y,hy,e⟩:=List.mem_map.1 hm;exact Or.inr ⟨ch.length,k,by omega,by simp,y,hy,e⟩
 ·rcases mem j hj with hj|rfl
  ·exact h.ft0 j hj y hy e
  ·exact hf.1 y hy e
 ·rcases mem j hj with h1|h1
  ·rcases mem j' hj' with h2|h2
   ·exact h.ft j h1 j' h2 y hy e
   ·rw[h2]at e ⊢;exact hf.2.2.1 j h1 y hy e
  ·rw[h1]at hy
   rcases mem j' hj' with h2|h2
   ·exact hf.2.2.2 j' h2 y hy e
   ·rw[h2]at e ⊢;exact hf.2.1 y hy e
theorem SInv.one(h:SInv N L row ch):(ch.map (aQ L)).Nodup:=by
 unfold List.Nodup;rw[List.pairwise_map,List.pairwise_iff_getElem];intro i j hi hj hij e;obtain⟨-,h1⟩:=h.nm i _ (List.getElem?_eq_getElem hi);obtain⟨-,h2⟩:=h.nm j _ (List.getElem?_eq_getElem hj);obtain⟨a1,a2⟩:=List.getElem?_eq_some_iff.1 h1;obtain⟨b1,b2⟩:=List.getElem?_eq_some_iff.1 h2;exact List.pairwise_iff_getElem.1 h.nod i j a1 b1 hij (a2.trans (e.trans b2.symm))
theorem FP(C:List Int)(hC:C.Perm (ch.map fun(k:Nat)=>(k:Int)))(k:Nat):dS C k=true↔k∈ch:=by
 unfold dS;rw[List.any_eq_true];constructor
 ·rintro⟨c,hc,e⟩;obtain⟨j,hj,rfl⟩:=List.mem_map.1 (hC.subset hc);have:j=k:=by simpa using e
  exact this ▸ hj
 ·intro hk;exact⟨(k:Int),hC.symm.subset (List.mem_map.2 ⟨k,hk,rfl⟩),by simp⟩
theorem Uj(D:List Nd)(h:(D.map (·.n)).Nodup):∀i,i<=D.length->fE D i=false
 | 0,_=>rfl
 | i+1,hi=>by
  have hlt:i<D.length:=by omega
  rw[Bd D i hlt,Uj D h i (by omega),Bool.false_or];unfold qy;rw[List.any_eq_false];intro y hy e;obtain⟨j,hj,rfl⟩:=List.mem_take_iff_getElem.1 hy;have:=List.pairwise_iff_getElem.1 h j i (by simp;omega) (by simpa using hlt) (by omega);simp only[List.getElem_map]at this;exact this (by simpa using e)
theorem SInv.good(h:SInv N L row ch)(he:ch.length=row.length)(hf:jK N L=0)(C:List Int)(hC:C.Perm (ch.map fun(k:Nat)=>(k:Int))):jW N L C:=by
 have hlt:∀k∈ch,k<L.length:=fun k hk=>by
  obtain⟨i,hi⟩:=List.getElem?_of_mem hk;exact(h.nm i k hi).1
 have has:∀x∈row,∃k∈ch,aQ L k=x:=fun x hx=>by
  obtain⟨i,hi⟩:=List.getElem?_of_mem hx;have hil:=(List.getElem?_eq_some_iff.1 hi).1;have h1:=List.getElem?_eq_getElem (l:=ch) (i:=i) (by omega);have h2:=(h.nm i _ h1).2;rw[hi]at h2;exact⟨_,List.getElem_mem _,(Option.some.inj h2).symm⟩
 have meet:∀(M:List Nd),(∀y∈M,y.n∈row)->(∀k∈ch,∀y∈M,y.n=aQ L k->gu y.r (gV L k)=true)->∀j,j<M.length->∃q,dS C q=true/\jV M L j q=true:=fun M h1 h2 j hj=>by
  obtain⟨k,hk,e⟩:=has _ (h1 M[j] (List.getElem_mem _));refine⟨k,(FP C hC k).2 hk,?_⟩;rw[xm M L j k hj (hlt k hk),h2 k hk _ (List.getElem_mem _) e.symm];simp[e]
 refine⟨hf,?_,meet N h.nee h.ft0,fun k hk hc j hj=>?_,?_⟩
 ·unfold sH nz;rw[List.take_length,Bool.and_eq_true];constructor
  ·rw[List.all_eq_true];intro c hc;obtain⟨k,hk,rfl⟩:=List.mem_map.1 (hC.subset hc);have:=hlt k hk;simp;omega
  ·have hl:C.length=(jv L C).length:=by simp[jv]
   rw[hl,Uj (jv L C) ?_ _ (Nat.le_refl _)]
   ·rfl
   ·have e1:(jv L C).map (·.n)=C.map fun c=>aQ L c.toNat:=by simp[jv,Function.comp_def]
    rw[e1];have:=hC.map fun c=>aQ L c.toNat
    refine this.nodup_iff.2 ?_;rw[List.map_map];have e2:((fun c:Int=>aQ L c.toNat) ∘ fun(k:Nat)=>(k:Int))=aQ L:=by funext k;simp
    rw[e2];exact h.one
 ·have hc':=(FP C hC k).1 hc;have hnd:=ut L k hk;refine meet L[k].nd (fun y hy=>h.ndd k hc' y (by rw[hnd];exact hy)) (fun q hq y hy e=>h.ft k hc' q hq y (by rw[hnd];exact hy) e) j hj
 ·have key:∀i k:Nat,ch[i]?=some k->Wt N L C k:=fun i=>by
   induction i using Nat.strongRecOn with
   | ind i ih =>
    intro k hi;obtain⟨h1,h2⟩:=h.nm i k hi;have hc:=(FP C hC k).2 (List.mem_of_getElem? hi)
    rcases h.wt i _ h2 with⟨y,hy,e⟩|⟨j,q,h3,h4,y,hy,e⟩
    ·refine Wt.base k hc ?_;unfold nK;rw[Bool.and_eq_true,List.any_eq_true];exact⟨by simpa using h1,y,hy,by simpa using e⟩
    ·have hq:=(h.nm j q h4).1;refine Wt.step k q hq (ih j h3 q h4) hc ?_;rw[ut L q hq]at hy;unfold nK;rw[Bool.and_eq_true,List.any_eq_true];exact⟨by simpa using h1,y,hy,by simpa using e⟩
  intro k hk;obtain⟨i,hi⟩:=List.getElem?_of_mem ((FP C hC k).1 hk);exact key i k hi
end
def FQ(P:List Pl)(j:Nat):Nat:=match P[j]? with|some x=>x.bar|none=>0
theorem FT(P:List Pl)(j:Nat)(h:j<P.length):FQ P j=P[j].bar:=by simp[FQ,List.getElem?_eq_getElem h]
structure Bt(P:List Pl)(p0:Nat)(ch:List Nat)(A D:Nat):Prop where
 a1:A<18446744073709551616
 d1:D<18446744073709551616
 a2:∀k∈ch,A.testBit k=true
 d2:∀q,D.testBit q=false->p0.testBit q=false/\∀j∈ch,(FQ P j).testBit q=false
theorem Bt.zero(P:List Pl)(p0:Nat)(h:p0<18446744073709551616):Bt P p0 [] 0 p0:=⟨by decide,h,fun k hk=>(by cases hk),fun q hq=>⟨hq,fun j hj=>(by cases hj)⟩⟩
theorem Bt.step{P:List Pl}{p0:Nat}{ch:List Nat}{A D:Nat}(h:Bt P p0 ch A D){k:Nat}(hk:k<P.length)(h64:k<64)(hb:P[k].bar<18446744073709551616):Bt P p0 (ch++[k]) (A ||| 2 ^ k) (D ||| P[k].bar):=by
 refine⟨wM h.a1 (oV h64),wM h.d1 hb,fun j hj=>?_,fun q hq=>?_⟩
 ·rw[Nat.testBit_or,Bool.or_eq_true]
  rcases List.mem_append.1 hj with hj|hj
  ·exact Or.inl (h.a2 j hj)
  ·rw[List.mem_singleton.1 hj];exact Or.inr (by simp)
 ·rw[Nat.testBit_or,Bool.or_eq_false_iff]at hq;obtain⟨h1,h2⟩:=h.d2 q hq.1;refine⟨h1,fun j hj=>?_⟩
  rcases List.mem_append.1 hj with hj|hj
  ·exact h2 j hj
  ·rw[List.mem_singleton.1 hj,FT P k hk];exact hq.2
theorem Bt.fit{N:List Nd}{L:List Re}{P:List Pl}{x0:Pl}{ch:List Nat}{A D k:Nat}(h:Bt P x0.bar ch A D)(hx:gz N L x0)(hP:P.length=L.length)(hPl:∀j (h1:j<L.length) (h2:j<P.length),gz L[j].nd L P[j])(hch:∀j∈ch,j<L.length)(hk:k<P.length)(hf:(!(D ||| P[k].bar).testBit k && decide (P[k].bar &&& A=0))=true):Fit N L ch k:=by
 rw[Bool.and_eq_true,Bool.not_eq_true',Nat.testBit_or,Bool.or_eq_false_iff,decide_eq_true_eq]at hf;obtain⟨⟨f1,f2⟩,f3⟩:=hf;obtain⟨g1,g2⟩:=h.d2 k f1;have gy:k<L.length:=by omega
 refine⟨hx.br k g1 gy,?_,fun j hj=>?_,fun j hj=>?_⟩
 ·rw[ut L k gy];exact(hPl k gy hk).br k f2 gy
 ·have ry:=hch j hj;have:=g2 j hj;rw[FT P j (by omega)]at this;rw[ut L j ry];exact(hPl j ry (by omega)).br k this gy
 ·have ry:=hch j hj;rw[ut L k gy];refine(hPl k gy hk).br j ?_ ry;have h1:(P[k].bar &&& A).testBit j=false:=by rw[f3,Nat.zero_testBit]
  rw[Nat.testBit_and,h.a2 j hj,Bool.and_true]at h1;exact h1
theorem Uk:∀(n:Nat) (l:List Nat),l.Nodup->(∀x∈l,x<n)->l.length<=n
 | 0,[],_,_=>Nat.le_refl _
 | 0,a :: r,_,h=>absurd (h a (by simp)) (by omega)
 | n+1,l,hn,h=>by
  have h1:=Uk n (l.erase n) (hn.erase n) (fun x hx=>by
   have h2:=h x (List.mem_of_mem_erase hx);have h3:=((List.Nodup.mem_erase_iff hn).1 hx).1;omega)
  rw[List.length_erase]at h1;split at h1<;>omega
theorem SInv.few{N:List Nd}{L:List Re}{row:List ByteArray}{ch:List Nat}(h:SInv N L row ch):ch.length<=L.length :=
 Uk L.length ch (List.Pairwise.of_map (aQ L) (fun a b h e=>h (by rw[e])) h.one) fun k hk=>by
  obtain⟨i,hi⟩:=List.getElem?_of_mem hk;exact(h.nm i k hi).1
theorem Ul(L:List Re)(k:Nat):eG L k=(lH L k).map (·.n):=by
 unfold eG lH
 cases L[k]? with
 | none=>rfl
 | some x=>rfl
def SI(N:List Nd)(L:List Re)(P:List Pl)(p0:Nat)(row:List ByteArray)(ch:List Nat)(A D:Nat):Prop:=SInv N L row ch/\Bt P p0 ch A D/\row.length<=N.length+64*ch.length/\∀x∈row,x.size<=maxLen
theorem aex{N:List Nd}{L:List Re}{P:List Pl}{p0:Nat}(h0:p0<18446744073709551616)(hz:∀y∈N,y.n.size<=maxLen):SI N L P p0 (di [] (N.map (·.n))) [] 0 p0:=by
 refine⟨Ui N L,Bt.zero P p0 h0,?_,fun x hx=>?_⟩
 ·have:=Ei (N.map (·.n)) [];simpa using this
 ·rcases(o7 _ _).1 hx with hx|hx
  ·cases hx
  ·obtain⟨y,hy,rfl⟩:=List.mem_map.1 hx;exact hz y hy
open Classical in
noncomputable def xX(N:List Nd)(L:List Re)(ch:List Nat)(k:Nat):Bool:=decide (Fit N L ch k)
open Classical in
theorem FU{N:List Nd}{L:List Re}{ch:List Nat}{k:Nat}:xX N L ch k=true↔Fit N L ch k:=by
 unfold xX;simp
structure BtX(P:List Pl)(p0:Nat)(ch:List Nat)(A D:Nat):Prop where
 b:Bt P p0 ch A D
 a3:∀k,A.testBit k=true->k∈ch
 d3:∀q,D.testBit q=true->p0.testBit q=true\/∃j∈ch,(FQ P j).testBit q=true
theorem BtX.zero(P:List Pl)(p0:Nat)(h:p0<18446744073709551616):BtX P p0 [] 0 p0:=⟨Bt.zero P p0 h,fun k hk=>(by rw[Nat.zero_testBit]at hk;cases hk),fun q hq=>Or.inl hq⟩
theorem BtX.step{P:List Pl}{p0:Nat}{ch:List Nat}{A D:Nat}(h:BtX P p0 ch A D){k:Nat}(hk:k<P.length)(h64:k<64)(hb:P[k].bar<18446744073709551616):BtX P p0 (ch++[k]) (A ||| 2 ^ k) (D ||| P[k].bar):=by
 refine⟨h.b.step hk h64 hb,fun j hj=>?_,fun q hq=>?_⟩
 ·rw[Nat.testBit_or,Bool.or_eq_true]at hj
  rcases hj with hj|hj
  ·exact List.mem_append.2 (Or.inl (h.a3 j hj))
  ·rw[Nat.testBit_two_pow]at hj;have:k=j:=by simpa using hj
   exact List.mem_append.2 (Or.inr (by simp[this]))
 ·rw[Nat.testBit_or,Bool.or_eq_true]at hq
  rcases hq with hq|hq
  ·rcases h.d3 q hq with h1|⟨j,h1,h2⟩
   ·exact Or.inl h1
   ·exact Or.inr ⟨j,List.mem_append.2 (Or.inl h1),h2⟩
  ·exact Or.inr ⟨k,by simp,by rw[FT P k hk];exact hq⟩
theorem BtX.fit{N:List Nd}{L:List Re}{P:List Pl}{x0:Pl}{ch:List Nat}{A D k:Nat}(h:BtX P x0.bar ch A D)(hx:gz N L x0)(hP:P.length=L.length)(hPl:∀j (h1:j<L.length) (h2:j<P.length),gz L[j].nd L P[j])(hch:∀j∈ch,j<L.length)(hk:k<P.length):(!(D ||| P[k].bar).testBit k && decide (P[k].bar &&& A=0))=xX N L ch k:=by
 have gy:k<L.length:=by omega
 cases hf:(!(D ||| P[k].bar).testBit k && decide (P[k].bar &&& A=0)) with
 | true=>exact(FU.2 (h.b.fit hx hP hPl hch hk hf)).symm
 | false =>
  refine(Bool.eq_false_iff.2 fun hF=>?_).symm;obtain⟨f1,f2,f3,f4⟩:=FU.1 hF;rw[ut L k gy]at f2 f4;have no:∀{M:List Nd} {q:Nat},(∀y∈M,y.n=aQ L q->gu y.r (gV L q)=true)->¬∃y∈M,y.n=aQ L q/\gu y.r (gV L q)=false:=fun hM ⟨y,h1,h2,h3⟩=>by
   rw[hM y h1 h2]at h3;cases h3
  rw[Bool.and_eq_false_iff,Bool.not_eq_false',Nat.testBit_or,Bool.or_eq_true,decide_eq_false_iff_not]at hf
  rcases hf with(hf|hf)|hf
  ·rcases h.d3 k hf with h1|⟨j,h1,h2⟩
   ·exact no f1 (hx.bx k h1)
   ·have ry:=hch j h1;rw[FT P j (by omega)]at h2;have:=f3 j h1;rw[ut L j ry]at this;exact no this ((hPl j ry (by omega)).bx k h2)
  ·exact no f2 ((hPl k gy hk).bx k hf)
  ·apply hf;apply Nat.eq_of_testBit_eq;intro j;rw[Nat.testBit_and,Nat.zero_testBit]
   cases h1:P[k].bar.testBit j with
   | false=>rfl
   | true =>
    cases h2:A.testBit j with
    | false=>rfl
    | true=>exact absurd ((hPl k gy hk).bx j h1) (no (f4 j (h.a3 j h2)))
theorem aey{L:List Re}{O:List En}{x:ByteArray}{k:Nat}(h:k∈pR L O x):k<L.length/\aQ L k=x:=by
 unfold pR at h;split at h
 ·rename_i hex;exact(Classical.choose_spec hex).nm k h
 ·cases h
def SIX(N:List Nd)(L:List Re)(P:List Pl)(p0:Nat)(row:List ByteArray)(ch:List Nat)(A D:Nat):Prop:=SInv N L row ch/\BtX P p0 ch A D/\row.length<=N.length+64*ch.length/\∀x∈row,x.size<=maxLen
theorem aez{N:List Nd}{L:List Re}{O:List En}{P:List Pl}{x0:Pl}(hN:N.length<=1040000)(hL:L.length<=64)(hP:P.length=L.length)(hx:gz N L x0)(hPl:∀j (h1:j<L.length) (h2:j<P.length),gz L[j].nd L P[j])(hnd:∀x∈L,x.nd.length<=64)(hz:∀x∈L,∀y∈x.nd,y.n.size<=maxLen):Qj L.length P (eG L) (pR L O) (xX N L) (SIX N L P x0.bar) where
 few h:=h.1.few
 le h:=h.1.le
 nod h:=h.1.nod
 len {row ch A D} h:=by
  have h1:=h.2.2.1;have h2:=h.1.few;omega
 sz h:=h.2.2.2
 a h:=h.2.1.b.a1
 d h:=h.2.1.b.d1
 nsl k hk:=by
  rw[BO L k hk,List.length_map];exact hnd _ (List.getElem_mem _)
 nsz k hk x hx':=by
  rw[BO L k hk]at hx';obtain⟨y,hy,rfl⟩:=List.mem_map.1 hx';exact hz _ (List.getElem_mem _) y hy
 bar k hk:=(hPl k (by omega) hk).ok.bar
 fit {row ch A D} h k hk:=h.2.1.fit hx hP hPl (fun j hj=>by
   obtain⟨i,hi⟩:=List.getElem?_of_mem hj;exact(h.1.nm i j hi).1) hk
 step {row ch A D} h x k hk hr hc hf:=by
  obtain⟨h1,h2,h3,h4⟩:=h;have gy:k<L.length:=by omega
  have hns:(eG L k).length<=64:=by
   rw[BO L k gy,List.length_map];exact hnd _ (List.getElem_mem _)
  have hkx:=(aey hc).2;refine⟨?_,h2.step hk (by omega) (hPl k gy hk).ok.bar,?_,fun y hy=>?_⟩
  ·rw[Ul];exact h1.step gy (by rw[hr,hkx]) (FU.1 hf)
  ·have:=Ei (eG L k) row;rw[List.length_append,List.length_singleton];omega
  ·rcases(o7 _ _).1 hy with hy|hy
   ·exact h4 y hy
   ·rw[BO L k gy]at hy;obtain⟨z,hz',rfl⟩:=List.mem_map.1 hy;exact hz _ (List.getElem_mem _) z hz'
theorem aeA{N:List Nd}{L:List Re}{P:List Pl}{p0:Nat}(h0:p0<18446744073709551616)(hz:∀y∈N,y.n.size<=maxLen):SIX N L P p0 (di [] (N.map (·.n))) [] 0 p0:=by
 obtain⟨h1,-,h3,h4⟩:=aex (L:=L) (P:=P) h0 hz;exact⟨h1,BtX.zero P p0 h0,h3,h4⟩
end Go.Proofs.YtapodndfpecglaaGreatDoor
