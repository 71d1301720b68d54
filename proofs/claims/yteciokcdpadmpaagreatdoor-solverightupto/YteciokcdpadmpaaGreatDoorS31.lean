import Derived.Test.YteciokcdpadmpaaGreatDoorS29
set_option linter.all false
set_option maxRecDepth 100000
set_option maxHeartbeats 0
namespace Go.Proofs.YteciokcdpadmpaaGreatDoor
def nJ(L:List Re)(k:Nat):List Nd:=match L[k]? with|some x=>x.nd|none=>[]
theorem DZ(L:List Re)(k:Nat)(h:k<L.length):nJ L k=L[k].nd:=by simp[nJ,List.getElem?_eq_getElem h]
def Fit(N:List Nd)(L:List Re)(ch:List Nat)(k:Nat):Prop :=
 (∀y∈N,y.n=aZ L k->jd y.r (jr L k)=true)/\(∀y∈nJ L k,y.n=aZ L k->jd y.r (jr L k)=true)/\(∀j∈ch,∀y∈nJ L j,y.n=aZ L k->jd y.r (jr L k)=true)/\∀j∈ch,∀y∈nJ L k,y.n=aZ L j->jd y.r (jr L j)=true
structure SInv(N:List Nd)(L:List Re)(row:List ByteArray)(ch:List Nat):Prop where
 le:ch.length<=row.length
 nod:row.Nodup
 nm:∀(i k:Nat),ch[i]?=some k->k<L.length/\row[i]?=some (aZ L k)
 nee:∀y∈N,y.n∈row
 ndd:∀k∈ch,∀y∈nJ L k,y.n∈row
 wt:∀(i:Nat) (x:ByteArray),row[i]?=some x->(∃y∈N,y.n=x)\/∃j k:Nat,j<i/\ch[j]?=some k/\∃y∈nJ L k,y.n=x
 ft0:∀k∈ch,∀y∈N,y.n=aZ L k->jd y.r (jr L k)=true
 ft:∀k∈ch,∀k'∈ch,∀y∈nJ L k,y.n=aZ L k'->jd y.r (jr L k')=true
section
variable {N:List Nd} {L:List Re} {row:List ByteArray} {ch:List Nat}
theorem aex(N:List Nd)(L:List Re):SInv N L (ed [] (N.map (·.n))) [] :=
 ⟨Nat.zero_le _,Ce _ _ List.nodup_nil,fun i k h=>(by simp at h),fun y hy=>(qw _ _).2 (Or.inr (List.mem_map.2 ⟨y,hy,rfl⟩)),fun k h=>(by cases h),fun i x h=>by
  have:=(qw _ _).1 (List.mem_of_getElem? h)
  rcases this with h|h
  ·cases h
  ·obtain⟨y,hy,e⟩:=List.mem_map.1 h;exact Or.inl ⟨y,hy,e⟩,fun k h=>(by cases h),fun k h=>(by cases h)⟩
theorem SInv.step(h:SInv N L row ch){k:Nat}(hk:k<L.length)(hr:row[ch.length]?=some (aZ L k))(hf:Fit N L ch k):SInv N L (ed row ((nJ L k).map (·.n))) (ch++[k]):=by
 obtain⟨t,ht⟩:=Fg ((nJ L k).map (·.n)) row;have hlt:ch.length<row.length:=(List.getElem?_eq_some_iff.1 hr).1;have hin:=@qw;have old:∀(i:Nat) (x:ByteArray),row[i]?=some x->(ed row ((nJ L k).map (·.n)))[i]?=some x:=fun i x hx=>by
  rw[ht,List.getElem?_append_left (List.getElem?_eq_some_iff.1 hx).1];exact hx
 have cho:∀i j:Nat,(ch++[k])[i]?=some j->ch[i]?=some j\/(i=ch.length/\j=k):=fun i j hj=>by
  rcases Nat.lt_or_ge i ch.length with hi|hi
  ·rw[List.getElem?_append_left hi]at hj;exact Or.inl hj
  ·rw[List.getElem?_append_right hi]at hj;have hi0:i-ch.length=0:=by
    have:=(List.getElem?_eq_some_iff.1 hj).1;simp at this;omega
   rw[hi0]at hj
   cases hj
   exact Or.inr ⟨by omega,rfl⟩
 have mem:∀j,j∈ch++[k]->j∈ch\/j=k:=fun j hj=>by
  rcases List.mem_append.1 hj with h|h
  ·exact Or.inl h
  ·exact Or.inr (List.mem_singleton.1 h)
 refine⟨?_,Ce _ _ h.nod,fun i j hj=>?_,fun y hy=>(qw _ _).2 (Or.inl (h.nee y hy)),fun j hj y hy=>?_,fun i x hx=>?_,fun j hj y hy e=>?_,fun j hj j' hj' y hy e=>?_⟩
 ·rw[ht];simp only[List.length_append,List.length_cons,List.length_nil];omega
 ·rcases cho i j hj with hj|⟨rfl,rfl⟩
  ·exact⟨(h.nm i j hj).1,old _ _ (h.nm i j hj).2⟩
  ·exact⟨hk,old _ _ hr⟩
 ·rcases mem j hj with hj|rfl
  ·exact(qw _ _).2 (Or.inl (h.ndd j hj y hy))
  ·exact(qw _ _).2 (Or.inr (List.mem_map.2 ⟨y,hy,rfl⟩))
 ·rcases Nat.lt_or_ge i row.length with hi|hi
  ·rw[ht,List.getElem?_append_left hi]at hx
   rcases h.wt i x hx with h1|⟨j,q,h1,h2,h3⟩
   ·exact Or.inl h1
   ·exact Or.inr ⟨j,q,h1,by rw[List.getElem?_append_left (List.getElem?_eq_some_iff.1 h2).1];exact h2,h3⟩
  ·have hm:=(qw _ _).1 (List.mem_of_getElem? hx);have hn:¬x∈row:=fun hr2=>by
    obtain⟨q,hq⟩:=List.getElem?_of_mem hr2;have sN:=(List.getElem?_eq_some_iff.1 hq).1;have h2:=old q x hq;obtain⟨a1,a2⟩:=List.getElem?_eq_some_iff.1 h2;obtain⟨b1,b2⟩:=List.getElem?_eq_some_iff.1 hx;exact List.pairwise_iff_getElem.1 (Ce ((nJ L k).map (·.n)) row h.nod) q i a1 b1 (by omega) (a2.trans b2.symm)
   rcases hm with hm|hm
   ·exact absurd hm hn
   ·obtain⟨y,hy,e⟩:=List.mem_map.1 hm;exact Or.inr ⟨ch.length,k,by omega,by simp,y,hy,e⟩
 ·rcases mem j hj with hj|rfl
  ·exact h.ft0 j hj y hy e
  ·exact hf.1 y hy e
 ·rcases mem j hj with h1|h1
  ·rcases mem j' hj' with h2|h2
   ·exact h.ft j h1 j' h2 y hy e
   ·rw[h2]at e ⊢;exact hf.2.2.1 j h1 y hy e
  ·rw[h1]at hy
   rcases mem j' hj' with h2|h2
   ·exact hf.2.2.2 j' h2 y hy e
   ·rw[h2]at e ⊢;exact hf.2.1 y hy e
theorem SInv.one(h:SInv N L row ch):(ch.map (aZ L)).Nodup:=by
 unfold List.Nodup;rw[List.pairwise_map,List.pairwise_iff_getElem];intro i j hi hj hij e;obtain⟨-,h1⟩:=h.nm i _ (List.getElem?_eq_getElem hi);obtain⟨-,h2⟩:=h.nm j _ (List.getElem?_eq_getElem hj);obtain⟨a1,a2⟩:=List.getElem?_eq_some_iff.1 h1;obtain⟨b1,b2⟩:=List.getElem?_eq_some_iff.1 h2;exact List.pairwise_iff_getElem.1 h.nod i j a1 b1 hij (a2.trans (e.trans b2.symm))
theorem GZ(C:List Int)(hC:C.Perm (ch.map fun(k:Nat)=>(k:Int)))(k:Nat):jf C k=true↔k∈ch:=by
 unfold jf;rw[List.any_eq_true];constructor
 ·rintro⟨c,hc,e⟩;obtain⟨j,hj,rfl⟩:=List.mem_map.1 (hC.subset hc);have:j=k:=by simpa using e
  exact this ▸ hj
 ·intro hk;exact⟨(k:Int),hC.symm.subset (List.mem_map.2 ⟨k,hk,rfl⟩),by simp⟩
theorem UK(D:List Nd)(h:(D.map (·.n)).Nodup):∀i,i<=D.length->eY D i=false
 | 0,_=>rfl
 | i+1,hi=>by
  have hlt:i<D.length:=by omega
  rw[BV D i hlt,UK D h i (by omega),Bool.false_or];unfold oq;rw[List.any_eq_false];intro y hy e;obtain⟨j,hj,rfl⟩:=List.mem_take_iff_getElem.1 hy;have:=List.pairwise_iff_getElem.1 h j i (by simp;omega) (by simpa using hlt) (by omega);simp only[List.getElem_map]at this;exact this (by simpa using e)
theorem SInv.good(h:SInv N L row ch)(he:ch.length=row.length)(hf:fU N L=0)(C:List Int)(hC:C.Perm (ch.map fun(k:Nat)=>(k:Int))):iO N L C:=by
 have hlt:∀k∈ch,k<L.length:=fun k hk=>by
  obtain⟨i,hi⟩:=List.getElem?_of_mem hk;exact(h.nm i k hi).1
 have has:∀x∈row,∃k∈ch,aZ L k=x:=fun x hx=>by
  obtain⟨i,hi⟩:=List.getElem?_of_mem hx;have hil:=(List.getElem?_eq_some_iff.1 hi).1;have h1:=List.getElem?_eq_getElem (l:=ch) (i:=i) (by omega);have h2:=(h.nm i _ h1).2;rw[hi]at h2;exact⟨_,List.getElem_mem _,(Option.some.inj h2).symm⟩
 have meet:∀(M:List Nd),(∀y∈M,y.n∈row)->(∀k∈ch,∀y∈M,y.n=aZ L k->jd y.r (jr L k)=true)->∀j,j<M.length->∃q,jf C q=true/\lG M L j q=true:=fun M h1 h2 j hj=>by
  obtain⟨k,hk,e⟩:=has _ (h1 M[j] (List.getElem_mem _));refine⟨k,(GZ C hC k).2 hk,?_⟩;rw[Ap M L j k hj (hlt k hk),h2 k hk _ (List.getElem_mem _) e.symm];simp[e]
 refine⟨hf,?_,meet N h.nee h.ft0,fun k hk hc j hj=>?_,?_⟩
 ·unfold kN kX;rw[List.take_length,Bool.and_eq_true];constructor
  ·rw[List.all_eq_true];intro c hc;obtain⟨k,hk,rfl⟩:=List.mem_map.1 (hC.subset hc);have:=hlt k hk;simp;omega
  ·have hl:C.length=(jm L C).length:=by simp[jm]
   rw[hl,UK (jm L C) ?_ _ (Nat.le_refl _)]
   ·rfl
   ·have e1:(jm L C).map (·.n)=C.map fun c=>aZ L c.toNat:=by simp[jm,Function.comp_def]
    rw[e1];have:=hC.map fun c=>aZ L c.toNat
    refine this.nodup_iff.2 ?_;rw[List.map_map];have e2:((fun c:Int=>aZ L c.toNat) ∘ fun(k:Nat)=>(k:Int))=aZ L:=by funext k;simp
    rw[e2];exact h.one
 ·have hc':=(GZ C hC k).1 hc;have hnd:=DZ L k hk;refine meet L[k].nd (fun y hy=>h.ndd k hc' y (by rw[hnd];exact hy)) (fun q hq y hy e=>h.ft k hc' q hq y (by rw[hnd];exact hy) e) j hj
 ·have key:∀i k:Nat,ch[i]?=some k->Wt N L C k:=fun i=>by
   induction i using Nat.strongRecOn with
   | ind i ih =>
    intro k hi;obtain⟨h1,h2⟩:=h.nm i k hi;have hc:=(GZ C hC k).2 (List.mem_of_getElem? hi)
    rcases h.wt i _ h2 with⟨y,hy,e⟩|⟨j,q,h3,h4,y,hy,e⟩
    ·refine Wt.base k hc ?_;unfold qM;rw[Bool.and_eq_true,List.any_eq_true];exact⟨by simpa using h1,y,hy,by simpa using e⟩
    ·have hq:=(h.nm j q h4).1;refine Wt.step k q hq (ih j h3 q h4) hc ?_;rw[DZ L q hq]at hy;unfold qM;rw[Bool.and_eq_true,List.any_eq_true];exact⟨by simpa using h1,y,hy,by simpa using e⟩
  intro k hk;obtain⟨i,hi⟩:=List.getElem?_of_mem ((GZ C hC k).1 hk);exact key i k hi
end
def LY(P:List Pl)(j:Nat):Nat:=match P[j]? with|some x=>x.bar|none=>0
theorem UL(P:List Pl)(j:Nat)(h:j<P.length):LY P j=P[j].bar:=by simp[LY,List.getElem?_eq_getElem h]
structure Bt(P:List Pl)(p0:Nat)(ch:List Nat)(A D:Nat):Prop where
 a1:A<18446744073709551616
 d1:D<18446744073709551616
 a2:∀k∈ch,A.testBit k=true
 d2:∀q,D.testBit q=false->p0.testBit q=false/\∀j∈ch,(LY P j).testBit q=false
theorem Bt.zero(P:List Pl)(p0:Nat)(h:p0<18446744073709551616):Bt P p0 [] 0 p0:=⟨by decide,h,fun k hk=>(by cases hk),fun q hq=>⟨hq,fun j hj=>(by cases hj)⟩⟩
theorem Bt.step{P:List Pl}{p0:Nat}{ch:List Nat}{A D:Nat}(h:Bt P p0 ch A D){k:Nat}(hk:k<P.length)(h64:k<64)(hb:P[k].bar<18446744073709551616):Bt P p0 (ch++[k]) (A ||| 2 ^ k) (D ||| P[k].bar):=by
 refine⟨ug h.a1 (og h64),ug h.d1 hb,fun j hj=>?_,fun q hq=>?_⟩
 ·rw[Nat.testBit_or,Bool.or_eq_true]
  rcases List.mem_append.1 hj with hj|hj
  ·exact Or.inl (h.a2 j hj)
  ·rw[List.mem_singleton.1 hj];exact Or.inr (by simp)
 ·rw[Nat.testBit_or,Bool.or_eq_false_iff]at hq;obtain⟨h1,h2⟩:=h.d2 q hq.1;refine⟨h1,fun j hj=>?_⟩
  rcases List.mem_append.1 hj with hj|hj
  ·exact h2 j hj
  ·rw[List.mem_singleton.1 hj,UL P k hk];exact hq.2
theorem Bt.fit{N:List Nd}{L:List Re}{P:List Pl}{x0:Pl}{ch:List Nat}{A D k:Nat}(h:Bt P x0.bar ch A D)(hx:dO N L x0)(hP:P.length=L.length)(hPl:∀j (h1:j<L.length) (h2:j<P.length),dO L[j].nd L P[j])(hch:∀j∈ch,j<L.length)(hk:k<P.length)(hf:(!(D ||| P[k].bar).testBit k && decide (P[k].bar &&& A=0))=true):Fit N L ch k:=by
 rw[Bool.and_eq_true,Bool.not_eq_true',Nat.testBit_or,Bool.or_eq_false_iff,decide_eq_true_eq]at hf;obtain⟨⟨f1,f2⟩,f3⟩:=hf;obtain⟨g1,g2⟩:=h.d2 k f1;have jH:k<L.length:=by omega
 refine⟨hx.br k g1 jH,?_,fun j hj=>?_,fun j hj=>?_⟩
 ·rw[DZ L k jH];exact(hPl k jH hk).br k f2 jH
 ·have yO:=hch j hj;have:=g2 j hj;rw[UL P j (by omega)]at this;rw[DZ L j yO];exact(hPl j yO (by omega)).br k this jH
 ·have yO:=hch j hj;rw[DZ L k jH];refine(hPl k jH hk).br j ?_ yO;have h1:(P[k].bar &&& A).testBit j=false:=by rw[f3,Nat.zero_testBit]
  rw[Nat.testBit_and,h.a2 j hj,Bool.and_true]at h1;exact h1
theorem UM:∀(n:Nat) (l:List Nat),l.Nodup->(∀x∈l,x<n)->l.length<=n
 | 0,[],_,_=>Nat.le_refl _
 | 0,a :: r,_,h=>absurd (h a (by simp)) (by omega)
 | n+1,l,hn,h=>by
  have h1:=UM n (l.erase n) (hn.erase n) (fun x hx=>by
   have h2:=h x (List.mem_of_mem_erase hx);have h3:=((List.Nodup.mem_erase_iff hn).1 hx).1;omega)
  rw[List.length_erase]at h1;split at h1<;>omega
theorem SInv.few{N:List Nd}{L:List Re}{row:List ByteArray}{ch:List Nat}(h:SInv N L row ch):ch.length<=L.length :=
 UM L.length ch (List.Pairwise.of_map (aZ L) (fun a b h e=>h (by rw[e])) h.one) fun k hk=>by
  obtain⟨i,hi⟩:=List.getElem?_of_mem hk;exact(h.nm i k hi).1
theorem aey(L:List Re)(k:Nat):jG L k=(nJ L k).map (·.n):=by
 unfold jG nJ
 cases L[k]? with
 | none=>rfl
 | some x=>rfl
def SI(N:List Nd)(L:List Re)(P:List Pl)(p0:Nat)(row:List ByteArray)(ch:List Nat)(A D:Nat):Prop:=SInv N L row ch/\Bt P p0 ch A D/\row.length<=N.length+64*ch.length/\∀x∈row,x.size<=maxLen
theorem aez{N:List Nd}{L:List Re}{P:List Pl}{x0:Pl}(hN:N.length<=1040000)(hL:L.length<=64)(hP:P.length=L.length)(hx:dO N L x0)(hPl:∀j (h1:j<L.length) (h2:j<P.length),dO L[j].nd L P[j])(hnd:∀x∈L,x.nd.length<=64)(hz:∀x∈L,∀y∈x.nd,y.n.size<=maxLen):RY L.length P (jG L) (fun x k=>aZ L k=x) (SI N L P x0.bar) where
 few h:=h.1.few
 le h:=h.1.le
 nod h:=h.1.nod
 len {row ch A D} h:=by
  have h1:=h.2.2.1;have h2:=h.1.few;omega
 sz h:=h.2.2.2
 a h:=h.2.1.a1
 d h:=h.2.1.d1
 nsl k hk:=by
  rw[Dv L k hk,List.length_map];exact hnd _ (List.getElem_mem _)
 nsz k hk x hx':=by
  rw[Dv L k hk]at hx';obtain⟨y,hy,rfl⟩:=List.mem_map.1 hx';exact hz _ (List.getElem_mem _) y hy
 bar k hk:=(hPl k (by omega) hk).ok.bar
 step {row ch A D} h x k hk hr hc hf:=by
  obtain⟨h1,h2,h3,h4⟩:=h;have jH:k<L.length:=by omega
  have hch:∀j∈ch,j<L.length:=fun j hj=>by
   obtain⟨i,hi⟩:=List.getElem?_of_mem hj;exact(h1.nm i j hi).1
  have hns:(jG L k).length<=64:=by
   rw[Dv L k jH,List.length_map];exact hnd _ (List.getElem_mem _)
  refine⟨?_,h2.step hk (by omega) (hPl k jH hk).ok.bar,?_,fun y hy=>?_⟩
  ·rw[aey];exact h1.step jH (by rw[hr,hc]) (h2.fit hx hP hPl hch hk hf)
  ·have:=Fh (jG L k) row;rw[List.length_append,List.length_singleton];omega
  ·rcases(qw _ _).1 hy with hy|hy
   ·exact h4 y hy
   ·rw[Dv L k jH]at hy;obtain⟨z,hz',rfl⟩:=List.mem_map.1 hy;exact hz _ (List.getElem_mem _) z hz'
theorem aeA{N:List Nd}{L:List Re}{P:List Pl}{p0:Nat}(h0:p0<18446744073709551616)(hz:∀y∈N,y.n.size<=maxLen):SI N L P p0 (ed [] (N.map (·.n))) [] 0 p0:=by
 refine⟨aex N L,Bt.zero P p0 h0,?_,fun x hx=>?_⟩
 ·have:=Fh (N.map (·.n)) [];simpa using this
 ·rcases(qw _ _).1 hx with hx|hx
  ·cases hx
  ·obtain⟨y,hy,rfl⟩:=List.mem_map.1 hx;exact hz y hy
end Go.Proofs.YteciokcdpadmpaaGreatDoor
