import Derived.Test.YtiinliaoojfjaaaGreatDoorF43
set_option linter.all false
set_option maxRecDepth 100000
set_option maxHeartbeats 0
namespace Go.Proofs.YtiinliaoojfjaaaGreatDoor
def fF(M:List Re)(k:Nat):V:=cutV (aK (dY M k))
def pM(name text:ByteArray)(M:List Re)(k:Nat):Bool:=decide (aF M k=name) && dE text (dY M k)
def BestP(name text:ByteArray)(M:List Re)(n:Nat)(b:Int):Prop:=(b=-1/\∀k,k<n->pM name text M k=false)\/∃q:Nat,b=(q:Int)/\q<n/\pM name text M q=true/\∀k,k<n->pM name text M k=true->aB (fF M k) (fF M q)<=0
section
variable {name text:ByteArray} {M:List Re} {n:Nat} {b:Int}
theorem BestP.skip(h:BestP name text M n b)(hn:pM name text M n=false):BestP name text M (n+1) b:=by
 rcases h with⟨h1,h2⟩|⟨q,h1,h2,h3,h4⟩
 ·refine Or.inl ⟨h1,fun k hk=>?_⟩
  by_cases e:k=n
  ·rw[e];exact hn
  ·exact h2 k (by omega)
 ·refine Or.inr ⟨q,h1,by omega,h3,fun k hk ha=>?_⟩
  by_cases e:k=n
  ·rw[e,hn]at ha;cases ha
  ·exact h4 k (by omega) ha
theorem BestP.first(h:BestP name text M n (-1))(hn:pM name text M n=true):BestP name text M (n+1) (n:Int):=by
 rcases h with⟨h1,h2⟩|⟨q,h1,-⟩
 ·refine Or.inr ⟨n,rfl,by omega,hn,fun k hk ha=>?_⟩
  by_cases e:k=n
  ·rw[e];have:=dN (fF M n) (fF M n);omega
  ·rw[h2 k (by omega)]at ha;cases ha
 ·omega
theorem BestP.keep{q:Nat}(h:BestP name text M n (q:Int))(hv:aB (fF M n) (fF M q)<=0):BestP name text M (n+1) (q:Int):=by
 rcases h with⟨h1,-⟩|⟨p,h1,h2,h3,h4⟩
 ·omega
 ·obtain rfl:q=p:=by omega
  refine Or.inr ⟨q,rfl,by omega,h3,fun k hk ha=>?_⟩
  by_cases e:k=n
  ·rw[e];exact hv
  ·exact h4 k (by omega) ha
theorem BestP.next{q:Nat}(h:BestP name text M n (q:Int))(hn:pM name text M n=true)(hv:¬aB (fF M n) (fF M q)<=0):BestP name text M (n+1) (n:Int):=by
 rcases h with⟨h1,-⟩|⟨p,h1,h2,h3,h4⟩
 ·omega
 ·obtain rfl:q=p:=by omega
  refine Or.inr ⟨n,rfl,by omega,hn,fun k hk ha=>?_⟩
  by_cases e:k=n
  ·rw[e];have:=dN (fF M n) (fF M n);omega
  ·have h5:=h4 k (by omega) ha;have h6:aB (fF M q) (fF M n)<=0:=by rw[dN (fF M n) (fF M q)];omega
   exact(xu.trans _ _ _ h5 h6).1
theorem YN(name:ByteArray):∀(L:List Re) (k:Nat),∀it∈bn name L k,∃j,∃hj:j<L.length,it.k=k+j/\L[j].nm=name/\it.v=aK L[j].ve
 | [],k,it,h=>by cases h
 | x :: r,k,it,h=>by
  unfold bn at h;have tl:it∈bn name r (k+1)->∃j,∃hj:j<(x :: r).length,it.k=k+j/\(x :: r)[j].nm=name/\it.v=aK (x :: r)[j].ve:=fun h=>by
   obtain⟨j,hj,h1,h2,h3⟩:=YN name r (k+1) it h;exact⟨j+1,by simp;omega,by omega,h2,h3⟩
  split at h
  ·rename_i hc;rw[Bool.and_eq_true,decide_eq_true_eq]at hc
   rcases List.mem_cons.1 h with rfl|h
   ·exact⟨0,by simp,rfl,hc.1,rfl⟩
   ·exact tl h
  ·exact tl h
theorem no_tie(h:(bQ M M.length).1=0){j k:Nat}(hj:j<k)(hk:k<M.length)(hn:aF M j=aF M k):¬aB (fF M j) (fF M k)=0:=fun he=>by
 have h0:=OE M h k hk;have hs:=(uN M h).2;have qB:j<M.length:=by omega
 rw[CU M k hk]at h0;have hhit:(M.take k).any (fA M[k].nm M[k].ve)=true:=by
  rw[List.any_eq_true];refine⟨M[j],List.mem_take_iff_getElem.2 ⟨j,by omega,rfl⟩,?_⟩;rw[mX M j qB,mX M k hk]at hn;unfold fF at he;rw[wM M j qB,wM M k hk]at he;unfold fA og;rw[(hs M[j] (List.getElem_mem _)).2.1,(hs M[k] (List.getElem_mem _)).2.1,he];simpa using hn
 by_cases c1:50<=k\/20<M[k].nd.length
 ·rw[yA c1]at h0;exact absurd h0 (by decide)
 ·by_cases c2:nameB M[k].nm=false\/okV M[k].ve=false\/bY M[k].nd=2
  ·rw[Jg c1 c2]at h0;exact absurd h0 (by decide)
  ·rw[Jh c1 c2,if_pos (Or.inr hhit)]at h0;exact absurd h0 (by decide)
end
theorem YO{go:Nat->Nat->Fd}{ft:Nat->Bool}:∀(l:List Nat) (f:Nat),l.length<=f->(∀k∈l,∀f,go k f=.yes [k])->(∃pre k post,l=pre++k :: post/\(∀j∈pre,ft j=false)/\ft k=true/\eu go ft l f=.yes [k])\/((∀j∈l,ft j=false)/\∃f',eu go ft l f=.no f')
 | [],f,_,_=>Or.inr ⟨fun j hj=>(by cases hj),f,rfl⟩
 | q :: r,0,h,_=>by simp at h
 | q :: r,f+1,h,hg=>by
  rw[eu]
  by_cases hq:ft q=true
  ·rw[if_pos hq,hg q List.mem_cons_self f];exact Or.inl ⟨[],q,r,rfl,fun j hj=>(by cases hj),hq,rfl⟩
  ·rw[if_neg hq];have hq':ft q=false:=by simpa using hq
   rcases YO r f (by simpa using h) (fun k hk=>hg k (List.mem_cons_of_mem _ hk)) with⟨pre,k,post,h1,h2,h3,h4⟩|⟨h1,h2⟩
   ·refine Or.inl ⟨q :: pre,k,post,by rw[h1];rfl,fun j hj=>?_,h3,h4⟩
    rcases List.mem_cons.1 hj with e|hj
    ·rw[e];exact hq'
    ·exact h2 j hj
   ·refine Or.inr ⟨fun j hj=>?_,h2⟩
    rcases List.mem_cons.1 hj with e|hj
    ·rw[e];exact hq'
    ·exact h1 j hj
section
variable {name text:ByteArray} {M:List Re}
theorem aiz(hM:∀x∈M,x.nd=[])(hf:fE [⟨name,text⟩] M=0){b:Int}(hb:BestP name text M M.length b):(b=-1/\∃f,jB [⟨name,text⟩] M [] 3000=.no f)\/∃q:Nat,b=(q:Int)/\jB [⟨name,text⟩] M [] 3000=.yes [q]:=by
 have hk0:(bQ M M.length).1=0:=by
  unfold fE at hf;split at hf
  ·assumption
  ·cases hf
 obtain⟨hs1,hs2⟩:=uN M hk0;have hnd:∀k,gm M k=[]:=fun k=>by
  unfold gm;split
  ·rename_i x hx;exact hM x (List.mem_of_getElem? hx)
  ·rfl
 have hns:∀k,bG M k=[]:=fun k=>by rw[wU,hnd];rfl
 have aiA:aU [] ([(⟨name,text⟩:Nd)].map (·.n))=[name]:=rfl;have hfit:∀k,aF M k=name->dG [⟨name,text⟩] M [] k=dE text (dY M k):=fun k hk=>by
  rw[Bool.eq_iff_iff,rq];unfold Fit;rw[hnd];refine⟨fun h=>h.1 ⟨name,text⟩ (by simp) hk.symm,fun h=>⟨fun y hy _=>?_,fun y hy=>(by cases hy),fun j hj=>(by cases hj),fun j hj=>(by cases hj)⟩⟩;rw[List.mem_singleton.1 hy];exact h
 obtain⟨E,h1,h2⟩:=Jm M name;have hcs:dL M [] name=E.map (·.k):=by
  rw[zG ⟨E,h1,h2,rfl⟩];have:jK [] M name=-1:=rfl;rw[this];unfold jw;rw[if_neg (by omega)]
 have hcl:(E.map (·.k)).length<=3000:=by
  rw[List.length_map,h1.length_eq];have:=ww name M 0;omega
 have hgo:∀k∈E.map (·.k),∀f,(fun k f=>dC (dL M []) (dG [⟨name,text⟩] M) (bG M) M.length (aU [name] (bG M k)) ([]++[k]) f) k f=.yes [k]:=fun k hk f=>by
  rw[<-hcs]at hk;obtain⟨bK,-⟩:=yB hk;obtain⟨d,hd⟩:∃d,M.length=d+1:=⟨M.length-1,by omega⟩;show dC _ _ _ M.length (aU [name] (bG M k)) ([]++[k]) f=_;rw[hd,hns,dC];rfl
 have hres:jB [⟨name,text⟩] M [] 3000=eu (fun k f=>dC (dL M []) (dG [⟨name,text⟩] M) (bG M) M.length (aU [name] (bG M k)) ([]++[k]) f) (dG [⟨name,text⟩] M []) (E.map (·.k)) 3000:=by
  unfold jB;rw[aiA,dC,if_neg (by simp)];show eu _ _ (dL M [] name) _=_;rw[hcs];rfl
 have hall:∀k,k<M.length->pM name text M k=true->k∈E.map (·.k)/\dG [⟨name,text⟩] M [] k=true:=fun k hk ha=>by
  unfold pM at ha;rw[Bool.and_eq_true,decide_eq_true_eq]at ha;refine⟨?_,by rw[hfit k ha.1];exact ha.2⟩;rw[<-hcs,<-ha.1];exact XI hk (hs2 _ (List.getElem_mem hk)).2.1
 rcases YO (E.map (·.k)) 3000 hcl hgo (ft:=dG [⟨name,text⟩] M []) with⟨pre,k,post,e1,e2,e3,e4⟩|⟨e1,f',e2⟩
 ·right;refine⟨k,?_,by rw[hres];exact e4⟩;have Gh:k∈E.map (·.k):=by rw[e1];simp
  have hkc:k∈dL M [] name:=by rw[hcs];exact Gh
  obtain⟨bK,hkn⟩:=yB hkc;have hka:pM name text M k=true:=by
   unfold pM;rw[hkn,<-hfit k hkn,e3];simp
  rcases hb with⟨-,hb⟩|⟨q,hb1,hb2,hb3,hb4⟩
  ·rw[hb k bK]at hka;cases hka
  ·have uy:aF M q=name:=by
    unfold pM at hb3;rw[Bool.and_eq_true,decide_eq_true_eq]at hb3;exact hb3.1
   have v1:=hb4 k bK hka;have v2:aB (fF M q) (fF M k)<=0:=by
    obtain⟨hqm,Gi⟩:=hall q hb2 hb3;rw[e1]at hqm
    rcases List.mem_append.1 hqm with hqp|hqp
    ·rw[e2 q hqp]at Gi;cases Gi
    ·rcases List.mem_cons.1 hqp with e|hqp
     ·rw[e];have:=dN (fF M k) (fF M k);omega
     ·obtain⟨A,Z,hE,hA,hZ⟩:=List.map_eq_append_iff.1 e1;obtain⟨x,Z',PN,hxk,hZp⟩:=List.map_eq_cons_iff.1 hZ;rw[<-hZp]at hqp;obtain⟨y,hy,hyk⟩:=List.mem_map.1 hqp;have hxE:x∈E:=by rw[hE,PN];simp
      have hyE:y∈E:=by rw[hE,PN];simp[hy]
      have hpw:0<=eF y x:=by
       rw[hE,PN]at h2;exact(List.pairwise_cons.1 (List.pairwise_append.1 h2).2.1).1 y hy
      have oV:∀it∈E,cutV it.v=fF M it.k:=fun it hit=>by
       obtain⟨j,hj,a1,-,a3⟩:=YN name M 0 it (h1.subset hit);unfold fF;rw[a1,a3,Nat.zero_add,wM M j hj]
      have hn:¬eF y x<0:=by omega
      rw[qW,oV x hxE,oV y hyE,hxk,hyk]at hn;rw[dN (fF M k) (fF M q)];omega
   have v3:aB (fF M k) (fF M q)=0:=by
    rw[dN (fF M k) (fF M q)]at v2;omega
   rcases Nat.lt_trichotomy k q with hlt|hlt|hlt
   ·exact absurd v3 (no_tie hk0 hlt hb2 (hkn.trans uy.symm))
   ·rw[hb1,hlt]
   ·exact absurd (by rw[dN (fF M k) (fF M q),v3];rfl) (no_tie hk0 hlt bK (uy.trans hkn.symm))
 ·left;refine⟨?_,f',by rw[hres];exact e2⟩
  rcases hb with⟨hb,-⟩|⟨q,hb1,hb2,hb3,hb4⟩
  ·exact hb
  ·obtain⟨hqm,Gi⟩:=hall q hb2 hb3;rw[e1 q hqm]at Gi
   cases Gi
theorem YP{D:List Nat}{E:Int}(h:qC [⟨name,text⟩] M [] 3000 D E)(hE:E=0\/E=8):fE [⟨name,text⟩] M=0:=by
 rcases h with⟨h1,h2,-⟩|⟨h1,-⟩|⟨h1,-⟩|⟨h1,-⟩
 ·exfalso;unfold fE at h1 h2;split at h2
  ·rw[if_pos (by assumption)]at h1
   rcases IW [(⟨name,text⟩:Nd)] with e|e|e<;>rw[e]at h1 h2<;>omega
  ·omega
 ·exact h1
 ·exact h1
 ·exact h1
theorem aiB{D:List Nat}{E:Int}(h:qC [⟨name,text⟩] M [] 3000 D E)(hE:E=0\/E=8):okR text=true:=by
 have hf:=YP h hE;unfold fE at hf;split at hf
 ·have:=Dx hf ⟨name,text⟩ (by simp);unfold iC at this;rw[Bool.and_eq_true]at this;exact this.2
 ·cases hf
theorem aiC(hM:∀x∈M,x.nd=[]){D:List Nat}{E b:Int}(h:qC [⟨name,text⟩] M [] 3000 D E)(hE:E=0\/E=8)(hb:BestP name text M M.length b):(b=-1/\E=8)\/∃q:Nat,b=(q:Int)/\E=0/\D=[q]:=by
 have hf:=YP h hE
 rcases aiz hM hf hb with⟨e1,f,e2⟩|⟨q,e1,e2⟩
 ·left;refine⟨e1,?_⟩
  rcases h with⟨h1,-⟩|⟨-,h2,-⟩|⟨-,-,h3,-⟩|⟨-,-,⟨ch,h3,-⟩,-⟩
  ·exact absurd hf h1
  ·rw[e2]at h2;cases h2
  ·exact h3
  ·rw[e2]at h3;cases h3
 ·right;refine⟨q,e1,?_⟩
  rcases h with⟨h1,-⟩|⟨-,h2,-⟩|⟨-,⟨f,h2⟩,-⟩|⟨-,h2,⟨ch,h3,h4⟩,-⟩
  ·exact absurd hf h1
  ·rw[e2]at h2;cases h2
  ·rw[e2]at h2;cases h2
  ·rw[e2]at h3
   cases h3
   exact⟨h2,List.perm_singleton.1 h4⟩
end
end Go.Proofs.YtiinliaoojfjaaaGreatDoor
