import Derived.Test.YtiinliaoojfjaaaGreatDoorF44
set_option linter.all false
set_option maxRecDepth 100000
set_option maxHeartbeats 0
open Go.Proofs.Tryz
namespace Go.Proofs.YtiinliaoojfjaaaGreatDoor
open Go.RowKit
theorem ai2(v:Value)(N:List Nd)(n:ByteArray)(w:World)(h:NdS w v N)(hN:N.length<=1048576) :
  Calls prog 21 #[v,.string n] w fun e w'=>e=.returned (.bool (jC N n))/\w.grownBy w' none:=by
 obtain⟨o,c,rfl⟩:∃o c,v=.slice o N.length c:=by
  rcases h with⟨rfl,rfl⟩|⟨_,_,rfl,-⟩
  ·exact⟨_,_,rfl⟩
  ·exact⟨_,_,rfl⟩
 have HE:=ae (fun w' (hg:w.grownBy w' none) i (hi:i<N.length)=>FZ (h.grow hg) hi);have HH:Hd (∀i (hi:i<N.length),N[i].n=n->jC N n=true):=fun i hi he=>by
  show jC N n=true;unfold jC;rw[List.any_eq_true];exact⟨N[i],List.getElem_mem _,by simpa using he⟩
 have HA:Hd (jC N n=N.any fun y=>decide (y.n=n)):=rfl;obtain⟨R,hR⟩:=zN (jC N n);rw[hR]at HH HA ⊢;clear h hR;go_enter func21,ntmps21;go_wp2;go_loopw [5] (fun vi wr=>∃i:Nat,vi=.int .i64 i/\i<=N.length/\(N.take i).any (fun y=>decide (y.n=n))=false/\w.grownBy wr none) (fun vi _=>N.length-(intOf vi).toNat)
 case atStart=>exact⟨0,rfl,Nat.zero_le _,rfl,ai _ _⟩
 case round =>
  obtain⟨i,rfl,hi,hno,hg⟩:=hrel;have HG:=ae hg;have iQ:=ae hno
  by_cases hlt:i<N.length
  ·obtain⟨a1,ho1,hcp1,iD⟩:=HE.o wr hg i hlt;obtain⟨e0,-⟩:=iD i hlt;have qY:=HH.o i hlt;have HST:Hd ((N.take (i+1)).any (fun y=>decide (y.n=n))=((N.take i).any (fun y=>decide (y.n=n)) || decide (N[i].n=n))):=DC _ N i hlt;obtain⟨x,hx⟩:=zN (N[i].n);rw[hx]at qY HST e0;have OG:=ae qY;have hic:i<c:=by omega
   subst ho1;clear iD hg hno hcp1 hx qY
   by_cases hn:x=n
   ·have hnn:(x.toList == n.toList)=true:=by rw[hn];simp
    have nP:=ae (OG.o hn);clear hn;go_wp2;refine bodyPost_ret (results_tmp (t:=4) rfl _ _ _) rfl ⟨?_,HG.o⟩;rw[nP.o];rfl
   ·have hnn:=pz hn;have eP:Hd ((N.take (i+1)).any (fun y=>decide (y.n=n))=false):=by
     show _=_;rw[HST.o,iQ.o,decide_eq_false hn];rfl
    clear hn;go_wp2;go_roundw
    case rel=>exact⟨i+1,by go_num,by omega,eP.o,HG.o⟩
    case measure=>simp[intOf];omega
  ·have hil:i=N.length:=by omega
   have nP:Hd (R=false):=by
    rw[hil,List.take_length]at hno;exact HA.o.trans hno
   clear hno hg hil hi;go_wp2;refine bodyPost_ret (results_tmp (t:=4) rfl _ _ _) rfl ⟨?_,HG.o⟩;rw[nP.o];rfl
theorem Ze:(prog.info? 51).map (fun i=>(i.zero,i.size,i.bytes))=some (some (.agg #[.string ⟨#[]⟩,.string ⟨#[]⟩,.slice none 0 0,.string ⟨#[]⟩]),4,72):=by kernel_rfl
theorem P8:∀(L:List Re) (vs:List Value),L.length=vs.length->(jd L vs).length=L.length*4
 | [],vs,h=>by simp[jd]
 | x :: L,[],h=>by simp at h
 | x :: L,v :: vs,h=>by
  have e:jd (x :: L) (v :: vs)=kR x v++jd L vs:=rfl;have hl:(kR x v).length=4:=rfl;rw[e,List.length_append,hl,P8 L vs (by simpa using h),List.length_cons];omega
theorem ai3{w:World}{o:Option Addr}{c:Nat}{L:List Re}(h:ReS w (.slice o L.length c) L):∃(vs:List Value) (hl:vs.length=L.length),(∀j (hj:j<L.length),NdS w (vs[j]'(by omega)) L[j].nd)/\Sl w o L.length 4 (jd L vs):=by
 rcases h with⟨h1,rfl⟩|⟨a,cap,h1,h2,h3⟩
 ·refine⟨[],rfl,fun j hj=>(by simp at hj),by simp[jd],fun _=>rfl,fun ad e j u hu=>(by simp[jd]at hu),fun u hu=>(by simp[jd]at hu)⟩
 ·injection h1 with h1 _ _
  have hex:∀i:Fin L.length,∃v,w.cell? ⟨(a.add (i.val*4)).block,(a.add (i.val*4)).off+2,none⟩=some v/\NdS w v L[i.val].nd:=fun i=>(h3 i.val i.isLt).2.2.1
  have hl:(List.ofFn fun i=>Classical.choose (hex i)).length=L.length:=by simp
  have hv:∀j (hj:j<L.length),(List.ofFn fun i=>Classical.choose (hex i))[j]'(by omega)=Classical.choose (hex ⟨j,hj⟩):=fun j hj=>by simp
  refine⟨List.ofFn fun i=>Classical.choose (hex i),hl,fun j hj=>by rw[hv j hj];exact(Classical.choose_spec (hex ⟨j,hj⟩)).2,P8 L _ hl.symm,fun e=>(by rw[e]at h1;cases h1),fun ad e j u hu=>?_,fun u hu=>?_⟩
  ·obtain rfl:ad=a:=Option.some.inj (e.symm.trans h1);have hj:=(List.getElem?_eq_some_iff.1 hu).1;rw[P8 L _ hl.symm]at hj;have hi:j / 4<L.length:=by omega
   obtain⟨e0,e1,-,e3⟩:=h3 (j / 4) hi;have e2:=(Classical.choose_spec (hex ⟨j / 4,hi⟩)).1;rw[<-hv (j / 4) hi]at e2;have fin:∀k v,k<4->j % 4=k->(kR L[j / 4] ((List.ofFn fun i=>Classical.choose (hex i))[j / 4]'(by omega)))[k]?=some v->(0<k->w.cell? ⟨(ad.add (j / 4*4)).block,(ad.add (j / 4*4)).off+k,none⟩=some v)->(k=0->w.cell? (ad.add (j / 4*4))=some v)->w.cell? (ad.add j)=some u:=fun k v hk hm hg hp h0=>by
    have hq:=xH L _ hl.symm (j / 4) hi k v hg;have ej:j / 4*4+k=j:=by omega
    rw[ej,hu]at hq;rw[Option.some.inj hq]
    by_cases hk0:k=0
    ·have:=h0 hk0;rw[show j / 4*4=j by omega]at this;exact this
    ·have ea:=qQ ad (j / 4*4) k (by omega);rw[ej]at ea;rw[ea];exact hp (by omega)
   rcases(by omega:j % 4=0\/j % 4=1\/j % 4=2\/j % 4=3) with hm|hm|hm|hm
   ·exact fin 0 _ (by omega) hm rfl (fun h=>absurd h (by omega)) fun _=>e0
   ·exact fin 1 _ (by omega) hm rfl (fun _=>e1) fun h=>absurd h (by omega)
   ·exact fin 2 _ (by omega) hm rfl (fun _=>e2) fun h=>absurd h (by omega)
   ·exact fin 3 _ (by omega) hm rfl (fun _=>e3) fun h=>absurd h (by omega)
  ·unfold jd at hu;obtain⟨r,hr,hu⟩:=List.mem_flatten.1 hu;obtain⟨i,hi,rfl⟩:=List.getElem_of_mem hr;rw[List.getElem_zipWith]at hu;refine Hm _ _ ?_ u hu;have hi':i<L.length:=by simp at hi;omega
   rw[hv i hi'];exact abo (Classical.choose_spec (hex ⟨i,hi'⟩)).2
theorem Zf{L:List Re}{vs:List Value}{w:World}{base:Nat}{t:TypeId}{v:Value}(hl:vs.length=L.length)(ho:w.ownsRow base t 4 v L.length (jd L vs))(hn:∀i (hi:i<L.length),NdS w (vs[i]'(by omega)) L[i].nd):ReS w v L:=by
 rcases ho.2 with⟨h1,h2⟩|⟨g,cap,cur,hv,hb,hc,h3,h4,h5,h6⟩
 ·exact Or.inl ⟨h1,List.length_eq_zero_iff.1 h2⟩
 ·refine Or.inr ⟨⟨g,0,none⟩,cap,hv,h3,fun i hi=>?_⟩;have h':=ho;rw[hv]at h';have key:∀k u,0<k->(kR L[i] (vs[i]'(by omega)))[k]?=some u->w.cell? ⟨((⟨g,0,none⟩:Addr).add (i*4)).block,((⟨g,0,none⟩:Addr).add (i*4)).off+k,none⟩=some u:=fun k u hk hu=>by
   have:=h'.cells (g:=g) rfl (i*4+k) u (xH L vs hl.symm i hi k u hu);rw[qQ _ _ k hk]at this;exact this
  have k0:=h'.cells (g:=g) rfl (i*4+0) _ (xH L vs hl.symm i hi 0 _ rfl);exact⟨by simpa using k0,key 1 _ (by omega) rfl,⟨_,key 2 _ (by omega) rfl,hn i hi⟩,key 3 _ (by omega) rfl⟩
end Go.Proofs.YtiinliaoojfjaaaGreatDoor
