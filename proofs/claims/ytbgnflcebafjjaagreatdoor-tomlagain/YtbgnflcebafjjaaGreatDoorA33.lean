import Derived.Test.YtbgnflcebafjjaaGreatDoorA32
import Derived.Test.YtbgnflcebafjjaaGreatDoorA18
import Derived.Deep.LoopGhost
import Derived.Test.YtbgnflcebafjjaaGreatDoorA31
import Derived.Lib.ItoaLen
import Derived.Test.YtbgnflcebafjjaaGreatDoorA29
namespace Go.Proofs.YtbgnflcebafjjaaGreatDoor
open Go.RowKit Go.Joins
set_option linter.unusedVariables false
theorem srt_rise (ns:List Tn) (t:Nat):(srt ns t).Pairwise fun x y=>cb (kyAt ns x) (kyAt ns y)<=0:=by
 have h1:=List.pairwise_mergeSort (le:=fun x y=>decide (cb (kyAt ns x) (kyAt ns y)<=0)) (fun x y z h1 h2=>by
  simp only [decide_eq_true_eq] at *
  exact (cb_trans _ _ _ h1 h2).1) (fun x y=>by
  have:=cb_anti (kyAt ns x) (kyAt ns y)
  simp only [Bool.or_eq_true,decide_eq_true_eq]
  omega) (ksAt ns t)
 exact h1.imp fun {a b} hh=>of_decide_eq_true hh
theorem Cps.cons {ns a:List Tn} {x:Nat} {K L:List Nat} (h:Cps ns a (x :: K) L):∃y L',L=y :: L'/\Al ns a x y/\Cps ns a K L':=by
 cases L with
 | nil=>have:=h.len;simp at this
 | cons y L' =>
  refine ⟨y,L',rfl,h.al 0 x y rfl rfl,?_,fun i u v hu hv=>h.al (i+1) u v (by simpa using hu) (by simpa using hv)⟩
  have:=h.len
  simpa using this
theorem Cps.map {ns a:List Tn} {α:Type} (F G:Nat->α):∀(K L:List Nat),Cps ns a K L->(∀x y,x ∈ K->y ∈ L->Al ns a x y->F x=G y)->K.map F=L.map G
 | [],L,h,_=>by
  have:=h.len
  have:L=[]:=List.length_eq_zero_iff.1 (by simpa using this)
  rw [this];rfl
 | x :: K,L,h,hf=>by
  obtain ⟨y,L',rfl,h1,h2⟩:=h.cons
  rw [List.map_cons,List.map_cons,hf x y (by simp) (by simp) h1,Cps.map F G K L' h2 fun u v hu hv=>hf u v (by simp [hu]) (by simp [hv])]
theorem Cps.fold {ns a:List Tn} {β:Type} (g g':β->Nat->β):∀(K L:List Nat),Cps ns a K L->(∀x y,x ∈ K->y ∈ L->Al ns a x y->∀o,g o x=g' o y)->∀o,K.foldl g o=L.foldl g' o
 | [],L,h,_,o=>by
  have:=h.len
  have:L=[]:=List.length_eq_zero_iff.1 (by simpa using this)
  rw [this];rfl
 | x :: K,L,h,hf,o=>by
  obtain ⟨y,L',rfl,h1,h2⟩:=h.cons
  rw [List.foldl_cons,List.foldl_cons,hf x y (by simp) (by simp) h1,Cps.fold g g' K L' h2 fun u v hu hv=>hf u v (by simp [hu]) (by simp [hv])]
theorem Cps.mem {ns a:List Tn} {K L:List Nat} (h:Cps ns a K L) {y:Nat} (hy:y ∈ L):∃x ∈ K,Al ns a x y:=by
 obtain ⟨i,hi⟩:=List.mem_iff_getElem?.1 hy
 have hil:i < K.length:=by rw [<-h.len];exact (List.getElem?_eq_some_iff.1 hi).1
 exact ⟨K[i],List.getElem_mem hil,h.al i _ y (List.getElem?_eq_getElem hil) hi⟩
theorem Cps.split {ns a:List Tn} {A B L:List Nat} (h:Cps ns a (A++B) L):Cps ns a A (L.take A.length)/\Cps ns a B (L.drop A.length):=by
 have hl:=h.len
 rw [List.length_append] at hl
 refine ⟨⟨by rw [List.length_take];omega,fun i x y hx hy=>?_⟩,⟨by rw [List.length_drop];omega,fun i x y hx hy=>?_⟩⟩
 ·have hi:i < A.length:=(List.getElem?_eq_some_iff.1 hx).1
  rw [List.getElem?_take,if_pos hi] at hy
  exact h.al i x y (by rw [List.getElem?_append_left hi];exact hx) hy
 ·rw [List.getElem?_drop] at hy
  exact h.al (A.length+i) x y (by rw [List.getElem?_append_right (by omega),show A.length+i - A.length=i by omega];exact hx) hy
theorem Al.kids {ns a:List Tn} {q q':Nat} (h:Al ns a q q'):Cps ns a (dord ns q) (ksAt a q')/\∀k ∈ ksAt a q',q' < k:=by
 cases h with
 | mk _ _ x y h1 h2 h3 h4 h5 h6 h7 h8 h9 =>
  have e:ksAt a q'=y.ks:=by unfold ksAt;rw [h2]
  rw [e]
  exact ⟨⟨h8,h9⟩,h7⟩
theorem tb_al {ns a:List Tn} {q q':Nat} (h:Al ns a q q'):tb a q'=tb ns q:=by
 unfold tb
 rw [h.ky.2]
theorem Al.rs {n S:Nat} {ns a:List Tn} (T':Tv n a S) {q q':Nat} (h:Al ns a q q') (h0:kdAt ns q=0) (b:Bool):Cps ns a (rs ns q b) (rs a q' b):=by
 obtain ⟨hk,-⟩:=h.kids
 have h0':kdAt a q'=0:=by rw [h.ky.2];exact h0
 have hd:dord ns q=Go.Proofs.YtbgnflcebafjjaaGreatDoor.rs ns q false++Go.Proofs.YtbgnflcebafjjaaGreatDoor.rs ns q true:=by unfold dord;rw [if_pos h0]
 rw [hd] at hk
 obtain ⟨c1,c2⟩:=hk.split
 have key:∀(b:Bool) (E D:List Nat),(ksAt a q'=E++D\/ksAt a q'=D++E)->Cps ns a (Go.Proofs.YtbgnflcebafjjaaGreatDoor.rs ns q b) E->Cps ns a (Go.Proofs.YtbgnflcebafjjaaGreatDoor.rs ns q (!b)) D->E=Go.Proofs.YtbgnflcebafjjaaGreatDoor.rs a q' b:=fun b E D he c1 c2=>by
  have f1:E.filter (fun q=>tb a q == b)=E:=List.filter_eq_self.2 fun y hy=>by
   obtain ⟨x,hx,hA⟩:=c1.mem hy
   rw [tb_al hA,(rs_mem hx).2]
   simp
  have f2:D.filter (fun q=>tb a q == b)=[]:=List.filter_eq_nil_iff.2 fun y hy=>by
   obtain ⟨x,hx,hA⟩:=c2.mem hy
   rw [tb_al hA,(rs_mem hx).2]
   cases b <;> simp
  refine rs_uni a q' b (T'.kdd q' h0') E ?_ ?_
  ·rcases he with he | he
   ·rw [he,List.filter_append,f1,f2,List.append_nil]
   ·rw [he,List.filter_append,f1,f2,List.nil_append]
  ·have hs:(Go.Proofs.YtbgnflcebafjjaaGreatDoor.rs ns q b).Pairwise fun x y=>cb (kyAt ns x) (kyAt ns y)<=0:=(srt_rise ns q).filter _
   rw [List.pairwise_iff_getElem] at hs ⊢
   intro i j hi hj hij
   have hl:=c1.len
   have e1:=(c1.al i _ _ (List.getElem?_eq_getElem (by omega)) (List.getElem?_eq_getElem hi)).ky.1
   have e2:=(c1.al j _ _ (List.getElem?_eq_getElem (by omega)) (List.getElem?_eq_getElem hj)).ky.1
   rw [e1,e2]
   exact hs i j (by omega) (by omega) hij
 cases b with
 | false=>rw [<-key false _ _ (Or.inl (List.take_append_drop _ _).symm) c1 c2];exact c1
 | true=>rw [<-key true _ _ (Or.inr (List.take_append_drop _ _).symm) c2 c1];exact c2
theorem vT_al {n S n' S':Nat} {ns a:List Tn} (T:Tv n ns S) (T':Tv n' a S') {q q':Nat} (h:Al ns a q q'):∀f f',ns.length - q<=f->a.length - q'<=f'->vT ns f q=vT a f' q':=by
 induction h with
 | mk q q' x y h1 h2 h3 h4 h5 h6 h7 h8 h9 ih =>
  intro f f' hf hf'
  have hq:=get_lt h1
  have hq':=get_lt h2
  obtain ⟨g,rfl⟩:∃g,f=g+1:=⟨f - 1,by omega⟩
  obtain ⟨g',rfl⟩:∃g,f'=g+1:=⟨f' - 1,by omega⟩
  have ex:ns[q]=x:=by rw [List.getElem?_eq_getElem hq] at h1;injection h1
  have ey:a[q']=y:=by rw [List.getElem?_eq_getElem hq'] at h2;injection h2
  rw [vT_step ns g q hq,vT_step a g' q' hq',ex,ey,h3,h5,h6]
  by_cases hk:x.kd=1
  ·rw [if_pos hk,if_pos hk]
   have hkd:kdAt ns q=1:=by unfold kdAt;rw [h1];exact hk
   have hd:dord ns q=x.ks:=by unfold dord;rw [if_neg (by omega)];unfold ksAt;rw [h1]
   rw [hd] at h8 h9 ih
   have hm:x.ks.map (vT ns g)=y.ks.map (vT a g'):=by
    apply List.ext_getElem?
    intro i
    rw [List.getElem?_map,List.getElem?_map]
    by_cases hi:i < x.ks.length
    ·have hi':i < y.ks.length:=by omega
     rw [List.getElem?_eq_getElem hi,List.getElem?_eq_getElem hi']
     simp only [Option.map_some]
     have g1:=T.gt q x.ks[i] (by unfold ksAt;rw [h1];exact List.getElem_mem hi)
     have g2:=T'.gt q' y.ks[i] (by unfold ksAt;rw [h2];exact List.getElem_mem hi')
     rw [ih i _ _ (List.getElem?_eq_getElem hi) (List.getElem?_eq_getElem hi') g g' (by omega) (by omega)]
    ·rw [List.getElem?_eq_none (by omega),List.getElem?_eq_none (by omega)]
     rfl
   rw [hm]
  ·rw [if_neg hk,if_neg hk]
theorem pr1_al {n S n' S':Nat} {ns a:List Tn} (T:Tv n ns S) (T':Tv n' a S') {q q':Nat} (h:Al ns a q q'):pr1 ns q=pr1 a q':=by
 unfold pr1
 rw [h.ky.1,h.ky.2,vT_al T T' h ns.length a.length (by omega) (by omega)]
theorem flat_map {α:Type} (F:α->List UInt8):∀l:List α,l.flatMap F=(l.map F).flatten:=fun l=>by rw [List.flatMap_def]
theorem dT_al {n S n' S':Nat} {ns a:List Tn} (T:Tv n ns S) (T':Tv n' a S'):∀(f f' q q':Nat) (P o:List UInt8),Al ns a q q'->kdAt ns q=0->ns.length - q<=f->a.length - q'<=f'->dT ns f q P o=dT a f' q' P o
 | 0,f',q,q',P,o,h,h0,hf,hf'=>by have:=kdAt_lt h0 (by decide);omega
 | f+1,f',q,q',P,o,h,h0,hf,hf'=>by
  have hq':=h.lt
  obtain ⟨g',rfl⟩:∃g,f'=g+1:=⟨f' - 1,by omega⟩
  rw [dT_gK,dT_gK,prT_rs,prT_rs,flat_map,flat_map,(h.rs T' h0 false).map (pr1 ns) (pr1 a) _ _ (fun x y _ _ hA=>pr1_al T T' hA)]
  refine (h.rs T' h0 true).fold _ _ _ _ (fun x y hx hy hA o=>?_) _
  obtain ⟨hxm,htb⟩:=rs_mem hx
  have hkd:kdAt ns x=0\/kdAt ns x=2:=of_decide_eq_true htb
  have hxg:=T.gt _ _ hxm
  have hyg:=T'.gt _ _ (rs_mem hy).1
  unfold gK
  rw [hA.ky.1]
  have hdb:dbT a y=dbT ns x:=by unfold dbT;rw [hA.ky.2]
  rw [hdb]
  unfold msT
  rw [hA.ky.2]
  rcases hkd with hk0 | hk2
  ·rw [if_neg (by omega),if_neg (by omega)]
   show gT ns f _ _ o x=gT a g' _ _ o y
   exact dT_al T T' f g' x y _ _ hA hk0 (by omega) (by omega)
  ·rw [if_pos hk2,if_pos hk2]
   obtain ⟨hck,hlt⟩:=hA.kids
   have hd:dord ns x=ksAt ns x:=by unfold dord;rw [if_neg (by omega)]
   rw [hd] at hck
   refine hck.fold _ _ _ _ (fun u v hu hv hB o=>?_) _
   have hug:=T.gt _ _ hu
   have hvg:=T'.gt _ _ hv
   exact dT_al T T' f g' u v _ _ hB (T.two _ _ hk2 hu) (by omega) (by omega)
theorem fmT_al {n S n' S':Nat} {ns a:List Tn} {own own':List Nat} (T:Tv n ns S) (T':Tv n' a S') (F:Ef ns own) (F':Ef a own') (h:Al ns a 0 0):fmT a=fmT ns:=by
 rw [<-dT_fmT F,<-dT_fmT F']
 exact (dT_al T T' ns.length a.length 0 0 [] [] h F.root.2 (by omega) (by omega)).symm
def sz (ns:List Tn):Nat->Nat->Nat
 | 0,_=>0
 | f+1,q=>1+((ksAt ns q).map (sz ns f)).sum
def cntU (ns:List Tn) (u:Nat):Nat->Nat->Nat
 | 0,_=>0
 | f+1,q=>(if q=u then 1 else 0)+((ksAt ns q).map (cntU ns u f)).sum
theorem sum_two {α:Type} (F G H:α->Nat):∀l:List α,(∀x ∈ l,H x=F x+G x)->(l.map H).sum=(l.map F).sum+(l.map G).sum
 | [],_=>rfl
 | x :: l,h=>by
  rw [List.map_cons,List.map_cons,List.map_cons,List.sum_cons,List.sum_cons,List.sum_cons,h x (by simp),sum_two F G H l fun y hy=>h y (by simp [hy])]
  omega
theorem sum_same {α:Type} (F H:α->Nat) (l:List α) (h:∀x ∈ l,H x=F x):(l.map H).sum=(l.map F).sum:=by
 rw [List.map_congr_left h]
theorem sz_add {n S:Nat} {ns:List Tn} (T:Tv n ns S) {up:Nat} {x:Tn} (hu:up < ns.length) (hx:x.ks=[]):∀(g q:Nat),q < ns.length->ns.length+1 - q<=g->sz (addN ns up x) g q=sz ns g q+cntU ns up g q/\(∀u,u < ns.length->cntU (addN ns up x) u g q=cntU ns u g q)/\cntU (addN ns up x) ns.length g q=cntU ns up g q
 | 0,q,hq,hg=>by omega
 | g+1,q,hq,hg=>by
  have ih:=fun k (hk:k ∈ ksAt ns q)=>sz_add T hu hx g k (T.lt _ _ hk) (by have:=T.gt _ _ hk;omega)
  have hkn:ksAt (addN ns up x) ns.length=[]:=by rw [ksAt_addN ns up x hu,if_pos rfl,hx]
  have s1:((ksAt ns q).map (sz (addN ns up x) g)).sum=((ksAt ns q).map (sz ns g)).sum+((ksAt ns q).map (cntU ns up g)).sum:=sum_two _ _ _ _ fun k hk=>(ih k hk).1
  have s2:∀u,u < ns.length->((ksAt ns q).map (cntU (addN ns up x) u g)).sum=((ksAt ns q).map (cntU ns u g)).sum:=fun u hu'=>sum_same _ _ _ fun k hk=>(ih k hk).2.1 u hu'
  have s3:((ksAt ns q).map (cntU (addN ns up x) ns.length g)).sum=((ksAt ns q).map (cntU ns up g)).sum:=sum_same _ _ _ fun k hk=>(ih k hk).2.2
  show 1+((ksAt (addN ns up x) q).map (sz (addN ns up x) g)).sum=(1+((ksAt ns q).map (sz ns g)).sum)+((if q=up then 1 else 0)+((ksAt ns q).map (cntU ns up g)).sum)/\(∀u,u < ns.length->(if q=u then 1 else 0)+((ksAt (addN ns up x) q).map (cntU (addN ns up x) u g)).sum=(if q=u then 1 else 0)+((ksAt ns q).map (cntU ns u g)).sum)/\(if q=ns.length then 1 else 0)+((ksAt (addN ns up x) q).map (cntU (addN ns up x) ns.length g)).sum=(if q=up then 1 else 0)+((ksAt ns q).map (cntU ns up g)).sum
  rw [ksAt_addN ns up x hu,if_neg (by omega),if_neg (by omega:¬ q=ns.length)]
  by_cases e:q=up
  ·subst e
   obtain ⟨g',rfl⟩:∃g',g=g'+1:=⟨g - 1,by omega⟩
   have z1:sz (addN ns q x) (g'+1) ns.length=1:=by
    show 1+((ksAt (addN ns q x) ns.length).map _).sum=1
    rw [hkn];rfl
   have z2:∀u,u < ns.length->cntU (addN ns q x) u (g'+1) ns.length=0:=fun u hu'=>by
    show (if ns.length=u then 1 else 0)+((ksAt (addN ns q x) ns.length).map _).sum=0
    rw [hkn,if_neg (by omega)];rfl
   have z3:cntU (addN ns q x) ns.length (g'+1) ns.length=1:=by
    show (if ns.length=ns.length then 1 else 0)+((ksAt (addN ns q x) ns.length).map _).sum=1
    rw [hkn,if_pos rfl];rfl
   simp only [if_true,List.map_append,List.map_cons,List.map_nil,List.sum_append,List.sum_cons,List.sum_nil]
   refine ⟨by rw [s1,z1];omega,fun u hu'=>by rw [s2 u hu',z2 u hu'];simp,by rw [s3,z3];omega⟩
  ·simp only [if_neg e]
   exact ⟨by rw [s1];omega,fun u hu'=>by rw [s2 u hu'],by rw [s3]⟩
theorem sz_all {n m:Nat} {ns ns':List Tn} (h:Gr n ns ns' m) (h0:ns=[⟨0,[],[],0,[],0⟩]):∀f,ns'.length<=f->sz ns' f 0=ns'.length/\∀u,u < ns'.length->cntU ns' u f 0=1:=by
 induction h with
 | refl =>
  intro f hf
  subst h0
  match f,hf with
  | f+1,_ =>
   refine ⟨rfl,fun u hu=>?_⟩
   have:u=0:=by simp at hu;exact hu
   subst this
   rfl
 | add b m up x h1 h2 h3 ih =>
  intro f hf
  rw [addN_len] at hf ⊢
  have T:=h1.tv (h0 ▸ tv_start n)
  obtain ⟨a1,a2⟩:=ih f (by omega)
  obtain ⟨z1,z2,z3⟩:=sz_add T h2 h3.ks f 0 T.root.1 (by omega)
  refine ⟨by rw [z1,a1,a2 up h2],fun u hu=>?_⟩
  by_cases e:u=b.length
  ·rw [e,z3];exact a2 up h2
  ·rw [z2 u (by omega)];exact a2 u (by omega)
theorem toml_gr (l:List UInt8) (ns:List Tn) (h:rdToml l=.ok ns):∃m,Gr l.length [⟨0,[],[],0,[],0⟩] ns m:=by
 rw [rdToml_eq] at h
 split at h
 ·cases h
 ·cases ha:rdAll l (l.length+1) ⟨0,[⟨0,[],[],0,[],0⟩],[],0⟩ with
  | error e=>rw [ha] at h;cases h
  | ok d =>
   rw [ha] at h
   cases h
   obtain ⟨m,g1,g2⟩:=all_gr l _ _ _ (li_start l) ha
   exact ⟨m,g1⟩
theorem sz_al {n S n' S':Nat} {ns a:List Tn} (T:Tv n ns S) (T':Tv n' a S') {q q':Nat} (h:Al ns a q q'):∀f f',ns.length - q<=f->a.length - q'<=f'->sz ns f q=sz a f' q':=by
 induction h with
 | mk q q' x y h1 h2 h3 h4 h5 h6 h7 h8 h9 ih =>
  intro f f' hf hf'
  have hq:=get_lt h1
  have hq':=get_lt h2
  obtain ⟨g,rfl⟩:∃g,f=g+1:=⟨f - 1,by omega⟩
  obtain ⟨g',rfl⟩:∃g,f'=g+1:=⟨f' - 1,by omega⟩
  show 1+((ksAt ns q).map (sz ns g)).sum=1+((ksAt a q').map (sz a g')).sum
  have hp:(dord ns q).Perm (ksAt ns q):=by
   by_cases h0:kdAt ns q=0
   ·exact dord_perm h0
   ·unfold dord;rw [if_neg h0]
  have hk:ksAt a q'=y.ks:=by unfold ksAt;rw [h2]
  rw [<-(hp.map (sz ns g)).sum_nat,hk]
  congr 2
  apply List.ext_getElem?
  intro i
  rw [List.getElem?_map,List.getElem?_map]
  by_cases hi:i < (dord ns q).length
  ·have hi':i < y.ks.length:=by omega
   rw [List.getElem?_eq_getElem hi,List.getElem?_eq_getElem hi']
   simp only [Option.map_some]
   have g1:=T.gt q _ (hp.subset (List.getElem_mem hi))
   have g2:=T'.gt q' y.ks[i] (by rw [hk];exact List.getElem_mem hi')
   rw [ih i _ _ (List.getElem?_eq_getElem hi) (List.getElem?_eq_getElem hi') g g' (by omega) (by omega)]
  ·rw [List.getElem?_eq_none (by omega),List.getElem?_eq_none (by omega)]
   rfl
theorem again_all (l:List UInt8) (ns:List Tn) (h:rdToml l=.ok ns) (hlen:(fmT ns).length<=100000):∃ns',rdToml (fmT ns)=.ok ns'/\Al ns ns' 0 0/\fmT ns'=fmT ns/\ns'.length=ns.length:=by
 obtain ⟨ns',h',hA⟩:=toml_again l ns h hlen
 obtain ⟨T,own,W,hn⟩:=toml_tv l ns h
 obtain ⟨T',own',W',hn'⟩:=toml_tv _ ns' h'
 obtain ⟨o1,F,-⟩:=toml_ef l ns h
 obtain ⟨o2,F',-⟩:=toml_ef _ ns' h'
 refine ⟨ns',h',hA,fmT_al T T' F F' hA,?_⟩
 obtain ⟨m1,g1⟩:=toml_gr l ns h
 obtain ⟨m2,g2⟩:=toml_gr _ ns' h'
 rw [<-(sz_all g1 rfl ns.length (Nat.le_refl _)).1,<-(sz_all g2 rfl ns'.length (Nat.le_refl _)).1]
 exact (sz_al T T' hA ns.length ns'.length (by omega) (by omega)).symm
theorem cntU_one (c:Nat):∀l:List Nat,l.Nodup->c ∈ l->l.count c=1
 | [],_,h=>by cases h
 | a :: l,hn,h=>by
  rw [List.nodup_cons] at hn
  rw [List.count_cons]
  rcases List.mem_cons.1 h with rfl | h
  ·rw [List.count_eq_zero.2 hn.1];simp
  ·have hne:¬ a=c:=fun e=>hn.1 (by rw [e];exact h)
   rw [cntU_one c l hn.2 h]
   simp [hne]
def upc (ns:List Tn) (i c:Nat):Nat:=((List.range i).flatMap (ksAt ns)).count c
theorem upc_all {n S:Nat} {ns:List Tn} {own:List Nat} (T:Tv n ns S) (W:WF ns own) (c:Nat) (hc:c < ns.length):upc ns ns.length c=if c=0 then 0 else 1:=by
 have hnd:((List.range ns.length).flatMap (ksAt ns)).Nodup:=by
  unfold List.Nodup
  rw [List.pairwise_flatMap]
  refine ⟨fun p _=>T.nod p,?_⟩
  refine List.Pairwise.imp_of_mem ?_ (List.nodup_range (n:=ns.length))
  intro p p' _ _ hpp x hx y hy hxy
  subst hxy
  exact hpp (W.par _ _ _ hx hy)
 unfold upc
 by_cases h0:c=0
 ·rw [if_pos h0,List.count_eq_zero]
  intro hm
  rw [List.mem_flatMap] at hm
  obtain ⟨p,_,hp⟩:=hm
  have:=T.gt _ _ hp
  omega
 ·rw [if_neg h0]
  obtain ⟨p,hp⟩:=T.par c (by omega) hc
  have hpl:p < ns.length:=by
   apply Classical.byContradiction
   intro hn
   rw [ksAt_out ns p (by omega)] at hp
   cases hp
  have hm:c ∈ (List.range ns.length).flatMap (ksAt ns):=by
   rw [List.mem_flatMap]
   exact ⟨p,List.mem_range.2 hpl,hp⟩
  exact cntU_one c _ hnd hm
end Go.Proofs.YtbgnflcebafjjaaGreatDoor
namespace Go.Proofs.YtbgnflcebafjjaaGreatDoor
open Go.RowKit Go.Maps Go.WideMaps Go.Joins Go.Shelf
set_option linter.unusedVariables false
theorem own_cutS {w:World} {B:Nat} {e:TypeId} {s:Nat} {o:Option Addr} {n c:Nat} {xs:List Value} (h:w.ownsRow B e s (.slice o n c) n xs) (a:Nat) (ha:a<=n):w.ownsRow B e s (.slice o a c) a (xs.take (a * s)):=by
 have hl:xs.length=n * s:=h.1
 have hle:a * s<=n * s:=Nat.mul_le_mul_right _ ha
 refine ⟨by rw [List.length_take];omega,?_⟩
 rcases h.2 with ⟨hv,hn⟩ | ⟨g,cap,cur,hv,h1,h2,h3,h4,h5,h6⟩
 ·injection hv with ho _ hc
  subst ho hc
  have:a=0:=by omega
  subst this
  exact Or.inl ⟨rfl,rfl⟩
 ·injection hv with ho _ hc
  subst ho hc
  refine Or.inr ⟨g,c,cur,rfl,h1,h2,by omega,h4,h5,?_⟩
  rw [<-h6,List.take_take]
  congr 1
  omega
theorem vCs_at (td:List Vt) (v:Vt) (i:Nat) (hi:i < 4):(vCs (td++[v]))[td.length * 4+i]?=(vC v)[i]?:=by
 rw [vCs_app,List.getElem?_append_right (by rw [vCs_len];omega),vCs_len]
 have e:vCs [v]=vC v:=by simp [vCs]
 rw [e]
 congr 1
 omega
theorem vCs_take (td:List Vt) (v:Vt):(vCs (td++[v])).take (td.length * 4)=vCs td:=by
 rw [vCs_app,List.take_append_of_le_length (by rw [vCs_len];exact Nat.le_refl _),List.take_of_length_le (by rw [vCs_len];exact Nat.le_refl _)]
set_option maxRecDepth 100000 in
set_option maxHeartbeats 6400000 in
theorem pForm {w0:World} {N c:Nat} {NV:Value} {ns:List Tn} {own:List Nat} (E:Ev w0 NV N c ns own) (F:Ef ns own) (hR:(fmT ns).length<=70368744177664) :
  Calls Tryz.prog 20 #[NV] w0 fun e w'=>e=.returned (.string ⟨(fmT ns).toArray⟩)/\w0.grownBy w' none:=by
 have hEl:=E.len
 have hfm:=fmT_eq F
 obtain ⟨R,hRe⟩:∃R,fmT ns=R:=⟨_,rfl⟩
 rw [hRe] at hfm hR ⊢
 obtain ⟨o,l0,c0,hv⟩:∃o l c,NV=.slice o l c:=⟨_,_,_,E.nv.val⟩
 subst hv
 obtain ⟨B,hB⟩:∃B,w0.heap.size=B:=⟨_,rfl⟩
 have hbp:=heap_alloc_new w0 (.cells #[.slice o l0 c0,.pointer none,.slice none 0 0,.slice none 0 0] 78)
 have hg1:w0.grownBy (w0.alloc (.cells #[.slice o l0 c0,.pointer none,.slice none 0 0,.slice none 0 0] 78)) none:=World.grownBy_alloc _ _ none
 obtain ⟨w1,hw1⟩:∃W,w0.alloc (.cells #[.slice o l0 c0,.pointer none,.slice none 0 0,.slice none 0 0] 78)=W:=⟨_,rfl⟩
 rw [hw1] at hbp hg1
 have hP1:Pn w1 w0.heap.size w0.heap.size (.slice o l0 c0) [] []:=⟨Nat.le_refl _,.pointer none,.slice none 0 0,.slice none 0 0,hbp,Or.inl rfl,World.ownsRow_nil _ _ _ _,World.ownsRow_nil _ _ _ _,fun g hg=>(by cases hg),fun _=>rfl⟩
 have hl0:=fmO_len ns _ _ _ _ _ hfm
 have CP0:Hid (Calls Tryz.prog 32 #[.pointer (some ⟨w0.heap.size,0,none⟩),.int .i64 0] w1 fun e w'=>e=.returned (.tuple #[])/\Pn w' w0.heap.size w0.heap.size (.slice o l0 c0) (prT ns 0) []/\PF w0.heap.size w1 w'):=pPairs E [] [] 0 w1 F.root.1 (F.kdd 0 F.root.2) hP1 hg1 (by simp;omega)
 have CB0:Hid (∀w,Pn w w0.heap.size w0.heap.size (.slice o l0 c0) (prT ns 0) []->w0.grownBy w none->Calls Tryz.prog 33 #[.pointer (some ⟨w0.heap.size,0,none⟩),.int .i64 0,.slice none 0 0] w fun e w'=>∃v,e=.returned v/\w'.ownsRow w0.heap.size 83 4 v (belT ns 0 0).length (vCs (belT ns 0 0))/\VF w0.heap.size w w'):=fun w h1 h2=>pBelow E (prT ns 0) [] 0 [] (.slice none 0 0) w F.root.1 (F.kdd 0 F.root.2) h1 h2 (World.ownsRow_nil _ _ _ _) (by simp)
 have CH:Hid (∀(out path:List UInt8) (v:Vt) w,Pn w B B (.slice o l0 c0) out path->v.ab<=path.length->v.ky.length<=1048576->out.length+(hdT out (pathN path v.ab v.ky) v.dbl).length<=70368744177664->Calls Tryz.prog 34 #[.pointer (some ⟨B,0,none⟩),.agg #[.int .i64 (v.t:Nat),.string ⟨v.ky.toArray⟩,.bool v.dbl,.int .i64 (v.ab:Nat)]] w fun e w'=>e=.returned (.tuple #[])/\Pn w' B B (.slice o l0 c0) (out++hdT out (pathN path v.ab v.ky) v.dbl) (pathN path v.ab v.ky)/\PF B w w'):=fun out path v w h1 h2 h3 h4=>pHeader B B (.slice o l0 c0) out path v.t v.ky v.dbl v.ab w h1 h2 h3 h4
 have CP:Hid (∀(out path:List UInt8) (t:Nat) w,t < ns.length->kdAt ns t=0->Pn w B B (.slice o l0 c0) out path->w0.grownBy w none->out.length+(prT ns t).length<=70368744177664->Calls Tryz.prog 32 #[.pointer (some ⟨B,0,none⟩),.int .i64 (t:Nat)] w fun e w'=>e=.returned (.tuple #[])/\Pn w' B B (.slice o l0 c0) (out++prT ns t) path/\PF B w w'):=fun out path t w h1 h2 h3 h4 h5=>by
  have:=pPairs E out path t w h1 (F.kdd t h2) (by rw [hB];exact h3) h4 h5
  rw [hB] at this
  exact this
 have CB:Hid (∀(out path:List UInt8) (t:Nat) (td:List Vt) (tv:Value) w,t < ns.length->kdAt ns t=0->Pn w B B (.slice o l0 c0) out path->w0.grownBy w none->w.ownsRow B 83 4 tv td.length (vCs td)->td.length<=900000->Calls Tryz.prog 33 #[.pointer (some ⟨B,0,none⟩),.int .i64 (t:Nat),tv] w fun e w'=>∃v,e=.returned v/\w'.ownsRow B 83 4 v (td++belT ns t path.length).length (vCs (td++belT ns t path.length))/\VF B w w'):=fun out path t td tv w h1 h2 h3 h4 h5 h6=>by
  have:=pBelow E out path t td tv w h1 (F.kdd t h2) (by rw [hB];exact h3) h4 (by rw [hB];exact h5) h6
  rw [hB] at this
  exact this
 have HUP:Hid (∀w w',w0.grownBy w none->Below B w w'->w0.grownBy w' none):=fun w w' h1 h2=>up_gb h1 (by rw [hB];exact h2)
 have HF:Hid (Ef ns own):=F
 have HFM:Hid (fmO ns ns.length (prT ns 0) [] (belT ns 0 0)=some R):=hfm
 have HG1:Hid (w0.grownBy w1 none):=hg1
 rw [hB] at CP0 CB0
 have HW1:Hid (w0.alloc (.cells #[.slice o l0 c0,.pointer none,.slice none 0 0,.slice none 0 0] 78)=w1):=hw1
 clear hfm hP1 hbp hg1 E F hRe hl0 hw1
 go_enter Tryz.func20,Tryz.ntmps20
 go_upto_region 2 with fail
 rw [HW1.out]
 go_wp2_with (first | (go_at_call 32;refine CP0.out.mono ?_;rintro e w2 ⟨rfl,hp2,hf2⟩) | (go_at_call 33;refine (CB0.out _ hp2 (HUP.out _ _ HG1.out hf2.bel)).mono ?_;rintro e w3 ⟨tv3,rfl,hr3,hv3⟩))
 have HP3:Hid (Pn w3 B B (.slice o l0 c0) (prT ns 0) []):=hp2.keep fun b cs t fz hb ht=>hv3.oth b cs t fz hb (by rcases ht with rfl | rfl <;> decide) (by rcases ht with rfl | rfl <;> decide)
 have HG3:Hid (w0.grownBy w3 none):=HUP.out _ _ (HUP.out _ _ HG1.out hf2.bel) hv3.bel
 have HR3:Hid (w3.ownsRow B 83 4 tv3 (belT ns 0 0).length (vCs (belT ns 0 0))):=hr3
 clear hp2 hf2 hr3 hv3
 go_loopg [4] (ns.length) (fun f v4 wr=>∃(out path:List UInt8) (V:List Nat) (td:List Vt),Pn wr B B (.slice o l0 c0) out path/\wr.ownsRow B 83 4 v4 td.length (vCs td)/\w0.grownBy wr none/\Iv ns path V td/\fmO ns f out path td=some R)
 case atStart=>exact ⟨_,_,[0],belT ns 0 0,HP3.out,HR3.out,HG3.out,Iv.start HF.out,HFM.out⟩
 case round =>
  obtain ⟨out,path,V,td,hp,hr,hg,hiv,hfm⟩:=hrel
  obtain ⟨f,rfl⟩:∃f,gk=f+1:=by
   cases gk with
   | zero=>cases hfm
   | succ f=>exact ⟨f,rfl⟩
  rcases snoc_cases td with rfl | ⟨td,v,rfl⟩
  ·obtain ⟨o4,c4,rfl⟩:=own_slice hr
   rw [fmO_nil] at hfm
   obtain rfl:out=R:=by injection hfm
   have CS:Hid (Calls Tryz.prog 35 #[.pointer (some ⟨B,1,none⟩)] wr fun e w'=>e=.returned (.string ⟨out.toArray⟩)/\Below B wr w'):=bStr B B _ out path wr hp hR
   have HG:Hid (w0.grownBy wr none):=hg
   clear hp hr hg hiv hfm
   go_wp2_with (first | (go_at_call 35;refine CS.out.mono ?_))
   rintro e w' ⟨rfl,hbl⟩
   have HB':Hid (w0.grownBy w' none):=HUP.out _ _ HG.out hbl
   clear hbl
   go_wp2
   go_ret
   exact ⟨rfl,HB'.out⟩
  ·rw [fmO_snoc] at hfm
   have hlen:=hiv.len
   rw [List.length_append,List.length_singleton] at hlen
   obtain ⟨htl,htk,hky⟩:=hiv.tab v (by simp)
   have hab:=hiv.ab v (by simp)
   have hst:=hiv.step HF.out
   have hl1:=fmO_len ns _ _ _ _ _ hfm
   rw [List.length_append,List.length_append] at hl1
   rw [List.length_append,List.length_singleton] at hr
   obtain ⟨g,cap,hv4,-,-⟩:=hr.form (by omega)
   subst hv4
   have hcells:=hr.cells (g:=g) rfl
   have e0:=hcells (td.length * 4) _ (by have:=vCs_at td v 0 (by omega);simpa [vC] using this)
   have e1:=hcells (td.length * 4+1) _ (by have:=vCs_at td v 1 (by omega);simpa [vC] using this)
   have e2:=hcells (td.length * 4+2) _ (by have:=vCs_at td v 2 (by omega);simpa [vC] using this)
   have e3:=hcells (td.length * 4+3) _ (by have:=vCs_at td v 3 (by omega);simpa [vC] using this)
   rw [zero_off] at e0 e1 e2 e3
   have hcut:=own_cutS hr td.length (by omega)
   rw [vCs_take] at hcut
   have hcapI:td.length+1<=cap:=by
    rcases hr.2 with ⟨h1,-⟩ | ⟨g',cap',cur,h1,-,-,h2,-⟩
    ·cases h1
    ·injection h1 with _ _ h3
     subst h3
     exact h2
   have HST:Hid (Iv ns (pathN path v.ab v.ky) (V++[v.t]) (td++belT ns v.t (pathN path v.ab v.ky).length)/\fmO ns f (out++hdT out (pathN path v.ab v.ky) v.dbl++prT ns v.t) (pathN path v.ab v.ky) (td++belT ns v.t (pathN path v.ab v.ky).length)=some R):=⟨hst,hfm⟩
   obtain ⟨m,hm⟩:∃m,td.length=m:=⟨_,rfl⟩
   rw [hm] at e0 e1 e2 e3 hcut hcapI hlen hr ⊢
   have hmb:m<=900000:=by omega
   have hm1:((m+1:Nat):Int) - 1=(m:Int):=by omega
   have hmI:(m:Int) < ((m+1:Nat):Int):=by omega
   have hmc:(m:Int)<=(cap:Int):=by omega
   have hm0:(0:Int)<=(m:Int):=by omega
   have hmp:(0:Int) < ((m+1:Nat):Int):=by omega
   obtain ⟨K,hK⟩:∃K:ByteArray,⟨v.ky.toArray⟩=K:=⟨_,rfl⟩
   rw [hK] at e1
   have hga:wr.grownBy (wr.alloc (.cells #[.int .i64 (v.t:Nat),.string K,.bool v.dbl,.int .i64 (v.ab:Nat)] 83)) none:=World.grownBy_alloc _ _ none
   have hbx:=heap_alloc_new wr (.cells #[.int .i64 (v.t:Nat),.string K,.bool v.dbl,.int .i64 (v.ab:Nat)] 83)
   obtain ⟨wa,hwa⟩:∃W,wr.alloc (.cells #[.int .i64 (v.t:Nat),.string K,.bool v.dbl,.int .i64 (v.ab:Nat)] 83)=W:=⟨_,rfl⟩
   obtain ⟨bx,hbxe⟩:∃b,wr.heap.size=b:=⟨_,rfl⟩
   rw [hwa] at hbx hga
   rw [hbxe] at hbx
   have HWA:Hid (wr.alloc (.cells #[.int .i64 (v.t:Nat),.string K,.bool v.dbl,.int .i64 (v.ab:Nat)] 83)=wa/\wr.heap.size=bx):=⟨hwa,hbxe⟩
   have HBX:Hid (wa.heap[bx]?=some (.cells #[.int .i64 (v.t:Nat),.string K,.bool v.dbl,.int .i64 (v.ab:Nat)] 83 (0,0))):=hbx
   have HRA:Hid (wa.ownsRow B 83 4 (.slice (some ⟨g,0,none⟩) m cap) td.length (vCs td)):=by
    show World.ownsRow _ _ _ _ _ _ _
    rw [hm]
    exact own_block hcut fun g cur _ hc=>hga.block g (blk_lt hc) (by simp)
   have HGA:Hid (w0.grownBy wa none):=gb_trans hg hga
   have CHv:Hid (Calls Tryz.prog 34 #[.pointer (some ⟨B,0,none⟩),.agg #[.int .i64 (v.t:Nat),.string K,.bool v.dbl,.int .i64 (v.ab:Nat)]] wa fun e w'=>e=.returned (.tuple #[])/\Pn w' B B (.slice o l0 c0) (out++hdT out (pathN path v.ab v.ky) v.dbl) (pathN path v.ab v.ky)/\PF B wa w'):=by
    rw [<-hK]
    exact CH.out out path v wa (hp.gb hga) hab hky (by omega)
   have CPv:Hid (∀w,Pn w B B (.slice o l0 c0) (out++hdT out (pathN path v.ab v.ky) v.dbl) (pathN path v.ab v.ky)->w0.grownBy w none->Calls Tryz.prog 32 #[.pointer (some ⟨B,0,none⟩),.int .i64 (v.t:Nat)] w fun e w'=>e=.returned (.tuple #[])/\Pn w' B B (.slice o l0 c0) (out++hdT out (pathN path v.ab v.ky) v.dbl++prT ns v.t) (pathN path v.ab v.ky)/\PF B w w'):=fun w h1 h2=>CP.out _ _ v.t w htl htk h1 h2 (by rw [List.length_append];omega)
   have CBv:Hid (∀w,Pn w B B (.slice o l0 c0) (out++hdT out (pathN path v.ab v.ky) v.dbl++prT ns v.t) (pathN path v.ab v.ky)->w0.grownBy w none->w.ownsRow B 83 4 (.slice (some ⟨g,0,none⟩) m cap) td.length (vCs td)->Calls Tryz.prog 33 #[.pointer (some ⟨B,0,none⟩),.int .i64 (v.t:Nat),.slice (some ⟨g,0,none⟩) m cap] w fun e w'=>∃u,e=.returned u/\w'.ownsRow B 83 4 u (td++belT ns v.t (pathN path v.ab v.ky).length).length (vCs (td++belT ns v.t (pathN path v.ab v.ky).length))/\VF B w w'):=fun w h1 h2 h3=>CB.out _ _ v.t td _ w htl htk h1 h2 h3 (by omega)
   have b0:wa.cell? ⟨bx,0,none⟩=some (.int .i64 (v.t:Nat)):=by rw [Lib.cell_of_heap hbx];rfl
   have b1:wa.cell? ⟨bx,1,none⟩=some (.string K):=by rw [Lib.cell_of_heap hbx];rfl
   have b2:wa.cell? ⟨bx,2,none⟩=some (.bool v.dbl):=by rw [Lib.cell_of_heap hbx];rfl
   have b3:wa.cell? ⟨bx,3,none⟩=some (.int .i64 (v.ab:Nat)):=by rw [Lib.cell_of_heap hbx];rfl
   obtain ⟨vt,hvt⟩:∃x,v.t=x:=⟨_,rfl⟩
   obtain ⟨va,hva⟩:∃x,v.ab=x:=⟨_,rfl⟩
   obtain ⟨vd,hvd⟩:∃x,v.dbl=x:=⟨_,rfl⟩
   obtain ⟨P',hP'⟩:∃x,pathN path v.ab v.ky=x:=⟨_,rfl⟩
   rw [hP'] at HST CHv CPv CBv
   rw [hvt] at HST CHv CPv CBv e0 b0 HWA HBX
   rw [hvd] at HST CHv CPv CBv e2 b2 HWA HBX
   rw [hva] at CHv e3 b3 HWA HBX
   obtain ⟨O1,hO1⟩:∃x,out++hdT out P' vd=x:=⟨_,rfl⟩
   rw [hO1] at HST CHv CPv CBv
   clear hr hcells hcut hst hfm hiv hK hga hbx hwa hbxe hp hg hvt hva hvd hP' hO1 hl1 htl htk hky hab hm
   go_upto_region 8 with fail
   try rw [HWA.out.1]
   try rw [HWA.out.2]
   clear e0 e1 e2 e3
   go_wp2_with (first | (go_at_call 34;refine CHv.out.mono ?_))
   rintro e wb ⟨rfl,hpb,hfb⟩
   have hbb:=(hfb.oth _ _ _ _ HBX.out (by decide) (by decide)).trans HBX.out
   have HBB:Hid (wb.heap[bx]?=some (.cells #[.int .i64 (vt:Nat),.string K,.bool vd,.int .i64 (va:Nat)] 83 (0,0))):=hbb
   have f0:wb.cell? ⟨bx,0,none⟩=some (.int .i64 (vt:Nat)):=by rw [Lib.cell_of_heap hbb];rfl
   have HPB:Hid (Pn wb B B (.slice o l0 c0) O1 P'):=hpb
   have HGB:Hid (w0.grownBy wb none):=HUP.out _ _ HGA.out hfb.bel
   have HRB:Hid (wb.ownsRow B 83 4 (.slice (some ⟨g,0,none⟩) m cap) td.length (vCs td)):=own_block HRA.out fun g cur _ hc=>hfb.oth _ _ _ _ hc (by decide) (by decide)
   clear hpb hfb hbb b0 b1 b2 b3
   go_wp2_with (first | (go_at_call 32;refine (CPv.out _ HPB.out HGB.out).mono ?_))
   rintro e wd ⟨rfl,hpd,hfd⟩
   have hbd:=(hfd.oth _ _ _ _ HBB.out (by decide) (by decide)).trans HBB.out
   have g0:wd.cell? ⟨bx,0,none⟩=some (.int .i64 (vt:Nat)):=by rw [Lib.cell_of_heap hbd];rfl
   have HPD:Hid (Pn wd B B (.slice o l0 c0) (O1++prT ns vt) P'):=hpd
   have HGD:Hid (w0.grownBy wd none):=HUP.out _ _ HGB.out hfd.bel
   have HRD:Hid (wd.ownsRow B 83 4 (.slice (some ⟨g,0,none⟩) m cap) td.length (vCs td)):=own_block HRB.out fun g cur _ hc=>hfd.oth _ _ _ _ hc (by decide) (by decide)
   clear hpd hfd hbd f0
   go_wp2_with (first | (go_at_call 33;refine (CBv.out _ HPD.out HGD.out HRD.out).mono ?_))
   rintro e we ⟨u,rfl,hre,hve⟩
   have HPE:Hid (Pn we B B (.slice o l0 c0) (O1++prT ns vt) P'):=HPD.out.keep fun b cs t fz hb ht=>hve.oth b cs t fz hb (by rcases ht with rfl | rfl <;> decide) (by rcases ht with rfl | rfl <;> decide)
   have HGE:Hid (w0.grownBy we none):=HUP.out _ _ HGD.out hve.bel
   have HRE:Hid (we.ownsRow B 83 4 u (td++belT ns vt P'.length).length (vCs (td++belT ns vt P'.length))):=hre
   clear hre hve g0
   go_wp2
   go_roundg f
   case measure=>omega
   case rel=>exact ⟨_,_,_,_,HPE.out,HRE.out,HGE.out,HST.out.1,HST.out.2⟩
end Go.Proofs.YtbgnflcebafjjaaGreatDoor
namespace Go.Proofs.YtbgnflcebafjjaaGreatDoor
open Go.RowKit Go.Joins
set_option linter.unusedVariables false
def sub (ns:List Tn):Nat->Nat->List Nat
 | 0,_=>[]
 | f+1,q=>q :: (ksAt ns q).flatMap (sub ns f)
theorem sub_ge {ns:List Tn} {own:List Nat} (E:Ef ns own):∀(f q x:Nat),x ∈ sub ns f q->q<=x/\(q < ns.length->x < ns.length)
 | 0,q,x,h=>by cases h
 | f+1,q,x,h=>by
  rw [sub,List.mem_cons,List.mem_flatMap] at h
  rcases h with rfl | ⟨k,hk,hx⟩
  ·exact ⟨Nat.le_refl _,id⟩
  ·have h1:=sub_ge E f k x hx
   have h2:=E.gt _ _ hk
   exact ⟨by omega,fun _=>h1.2 (E.wf.lt _ _ hk)⟩
theorem sub_par {ns:List Tn}:∀(f q x:Nat),x ∈ sub ns f q->x=q\/∃y ∈ sub ns f q,x ∈ ksAt ns y
 | 0,q,x,h=>by cases h
 | f+1,q,x,h=>by
  rw [sub,List.mem_cons,List.mem_flatMap] at h
  rcases h with rfl | ⟨k,hk,hx⟩
  ·exact Or.inl rfl
  ·right
   rcases sub_par f k x hx with rfl | ⟨y,hy,hxy⟩
   ·exact ⟨q,by rw [sub];simp,hk⟩
   ·exact ⟨y,by rw [sub,List.mem_cons,List.mem_flatMap];exact Or.inr ⟨k,hk,hy⟩,hxy⟩
theorem sub_apart {ns:List Tn} {own:List Nat} (E:Ef ns own) {p k k':Nat} (hk:k ∈ ksAt ns p) (hk':k' ∈ ksAt ns p) (hne:k ≠ k') (f:Nat):∀n x,x<=n->x ∈ sub ns f k->x ∈ sub ns f k'->False:=by
 have low:∀k,k ∈ ksAt ns p->¬ p ∈ sub ns f k:=fun k hk h=>by
  have:=(sub_ge E f k p h).1
  have:=E.gt _ _ hk
  omega
 intro n
 induction n with
 | zero =>
  intro x hx h _
  have h1:=(sub_ge E f k x h).1
  have h2:=E.gt _ _ hk
  omega
 | succ n ih =>
  intro x hx h h'
  rcases sub_par f k x h with e | ⟨y,hy,hxy⟩ <;> rcases sub_par f k' x h' with e' | ⟨y',hy',hxy'⟩
  ·exact hne (e.symm.trans e')
  ·rw [e] at hxy'
   have:=E.wf.par _ _ _ hk hxy'
   subst this
   exact low k' hk' hy'
  ·rw [e'] at hxy
   have:=E.wf.par _ _ _ hk' hxy
   subst this
   exact low k hk hy
  ·have:=E.wf.par _ _ _ hxy hxy'
   subst this
   have:=E.gt _ _ hxy
   exact ih y (by omega) hy hy'
theorem sub_nodup {ns:List Tn} {own:List Nat} (E:Ef ns own):∀(f q:Nat),(sub ns f q).Nodup
 | 0,q=>List.nodup_nil
 | f+1,q=>by
  rw [sub,List.nodup_cons]
  refine ⟨fun h=>?_,?_⟩
  ·rw [List.mem_flatMap] at h
   obtain ⟨k,hk,hx⟩:=h
   have:=(sub_ge E f k q hx).1
   have:=E.gt _ _ hk
   omega
  ·unfold List.Nodup
   rw [List.pairwise_flatMap]
   refine ⟨fun k _=>sub_nodup E f k,?_⟩
   refine List.Pairwise.imp_of_mem ?_ (E.nod q)
   intro a b ha hb hab x hx y hy hxy
   subst hxy
   exact sub_apart E ha hb hab f x x (Nat.le_refl _) hx hy
def cnt (ns:List Tn) (f q:Nat):Nat:=(sub ns f q).length
theorem cnt_step (ns:List Tn) (f q:Nat):cnt ns (f+1) q=1+((ksAt ns q).map (cnt ns f)).sum:=by
 unfold cnt
 rw [sub,List.length_cons,List.length_flatMap]
 omega
theorem cnt_le {ns:List Tn} {own:List Nat} (E:Ef ns own) (f q:Nat) (hq:q < ns.length):cnt ns f q<=ns.length :=
 nodup_le _ _ (sub_nodup E f q) fun x hx=>(sub_ge E f q x hx).2 hq
theorem cnt_fuel {ns:List Tn} {own:List Nat} (E:Ef ns own):∀(f f' t:Nat),t < ns.length->ns.length - t<=f->ns.length - t<=f'->cnt ns f t=cnt ns f' t:=by
 intro f
 induction f with
 | zero=>intro f' t ht h;omega
 | succ f ih =>
  intro f' t ht h h'
  obtain ⟨f',rfl⟩:∃g,f'=g+1:=⟨f' - 1,by omega⟩
  rw [cnt_step,cnt_step]
  congr 2
  refine List.map_congr_left fun q hq=>?_
  have h1:=E.gt _ _ hq
  have h2:=E.wf.lt _ _ hq
  exact ih f' q h2 (by omega) (by omega)
def mw (ns:List Tn) (q:Nat):Nat:=2000000 * cnt ns ns.length q
theorem mw_eq {ns:List Tn} {own:List Nat} (E:Ef ns own) (q:Nat) (hq:q < ns.length):mw ns q=2000000+((ksAt ns q).map (mw ns)).sum:=by
 unfold mw
 obtain ⟨f,hf⟩:∃f,ns.length=f+1:=⟨ns.length - 1,by omega⟩
 have e:cnt ns ns.length q=1+((ksAt ns q).map (cnt ns ns.length)).sum:=by
  conv=>lhs;rw [hf,cnt_step]
  congr 2
  refine List.map_congr_left fun k hk=>?_
  have h1:=E.gt _ _ hk
  have h2:=E.wf.lt _ _ hk
  exact cnt_fuel E _ _ k h2 (by omega) (by omega)
 rw [e,Nat.mul_add,Nat.mul_one]
 congr 1
 have:∀l:List Nat,2000000 * (l.map (cnt ns ns.length)).sum=(l.map fun q=>2000000 * cnt ns ns.length q).sum:=fun l=>by
  induction l with
  | nil=>rfl
  | cons a r ih=>simp only [List.map_cons,List.sum_cons,Nat.mul_add,ih]
 exact this _
theorem cm_len:∀(b:Bool) (l:List (List UInt8)),(cm b l).length<=(l.map fun x=>x.length+2).sum
 | b,[]=>by simp [cm]
 | b,a :: r=>by
  rw [cm,List.length_append,List.length_append,List.map_cons,List.sum_cons]
  have:=cm_len false r
  have h2:(if b=true then ([]:List UInt8) else [44,32]).length<=2:=by split <;> simp
  omega
theorem sum_le {α:Type} (f g:α->Nat):∀l:List α,(∀x ∈ l,f x<=g x)->(l.map f).sum<=(l.map g).sum
 | [],_=>Nat.le_refl _
 | a :: r,h=>by
  rw [List.map_cons,List.map_cons,List.sum_cons,List.sum_cons]
  have:=sum_le f g r fun x hx=>h x (by simp [hx])
  have:=h a (by simp)
  omega
theorem vT_len {ns:List Tn} {own:List Nat} (E:Ef ns own) (T:Tv 100000 ns 100000):∀(f q:Nat),q < ns.length->ns.length - q<=f->(vT ns f q).length+1000000<=mw ns q:=by
 intro f
 induction f with
 | zero=>intro q hq h;omega
 | succ f ih =>
  intro q hq h
  have hx:=T.txt ns[q] (List.getElem_mem hq)
  rw [vT_step ns f q hq,mw_eq E q hq,ksAt_in hq]
  split
  ·have h1:=cm_len true (ns[q].ks.map (vT ns f))
   rw [List.map_map] at h1
   have h2:=sum_le (fun k=>(vT ns f k).length+2) (mw ns) ns[q].ks (fun k hk=>by
    have hk':k ∈ ksAt ns q:=by rw [ksAt_in hq];exact hk
    have g1:=E.gt _ _ hk'
    have:=ih k (E.wf.lt _ _ hk') (by omega)
    omega)
   have e:((fun x:List UInt8=>x.length+2) ∘ vT ns f)=fun k=>(vT ns f k).length+2:=rfl
   rw [e] at h1
   simp only [List.length_append,List.length_cons,List.length_nil]
   omega
  ·split
   ·have:=(qt_len ns[q].tx).2
    omega
   ·split
    ·have:=Lib.itoa_length_le ns[q].nu (by omega) (by omega)
     omega
    ·split
     ·have:(Lib.formatBool (decide (ns[q].nu=1))).length<=5:=by cases decide (ns[q].nu=1) <;> decide
      omega
     ·simp
      omega
def ps (ns:List Tn) (q:Nat):Nat:=((ns.take q).map fun x=>6 * x.ky.length+3).sum
theorem ps_succ (ns:List Tn) (q:Nat) (hq:q < ns.length):ps ns (q+1)=ps ns q+(6 * ns[q].ky.length+3):=by
 unfold ps
 rw [List.take_succ_eq_append_getElem hq,List.map_append,List.sum_append]
 simp
theorem ps_mono (ns:List Tn) {p q:Nat} (h:p<=q):ps ns p<=ps ns q:=by
 obtain ⟨d,rfl⟩:∃d,q=p+d:=⟨q - p,by omega⟩
 induction d with
 | zero=>exact Nat.le_refl _
 | succ d ih =>
  by_cases hl:p+d < ns.length
  ·have:=ps_succ ns (p+d) hl
   have:=ih (by omega)
   show _<=ps ns (p+d+1)
   omega
  ·have e:ps ns (p+(d+1))=ps ns (p+d):=by
    unfold ps
    rw [List.take_of_length_le (by omega),List.take_of_length_le (by omega)]
   rw [e]
   exact ih (by omega)
theorem ps_max {ns:List Tn} (T:Tv 100000 ns 100000) (hn:ns.length<=200001) (q:Nat):ps ns q<=1200003:=by
 have h1:ps ns q<=ps ns (q+ns.length):=ps_mono ns (by omega)
 have e:ps ns (q+ns.length)=(ns.map fun x=>6 * x.ky.length+3).sum:=by
  unfold ps
  rw [List.take_of_length_le (by omega)]
 have h2:∀l:List Tn,(l.map fun x=>6 * x.ky.length+3).sum=6 * (l.map fun x=>x.ky.length).sum+3 * l.length:=fun l=>by
  induction l with
  | nil=>rfl
  | cons a r ih=>simp only [List.map_cons,List.sum_cons,List.length_cons,ih];omega
 have:=T.sum
 rw [e,h2] at h1
 omega
def Pw (ns:List Tn) (td:List Vt):Prop:=∀v ∈ td,v.t < ns.length/\∃k,k<=v.t/\v.ky=kyAt ns k/\v.ab<=ps ns k
theorem flat_sum {α β:Type} (f:α->List β) (g:β->Nat):∀l:List α,((l.flatMap f).map g).sum=(l.map fun a=>((f a).map g).sum).sum
 | []=>rfl
 | a :: r=>by rw [List.flatMap_cons,List.map_append,List.sum_append,List.map_cons,List.sum_cons,flat_sum f g r]
theorem tab_len {ns:List Tn} {own:List Nat} (E:Ef ns own) (T:Tv 100000 ns 100000) (t pl:Nat) (ht:t < ns.length):(prT ns t).length+((belT ns t pl).map fun v=>mw ns v.t).sum+2000000<=mw ns t:=by
 rw [mw_eq E t ht]
 have e1:(prT ns t).length=((srt ns t).map fun k=>(pr1 ns k).length).sum:=by
  unfold prT
  rw [List.length_flatMap]
 have e2:((belT ns t pl).map fun v=>mw ns v.t).sum=((srt ns t).map fun k=>((vs1 ns pl k).map fun v=>mw ns v.t).sum).sum:=by
  unfold belT
  rw [flat_sum,List.map_reverse,List.sum_reverse]
 have e3:((ksAt ns t).map (mw ns)).sum=((srt ns t).map (mw ns)).sum:=((srt_perm ns t).map _).sum_nat.symm
 have add:∀l:List Nat,(l.map fun k=>(pr1 ns k).length).sum+(l.map fun k=>((vs1 ns pl k).map fun v=>mw ns v.t).sum).sum=(l.map fun k=>(pr1 ns k).length+((vs1 ns pl k).map fun v=>mw ns v.t).sum).sum:=fun l=>by
  induction l with
  | nil=>rfl
  | cons a r ih=>simp only [List.map_cons,List.sum_cons];omega
 rw [e1,e2,add,e3]
 have:=sum_le (fun k=>(pr1 ns k).length+((vs1 ns pl k).map fun v=>mw ns v.t).sum) (mw ns) (srt ns t) (fun k hk=>by
  have hkt:=srt_mem hk
  have hkl:=E.wf.lt _ _ hkt
  unfold pr1 vs1
  by_cases h0:kdAt ns k=0
  ·rw [if_pos (Or.inl h0),if_pos h0]
   simp
  ·by_cases h2:kdAt ns k=2
   ·rw [if_pos (Or.inr h2),if_neg h0,if_pos h2,List.map_map,mw_eq E k hkl]
    have e:((fun v:Vt=>mw ns v.t) ∘ fun m=>(⟨m,kyAt ns k,true,pl⟩:Vt))=mw ns:=rfl
    rw [e,List.map_reverse,List.sum_reverse]
    simp
   ·rw [if_neg (by rintro (h | h);exact h0 h;exact h2 h),if_neg h0,if_neg h2]
    have h3:=vT_len E T ns.length k hkl (by omega)
    have h4:=(kt_len (kyAt ns k)).2
    rw [kyAt_in hkl] at h4 ⊢
    have h5:=(T.txt ns[k] (List.getElem_mem hkl)).1
    simp only [List.length_append,List.length_cons,List.length_nil,List.map_nil,List.sum_nil]
    omega)
 omega
theorem hdT_len (out path:List UInt8) (dbl:Bool):(hdT out path dbl).length<=path.length+6:=by
 unfold hdT
 have h1:(if out=[] then ([]:List UInt8) else [10]).length<=1:=by split <;> simp
 have h2:(if dbl=true then ([91,91]:List UInt8) else [91]).length<=2:=by split <;> simp
 have h3:(if dbl=true then ([93,93,10]:List UInt8) else [93,10]).length<=3:=by split <;> simp
 simp only [List.length_append]
 omega
theorem fmO_max {ns:List Tn} {own:List Nat} (E:Ef ns own) (T:Tv 100000 ns 100000) (hn:ns.length<=200001):∀(f:Nat) (out path:List UInt8) (td:List Vt) (R:List UInt8),Pw ns td->fmO ns f out path td=some R->R.length<=out.length+(td.map fun v=>mw ns v.t).sum
 | 0,_,_,_,_,_,h=>by cases h
 | f+1,out,path,td,R,hw,h=>by
  rcases snoc_cases td with rfl | ⟨r,x,rfl⟩
  ·rw [fmO_nil] at h;cases h;simp
  ·rw [fmO_snoc] at h
   obtain ⟨hxl,k,hk1,hk2,hk3⟩:=hw x (by simp)
   have hkl:k < ns.length:=by omega
   have hp:(pathN path x.ab x.ky).length<=ps ns (k+1):=by
    unfold pathN
    rw [List.length_append,List.length_append,List.length_take,ps_succ ns k hkl]
    have h1:(if 0 < x.ab then ([46]:List UInt8) else []).length<=1:=by split <;> simp
    have h2:=(kt_len x.ky).2
    rw [hk2,kyAt_in hkl] at h2 ⊢
    omega
   have hpm:=ps_max T hn (k+1)
   have hb:=tab_len E T x.t (pathN path x.ab x.ky).length hxl
   have hh:=hdT_len out (pathN path x.ab x.ky) x.dbl
   have ih:=fmO_max E T hn f _ _ _ _ (fun v hv=>by
    rw [List.mem_append] at hv
    rcases hv with hv | hv
    ·exact hw v (by simp [hv])
    ·obtain ⟨h1,k',h2,h3,h4⟩:=belT_mem hv
     have h5:=bk_tab E (belT_bk hv)
     have g1:=E.gt _ _ h2
     refine ⟨h5.2.1,k',?_,h3,?_⟩
     ·rcases h4 with ⟨-,e⟩ | ⟨-,e⟩
      ·omega
      ·have:=E.gt _ _ e
       omega
     ·rw [h1]
      have:=ps_mono ns (p:=k+1) (q:=k') (by omega)
      omega) h
   rw [List.map_append,List.sum_append] at ih ⊢
   simp only [List.length_append,List.map_cons,List.map_nil,List.sum_cons,List.sum_nil] at ih ⊢
   omega
theorem fmT_max {ns:List Tn} {own:List Nat} (E:Ef ns own) (T:Tv 100000 ns 100000) (hn:ns.length<=200001):(fmT ns).length<=70368744177664:=by
 have h:=fmO_max E T hn _ _ _ _ _ (fun v hv=>by
  obtain ⟨h1,k',h2,h3,h4⟩:=belT_mem hv
  have h5:=bk_tab E (belT_bk hv)
  refine ⟨h5.2.1,k',?_,h3,by rw [h1];exact Nat.zero_le _⟩
  rcases h4 with ⟨-,e⟩ | ⟨-,e⟩
  ·omega
  ·have:=E.gt _ _ e
   omega) (fmT_eq E)
 have hb:=tab_len E T 0 0 E.root.1
 have hc:=cnt_le E ns.length 0 E.root.1
 unfold mw at hb
 have hm:2000000 * cnt ns ns.length 0<=2000000 * 200001:=Nat.mul_le_mul_left _ (by omega)
 have e:∀v:Vt,mw ns v.t=2000000 * cnt ns ns.length v.t:=fun _=>rfl
 simp only [e] at h
 omega
end Go.Proofs.YtbgnflcebafjjaaGreatDoor
namespace Go.Proofs.YtbgnflcebafjjaaGreatDoor
open Go.RowKit Go.Maps Go.WideMaps Go.Joins Go.Shelf
set_option linter.unusedVariables false
theorem nv_of {w:World} {B T:Nat} {ns:List Tn} {now N c M:Nat} {xs:List Value} {ks:Nat->Value} {n:Nat} {f:Nat->List UInt8->Option (Nat × Bool)} (h:TrD w B T ns now N c M xs ks n f):Nv w (.slice (some ⟨N,0,none⟩) ns.length c) N c ns:=by
 refine ⟨rfl,fun i hi=>?_⟩
 obtain ⟨h0,h1,h2,h3,h4,h5,-⟩:=h.node i hi
 exact ⟨ks i,h0,h1,h2,h3,h4,h5,NuS.of (h.kid i hi)⟩
def PnPost (r:Rs (List Tn)) (w:World) (e:Ending) (w':World):Prop :=
 (∀ns,r=.ok ns->e=.returned (.tuple #[.string ⟨(fmT ns).toArray⟩,.int .i64 0,.int .i64 0])) ∧
 (∀c p,r=.error (c,p)->e=.returned (.tuple #[.string ⟨#[]⟩,.int .i64 c,.int .i64 (p:Nat)]))/\w.grownBy w' none
set_option maxRecDepth 100000 in
set_option maxHeartbeats 3200000 in
theorem tPrint_any (s:ByteArray) (E:Int->TypeId × Value) (b:Int->Addr) (w:World) (G:Gl w w.heap.size E) (S:Sn w E b) (TB:Tab w) (hmx:s.size < 2 ^ 62) :
  Calls Tryz.prog 11 #[.string s] w (PnPost (rdToml s.data.toList) w):=by
 have CR:Hid (Calls Tryz.prog 15 #[.string s] w (RdPost s E (rdToml s.data.toList) w)):=tRead_any s E w G S.lo hmx
 have HER:Hid (∀c p,rdToml s.data.toList=.error (c,p)->(c=1/\p=0)\/(2<=c/\c<=5)):=er_toml _
 have CTL:Hid (∀w',w.grownBy w' none->Calls Tryz.prog 16 #[.iface (E 1).1 (E 1).2] w' fun e w''=>e=.returned (.tuple #[.int .i64 1,.int .i64 0])/\w'.grownBy w'' none):=fun w' hg=>tTold_long E b w' (S.grow hg)
 have CTF:Hid (∀w' F (c:Int) p,w.grownBy w' none->1<=c->c<=5->w'.heap[F]?=some (.cells #[.int .i64 (p:Nat),.iface (E c).1 (E c).2] 69 (0,0))->Calls Tryz.prog 16 #[.iface 65 (.pointer (some ⟨F,0,none⟩))] w' fun e w''=>e=.returned (.tuple #[.int .i64 c,.int .i64 (p:Nat)])/\w'.grownBy w'' none):=fun w' F c p hg h1 h2 hF=>by
  have G1:Gl w' w.heap.size E:=G.bel (gb_below hg)
  have hsz:=hg.size
  exact tTold_fault E b w' F c p ⟨G1.es,⟨Nat.lt_of_lt_of_le G1.lo.te hsz,Nat.lt_of_lt_of_le G1.lo.ra hsz,Nat.lt_of_lt_of_le G1.lo.ma hsz,Nat.lt_of_lt_of_le G1.lo.tw hsz⟩,G1.tabs,Nat.lt_of_lt_of_le G1.t3 hsz,Nat.lt_of_lt_of_le G1.t4 hsz⟩ (S.grow hg) h1 h2 hF
 have HE1:Hid (E 1=(235,.pointer (some (b 1)))):=S.ptr 1 (by decide) (by decide)
 have HFO:Hid (∀ns,rdToml s.data.toList=.ok ns->∀w' N c,w.grownBy w' none->Nv w' (.slice (some ⟨N,0,none⟩) ns.length c) N c ns->Calls Tryz.prog 20 #[.slice (some ⟨N,0,none⟩) ns.length c] w' fun e w''=>e=.returned (.string ⟨(fmT ns).toArray⟩)/\w'.grownBy w'' none):=fun ns h w' N c hg hnv=>by
  obtain ⟨T,own,W,hn⟩:=toml_tv _ ns h
  have F:Ef ns own:=⟨W,T.gt,T.nod,T.kdd,T.two,T.root,fun i hi=>by have:=(T.txt ns[i] (List.getElem_mem hi)).1;omega⟩
  refine pForm ⟨hnv,W,T.gt,by omega,fun i hi=>?_,fun i hi=>?_,tab_grow TB hg⟩ F (fmT_max F T hn)
  ·have:=T.txt ns[i] (List.getElem_mem hi)
   omega
  ·have:=T.txt ns[i] (List.getElem_mem hi)
   omega
 obtain ⟨X,hX⟩:∃X,rdToml s.data.toList=X:=⟨_,rfl⟩
 rw [hX] at CR HER HFO ⊢
 clear G S hX TB
 go_enter Tryz.func11,Tryz.ntmps11
 go_wp2_with (first | (go_at_call 15;refine CR.out.mono ?_))
 rintro e w2 ⟨h1,h2,hg2⟩
 have HG2:Hid (w.grownBy w2 none):=hg2
 clear hg2
 match X,h1,h2,HER,HFO with
 | .ok ns,h1,_,_,HFO =>
  obtain ⟨N,c,M,T,xs,ks,now,n,f,rfl,hD⟩:=h1 ns rfl
  have HD:Hid (TrD w2 w.heap.size T ns now N c M xs ks n f):=hD
  have CF:Hid (Calls Tryz.prog 20 #[.slice (some ⟨N,0,none⟩) ns.length c] w2 fun e w'=>e=.returned (.string ⟨(fmT ns).toArray⟩)/\w2.grownBy w' none):=HFO.out ns rfl w2 N c HG2.out (nv_of hD)
  clear h1 h2 hD HD
  go_wp2_with (first | (go_at_call 20;refine CF.out.mono ?_;rintro e w3 ⟨rfl,hg3⟩))
  refine bodyPost_ret (results_tmp3 (t:=2) (u:=3) (v:=4) rfl _ _ _) rfl ?_
  exact ⟨fun ns' hh=>(by injection hh with hh;subst hh;rfl),fun c p hh=>(by cases hh),gb_trans HG2.out hg3⟩
 | .error (c,p),_,h2,HER,_ =>
  obtain ⟨v,rfl,hor⟩:=h2 c p rfl
  have hrg:=HER.out c p rfl
  rcases hor with ⟨hc1,hv⟩ | ⟨F,hv,hF⟩
  ·obtain ⟨-,hp0⟩:c=1/\p=0:=by rcases hrg with h | h;exact h;omega
   subst hc1 hp0
   have CT:Hid (Calls Tryz.prog 16 #[.iface 235 (.pointer (some (b 1)))] w2 fun e w''=>e=.returned (.tuple #[.int .i64 1,.int .i64 0])/\w2.grownBy w'' none):=by
    have:=CTL.out w2 HG2.out
    rw [HE1.out] at this
    exact this
   rw [HE1.out] at hv
   obtain rfl:=hv
   clear h1 h2 hrg CTF CTL
   go_wp2_with (first | (go_at_call 16;refine CT.out.mono ?_;rintro e w3 ⟨rfl,hg3⟩))
   refine bodyPost_ret (results_tmp3 (t:=2) (u:=3) (v:=4) rfl _ _ _) rfl ?_
   exact ⟨fun ns' hh=>(by cases hh),fun c p hh=>(by cases hh;rfl),gb_trans HG2.out hg3⟩
  ·have CT:Hid (Calls Tryz.prog 16 #[.iface 65 (.pointer (some ⟨F,0,none⟩))] w2 fun e w''=>e=.returned (.tuple #[.int .i64 c,.int .i64 (p:Nat)])/\w2.grownBy w'' none):=CTF.out w2 F c p HG2.out (by omega) (by omega) hF
   obtain rfl:=hv
   clear h1 h2 hrg CTF CTL hF
   go_wp2_with (first | (go_at_call 16;refine CT.out.mono ?_;rintro e w3 ⟨rfl,hg3⟩))
   refine bodyPost_ret (results_tmp3 (t:=2) (u:=3) (v:=4) rfl _ _ _) rfl ?_
   exact ⟨fun ns' hh=>(by cases hh),fun c' p' hh=>(by injection hh with hh;injection hh with e1 e2;subst e1 e2;rfl),gb_trans HG2.out hg3⟩
def ft:Rs (List Tn)->List UInt8
 | .ok ns=>fmT ns
 | .error _=>[]
def fe:Rs (List Tn)->Int
 | .ok _=>0
 | .error (c,_)=>c
def fp:Rs (List Tn)->Nat
 | .ok _=>0
 | .error (_,p)=>p
theorem pn_val {X:Rs (List Tn)} {w w':World} {e:Ending} (h:PnPost X w e w'):e=.returned (.tuple #[.string ⟨(ft X).toArray⟩,.int .i64 (fe X),.int .i64 (fp X:Nat)])/\w.grownBy w' none:=by
 obtain ⟨h1,h2,h3⟩:=h
 match X,h1,h2 with
 | .ok ns,h1,_=>exact ⟨h1 ns rfl,h3⟩
 | .error (c,p),_,h2=>exact ⟨h2 c p rfl,h3⟩
end Go.Proofs.YtbgnflcebafjjaaGreatDoor
