import Derived.Test.YtbgnflcebafjjaaGreatDoorA18
import Derived.Test.YtbgnflcebafjjaaGreatDoorA20
import Derived.Test.YtbgnflcebafjjaaGreatDoorA12
import Derived.Deep.AppendLies
namespace Go.Proofs.YtbgnflcebafjjaaGreatDoor
open Go.RowKit Go.Joins
set_option linter.unusedVariables false
inductive Ld (ns:List Tn):Nat->Nat->Prop
 | top (p:Nat):kdAt ns p=0->Ld ns p 0
 | kid (p q d:Nat):kdAt ns q=1->q ∈ ksAt ns p->Ld ns p d->Ld ns q (d+1)
structure Shp (pk:Int) (x:Tn):Prop where
 par:(pk=0/\Us x.ky/\0<=x.kd/\x.kd<=5)\/(pk=1/\x.ky=[]/\(x.kd=1\/x.kd=3\/x.kd=4\/x.kd=5))\/(pk=2/\x.ky=[]/\x.kd=0)
 txt:if x.kd=3 then Us x.tx else x.tx=[]
 num:if x.kd=4 then -1000000000000000000 < x.nu/\x.nu < 1000000000000000000 else if x.kd=5 then x.nu=0\/x.nu=1 else x.nu=0
theorem shp_tab {pk:Int} {k:List UInt8} {p:Nat} {z:Int} (h:(pk=0/\Us k/\(z=0\/z=2))\/(pk=2/\k=[]/\z=0)):Shp pk ⟨z,k,[],0,[],p⟩:=by
 have hz:z=0\/z=2:=by rcases h with ⟨-,-,h⟩ | ⟨-,-,h⟩;exact h;exact Or.inl h
 refine ⟨?_,?_,?_⟩
 ·rcases h with ⟨h1,h2,h3⟩ | ⟨h1,h2,h3⟩
  ·exact Or.inl ⟨h1,h2,by show 0<=z;omega,by show z<=5;omega⟩
  ·exact Or.inr (Or.inr ⟨h1,h2,h3⟩)
 ·show if z=3 then _ else _
  rw [if_neg (by omega)]
 ·show if z=4 then _ else _
  rw [if_neg (by omega),if_neg (by show ¬ z=5;omega)]
structure Okx (n:Nat) (ns:List Tn) (up:Nat) (x:Tn):Prop where
 ks:x.ks=[]
 ky:x.ky.length<=n
 tx:x.tx.length<=n
 nu:-1000000000000000000<=x.nu/\x.nu<=1000000000000000000
 free:kdAt ns up=0->kidO ns up x.ky=none
 two:kdAt ns up=2->x.kd=0
 shp:Shp (kdAt ns up) x
 dep:x.kd=1->∃d,d < 8/\Ld ns up d
inductive Gr (n:Nat):List Tn->List Tn->Nat->Prop
 | refl (ns:List Tn):Gr n ns ns 0
 | add (ns ns':List Tn) (m up:Nat) (x:Tn):Gr n ns ns' m->up < ns'.length->Okx n ns' up x->Gr n ns (addN ns' up x) (m+x.ky.length)
theorem Gr.trans {n:Nat} {a b:List Tn} {m:Nat} (h:Gr n a b m) {c:List Tn} {m':Nat} (h':Gr n b c m'):Gr n a c (m+m'):=by
 induction h' with
 | refl=>exact h
 | add ns' m up x h1 h2 h3 ih=>rw [<-Nat.add_assoc];exact Gr.add _ _ _ _ _ ih h2 h3
theorem Gr.one {n:Nat} {ns:List Tn} {up:Nat} {x:Tn} (hu:up < ns.length) (h:Okx n ns up x):Gr n ns (addN ns up x) x.ky.length:=by
 have:=Gr.add ns ns 0 up x (Gr.refl ns) hu h
 rwa [Nat.zero_add] at this
theorem Gr.len {n:Nat} {a b:List Tn} {m:Nat} (h:Gr n a b m):a.length<=b.length:=by
 induction h with
 | refl=>exact Nat.le_refl _
 | add ns' m up x h1 h2 h3 ih=>rw [addN_len];omega
theorem Gr.kd {n:Nat} {a b:List Tn} {m:Nat} (h:Gr n a b m) {q:Nat} (hq:q < a.length):kdAt b q=kdAt a q:=by
 induction h with
 | refl=>rfl
 | add ns' m up x h1 h2 h3 ih =>
  have:=h1.len
  rw [kdAt_addN _ _ _ h2,if_neg (by omega)]
  exact ih
theorem Ld.lt {ns:List Tn} {p d:Nat} (h:Ld ns p d):p < ns.length:=by
 induction h with
 | top p h=>exact kdAt_lt h (by decide)
 | kid p q d h1 h2 h3 _=>exact kdAt_lt h1 (by decide)
theorem Ld.addN {ns:List Tn} {p d up:Nat} {x:Tn} (hu:up < ns.length) (h:Ld ns p d):Ld (addN ns up x) p d:=by
 induction h with
 | top p h=>exact Ld.top p (by rw [kdAt_addN ns up x hu,if_neg (by have:=kdAt_lt h (by decide);omega)];exact h)
 | kid p q d h1 h2 h3 ih =>
  have hq:=kdAt_lt h1 (by decide)
  have hp:=h3.lt
  refine Ld.kid p q d (by rw [kdAt_addN ns up x hu,if_neg (by omega)];exact h1) ?_ ih
  rw [ksAt_addN ns up x hu,if_neg (by omega)]
  split
  ·rename_i e
   rw [<-e]
   simp [h2]
  ·exact h2
theorem Gr.ld {n:Nat} {a b:List Tn} {m:Nat} (h:Gr n a b m) {p d:Nat} (hl:Ld a p d):Ld b p d:=by
 induction h with
 | refl=>exact hl
 | add ns' m up x h1 h2 h3 ih=>exact ih.addN h2
structure Tv (n:Nat) (ns:List Tn) (S:Nat):Prop where
 lt:∀p q,q ∈ ksAt ns p->q < ns.length
 gt:∀p q,q ∈ ksAt ns p->p < q
 nod:∀p,(ksAt ns p).Nodup
 kdd:∀t,kdAt ns t=0->KD ns t
 two:∀t q,kdAt ns t=2->q ∈ ksAt ns t->kdAt ns q=0
 root:0 < ns.length/\kdAt ns 0=0
 txt:∀x ∈ ns,x.ky.length<=n/\x.tx.length<=n/\-1000000000000000000<=x.nu/\x.nu<=1000000000000000000
 sum:(ns.map fun x=>x.ky.length).sum<=S
 shp:∀p q,q ∈ ksAt ns p->∀x,ns[q]?=some x->Shp (kdAt ns p) x
 dep:∀p q,q ∈ ksAt ns p->kdAt ns q=1->∃d,d < 8/\Ld ns p d
 par:∀q,0 < q->q < ns.length->∃p,q ∈ ksAt ns p
 rt:∀x,ns[0]?=some x->x.ky=[]/\x.tx=[]/\x.nu=0
theorem kyAt_addN (ns:List Tn) (up:Nat) (n:Tn) (hu:up < ns.length) (p:Nat):kyAt (addN ns up n) p=if p=ns.length then n.ky else kyAt ns p:=by
 unfold kyAt
 rw [addN_at ns up n hu]
 by_cases h:p=ns.length
 ·simp only [if_pos h]
 ·simp only [if_neg h]
  by_cases h2:p=up
  ·subst h2
   simp only [if_true]
   rw [List.getElem?_eq_getElem hu]
  ·simp only [if_neg h2]
theorem addN_sum (ns:List Tn) (up:Nat) (x:Tn) (hu:up < ns.length):((addN ns up x).map fun y=>y.ky.length)=(ns.map fun y=>y.ky.length)++[x.ky.length]:=by
 apply List.ext_getElem?
 intro i
 rw [List.getElem?_map,addN_at ns up x hu]
 by_cases h:i=ns.length
 ·rw [if_pos h,List.getElem?_append_right (by simp [h]),h]
  simp
 ·rw [if_neg h]
  by_cases h2:i=up
  ·rw [if_pos h2,List.getElem?_append_left (by rw [List.length_map,h2];exact hu),List.getElem?_map,h2,List.getElem?_eq_getElem hu]
   rfl
  ·rw [if_neg h2]
   by_cases h3:i < ns.length
   ·rw [List.getElem?_append_left (by rw [List.length_map];exact h3),List.getElem?_map]
   ·rw [List.getElem?_eq_none (by omega),List.getElem?_append_right (by rw [List.length_map];omega)]
    rw [List.length_map,List.getElem?_eq_none (by simp;omega)]
    rfl
theorem Tv.add {n:Nat} {ns:List Tn} {S up:Nat} {x:Tn} (T:Tv n ns S) (hu:up < ns.length) (h:Okx n ns up x):Tv n (addN ns up x) (S+x.ky.length) where
 lt:=fun p q hq=>by
  rw [ksAt_addN ns up x hu,h.ks] at hq
  rw [addN_len]
  split at hq
  ·cases hq
  ·split at hq
   ·rw [List.mem_append,List.mem_singleton] at hq
    rcases hq with hq | rfl
    ·have:=T.lt _ _ hq;omega
    ·omega
   ·have:=T.lt _ _ hq;omega
 gt:=fun p q hq=>by
  rw [ksAt_addN ns up x hu,h.ks] at hq
  split at hq
  ·cases hq
  ·split at hq
   ·rename_i e
    rw [List.mem_append,List.mem_singleton] at hq
    rcases hq with hq | rfl
    ·rw [e];exact T.gt _ _ hq
    ·omega
   ·exact T.gt _ _ hq
 nod:=fun p=>by
  rw [ksAt_addN ns up x hu,h.ks]
  split
  ·exact List.nodup_nil
  ·split
   ·rw [List.nodup_append]
    refine ⟨T.nod up,by simp,fun a ha b hb hab=>?_⟩
    rw [List.mem_singleton] at hb
    subst hab hb
    have:=T.lt _ _ ha
    omega
   ·exact T.nod p
 kdd:=fun t ht=>by
  rw [kdAt_addN ns up x hu] at ht
  unfold KD
  rw [ksAt_addN ns up x hu,h.ks]
  split
  ·exact List.Pairwise.nil
  ·rename_i hne
   rw [if_neg hne] at ht
   have old:∀p,kdAt ns p=0->(ksAt ns p).Pairwise fun a b=>kyAt (addN ns up x) a ≠ kyAt (addN ns up x) b:=fun p hp=>by
    refine List.Pairwise.imp_of_mem ?_ (T.kdd p hp)
    intro a b ha hb hab
    have h1:=T.lt _ _ ha
    have h2:=T.lt _ _ hb
    rw [kyAt_addN ns up x hu,kyAt_addN ns up x hu,if_neg (by omega),if_neg (by omega)]
    exact hab
   split
   ·rename_i e
    rw [e] at ht
    rw [List.pairwise_append]
    refine ⟨old up ht,List.pairwise_singleton _ _,fun a ha b hb=>?_⟩
    rw [List.mem_singleton] at hb
    subst hb
    have h1:=T.lt _ _ ha
    rw [kyAt_addN ns up x hu,kyAt_addN ns up x hu,if_neg (by omega),if_pos rfl,kyAt_in h1]
    have hf:=h.free ht
    rw [kidO_eq,List.find?_eq_none] at hf
    have:=hf a ha
    unfold kyB at this
    rw [List.getElem?_eq_getElem h1] at this
    simpa using this
   ·exact old t ht
 two:=fun t q ht hq=>by
  rw [kdAt_addN ns up x hu] at ht
  rw [ksAt_addN ns up x hu,h.ks] at hq
  split at hq
  ·cases hq
  ·rename_i hne
   rw [if_neg hne] at ht
   rw [kdAt_addN ns up x hu]
   split at hq
   ·rename_i e
    rw [e] at ht
    rw [List.mem_append,List.mem_singleton] at hq
    rcases hq with hq | rfl
    ·have:=T.lt _ _ hq
     rw [if_neg (by omega)]
     exact T.two _ _ ht hq
    ·rw [if_pos rfl]
     exact h.two ht
   ·have:=T.lt _ _ hq
    rw [if_neg (by omega)]
    exact T.two _ _ ht hq
 root:=by
  rw [addN_len,kdAt_addN ns up x hu,if_neg (by have:=T.root.1;omega)]
  exact ⟨by omega,T.root.2⟩
 txt:=fun y hy=>by
  rw [List.mem_iff_getElem?] at hy
  obtain ⟨i,hi⟩:=hy
  rw [addN_at ns up x hu] at hi
  split at hi
  ·cases hi
   exact ⟨h.ky,h.tx,h.nu⟩
  ·split at hi
   ·cases hi
    exact T.txt ns[up] (List.getElem_mem hu)
   ·exact T.txt y (List.mem_of_getElem? hi)
 sum:=by
  rw [addN_sum ns up x hu,List.sum_append]
  have:=T.sum
  simp
  omega
 shp:=fun p q hq y hy=>by
  have old:∀p q y,q ∈ ksAt ns p->(addN ns up x)[q]?=some y->Shp (kdAt ns p) y:=fun p q y hq hy=>by
   have h1:=T.lt _ _ hq
   rw [addN_at ns up x hu,if_neg (by omega)] at hy
   split at hy
   ·rename_i e
    have h2:=T.shp p q hq ns[up] (by rw [e];exact List.getElem?_eq_getElem hu)
    cases hy
    exact ⟨h2.par,h2.txt,h2.num⟩
   ·exact T.shp p q hq y hy
  rw [ksAt_addN ns up x hu,h.ks] at hq
  rw [kdAt_addN ns up x hu]
  split at hq
  ·cases hq
  ·rename_i hne
   rw [if_neg hne]
   split at hq
   ·rename_i e
    rw [List.mem_append,List.mem_singleton] at hq
    rcases hq with hq | rfl
    ·rw [e];exact old up q y hq hy
    ·rw [addN_at ns up x hu,if_pos rfl] at hy
     cases hy
     rw [e]
     exact h.shp
   ·exact old p q y hq hy
 dep:=fun p q hq hk=>by
  rw [ksAt_addN ns up x hu,h.ks] at hq
  rw [kdAt_addN ns up x hu] at hk
  split at hq
  ·cases hq
  ·split at hq
   ·rename_i e
    rw [List.mem_append,List.mem_singleton] at hq
    rcases hq with hq | rfl
    ·rw [if_neg (by have:=T.lt _ _ hq;omega)] at hk
     obtain ⟨d,h1,h2⟩:=T.dep up q hq hk
     rw [e]
     exact ⟨d,h1,h2.addN hu⟩
    ·rw [if_pos rfl] at hk
     obtain ⟨d,h1,h2⟩:=h.dep hk
     rw [e]
     exact ⟨d,h1,h2.addN hu⟩
   ·rw [if_neg (by have:=T.lt _ _ hq;omega)] at hk
    obtain ⟨d,h1,h2⟩:=T.dep p q hq hk
    exact ⟨d,h1,h2.addN hu⟩
 par:=fun q h0 hq=>by
  rw [addN_len] at hq
  by_cases e:q=ns.length
  ·refine ⟨up,?_⟩
   rw [ksAt_addN ns up x hu,if_neg (by omega),if_pos rfl,e]
   simp
  ·obtain ⟨p,hp⟩:=T.par q h0 (by omega)
   refine ⟨p,?_⟩
   rw [ksAt_addN ns up x hu,if_neg (fun e2=>by rw [e2,ksAt_out ns _ (Nat.le_refl _)] at hp;cases hp)]
   split
   ·rename_i e2
    rw [<-e2]
    simp [hp]
   ·exact hp
 rt:=fun y hy=>by
  have h0:=T.root.1
  rw [addN_at ns up x hu,if_neg (by omega)] at hy
  split at hy
  ·rename_i e
   have h2:=T.rt ns[up] (by rw [e];exact List.getElem?_eq_getElem hu)
   cases hy
   exact h2
  ·exact T.rt y hy
theorem Gr.tv {n:Nat} {a b:List Tn} {m S:Nat} (h:Gr n a b m) (T:Tv n a S):Tv n b (S+m):=by
 induction h with
 | refl=>exact T
 | add ns' m up x h1 h2 h3 ih=>rw [<-Nat.add_assoc];exact ih.add h2 h3
theorem tv_start (n:Nat):Tv n [⟨0,[],[],0,[],0⟩] 0 where
 lt:=fun p q hq=>by
  cases p with
  | zero=>cases hq
  | succ p=>cases hq
 gt:=fun p q hq=>by
  cases p with
  | zero=>cases hq
  | succ p=>cases hq
 nod:=fun p=>by
  cases p with
  | zero=>exact List.nodup_nil
  | succ p=>exact List.nodup_nil
 kdd:=fun p _=>by
  cases p with
  | zero=>exact List.Pairwise.nil
  | succ p=>exact List.Pairwise.nil
 two:=fun p q _ hq=>by
  cases p with
  | zero=>cases hq
  | succ p=>cases hq
 root:=⟨by simp,rfl⟩
 txt:=fun x hx=>by
  rw [List.mem_singleton] at hx
  subst hx
  simp
 sum:=by simp
 shp:=fun p q hq=>by
  cases p with
  | zero=>cases hq
  | succ p=>cases hq
 dep:=fun p q hq=>by
  cases p with
  | zero=>cases hq
  | succ p=>cases hq
 par:=fun q h0 hq=>by
  simp at hq
  omega
 rt:=fun x hx=>by
  cases hx
  exact ⟨rfl,rfl,rfl⟩
end Go.Proofs.YtbgnflcebafjjaaGreatDoor
namespace Go.Proofs.YtbgnflcebafjjaaGreatDoor
open Go.RowKit Go.Maps Go.WideMaps Go.Joins
set_option linter.unusedVariables false
theorem infoDNode:(Tryz.prog.info? 53).map (fun i=>(i.zero,i.size,i.bytes))=some (some (.agg #[.int .i64 0,.string ⟨#[]⟩,.string ⟨#[]⟩,.int .i64 0,.slice none 0 0,.int .i64 0]),6,80):=by kernel_rfl
theorem infoBool:(Tryz.prog.info? 4).map (fun i=>(i.zero,i.size,i.bytes))=some (some (.bool false),1,1):=by kernel_rfl
theorem bool_one:∀u ∈ ([.bool false]:List Value),u.oneCell'=true:=by
 intro u hu
 simp only [List.mem_cons,List.not_mem_nil,or_false] at hu
 rcases hu with rfl;rfl
def ndC (x:Tn):List Value:=[.int .i64 x.kd,.string ⟨x.ky.toArray⟩,.string ⟨x.tx.toArray⟩,.int .i64 x.nu,.slice none 0 0,.int .i64 (x.pl:Nat)]
section
variable {w1 w3:World} {B P R:Nat} {s:ByteArray} {now de:Nat} {q:Rs Nat} {ns:List Tn} {m:Nat} {own:List Nat} {LV OV:Value} {xs:List Value} {ks:Nat->Value}
theorem dadd_one {g cap:Nat} {o:Obj} (x:Tn) (hx:x.ks=[]) (h:DtD w1 B P ns m own LV OV xs ks) (hR:Ds w1 R s LV OV now de q) (hBR:B<=R) (hPR:¬ P=R) (hPL:LV.ownBlock ≠ some P)
  (ho:w3.ownsRow B 53 6 (.slice (some ⟨g,0,none⟩) (ns.length+1) cap) (ns.length+1) (xs++ndC x)) (hg:(w1.drew.alloc o).grownBy w3 LV.ownBlock) (hat:LV.ownBlock=some g\/g=(w1.drew.alloc o).heap.size) :
  ∃xs' ks',DtD (w3.setCell ⟨R,2,none⟩ (.slice (some ⟨g,0,none⟩) (ns.length+1) cap)) B P (ns++[x]) m own (.slice (some ⟨g,0,none⟩) (ns.length+1) cap) OV xs' ks'/\Ds (w3.setCell ⟨R,2,none⟩ (.slice (some ⟨g,0,none⟩) (ns.length+1) cap)) R s (.slice (some ⟨g,0,none⟩) (ns.length+1) cap) OV now de q/\DFr B P w1 (w3.setCell ⟨R,2,none⟩ (.slice (some ⟨g,0,none⟩) (ns.length+1) cap))/\¬ P=g:=by
 have g0:w1.grownBy (w1.drew.alloc o) none:=by
  have:=World.grownBy_alloc w1.drew o none
  exact ⟨this.os,this.tape,this.output,this.size,this.block⟩
 obtain ⟨w2,hw2⟩:∃W,w1.drew.alloc o=W:=⟨_,rfl⟩
 rw [hw2] at g0 hg hat
 obtain ⟨i,er,p,hd⟩:=hR.dd
 have hB1:B<=w1.heap.size:=Nat.le_of_lt (Nat.lt_of_le_of_lt hBR (blk_lt hd))
 have h2:=h.gb g0
 have hR2:=hR.grow g0
 have h3:=h2.push (L:=ns.length+1) x hx rfl ho hg
 have hR3:=hR2.app h2.row hg (by decide)
 obtain ⟨i3,er3,p3,hd3⟩:=hR3.dd
 have hB2:B<=w2.heap.size:=Nat.le_trans hB1 g0.size
 refine ⟨_,_,h3.keepR hd3 (gb_setc w3 R 2 _),hR3.setL _,((DFr.gb g0 hB1 h.hP).two (DFr.app h2.row hg hB2 h2.hP hPL (Or.inr (Or.inl rfl)))).two (DFr.row (gb_setc w3 R 2 _) (Nat.le_trans hB2 hg.size) h3.hP hBR hPR hd3 (Or.inl rfl)),?_⟩
 intro e
 rcases hat with e1 | e1
 ·exact hPL (by rw [e1,e])
 ·have:=h2.hP;omega
theorem dadd_flag {g cap:Nat} {o:Obj} (h:DtD w1 B P ns m own LV OV xs ks) (hR:Ds w1 R s LV OV now de q) (hBR:B<=R) (hPR:¬ P=R) (hPO:OV.ownBlock ≠ some P) (hm:¬ m ∈ own)
  (ho:w3.ownsRow B 4 1 (.slice (some ⟨g,0,none⟩) (m+1) cap) (m+1) (obs m own++[.bool false])) (hg:(w1.alloc o).grownBy w3 OV.ownBlock) (hat:OV.ownBlock=some g\/g=(w1.alloc o).heap.size) :
  DtD (w3.setCell ⟨R,3,none⟩ (.slice (some ⟨g,0,none⟩) (m+1) cap)) B P ns (m+1) own LV (.slice (some ⟨g,0,none⟩) (m+1) cap) xs ks/\Ds (w3.setCell ⟨R,3,none⟩ (.slice (some ⟨g,0,none⟩) (m+1) cap)) R s LV (.slice (some ⟨g,0,none⟩) (m+1) cap) now de q/\DFr B P w1 (w3.setCell ⟨R,3,none⟩ (.slice (some ⟨g,0,none⟩) (m+1) cap))/\¬ P=g:=by
 have g0:w1.grownBy (w1.alloc o) none:=World.grownBy_alloc w1 o none
 obtain ⟨w2,hw2⟩:∃W,w1.alloc o=W:=⟨_,rfl⟩
 rw [hw2] at g0 hg hat
 obtain ⟨i,er,p,hd⟩:=hR.dd
 have hB1:B<=w1.heap.size:=Nat.le_of_lt (Nat.lt_of_le_of_lt hBR (blk_lt hd))
 have h2:=h.gb g0
 have hR2:=hR.grow g0
 have h3:=h2.flag (L:=m+1) rfl hm ho hg
 have hR3:=hR2.app h2.owr hg (by decide)
 obtain ⟨i3,er3,p3,hd3⟩:=hR3.dd
 have hB2:B<=w2.heap.size:=Nat.le_trans hB1 g0.size
 refine ⟨h3.keepR hd3 (gb_setc w3 R 3 _),hR3.setO _,((DFr.gb g0 hB1 h.hP).two (DFr.app h2.owr hg hB2 h2.hP hPO (Or.inr (Or.inr (Or.inr rfl))))).two (DFr.row (gb_setc w3 R 3 _) (Nat.le_trans hB2 hg.size) h3.hP hBR hPR hd3 (Or.inl rfl)),?_⟩
 intro e
 rcases hat with e1 | e1
 ·exact hPO (by rw [e1,e])
 ·have:=h2.hP;omega
theorem dadd_kid {N c g cap M:Nat} {o:Obj} {x:Tn} (up:Nat) (hup:up < ns.length) (hpl:up < (ns++[x]).length) (h:DtD w1 B P (ns++[x]) m own (.slice (some ⟨N,0,none⟩) (ns++[x]).length c) OV xs ks) (hR:Ds w1 R s (.slice (some ⟨N,0,none⟩) (ns++[x]).length c) OV now de q) (hBR:B<=R) (hPN:¬ P=N) (hM:((ns++[x])[up]'hpl).ks.length=M)
  (ho:w3.ownsRow B 3 1 (.slice (some ⟨g,0,none⟩) (M+1) cap) (M+1) ((((ns++[x])[up]'hpl).ks.map fun q=>Value.int .i64 (q:Nat))++[.int .i64 (ns.length:Nat)])) (hg:(w1.drew.alloc o).grownBy w3 (ks up).ownBlock) (hat:(ks up).ownBlock=some g\/g=(w1.drew.alloc o).heap.size) :
  ∃xs' ks',DtD (w3.setCell ⟨N,up * 6+4,none⟩ (.slice (some ⟨g,0,none⟩) (M+1) cap)) B P (addN ns up x) m own (.slice (some ⟨N,0,none⟩) (addN ns up x).length c) OV xs' ks'/\Ds (w3.setCell ⟨N,up * 6+4,none⟩ (.slice (some ⟨g,0,none⟩) (M+1) cap)) R s (.slice (some ⟨N,0,none⟩) (addN ns up x).length c) OV now de q/\DFr B P w1 (w3.setCell ⟨N,up * 6+4,none⟩ (.slice (some ⟨g,0,none⟩) (M+1) cap)):=by
 have g0:w1.grownBy (w1.drew.alloc o) none:=by
  have:=World.grownBy_alloc w1.drew o none
  exact ⟨this.os,this.tape,this.output,this.size,this.block⟩
 obtain ⟨w2,hw2⟩:∃W,w1.drew.alloc o=W:=⟨_,rfl⟩
 rw [hw2] at g0 hg hat
 obtain ⟨i,er,p,hd⟩:=hR.dd
 have hB1:B<=w1.heap.size:=Nat.le_of_lt (Nat.lt_of_le_of_lt hBR (blk_lt hd))
 have h2:=h.gb g0
 have hR2:=hR.grow g0
 have hB2:B<=w2.heap.size:=Nat.le_trans hB1 g0.size
 have h3:=h2.kidp (L:=M+1) up hpl ns.length (by rw [hM]) ho hg (by rcases hat with e | e;exact Or.inl e;exact Or.inr (by omega))
 rw [addN_app ns up x hup hpl] at h3
 have elen:(ns++[x]).length=(addN ns up x).length:=by rw [addN_len];simp
 rw [elen] at h3
 have hR3:=hR2.app (h2.kid up hpl) hg (by decide)
 obtain ⟨cN,hcN⟩:=(own_typ h2.row (g:=N) rfl).2
 have hN3:w3.heap[N]?=some (.cells cN 53 (0,0)):=(hg.block N (blk_lt hcN) (fun e=>by
  obtain ⟨cc,hcc⟩:=h2.kidOwn hpl e.symm
  exact ne_typ hcN hcc (by decide) rfl)).trans hcN
 obtain ⟨i3,er3,p3,hd3⟩:=hR3.dd
 rw [elen] at hR3
 refine ⟨_,_,h3,hR3.other (gb_setc w3 N _ _) (ne_typ hd3 hN3 (by decide)),?_⟩
 exact ((DFr.gb g0 hB1 h.hP).two (DFr.app (h2.kid up hpl) hg hB2 h2.hP (h2.far up hpl) (Or.inr (Or.inr (Or.inl rfl))))).two (DFr.row (gb_setc w3 N _ _) (Nat.le_trans hB2 hg.size) (Nat.lt_of_lt_of_le h2.hP hg.size) (own_typ h2.row (g:=N) rfl).1 hPN hN3 (Or.inr (Or.inl rfl)))
end
theorem ndC_one (x:Tn):∀u ∈ ndC x,u.oneCell'=true:=node_one x
def DaPost (B P R:Nat) (s:ByteArray) (now de:Nat) (q:Rs Nat) (ns:List Tn) (own:List Nat) (ns':List Tn) (w:World) (e:Ending) (w':World):Prop:=e=.returned (.int .i64 (ns.length:Nat))/\Dt w' B P R s now de q ns' own/\DFr B P w w'
set_option maxRecDepth 100000 in
set_option maxHeartbeats 3200000 in
theorem dAdd_any (B P R:Nat) (s:ByteArray) (now de:Nat) (q:Rs Nat) (ns:List Tn) (own:List Nat) (up:Nat) (kd nu:Int) (ky tx:List UInt8) (pl:Nat) (w:World) (h:Dt w B P R s now de q ns own) (W:WF ns own) (hup:up < ns.length) (hsz:ns.length<=1000000) :
  Calls Tryz.prog 17 #[.pointer (some ⟨R,0,none⟩),.int .i64 (up:Nat),.agg #[.int .i64 kd,.string ⟨ky.toArray⟩,.string ⟨tx.toArray⟩,.int .i64 nu,.slice none 0 0,.int .i64 (pl:Nat)]] w (DaPost B P R s now de q ns own (addN ns up ⟨kd,ky,tx,nu,[],pl⟩) w):=by
 obtain ⟨hBR,hPR,N,c,O,oc,xs,ks,hPN,hPO,hD,hS⟩:=h
 obtain ⟨i0,hi0,hii⟩:=Option.map_eq_some_iff.1 infoDNode
 simp only [Prod.mk.injEq] at hii
 obtain ⟨hz0,hz1,hzb⟩:=hii
 obtain ⟨j0,hj0,hjj⟩:=Option.map_eq_some_iff.1 infoInt
 simp only [Prod.mk.injEq] at hjj
 obtain ⟨hy0,hy1,hyb⟩:=hjj
 obtain ⟨b0,hb0,hbb⟩:=Option.map_eq_some_iff.1 infoBool
 simp only [Prod.mk.injEq] at hbb
 obtain ⟨hx0,hx1,hxb⟩:=hbb
 have hone:=ndC_one ⟨kd,ky,tx,nu,[],pl⟩
 have HND:Hid (ndC ⟨kd,ky,tx,nu,[],pl⟩=[.int .i64 kd,.string ⟨ky.toArray⟩,.string ⟨tx.toArray⟩,.int .i64 nu,.slice none 0 0,.int .i64 (pl:Nat)]):=rfl
 rw [HND.out] at hone
 have hone2:=int_one ns.length
 have hone3:=bool_one
 obtain ⟨K,hKe⟩:∃K,w.heap.size=K:=⟨_,rfl⟩
 have hgK:w.grownBy (w.alloc (.cells #[.int .i64 kd,.string ⟨ky.toArray⟩,.string ⟨tx.toArray⟩,.int .i64 nu,.slice none 0 0,.int .i64 (pl:Nat)] 53)) none:=World.grownBy_alloc w _ none
 have hbK:=heap_alloc_new w (.cells #[.int .i64 kd,.string ⟨ky.toArray⟩,.string ⟨tx.toArray⟩,.int .i64 nu,.slice none 0 0,.int .i64 (pl:Nat)] 53)
 have hsK:(w.alloc (.cells #[.int .i64 kd,.string ⟨ky.toArray⟩,.string ⟨tx.toArray⟩,.int .i64 nu,.slice none 0 0,.int .i64 (pl:Nat)] 53)).heap.size=K+1:=by rw [World.size_alloc,hKe]
 rw [hKe] at hbK
 have hD1:=hD.gb hgK
 have hS1:=hS.grow hgK
 obtain ⟨ii,er,pp,hdd⟩:=hS.dd
 have hBs:B<=w.heap.size:=Nat.le_of_lt (Nat.lt_of_le_of_lt hBR (blk_lt hdd))
 have HF1:Hid (DFr B P w (w.alloc (.cells #[.int .i64 kd,.string ⟨ky.toArray⟩,.string ⟨tx.toArray⟩,.int .i64 nu,.slice none 0 0,.int .i64 (pl:Nat)] 53))):=DFr.gb hgK hBs hD.hP
 obtain ⟨w1,hw1⟩:∃w1,w.alloc (.cells #[.int .i64 kd,.string ⟨ky.toArray⟩,.string ⟨tx.toArray⟩,.int .i64 nu,.slice none 0 0,.int .i64 (pl:Nat)] 53)=w1:=⟨_,rfl⟩
 rw [hw1] at hbK hsK hD1 HF1 hS1
 have hrow:=hD1.row
 obtain ⟨cN,hcN⟩:=(own_typ hD1.row (g:=N) rfl).2
 obtain ⟨ii1,er1,pp1,hdd1⟩:=hS1.dd
 have HFAR:Hid (some R ≠ (Value.slice (some ⟨N,0,none⟩) ns.length c).ownBlock):=by
  show some R ≠ some N
  simp only [ne_eq,Option.some.injEq]
  exact ne_typ hdd1 hcN (by decide)
 obtain ⟨-,-,d2,-,-,-,-,-,dfz⟩:=hdd1.cells
 have dA:(w1.alloc (.cells #[.int .i64 kd,.string ⟨ky.toArray⟩,.string ⟨tx.toArray⟩,.int .i64 nu,.slice none 0 0,.int .i64 (pl:Nat)] 53)).cell? ⟨R,2,none⟩=some (.slice (some ⟨N,0,none⟩) ns.length c):=(World.grownBy_alloc w1 _ none).cell d2 (by simp)
 have HBT:Hid (Dd w1 R s (.slice (some ⟨N,0,none⟩) ns.length c) (.slice (some ⟨O,0,none⟩) ns.length oc) now de ii1 er1 pp1):=hdd1
 have k0:w1.cell? ⟨K,0,none⟩=some (.int .i64 kd):=by rw [Lib.cell_of_heap hbK];rfl
 have k1:w1.cell? ⟨K,1,none⟩=some (.string ⟨ky.toArray⟩):=by rw [Lib.cell_of_heap hbK];rfl
 have k2:w1.cell? ⟨K,2,none⟩=some (.string ⟨tx.toArray⟩):=by rw [Lib.cell_of_heap hbK];rfl
 have k3:w1.cell? ⟨K,3,none⟩=some (.int .i64 nu):=by rw [Lib.cell_of_heap hbK];rfl
 have k4:w1.cell? ⟨K,4,none⟩=some (.slice none 0 0):=by rw [Lib.cell_of_heap hbK];rfl
 have k5:w1.cell? ⟨K,5,none⟩=some (.int .i64 (pl:Nat)):=by rw [Lib.cell_of_heap hbK];rfl
 have HD1:Hid (DtD w1 B P ns ns.length own (.slice (some ⟨N,0,none⟩) ns.length c) (.slice (some ⟨O,0,none⟩) ns.length oc) xs ks):=hD1
 have HS1:Hid (Ds w1 R s (.slice (some ⟨N,0,none⟩) ns.length c) (.slice (some ⟨O,0,none⟩) ns.length oc) now de q):=hS1
 have HW:Hid (WF ns own):=W
 have HBE:Hid ((w1.drew.alloc (.cells #[.int .i64 kd,.string ⟨ky.toArray⟩,.string ⟨tx.toArray⟩,.int .i64 nu,.slice none 0 0,.int .i64 (pl:Nat)] 53)).heap[K+1]?=some (.cells #[.int .i64 kd,.string ⟨ky.toArray⟩,.string ⟨tx.toArray⟩,.int .i64 nu,.slice none 0 0,.int .i64 (pl:Nat)] 53 (0,0))):=by
  have:=heap_alloc_new w1.drew (.cells #[.int .i64 kd,.string ⟨ky.toArray⟩,.string ⟨tx.toArray⟩,.int .i64 nu,.slice none 0 0,.int .i64 (pl:Nat)] 53)
  rw [show w1.drew.heap.size=K+1 from hsK] at this
  exact this
 have HP:Hid (up < ns.length):=hup
 have HPS:Hid (¬ P=R/\¬ P=N/\¬ P=O):=⟨hPR,hPN,hPO⟩
 have HNOT:Hid (¬ ns.length ∈ own):=fun hm=>by have:=W.own _ hm;omega
 clear hD hgK hbK hD1 hcN W hS hS1 hdd hdd1 dfz hPR hPN hPO
 go_enter Tryz.func17,Tryz.ntmps17
 go_upto_region 2 with fail
 go_cut [] from 13 (fun wx=>∃(g cap:Nat) (xs':List Value) (ks':Nat->Value),DtD wx B P (ns++[⟨kd,ky,tx,nu,[],pl⟩]) ns.length own (.slice (some ⟨g,0,none⟩) (ns.length+1) cap) (.slice (some ⟨O,0,none⟩) ns.length oc) xs' ks'/\Ds wx R s (.slice (some ⟨g,0,none⟩) (ns.length+1) cap) (.slice (some ⟨O,0,none⟩) ns.length oc) now de q/\DFr B P w1 wx/\¬ P=g)
 case first =>
  go_region_law (refine step_append_lies _ (by rfl) _ _ _ (by rfl) B 53 i0 _ 6 80 Tryz.underlying26 hi0 hz0 hz1 hzb (by rfl) (by decide) (.slice (some ⟨N,0,none⟩) ns.length c) ns.length xs (by rfl) (hrow.drew.alloc _) ⟨K+1,0,none⟩ 1 1 [.int .i64 kd,.string ⟨ky.toArray⟩,.string ⟨tx.toArray⟩,.int .i64 nu,.slice none 0 0,.int .i64 (pl:Nat)] (by rfl) (by rfl) (World.news_of_block HBE.out) hone (by omega) (by unfold maxLen;omega) (by omega) (by simp;omega) _ rfl ?_;intro g cap w3 hown3 hgrow hat hlt3;have hc3:w3.cell? ⟨R,2,none⟩=some (.slice (some ⟨N,0,none⟩) ns.length c):=cel_app d2 hgrow HFAR.out;have hfz3:w3.frozen? ⟨R,2,none⟩=false:=frz_app HBT.out hgrow HFAR.out)
  all_goals (
   go_wp2_with fail
   go_meet
   obtain ⟨xs',ks',q1,q2,q3,q4⟩:=dadd_one ⟨kd,ky,tx,nu,[],pl⟩ rfl HD1.out HS1.out hBR HPS.out.1 (fun e=>HPS.out.2.1 (Option.some.inj (show some N=some P from e)).symm) hown3 hgrow hat
   exact ⟨g,cap,xs',ks',q1,q2,q3,q4⟩)
 case rest =>
  obtain ⟨N1,c1,xs1,ks1,hD2,hS2,hF2,hPN1⟩:=hcut
  obtain ⟨ii2,er2,pp2,hdd2⟩:=hS2.dd
  obtain ⟨-,-,e2,e3,-,-,-,-,efz⟩:=hdd2.cells
  have hrowO:=hD2.owr
  obtain ⟨cO,hcO⟩:=(own_typ hD2.owr (g:=O) rfl).2
  have HFO:Hid (some R ≠ (Value.slice (some ⟨O,0,none⟩) ns.length oc).ownBlock):=by
   show some R ≠ some O
   simp only [ne_eq,Option.some.injEq]
   exact ne_typ hdd2 hcO (by decide)
  have HBR2:Hid (Dd wc R s (.slice (some ⟨N1,0,none⟩) (ns.length+1) c1) (.slice (some ⟨O,0,none⟩) ns.length oc) now de ii2 er2 pp2):=hdd2
  have HD2:Hid (DtD wc B P (ns++[⟨kd,ky,tx,nu,[],pl⟩]) ns.length own (.slice (some ⟨N1,0,none⟩) (ns.length+1) c1) (.slice (some ⟨O,0,none⟩) ns.length oc) xs1 ks1):=hD2
  have HS2:Hid (Ds wc R s (.slice (some ⟨N1,0,none⟩) (ns.length+1) c1) (.slice (some ⟨O,0,none⟩) ns.length oc) now de q):=hS2
  have HF2:Hid (DFr B P w1 wc):=hF2
  have HPN1:Hid (¬ P=N1):=hPN1
  have hBc:B<=wc.heap.size:=Nat.le_of_lt (Nat.lt_of_le_of_lt hBR (blk_lt hdd2))
  have hupI:(0:Int)<=(up:Int):=by omega
  clear hD2 hS2 hF2 hPN1 hdd2 hcO efz
  go_upto_region 5 with (first | (at_builtin;refine wpList_append_lies _ rfl _ _ 49 rfl B 4 b0 _ 1 1 Tryz.underlying49 hb0 hx0 hx1 hxb rfl (by decide) (.slice (some ⟨O,0,none⟩) ns.length oc) ns.length (obs ns.length own) rfl (hrowO.alloc _) ⟨wc.heap.size,0,none⟩ 1 1 [.bool false] rfl rfl (World.news_of_block (heap_alloc_new _ _)) hone3 (by omega) (by unfold maxLen;omega) (by omega) (by simp;omega) _ rfl ?_;intro g cap w3 hown3 hgrow hat hlt3;have hc3:w3.cell? ⟨R,3,none⟩=some (.slice (some ⟨O,0,none⟩) ns.length oc):=hgrow.cell ((World.grownBy_alloc wc _ none).cell e3 (by simp)) HFO.out;have hfz3:w3.frozen? ⟨R,3,none⟩=false:=Lib.frozen_of_heap ((hgrow.block R (by have:=blk_lt HBR2.out;simp;omega) HFO.out).trans (((World.grownBy_alloc wc _ none).block R (blk_lt HBR2.out) (by simp)).trans HBR2.out)) 3))
  obtain ⟨hD4,hS4,hF4,hPO4⟩:=dadd_flag HD2.out HS2.out hBR HPS.out.1 (fun e=>HPS.out.2.2 (Option.some.inj (show some O=some P from e)).symm) HNOT.out hown3 hgrow hat
  obtain ⟨w4,hw4⟩:∃W,w3.setCell ⟨R,3,none⟩ (.slice (some ⟨g,0,none⟩) (ns.length+1) cap)=W:=⟨_,rfl⟩
  rw [hw4] at hD4 hS4 hF4 ⊢
  have hF5:Hid (DFr B P w1 w4):=HF2.out.two hF4
  clear hw4 hown3 hgrow hat hlt3 hc3 hfz3 HD2 HS2 HF2 hF4 HBR2 e2 e3 hrowO HFO hBc
  obtain ⟨L,hL⟩:∃L,(ns++[(⟨kd,ky,tx,nu,[],pl⟩:Tn)]).length=L:=⟨_,rfl⟩
  have hL1:L=ns.length+1:=by rw [<-hL];simp
  have hpl:up < (ns++[(⟨kd,ky,tx,nu,[],pl⟩:Tn)]).length:=by simp;omega
  have hpL:up < L:=by omega
  obtain ⟨ii4,er4,pp4,hdd4⟩:=hS4.dd
  obtain ⟨-,-,f2,-,-,-,-,-,ffz⟩:=hdd4.cells
  have hrowk:=hD4.kid up hpl
  obtain ⟨o4,m4,hv4⟩:=own_slice hrowk
  rw [<-hL1,<-hL] at hD4 hS4
  obtain ⟨-,-,-,-,e4,-,ef⟩:=hD4.node up hpl
  obtain ⟨cN1,hcN1⟩:=(own_typ hD4.row (g:=N1) rfl).2
  rw [hv4] at e4 hrowk
  have hm4:((ns++[(⟨kd,ky,tx,nu,[],pl⟩:Tn)])[up]'hpl).ks.length<=1000000:=by
   have:=HW.out.len up
   unfold ksAt at this
   rw [List.getElem?_eq_getElem HP.out] at this
   simp only [] at this
   rw [List.getElem_append_left HP.out]
   omega
  obtain ⟨m,hm⟩:∃m,((ns++[(⟨kd,ky,tx,nu,[],pl⟩:Tn)])[up]'hpl).ks.length=m:=⟨_,rfl⟩
  have HYS0:Hid (w4.ownsRow B 3 1 (.slice o4 ((ns++[(⟨kd,ky,tx,nu,[],pl⟩:Tn)])[up]'hpl).ks.length m4) ((ns++[(⟨kd,ky,tx,nu,[],pl⟩:Tn)])[up]'hpl).ks.length (((ns++[(⟨kd,ky,tx,nu,[],pl⟩:Tn)])[up]'hpl).ks.map fun q=>Value.int .i64 (q:Nat))):=hrowk
  rw [hm] at hm4 hv4 e4 hrowk
  obtain ⟨ys,hys⟩:∃ys:List Value,(((ns++[(⟨kd,ky,tx,nu,[],pl⟩:Tn)])[up]'hpl).ks.map fun q=>Value.int .i64 (q:Nat))=ys:=⟨_,rfl⟩
  rw [hys] at hrowk
  have HFA:Hid (some R ≠ (Value.slice o4 m m4).ownBlock):=by
   show _ ≠ _
   intro e
   obtain ⟨cc,hcc⟩:=(own_typ hrowk e.symm).2
   exact ne_typ hdd4 hcc (by decide) rfl
  have HFN:Hid (some N1 ≠ (Value.slice o4 m m4).ownBlock):=by
   show _ ≠ _
   intro e
   obtain ⟨cc,hcc⟩:=(own_typ hrowk e.symm).2
   exact ne_typ hcN1 hcc (by decide) rfl
  rw [<-hL1] at f2
  have e4A:(w4.alloc (.cells #[.int .i64 (ns.length:Nat)] 3)).cell? ⟨N1,up * 6+4,none⟩=some (.slice o4 m m4):=(World.grownBy_alloc w4 _ none).cell e4 (by simp)
  have f2A:(w4.alloc (.cells #[.int .i64 (ns.length:Nat)] 3)).cell? ⟨R,2,none⟩=some (.slice (some ⟨N1,0,none⟩) L c1):=(World.grownBy_alloc w4 _ none).cell f2 (by simp)
  obtain ⟨Z,hZ⟩:∃Z,w4.heap.size=Z:=⟨_,rfl⟩
  have hBZ:B<=w4.heap.size:=Nat.le_of_lt (Nat.lt_of_le_of_lt hBR (blk_lt hdd4))
  have HBZ:Hid ((w4.drew.alloc (.cells #[.int .i64 (ns.length:Nat)] 3)).heap[Z]?=some (.cells #[.int .i64 (ns.length:Nat)] 3 (0,0))):=by
   have:=heap_alloc_new w4.drew (.cells #[.int .i64 (ns.length:Nat)] 3)
   rw [show w4.drew.heap.size=Z from hZ] at this
   exact this
  have HN1:Hid (w4.heap[N1]?=some (.cells cN1 53 (0,0))):=hcN1
  have HD4:Hid (DtD w4 B P (ns++[⟨kd,ky,tx,nu,[],pl⟩]) (ns++[(⟨kd,ky,tx,nu,[],pl⟩:Tn)]).length own (.slice (some ⟨N1,0,none⟩) (ns++[(⟨kd,ky,tx,nu,[],pl⟩:Tn)]).length c1) (.slice (some ⟨g,0,none⟩) (ns++[(⟨kd,ky,tx,nu,[],pl⟩:Tn)]).length cap) xs1 ks1):=hD4
  have HS4:Hid (Ds w4 R s (.slice (some ⟨N1,0,none⟩) (ns++[(⟨kd,ky,tx,nu,[],pl⟩:Tn)]).length c1) (.slice (some ⟨g,0,none⟩) (ns++[(⟨kd,ky,tx,nu,[],pl⟩:Tn)]).length cap) now de q):=hS4
  have HV4:Hid (ks1 up=.slice o4 m m4):=hv4
  have HMM:Hid (((ns++[(⟨kd,ky,tx,nu,[],pl⟩:Tn)])[up]'hpl).ks.length=m):=hm
  have HYS:Hid ((((ns++[(⟨kd,ky,tx,nu,[],pl⟩:Tn)])[up]'hpl).ks.map fun q=>Value.int .i64 (q:Nat))=ys):=hys
  have HPL:Hid (up < (ns++[(⟨kd,ky,tx,nu,[],pl⟩:Tn)]).length):=hpl
  have HLL:Hid ((ns++[(⟨kd,ky,tx,nu,[],pl⟩:Tn)]).length=L/\L=ns.length+1):=⟨hL,hL1⟩
  have HPO4:Hid (¬ P=g):=hPO4
  have HFIN:Hid (∀(g' cap':Nat) (w3:World),w3.ownsRow B 3 1 (.slice (some ⟨g',0,none⟩) (m+1) cap') (m+1) (ys++[.int .i64 (ns.length:Nat)])->(w4.drew.alloc (.cells #[.int .i64 (ns.length:Nat)] 3)).grownBy w3 (Value.slice o4 m m4).ownBlock->((Value.slice o4 m m4).ownBlock=some g'\/g'=(w4.drew.alloc (.cells #[.int .i64 (ns.length:Nat)] 3)).heap.size)->DaPost B P R s now de q ns own (addN ns up ⟨kd,ky,tx,nu,[],pl⟩) w (.returned (.int .i64 (ns.length:Nat))) (w3.setCell ⟨N1,up * 6+4,none⟩ (.slice (some ⟨g',0,none⟩) (m+1) cap'))):=fun g' cap' w3 a1 a2 a3=>by
   rw [<-HV4.out] at a2 a3
   rw [<-HYS.out] at a1
   obtain ⟨xs',ks',q1,q2,q3⟩:=dadd_kid up HP.out HPL.out HD4.out HS4.out hBR HPN1.out HMM.out a1 a2 a3
   have elen:(ns++[(⟨kd,ky,tx,nu,[],pl⟩:Tn)]).length=(addN ns up ⟨kd,ky,tx,nu,[],pl⟩).length:=by rw [addN_len];simp
   rw [elen] at q1 q2
   exact ⟨rfl,⟨hBR,HPS.out.1,N1,c1,g,cap,xs',ks',HPN1.out,HPO4.out,q1,q2⟩,(HF1.out.two hF5.out).two q3⟩
  clear hD4 hS4 hdd4 hcN1 hv4 hm hys hL hL1 hPO4 ffz
  go_region_law (refine step_append_lies _ (by rfl) _ _ _ (by rfl) B 3 j0 _ 1 8 Tryz.underlying31 hj0 hy0 hy1 hyb (by rfl) (by decide) (.slice o4 m m4) m ys (by rfl) (hrowk.drew.alloc _) ⟨Z,0,none⟩ 1 1 [.int .i64 (ns.length:Nat)] (by rfl) (by rfl) (World.news_of_block HBZ.out) hone2 (by omega) (by unfold maxLen;omega) (by omega) (by simp;omega) _ rfl ?_;intro g' cap' w3 hown3 hgrow hat hlt3;have hc3:w3.cell? ⟨N1,up * 6+4,none⟩=some (.slice o4 m m4):=cel_app e4 hgrow HFN.out;have hfz3:w3.frozen? ⟨N1,up * 6+4,none⟩=false:=frz_app HN1.out hgrow HFN.out;have hcT3:w3.cell? ⟨R,2,none⟩=some (.slice (some ⟨N1,0,none⟩) L c1):=cel_app f2 hgrow HFA.out)
  all_goals (
   go_wp2_with fail
   go_ret
   exact HFIN.out g' cap' w3 hown3 hgrow hat)
end Go.Proofs.YtbgnflcebafjjaaGreatDoor
