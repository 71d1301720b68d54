import Derived.Test.YtbgnflcebafjjaaGreatDoorP23
import Derived.Test.YtbgnflcebafjjaaGreatDoorP15
import Derived.Deep.AppendLies
namespace Go.Proofs.YtbgnflcebafjjaaGreatDoor
open Go.RowKit Go.Maps Go.WideMaps Go.Joins Go.Shelf
set_option linter.unusedVariables false
def fmO (ns:List Tn):Nat->List UInt8->List UInt8->List Vt->Option (List UInt8)
 | 0,_,_,_=>none
 | f+1,out,path,td=>match td.getLast? with
  | none=>some out
  | some v=>fmO ns f (out++hdT out (pathN path v.ab v.ky) v.dbl++prT ns v.t) (pathN path v.ab v.ky) (td.dropLast++belT ns v.t (pathN path v.ab v.ky).length)
theorem fmO_nil (ns:List Tn) (f:Nat) (out path:List UInt8):fmO ns (f+1) out path []=some out:=rfl
theorem fmO_snoc (ns:List Tn) (f:Nat) (out path:List UInt8) (td:List Vt) (v:Vt):fmO ns (f+1) out path (td++[v])=fmO ns f (out++hdT out (pathN path v.ab v.ky) v.dbl++prT ns v.t) (pathN path v.ab v.ky) (td++belT ns v.t (pathN path v.ab v.ky).length):=by
 rw [fmO,List.getLast?_append,List.getLast?_singleton]
 simp only [Option.some_or,List.dropLast_concat]
theorem snoc_cases {α:Type} (l:List α):l=[]\/∃r x,l=r++[x]:=by
 rcases List.eq_nil_or_concat l with h | ⟨r,x,h⟩
 ·exact Or.inl h
 ·exact Or.inr ⟨r,x,by rw [h,List.concat_eq_append]⟩
theorem fmO_len (ns:List Tn):∀(f:Nat) (out path:List UInt8) (td:List Vt) (R:List UInt8),fmO ns f out path td=some R->out.length<=R.length
 | 0,_,_,_,_,h=>by cases h
 | f+1,out,path,td,R,h=>by
  rcases snoc_cases td with rfl | ⟨r,x,rfl⟩
  ·rw [fmO_nil] at h;cases h;exact Nat.le_refl _
  ·rw [fmO_snoc] at h
   have:=fmO_len ns f _ _ _ _ h
   rw [List.length_append,List.length_append] at this
   omega
structure Ef (ns:List Tn) (own:List Nat):Prop where
 wf:WF ns own
 gt:∀p q,q ∈ ksAt ns p->p < q
 nod:∀p,(ksAt ns p).Nodup
 kdd:∀t,kdAt ns t=0->KD ns t
 two:∀t q,kdAt ns t=2->q ∈ ksAt ns t->kdAt ns q=0
 root:0 < ns.length/\kdAt ns 0=0
 txt:∀i (hi:i < ns.length),ns[i].ky.length<=1048576
def BK (ns:List Tn) (t q:Nat):Prop:=(q ∈ ksAt ns t/\kdAt ns q=0)\/∃m,m ∈ ksAt ns t/\kdAt ns m=2/\q ∈ ksAt ns m
theorem vs1_mem {ns:List Tn} {pl k:Nat} {v:Vt} (h:v ∈ vs1 ns pl k):v.ky=kyAt ns k/\v.ab=pl/\((kdAt ns k=0/\v.t=k)\/(kdAt ns k=2/\v.t ∈ ksAt ns k)):=by
 unfold vs1 at h
 split at h
 ·rename_i h0
  rw [List.mem_singleton] at h
  subst h
  exact ⟨rfl,rfl,Or.inl ⟨h0,rfl⟩⟩
 ·split at h
  ·rename_i h2
   rw [List.mem_map] at h
   obtain ⟨m,hm,rfl⟩:=h
   exact ⟨rfl,rfl,Or.inr ⟨h2,List.mem_reverse.1 hm⟩⟩
  ·cases h
theorem belT_mem {ns:List Tn} {t pl:Nat} {v:Vt} (h:v ∈ belT ns t pl):v.ab=pl/\∃k ∈ ksAt ns t,v.ky=kyAt ns k/\((kdAt ns k=0/\v.t=k)\/(kdAt ns k=2/\v.t ∈ ksAt ns k)):=by
 unfold belT at h
 rw [List.mem_flatMap] at h
 obtain ⟨k,hk,hv⟩:=h
 obtain ⟨h1,h2,h3⟩:=vs1_mem hv
 exact ⟨h2,k,srt_mem (List.mem_reverse.1 hk),h1,h3⟩
theorem belT_bk {ns:List Tn} {t pl:Nat} {v:Vt} (h:v ∈ belT ns t pl):BK ns t v.t:=by
 obtain ⟨-,k,hk,-,h3⟩:=belT_mem h
 rcases h3 with ⟨h3,h4⟩ | ⟨h3,h4⟩
 ·exact Or.inl (by rw [h4];exact ⟨hk,h3⟩)
 ·exact Or.inr ⟨k,hk,h3,h4⟩
theorem bk_uni {ns:List Tn} {own:List Nat} (E:Ef ns own) {t t' q:Nat} (ht:kdAt ns t=0) (ht':kdAt ns t'=0) (h:BK ns t q) (h':BK ns t' q):t=t':=by
 rcases h with ⟨h1,h2⟩ | ⟨m,h1,h2,h3⟩ <;> rcases h' with ⟨g1,g2⟩ | ⟨m',g1,g2,g3⟩
 ·exact E.wf.par _ _ _ h1 g1
 ·have e:=E.wf.par _ _ _ h1 g3
  rw [<-e,ht] at g2
  exact absurd g2 (by decide)
 ·have e:=E.wf.par _ _ _ g1 h3
  rw [<-e,ht'] at h2
  exact absurd h2 (by decide)
 ·have:=E.wf.par _ _ _ h3 g3
  subst this
  exact E.wf.par _ _ _ h1 g1
theorem bk_tab {ns:List Tn} {own:List Nat} (E:Ef ns own) {t q:Nat} (h:BK ns t q):kdAt ns q=0/\q < ns.length/\t < q:=by
 rcases h with ⟨h1,h2⟩ | ⟨m,h1,h2,h3⟩
 ·exact ⟨h2,E.wf.lt _ _ h1,E.gt _ _ h1⟩
 ·exact ⟨E.two _ _ h2 h3,E.wf.lt _ _ h3,Nat.lt_trans (E.gt _ _ h1) (E.gt _ _ h3)⟩
theorem nod_rev {l:List Nat} (h:l.Nodup):l.reverse.Nodup:=(List.reverse_perm l).nodup_iff.2 h
theorem belT_nodup {ns:List Tn} {own:List Nat} (E:Ef ns own) (t pl:Nat):((belT ns t pl).map Vt.t).Nodup:=by
 unfold belT List.Nodup
 rw [List.map_flatMap,List.pairwise_flatMap]
 have hns:(srt ns t).reverse.Nodup:=nod_rev ((srt_perm ns t).nodup_iff.2 (E.nod t))
 have hin:∀k ∈ (srt ns t).reverse,k ∈ ksAt ns t:=fun k hk=>srt_mem (List.mem_reverse.1 hk)
 constructor
 ·intro k hk
  unfold vs1
  split
  ·simp
  ·split
   ·rw [List.map_map]
    have e:(Vt.t ∘ fun m=>(⟨m,kyAt ns k,true,pl⟩:Vt))=id:=rfl
    rw [e,List.map_id]
    exact nod_rev (E.nod k)
   ·simp
 ·refine List.Pairwise.imp_of_mem ?_ hns
  intro a b ha hb hab x hx y hy hxy
  subst hxy
  rw [List.mem_map] at hx hy
  obtain ⟨v,hv,rfl⟩:=hx
  obtain ⟨u,hu,hvu⟩:=hy
  obtain ⟨-,-,h1⟩:=vs1_mem hv
  obtain ⟨-,-,h2⟩:=vs1_mem hu
  rw [hvu] at h2
  have ka:=hin a ha
  have kb:=hin b hb
  rcases h1 with ⟨h1,e1⟩ | ⟨h1,e1⟩ <;> rcases h2 with ⟨h2,e2⟩ | ⟨h2,e2⟩
  ·exact hab (e1.symm.trans e2)
  ·rw [e1] at e2
   have e:=E.wf.par _ _ _ ka e2
   have:=E.gt _ _ kb
   omega
  ·rw [e2] at e1
   have e:=E.wf.par _ _ _ kb e1
   have:=E.gt _ _ ka
   omega
  ·exact hab (E.wf.par _ _ _ e1 e2)
theorem nodup_le:∀(n:Nat) (l:List Nat),l.Nodup->(∀q ∈ l,q < n)->l.length<=n
 | 0,l,h,hl=>by
  cases l with
  | nil=>exact Nat.le_refl _
  | cons a r=>exact absurd (hl a (by simp)) (by omega)
 | n+1,l,h,hl=>by
  have h1:=nodup_le n (l.filter fun q=>decide (q ≠ n)) (h.filter _) (fun q hq=>by
   rw [List.mem_filter] at hq
   have:=hl q hq.1
   have:=of_decide_eq_true hq.2
   omega)
  have h2:l.length<=(l.filter fun q=>decide (q ≠ n)).length+1:=by
   clear h1 hl
   induction l with
   | nil=>simp
   | cons a r ih =>
    rw [List.nodup_cons] at h
    by_cases ha:a=n
    ·subst ha
     have e:r.filter (fun q=>decide (q ≠ a))=r:=List.filter_eq_self.2 fun q hq=>by
      simp only [ne_eq,decide_not,Bool.not_eq_true',decide_eq_false_iff_not]
      rintro rfl
      exact h.1 hq
     rw [List.filter_cons_of_neg (by simp),e]
     simp
    ·rw [List.filter_cons_of_pos (by simpa using ha)]
     have:=ih h.2
     simp only [List.length_cons]
     omega
  omega
structure Iv (ns:List Tn) (path:List UInt8) (V:List Nat) (td:List Vt):Prop where
 nod:(V++td.map Vt.t).Nodup
 frm:∀q ∈ V++td.map Vt.t,q=0\/∃p ∈ V,BK ns p q
 tabV:∀q ∈ V,q < ns.length/\kdAt ns q=0
 tab:∀v ∈ td,v.t < ns.length/\kdAt ns v.t=0/\v.ky.length<=1048576
 mono:td.Pairwise fun a b=>a.ab<=b.ab
 ab:∀v ∈ td,v.ab<=path.length
theorem Iv.len {ns:List Tn} {path:List UInt8} {V:List Nat} {td:List Vt} (h:Iv ns path V td):V.length+td.length<=ns.length:=by
 have:=nodup_le ns.length _ h.nod (fun q hq=>by
  rw [List.mem_append] at hq
  rcases hq with hq | hq
  ·exact (h.tabV q hq).1
  ·rw [List.mem_map] at hq
   obtain ⟨v,hv,rfl⟩:=hq
   exact (h.tab v hv).1)
 rw [List.length_append,List.length_map] at this
 exact this
theorem Iv.push {ns:List Tn} {own:List Nat} (E:Ef ns own) {path path':List UInt8} {V:List Nat} {td:List Vt} {t:Nat} (hn:(V++t :: td.map Vt.t).Nodup) (hf:∀q ∈ V++t :: td.map Vt.t,q=0\/∃p ∈ V,BK ns p q) (hV:∀q ∈ V,q < ns.length/\kdAt ns q=0) (ht:t < ns.length/\kdAt ns t=0) (htd:∀v ∈ td,v.t < ns.length/\kdAt ns v.t=0/\v.ky.length<=1048576) (hm:td.Pairwise fun a b=>a.ab<=b.ab) (ha:∀v ∈ td,v.ab<=path'.length):Iv ns path' (V++[t]) (td++belT ns t path'.length) where
 nod:=by
  rw [List.map_append,<-List.append_assoc,List.nodup_append]
  refine ⟨by simpa using hn,belT_nodup E _ _,?_⟩
  intro a ha' b hb hab
  subst hab
  rw [List.mem_map] at hb
  obtain ⟨v,hv,rfl⟩:=hb
  have hbk:=belT_bk hv
  have hlt:=(bk_tab E hbk).2.2
  have htV:t ∉ V:=fun hh=>by
   rw [List.nodup_append] at hn
   exact hn.2.2 t hh t (by simp) rfl
  have hq:v.t ∈ V++t :: td.map Vt.t:=by simpa using ha'
  rcases hf _ hq with h0 | ⟨p,hp,hbp⟩
  ·omega
  ·have e:=bk_uni E ht.2 (hV p hp).2 hbk hbp
   subst e
   exact htV hp
 frm:=by
  intro q hq
  rw [List.map_append,<-List.append_assoc,List.mem_append] at hq
  rcases hq with hq | hq
  ·rcases hf q (by simpa using hq) with h0 | ⟨p,hp,hbp⟩
   ·exact Or.inl h0
   ·exact Or.inr ⟨p,by simp [hp],hbp⟩
  ·rw [List.mem_map] at hq
   obtain ⟨v,hv,rfl⟩:=hq
   exact Or.inr ⟨t,by simp,belT_bk hv⟩
 tabV:=by
  intro q hq
  rw [List.mem_append,List.mem_singleton] at hq
  rcases hq with hq | rfl
  ·exact hV q hq
  ·exact ht
 tab:=by
  intro v hv
  rw [List.mem_append] at hv
  rcases hv with hv | hv
  ·exact htd v hv
  ·have h1:=bk_tab E (belT_bk hv)
   obtain ⟨-,k,hk,hky,-⟩:=belT_mem hv
   have hkl:=E.wf.lt _ _ hk
   refine ⟨h1.2.1,h1.1,?_⟩
   rw [hky,kyAt_in hkl]
   exact E.txt k hkl
 mono:=by
  rw [List.pairwise_append]
  refine ⟨hm,?_,?_⟩
  ·rw [List.pairwise_iff_forall_sublist]
   intro a b hab
   have ha':=(belT_mem (hab.subset (by simp:a ∈ [a,b]))).1
   have hb':=(belT_mem (hab.subset (by simp:b ∈ [a,b]))).1
   omega
  ·intro a haa b hb
   have:=ha a haa
   rw [(belT_mem hb).1]
   exact this
 ab:=by
  intro v hv
  rw [List.mem_append] at hv
  rcases hv with hv | hv
  ·exact ha v hv
  ·rw [(belT_mem hv).1]
   exact Nat.le_refl _
theorem Iv.start {ns:List Tn} {own:List Nat} (E:Ef ns own):Iv ns [] [0] (belT ns 0 0):=by
 have:=Iv.push E (path:=[]) (path':=[]) (V:=[]) (td:=[]) (t:=0) (by simp) (by simp) (by simp) E.root (by simp) List.Pairwise.nil (by simp)
 simpa using this
theorem pathN_len (path:List UInt8) (ab:Nat) (ky:List UInt8) (h:ab<=path.length):ab<=(pathN path ab ky).length:=by
 unfold pathN
 rw [List.length_append,List.length_append,List.length_take]
 omega
theorem Iv.step {ns:List Tn} {own:List Nat} (E:Ef ns own) {path:List UInt8} {V:List Nat} {td:List Vt} {v:Vt} (h:Iv ns path V (td++[v])):Iv ns (pathN path v.ab v.ky) (V++[v.t]) (td++belT ns v.t (pathN path v.ab v.ky).length):=by
 have hm:=h.mono
 rw [List.pairwise_append] at hm
 have hperm:(V++(td++[v]).map Vt.t).Perm (V++v.t :: td.map Vt.t):=by
  refine List.Perm.append_left V ?_
  rw [List.map_append]
  exact List.perm_append_comm
 refine Iv.push E (path:=path) (hperm.nodup_iff.1 h.nod) (fun q hq=>h.frm q (hperm.mem_iff.2 hq)) h.tabV ?_ (fun u hu=>h.tab u (by simp [hu])) hm.1 (fun u hu=>?_)
 ·have:=h.tab v (by simp)
  exact ⟨this.1,this.2.1⟩
 ·have h1:=hm.2.2 u hu v (by simp)
  have h2:=pathN_len path v.ab v.ky (h.ab v (by simp))
  omega
theorem fmO_some {ns:List Tn} {own:List Nat} (E:Ef ns own):∀(f:Nat) (out path:List UInt8) (V:List Nat) (td:List Vt),Iv ns path V td->ns.length+1<=V.length+f->∃R,fmO ns f out path td=some R
 | 0,out,path,V,td,h,hl=>by have:=h.len;omega
 | f+1,out,path,V,td,h,hl=>by
  rcases snoc_cases td with rfl | ⟨r,x,rfl⟩
  ·exact ⟨out,rfl⟩
  ·rw [fmO_snoc]
   exact fmO_some E f _ _ _ _ (h.step E) (by rw [List.length_append,List.length_singleton];omega)
def fmT (ns:List Tn):List UInt8:=((fmO ns ns.length (prT ns 0) [] (belT ns 0 0)).getD [])
theorem fmT_eq {ns:List Tn} {own:List Nat} (E:Ef ns own):fmO ns ns.length (prT ns 0) [] (belT ns 0 0)=some (fmT ns):=by
 obtain ⟨R,hR⟩:=fmO_some E ns.length (prT ns 0) [] [0] (belT ns 0 0) (Iv.start E) (by simp;omega)
 unfold fmT
 rw [hR]
 rfl
end Go.Proofs.YtbgnflcebafjjaaGreatDoor
namespace Go.Proofs.YtbgnflcebafjjaaGreatDoor
open Go.RowKit Go.Maps Go.WideMaps Go.Joins Go.Shelf
set_option linter.unusedVariables false
def dT (ns:List Tn):Nat->Nat->List UInt8->List UInt8->List UInt8
 | 0,_,_,out=>out
 | f+1,t,path,out=>(belT ns t path.length).reverse.foldl (fun o v=>dT ns f v.t (pathN path path.length v.ky) (o++hdT o (pathN path path.length v.ky) v.dbl)) (out++prT ns t)
theorem pathN_take {X P:List UInt8} (h:X.take P.length=P) (ky:List UInt8):pathN X P.length ky=pathN P P.length ky:=by
 unfold pathN
 rw [h,List.take_length]
theorem pathN_pre (P ky:List UInt8):(pathN P P.length ky).take P.length=P:=by
 unfold pathN
 rw [List.take_length,List.append_assoc,List.take_left' rfl]
theorem pathN_le (P ky:List UInt8):P.length<=(pathN P P.length ky).length:=pathN_len P P.length ky (Nat.le_refl _)
theorem fm_dT {ns:List Tn} {own:List Nat} (E:Ef ns own):∀(f t:Nat) (P out:List UInt8) (td:List Vt) (g:Nat) (R:List UInt8),t < ns.length->kdAt ns t=0->ns.length - t<=f->fmO ns g (out++prT ns t) P (td++belT ns t P.length)=some R->∃g' X,X.take P.length=P/\fmO ns g' (dT ns f t P out) X td=some R
 | 0,t,P,out,td,g,R,ht,_,hf,_=>by omega
 | f+1,t,P,out,td,g,R,ht,hk,hf,h=>by
  have key:∀(l:List Vt) (o X:List UInt8) (g:Nat),(∀v ∈ l,v.ab=P.length/\BK ns t v.t)->X.take P.length=P->fmO ns g o X (td++l.reverse)=some R->∃g' X',X'.take P.length=P/\fmO ns g' (l.foldl (fun o v=>dT ns f v.t (pathN P P.length v.ky) (o++hdT o (pathN P P.length v.ky) v.dbl)) o) X' td=some R:=by
   intro l
   induction l with
   | nil =>
    intro o X g _ hX hg
    refine ⟨g,X,hX,?_⟩
    simpa using hg
   | cons v r ih =>
    intro o X g hl hX hg
    match g,hg with
    | 0,hg=>cases hg
    | g+1,hg =>
     rw [List.reverse_cons,<-List.append_assoc,fmO_snoc] at hg
     obtain ⟨hab,hbk⟩:=hl v (by simp)
     obtain ⟨hk0,hlt,htl⟩:=bk_tab E hbk
     rw [hab,pathN_take hX] at hg
     obtain ⟨g2,X2,hX2,hg2⟩:=fm_dT E f v.t (pathN P P.length v.ky) (o++hdT o (pathN P P.length v.ky) v.dbl) (td++r.reverse) g R hlt hk0 (by omega) hg
     rw [List.foldl_cons]
     refine ih _ X2 g2 (fun u hu=>hl u (by simp [hu])) ?_ hg2
     have:=congrArg (List.take P.length) hX2
     rw [List.take_take,pathN_pre,Nat.min_eq_left (pathN_le P v.ky)] at this
     exact this
  refine key (belT ns t P.length).reverse _ P g (fun v hv=>?_) (List.take_length ..) (by rw [List.reverse_reverse];exact h)
  rw [List.mem_reverse] at hv
  exact ⟨(belT_mem hv).1,belT_bk hv⟩
theorem dT_fmT {ns:List Tn} {own:List Nat} (E:Ef ns own):dT ns ns.length 0 [] []=fmT ns:=by
 obtain ⟨g,X,-,h⟩:=fm_dT E ns.length 0 [] [] [] ns.length (fmT ns) E.root.1 E.root.2 (by omega) (by simpa using fmT_eq E)
 match g,h with
 | 0,h=>cases h
 | g+1,h =>
  rw [fmO_nil] at h
  injection h
def tb (ns:List Tn) (q:Nat):Bool:=decide (kdAt ns q=0\/kdAt ns q=2)
def rs (ns:List Tn) (t:Nat) (b:Bool):List Nat:=(srt ns t).filter fun q=>tb ns q == b
theorem rs_mem {ns:List Tn} {t q:Nat} {b:Bool} (h:q ∈ rs ns t b):q ∈ ksAt ns t/\tb ns q=b:=by
 unfold rs at h
 rw [List.mem_filter] at h
 exact ⟨srt_mem h.1,by simpa using h.2⟩
theorem rs_uni (ns:List Tn) (t:Nat) (b:Bool) (h:KD ns t) (E:List Nat) (hp:E.Perm ((ksAt ns t).filter fun q=>tb ns q == b)) (hs:E.Pairwise fun x y=>cb (kyAt ns x) (kyAt ns y)<=0):E=rs ns t b:=by
 have hsp:(rs ns t b).Perm ((ksAt ns t).filter fun q=>tb ns q == b):=(srt_perm ns t).filter _
 have hss:(srt ns t).Pairwise fun x y=>cb (kyAt ns x) (kyAt ns y)<=0:=by
  have h1:=List.pairwise_mergeSort (le:=fun x y=>decide (cb (kyAt ns x) (kyAt ns y)<=0)) (fun x y z h1 h2=>by
   simp only [decide_eq_true_eq] at *
   exact (cb_trans _ _ _ h1 h2).1) (fun x y=>by
   have:=cb_anti (kyAt ns x) (kyAt ns y)
   simp only [Bool.or_eq_true,decide_eq_true_eq]
   omega) (ksAt ns t)
  exact h1.imp fun {a b} hh=>of_decide_eq_true hh
 have key:∀L:List Nat,L.Perm ((ksAt ns t).filter fun q=>tb ns q == b)->(L.Pairwise fun x y=>cb (kyAt ns x) (kyAt ns y)<=0)->L.Pairwise fun x y=>cb (kyAt ns x) (kyAt ns y) < 0:=fun L hL hp=>by
  have hd:L.Pairwise fun x y=>kyAt ns x ≠ kyAt ns y:=(hL.pairwise_iff (fun {a b} h=>Ne.symm h)).2 (h.filter _)
  refine (hp.and hd).imp fun {x y} ⟨h1,h2⟩=>?_
  have:cb (kyAt ns x) (kyAt ns y) ≠ 0:=fun e=>h2 (cb_eq _ _ e)
  omega
 refine perm_uni (fun x y=>cb (kyAt ns x) (kyAt ns y) < 0) (fun x y h1 h2=>?_) _ _ (hp.trans hsp.symm) (key E hp hs) (key _ hsp (hss.filter _))
 have:=cb_anti (kyAt ns x) (kyAt ns y)
 omega
theorem flat_filter {α β:Type} (p:α->Bool) (f:α->List β) (h:∀x,p x=false->f x=[]):∀l:List α,(l.filter p).flatMap f=l.flatMap f
 | []=>rfl
 | a :: r=>by
  cases hp:p a with
  | true=>rw [List.filter_cons_of_pos hp,List.flatMap_cons,List.flatMap_cons,flat_filter p f h r]
  | false=>rw [List.filter_cons_of_neg (by simp [hp]),List.flatMap_cons,h a hp,List.nil_append,flat_filter p f h r]
theorem prT_rs (ns:List Tn) (t:Nat):prT ns t=(rs ns t false).flatMap (pr1 ns):=by
 unfold prT rs
 rw [flat_filter]
 intro q hq
 unfold pr1
 rw [if_pos]
 have:tb ns q=true:=by simpa using hq
 exact of_decide_eq_true this
theorem bel_rs (ns:List Tn) (t pl:Nat):(belT ns t pl).reverse=(rs ns t true).flatMap fun q=>(vs1 ns pl q).reverse:=by
 unfold belT rs
 rw [List.reverse_flatMap,List.reverse_reverse,flat_filter]
 ·rfl
 ·intro q hq
  have:tb ns q=false:=by simpa using hq
  have h2:=of_decide_eq_false this
  unfold vs1
  rw [if_neg (fun h=>h2 (Or.inl h)),if_neg (fun h=>h2 (Or.inr h))]
  rfl
theorem dT_len (ns:List Tn):∀(f t:Nat) (path out:List UInt8),out.length<=(dT ns f t path out).length
 | 0,t,path,out=>Nat.le_refl _
 | f+1,t,path,out=>by
  have key:∀(l:List Vt) (o:List UInt8),o.length<=(l.foldl (fun o v=>dT ns f v.t (pathN path path.length v.ky) (o++hdT o (pathN path path.length v.ky) v.dbl)) o).length:=by
   intro l
   induction l with
   | nil=>intro o;exact Nat.le_refl _
   | cons v r ih =>
    intro o
    have h1:=ih (dT ns f v.t (pathN path path.length v.ky) (o++hdT o (pathN path path.length v.ky) v.dbl))
    have h2:=dT_len ns f v.t (pathN path path.length v.ky) (o++hdT o (pathN path path.length v.ky) v.dbl)
    rw [List.length_append] at h2
    rw [List.foldl_cons]
    omega
  have:=key (belT ns t path.length).reverse (out++prT ns t)
  rw [List.length_append] at this
  exact Nat.le_trans (Nat.le_add_right _ _) this
end Go.Proofs.YtbgnflcebafjjaaGreatDoor
namespace Go.Proofs.YtbgnflcebafjjaaGreatDoor
open Go.RowKit Go.Maps Go.WideMaps Go.Joins
set_option linter.unusedVariables false
theorem infoDNode:(Tryz.prog.info? 53).map (fun i=>(i.zero,i.size,i.bytes))=some (some (.agg #[.int .i64 0,.string ⟨#[]⟩,.string ⟨#[]⟩,.int .i64 0,.slice none 0 0,.int .i64 0]),6,80):=by kernel_rfl
theorem infoBool:(Tryz.prog.info? 4).map (fun i=>(i.zero,i.size,i.bytes))=some (some (.bool false),1,1):=by kernel_rfl
theorem bool_one:∀u ∈ ([.bool false]:List Value),u.oneCell'=true:=by
 intro u hu
 simp only [List.mem_cons,List.not_mem_nil,or_false] at hu
 rcases hu with rfl;rfl
def ndC (x:Tn):List Value:=[.int .i64 x.kd,.string ⟨x.ky.toArray⟩,.string ⟨x.tx.toArray⟩,.int .i64 x.nu,.slice none 0 0,.int .i64 (x.pl:Nat)]
section
variable {w1 w3:World} {B P R:Nat} {s:ByteArray} {now de:Nat} {q:Rs Nat} {ns:List Tn} {m:Nat} {own:List Nat} {LV OV:Value} {xs:List Value} {ks:Nat->Value}
theorem dadd_one {g cap:Nat} {o:Obj} (x:Tn) (hx:x.ks=[]) (h:DtD w1 B P ns m own LV OV xs ks) (hR:Ds w1 R s LV OV now de q) (hBR:B<=R) (hPR:¬ P=R) (hPL:LV.ownBlock ≠ some P)
  (ho:w3.ownsRow B 53 6 (.slice (some ⟨g,0,none⟩) (ns.length+1) cap) (ns.length+1) (xs++ndC x)) (hg:(w1.drew.alloc o).grownBy w3 LV.ownBlock) (hat:LV.ownBlock=some g\/g=(w1.drew.alloc o).heap.size) :
  ∃xs' ks',DtD (w3.setCell ⟨R,2,none⟩ (.slice (some ⟨g,0,none⟩) (ns.length+1) cap)) B P (ns++[x]) m own (.slice (some ⟨g,0,none⟩) (ns.length+1) cap) OV xs' ks'/\Ds (w3.setCell ⟨R,2,none⟩ (.slice (some ⟨g,0,none⟩) (ns.length+1) cap)) R s (.slice (some ⟨g,0,none⟩) (ns.length+1) cap) OV now de q/\DFr B P w1 (w3.setCell ⟨R,2,none⟩ (.slice (some ⟨g,0,none⟩) (ns.length+1) cap))/\¬ P=g:=by
 have g0:w1.grownBy (w1.drew.alloc o) none:=by
  have:=World.grownBy_alloc w1.drew o none
  exact ⟨this.os,this.tape,this.output,this.size,this.block⟩
 obtain ⟨w2,hw2⟩:∃W,w1.drew.alloc o=W:=⟨_,rfl⟩
 rw [hw2] at g0 hg hat
 obtain ⟨i,er,p,hd⟩:=hR.dd
 have hB1:B<=w1.heap.size:=Nat.le_of_lt (Nat.lt_of_le_of_lt hBR (blk_lt hd))
 have h2:=h.gb g0
 have hR2:=hR.grow g0
 have h3:=h2.push (L:=ns.length+1) x hx rfl ho hg
 have hR3:=hR2.app h2.row hg (by decide)
 obtain ⟨i3,er3,p3,hd3⟩:=hR3.dd
 have hB2:B<=w2.heap.size:=Nat.le_trans hB1 g0.size
 refine ⟨_,_,h3.keepR hd3 (gb_setc w3 R 2 _),hR3.setL _,((DFr.gb g0 hB1 h.hP).two (DFr.app h2.row hg hB2 h2.hP hPL (Or.inr (Or.inl rfl)))).two (DFr.row (gb_setc w3 R 2 _) (Nat.le_trans hB2 hg.size) h3.hP hBR hPR hd3 (Or.inl rfl)),?_⟩
 intro e
 rcases hat with e1 | e1
 ·exact hPL (by rw [e1,e])
 ·have:=h2.hP;omega
theorem dadd_flag {g cap:Nat} {o:Obj} (h:DtD w1 B P ns m own LV OV xs ks) (hR:Ds w1 R s LV OV now de q) (hBR:B<=R) (hPR:¬ P=R) (hPO:OV.ownBlock ≠ some P) (hm:¬ m ∈ own)
  (ho:w3.ownsRow B 4 1 (.slice (some ⟨g,0,none⟩) (m+1) cap) (m+1) (obs m own++[.bool false])) (hg:(w1.alloc o).grownBy w3 OV.ownBlock) (hat:OV.ownBlock=some g\/g=(w1.alloc o).heap.size) :
  DtD (w3.setCell ⟨R,3,none⟩ (.slice (some ⟨g,0,none⟩) (m+1) cap)) B P ns (m+1) own LV (.slice (some ⟨g,0,none⟩) (m+1) cap) xs ks/\Ds (w3.setCell ⟨R,3,none⟩ (.slice (some ⟨g,0,none⟩) (m+1) cap)) R s LV (.slice (some ⟨g,0,none⟩) (m+1) cap) now de q/\DFr B P w1 (w3.setCell ⟨R,3,none⟩ (.slice (some ⟨g,0,none⟩) (m+1) cap))/\¬ P=g:=by
 have g0:w1.grownBy (w1.alloc o) none:=World.grownBy_alloc w1 o none
 obtain ⟨w2,hw2⟩:∃W,w1.alloc o=W:=⟨_,rfl⟩
 rw [hw2] at g0 hg hat
 obtain ⟨i,er,p,hd⟩:=hR.dd
 have hB1:B<=w1.heap.size:=Nat.le_of_lt (Nat.lt_of_le_of_lt hBR (blk_lt hd))
 have h2:=h.gb g0
 have hR2:=hR.grow g0
 have h3:=h2.flag (L:=m+1) rfl hm ho hg
 have hR3:=hR2.app h2.owr hg (by decide)
 obtain ⟨i3,er3,p3,hd3⟩:=hR3.dd
 have hB2:B<=w2.heap.size:=Nat.le_trans hB1 g0.size
 refine ⟨h3.keepR hd3 (gb_setc w3 R 3 _),hR3.setO _,((DFr.gb g0 hB1 h.hP).two (DFr.app h2.owr hg hB2 h2.hP hPO (Or.inr (Or.inr (Or.inr rfl))))).two (DFr.row (gb_setc w3 R 3 _) (Nat.le_trans hB2 hg.size) h3.hP hBR hPR hd3 (Or.inl rfl)),?_⟩
 intro e
 rcases hat with e1 | e1
 ·exact hPO (by rw [e1,e])
 ·have:=h2.hP;omega
theorem dadd_kid {N c g cap M:Nat} {o:Obj} {x:Tn} (up:Nat) (hup:up < ns.length) (hpl:up < (ns++[x]).length) (h:DtD w1 B P (ns++[x]) m own (.slice (some ⟨N,0,none⟩) (ns++[x]).length c) OV xs ks) (hR:Ds w1 R s (.slice (some ⟨N,0,none⟩) (ns++[x]).length c) OV now de q) (hBR:B<=R) (hPN:¬ P=N) (hM:((ns++[x])[up]'hpl).ks.length=M)
  (ho:w3.ownsRow B 3 1 (.slice (some ⟨g,0,none⟩) (M+1) cap) (M+1) ((((ns++[x])[up]'hpl).ks.map fun q=>Value.int .i64 (q:Nat))++[.int .i64 (ns.length:Nat)])) (hg:(w1.drew.alloc o).grownBy w3 (ks up).ownBlock) (hat:(ks up).ownBlock=some g\/g=(w1.drew.alloc o).heap.size) :
  ∃xs' ks',DtD (w3.setCell ⟨N,up * 6+4,none⟩ (.slice (some ⟨g,0,none⟩) (M+1) cap)) B P (addN ns up x) m own (.slice (some ⟨N,0,none⟩) (addN ns up x).length c) OV xs' ks'/\Ds (w3.setCell ⟨N,up * 6+4,none⟩ (.slice (some ⟨g,0,none⟩) (M+1) cap)) R s (.slice (some ⟨N,0,none⟩) (addN ns up x).length c) OV now de q/\DFr B P w1 (w3.setCell ⟨N,up * 6+4,none⟩ (.slice (some ⟨g,0,none⟩) (M+1) cap)):=by
 have g0:w1.grownBy (w1.drew.alloc o) none:=by
  have:=World.grownBy_alloc w1.drew o none
  exact ⟨this.os,this.tape,this.output,this.size,this.block⟩
 obtain ⟨w2,hw2⟩:∃W,w1.drew.alloc o=W:=⟨_,rfl⟩
 rw [hw2] at g0 hg hat
 obtain ⟨i,er,p,hd⟩:=hR.dd
 have hB1:B<=w1.heap.size:=Nat.le_of_lt (Nat.lt_of_le_of_lt hBR (blk_lt hd))
 have h2:=h.gb g0
 have hR2:=hR.grow g0
 have hB2:B<=w2.heap.size:=Nat.le_trans hB1 g0.size
 have h3:=h2.kidp (L:=M+1) up hpl ns.length (by rw [hM]) ho hg (by rcases hat with e | e;exact Or.inl e;exact Or.inr (by omega))
 rw [addN_app ns up x hup hpl] at h3
 have elen:(ns++[x]).length=(addN ns up x).length:=by rw [addN_len];simp
 rw [elen] at h3
 have hR3:=hR2.app (h2.kid up hpl) hg (by decide)
 obtain ⟨cN,hcN⟩:=(own_typ h2.row (g:=N) rfl).2
 have hN3:w3.heap[N]?=some (.cells cN 53 (0,0)):=(hg.block N (blk_lt hcN) (fun e=>by
  obtain ⟨cc,hcc⟩:=h2.kidOwn hpl e.symm
  exact ne_typ hcN hcc (by decide) rfl)).trans hcN
 obtain ⟨i3,er3,p3,hd3⟩:=hR3.dd
 rw [elen] at hR3
 refine ⟨_,_,h3,hR3.other (gb_setc w3 N _ _) (ne_typ hd3 hN3 (by decide)),?_⟩
 exact ((DFr.gb g0 hB1 h.hP).two (DFr.app (h2.kid up hpl) hg hB2 h2.hP (h2.far up hpl) (Or.inr (Or.inr (Or.inl rfl))))).two (DFr.row (gb_setc w3 N _ _) (Nat.le_trans hB2 hg.size) (Nat.lt_of_lt_of_le h2.hP hg.size) (own_typ h2.row (g:=N) rfl).1 hPN hN3 (Or.inr (Or.inl rfl)))
end
end Go.Proofs.YtbgnflcebafjjaaGreatDoor
namespace Go.Proofs.YtbgnflcebafjjaaGreatDoor
open Go.RowKit Go.Maps Go.WideMaps Go.Joins
set_option linter.unusedVariables false
theorem ndC_one (x:Tn):∀u ∈ ndC x,u.oneCell'=true:=node_one x
def DaPost (B P R:Nat) (s:ByteArray) (now de:Nat) (q:Rs Nat) (ns:List Tn) (own:List Nat) (ns':List Tn) (w:World) (e:Ending) (w':World):Prop:=e=.returned (.int .i64 (ns.length:Nat))/\Dt w' B P R s now de q ns' own/\DFr B P w w'
set_option maxRecDepth 100000 in
set_option maxHeartbeats 3200000 in
theorem dAdd_any (B P R:Nat) (s:ByteArray) (now de:Nat) (q:Rs Nat) (ns:List Tn) (own:List Nat) (up:Nat) (kd nu:Int) (ky tx:List UInt8) (pl:Nat) (w:World) (h:Dt w B P R s now de q ns own) (W:WF ns own) (hup:up < ns.length) (hsz:ns.length<=1000000) :
  Calls Tryz.prog 17 #[.pointer (some ⟨R,0,none⟩),.int .i64 (up:Nat),.agg #[.int .i64 kd,.string ⟨ky.toArray⟩,.string ⟨tx.toArray⟩,.int .i64 nu,.slice none 0 0,.int .i64 (pl:Nat)]] w (DaPost B P R s now de q ns own (addN ns up ⟨kd,ky,tx,nu,[],pl⟩) w):=by
 obtain ⟨hBR,hPR,N,c,O,oc,xs,ks,hPN,hPO,hD,hS⟩:=h
 obtain ⟨i0,hi0,hii⟩:=Option.map_eq_some_iff.1 infoDNode
 simp only [Prod.mk.injEq] at hii
 obtain ⟨hz0,hz1,hzb⟩:=hii
 obtain ⟨j0,hj0,hjj⟩:=Option.map_eq_some_iff.1 infoInt
 simp only [Prod.mk.injEq] at hjj
 obtain ⟨hy0,hy1,hyb⟩:=hjj
 obtain ⟨b0,hb0,hbb⟩:=Option.map_eq_some_iff.1 infoBool
 simp only [Prod.mk.injEq] at hbb
 obtain ⟨hx0,hx1,hxb⟩:=hbb
 have hone:=ndC_one ⟨kd,ky,tx,nu,[],pl⟩
 have HND:Hid (ndC ⟨kd,ky,tx,nu,[],pl⟩=[.int .i64 kd,.string ⟨ky.toArray⟩,.string ⟨tx.toArray⟩,.int .i64 nu,.slice none 0 0,.int .i64 (pl:Nat)]):=rfl
 rw [HND.out] at hone
 have hone2:=int_one ns.length
 have hone3:=bool_one
 obtain ⟨K,hKe⟩:∃K,w.heap.size=K:=⟨_,rfl⟩
 have hgK:w.grownBy (w.alloc (.cells #[.int .i64 kd,.string ⟨ky.toArray⟩,.string ⟨tx.toArray⟩,.int .i64 nu,.slice none 0 0,.int .i64 (pl:Nat)] 53)) none:=World.grownBy_alloc w _ none
 have hbK:=heap_alloc_new w (.cells #[.int .i64 kd,.string ⟨ky.toArray⟩,.string ⟨tx.toArray⟩,.int .i64 nu,.slice none 0 0,.int .i64 (pl:Nat)] 53)
 have hsK:(w.alloc (.cells #[.int .i64 kd,.string ⟨ky.toArray⟩,.string ⟨tx.toArray⟩,.int .i64 nu,.slice none 0 0,.int .i64 (pl:Nat)] 53)).heap.size=K+1:=by rw [World.size_alloc,hKe]
 rw [hKe] at hbK
 have hD1:=hD.gb hgK
 have hS1:=hS.grow hgK
 obtain ⟨ii,er,pp,hdd⟩:=hS.dd
 have hBs:B<=w.heap.size:=Nat.le_of_lt (Nat.lt_of_le_of_lt hBR (blk_lt hdd))
 have HF1:Hid (DFr B P w (w.alloc (.cells #[.int .i64 kd,.string ⟨ky.toArray⟩,.string ⟨tx.toArray⟩,.int .i64 nu,.slice none 0 0,.int .i64 (pl:Nat)] 53))):=DFr.gb hgK hBs hD.hP
 obtain ⟨w1,hw1⟩:∃w1,w.alloc (.cells #[.int .i64 kd,.string ⟨ky.toArray⟩,.string ⟨tx.toArray⟩,.int .i64 nu,.slice none 0 0,.int .i64 (pl:Nat)] 53)=w1:=⟨_,rfl⟩
 rw [hw1] at hbK hsK hD1 HF1 hS1
 have hrow:=hD1.row
 obtain ⟨cN,hcN⟩:=(own_typ hD1.row (g:=N) rfl).2
 obtain ⟨ii1,er1,pp1,hdd1⟩:=hS1.dd
 have HFAR:Hid (some R ≠ (Value.slice (some ⟨N,0,none⟩) ns.length c).ownBlock):=by
  show some R ≠ some N
  simp only [ne_eq,Option.some.injEq]
  exact ne_typ hdd1 hcN (by decide)
 obtain ⟨-,-,d2,-,-,-,-,-,dfz⟩:=hdd1.cells
 have dA:(w1.alloc (.cells #[.int .i64 kd,.string ⟨ky.toArray⟩,.string ⟨tx.toArray⟩,.int .i64 nu,.slice none 0 0,.int .i64 (pl:Nat)] 53)).cell? ⟨R,2,none⟩=some (.slice (some ⟨N,0,none⟩) ns.length c):=(World.grownBy_alloc w1 _ none).cell d2 (by simp)
 have HBT:Hid (Dd w1 R s (.slice (some ⟨N,0,none⟩) ns.length c) (.slice (some ⟨O,0,none⟩) ns.length oc) now de ii1 er1 pp1):=hdd1
 have k0:w1.cell? ⟨K,0,none⟩=some (.int .i64 kd):=by rw [Lib.cell_of_heap hbK];rfl
 have k1:w1.cell? ⟨K,1,none⟩=some (.string ⟨ky.toArray⟩):=by rw [Lib.cell_of_heap hbK];rfl
 have k2:w1.cell? ⟨K,2,none⟩=some (.string ⟨tx.toArray⟩):=by rw [Lib.cell_of_heap hbK];rfl
 have k3:w1.cell? ⟨K,3,none⟩=some (.int .i64 nu):=by rw [Lib.cell_of_heap hbK];rfl
 have k4:w1.cell? ⟨K,4,none⟩=some (.slice none 0 0):=by rw [Lib.cell_of_heap hbK];rfl
 have k5:w1.cell? ⟨K,5,none⟩=some (.int .i64 (pl:Nat)):=by rw [Lib.cell_of_heap hbK];rfl
 have HD1:Hid (DtD w1 B P ns ns.length own (.slice (some ⟨N,0,none⟩) ns.length c) (.slice (some ⟨O,0,none⟩) ns.length oc) xs ks):=hD1
 have HS1:Hid (Ds w1 R s (.slice (some ⟨N,0,none⟩) ns.length c) (.slice (some ⟨O,0,none⟩) ns.length oc) now de q):=hS1
 have HW:Hid (WF ns own):=W
 have HBE:Hid ((w1.drew.alloc (.cells #[.int .i64 kd,.string ⟨ky.toArray⟩,.string ⟨tx.toArray⟩,.int .i64 nu,.slice none 0 0,.int .i64 (pl:Nat)] 53)).heap[K+1]?=some (.cells #[.int .i64 kd,.string ⟨ky.toArray⟩,.string ⟨tx.toArray⟩,.int .i64 nu,.slice none 0 0,.int .i64 (pl:Nat)] 53 (0,0))):=by
  have:=heap_alloc_new w1.drew (.cells #[.int .i64 kd,.string ⟨ky.toArray⟩,.string ⟨tx.toArray⟩,.int .i64 nu,.slice none 0 0,.int .i64 (pl:Nat)] 53)
  rw [show w1.drew.heap.size=K+1 from hsK] at this
  exact this
 have HP:Hid (up < ns.length):=hup
 have HPS:Hid (¬ P=R/\¬ P=N/\¬ P=O):=⟨hPR,hPN,hPO⟩
 have HNOT:Hid (¬ ns.length ∈ own):=fun hm=>by have:=W.own _ hm;omega
 clear hD hgK hbK hD1 hcN W hS hS1 hdd hdd1 dfz hPR hPN hPO
 go_enter Tryz.func17,Tryz.ntmps17
 go_upto_region 2 with fail
 go_cut [] from 13 (fun wx=>∃(g cap:Nat) (xs':List Value) (ks':Nat->Value),DtD wx B P (ns++[⟨kd,ky,tx,nu,[],pl⟩]) ns.length own (.slice (some ⟨g,0,none⟩) (ns.length+1) cap) (.slice (some ⟨O,0,none⟩) ns.length oc) xs' ks'/\Ds wx R s (.slice (some ⟨g,0,none⟩) (ns.length+1) cap) (.slice (some ⟨O,0,none⟩) ns.length oc) now de q/\DFr B P w1 wx/\¬ P=g)
 case first =>
  go_region_law (refine step_append_lies _ (by rfl) _ _ _ (by rfl) B 53 i0 _ 6 80 Tryz.underlying26 hi0 hz0 hz1 hzb (by rfl) (by decide) (.slice (some ⟨N,0,none⟩) ns.length c) ns.length xs (by rfl) (hrow.drew.alloc _) ⟨K+1,0,none⟩ 1 1 [.int .i64 kd,.string ⟨ky.toArray⟩,.string ⟨tx.toArray⟩,.int .i64 nu,.slice none 0 0,.int .i64 (pl:Nat)] (by rfl) (by rfl) (World.news_of_block HBE.out) hone (by omega) (by unfold maxLen;omega) (by omega) (by simp;omega) _ rfl ?_;intro g cap w3 hown3 hgrow hat hlt3;have hc3:w3.cell? ⟨R,2,none⟩=some (.slice (some ⟨N,0,none⟩) ns.length c):=cel_app d2 hgrow HFAR.out;have hfz3:w3.frozen? ⟨R,2,none⟩=false:=frz_app HBT.out hgrow HFAR.out)
  all_goals (
   go_wp2_with fail
   go_meet
   obtain ⟨xs',ks',q1,q2,q3,q4⟩:=dadd_one ⟨kd,ky,tx,nu,[],pl⟩ rfl HD1.out HS1.out hBR HPS.out.1 (fun e=>HPS.out.2.1 (Option.some.inj (show some N=some P from e)).symm) hown3 hgrow hat
   exact ⟨g,cap,xs',ks',q1,q2,q3,q4⟩)
 case rest =>
  obtain ⟨N1,c1,xs1,ks1,hD2,hS2,hF2,hPN1⟩:=hcut
  obtain ⟨ii2,er2,pp2,hdd2⟩:=hS2.dd
  obtain ⟨-,-,e2,e3,-,-,-,-,efz⟩:=hdd2.cells
  have hrowO:=hD2.owr
  obtain ⟨cO,hcO⟩:=(own_typ hD2.owr (g:=O) rfl).2
  have HFO:Hid (some R ≠ (Value.slice (some ⟨O,0,none⟩) ns.length oc).ownBlock):=by
   show some R ≠ some O
   simp only [ne_eq,Option.some.injEq]
   exact ne_typ hdd2 hcO (by decide)
  have HBR2:Hid (Dd wc R s (.slice (some ⟨N1,0,none⟩) (ns.length+1) c1) (.slice (some ⟨O,0,none⟩) ns.length oc) now de ii2 er2 pp2):=hdd2
  have HD2:Hid (DtD wc B P (ns++[⟨kd,ky,tx,nu,[],pl⟩]) ns.length own (.slice (some ⟨N1,0,none⟩) (ns.length+1) c1) (.slice (some ⟨O,0,none⟩) ns.length oc) xs1 ks1):=hD2
  have HS2:Hid (Ds wc R s (.slice (some ⟨N1,0,none⟩) (ns.length+1) c1) (.slice (some ⟨O,0,none⟩) ns.length oc) now de q):=hS2
  have HF2:Hid (DFr B P w1 wc):=hF2
  have HPN1:Hid (¬ P=N1):=hPN1
  have hBc:B<=wc.heap.size:=Nat.le_of_lt (Nat.lt_of_le_of_lt hBR (blk_lt hdd2))
  have hupI:(0:Int)<=(up:Int):=by omega
  clear hD2 hS2 hF2 hPN1 hdd2 hcO efz
  go_upto_region 5 with (first | (at_builtin;refine wpList_append_lies _ rfl _ _ 49 rfl B 4 b0 _ 1 1 Tryz.underlying49 hb0 hx0 hx1 hxb rfl (by decide) (.slice (some ⟨O,0,none⟩) ns.length oc) ns.length (obs ns.length own) rfl (hrowO.alloc _) ⟨wc.heap.size,0,none⟩ 1 1 [.bool false] rfl rfl (World.news_of_block (heap_alloc_new _ _)) hone3 (by omega) (by unfold maxLen;omega) (by omega) (by simp;omega) _ rfl ?_;intro g cap w3 hown3 hgrow hat hlt3;have hc3:w3.cell? ⟨R,3,none⟩=some (.slice (some ⟨O,0,none⟩) ns.length oc):=hgrow.cell ((World.grownBy_alloc wc _ none).cell e3 (by simp)) HFO.out;have hfz3:w3.frozen? ⟨R,3,none⟩=false:=Lib.frozen_of_heap ((hgrow.block R (by have:=blk_lt HBR2.out;simp;omega) HFO.out).trans (((World.grownBy_alloc wc _ none).block R (blk_lt HBR2.out) (by simp)).trans HBR2.out)) 3))
  obtain ⟨hD4,hS4,hF4,hPO4⟩:=dadd_flag HD2.out HS2.out hBR HPS.out.1 (fun e=>HPS.out.2.2 (Option.some.inj (show some O=some P from e)).symm) HNOT.out hown3 hgrow hat
  obtain ⟨w4,hw4⟩:∃W,w3.setCell ⟨R,3,none⟩ (.slice (some ⟨g,0,none⟩) (ns.length+1) cap)=W:=⟨_,rfl⟩
  rw [hw4] at hD4 hS4 hF4 ⊢
  have hF5:Hid (DFr B P w1 w4):=HF2.out.two hF4
  clear hw4 hown3 hgrow hat hlt3 hc3 hfz3 HD2 HS2 HF2 hF4 HBR2 e2 e3 hrowO HFO hBc
  obtain ⟨L,hL⟩:∃L,(ns++[(⟨kd,ky,tx,nu,[],pl⟩:Tn)]).length=L:=⟨_,rfl⟩
  have hL1:L=ns.length+1:=by rw [<-hL];simp
  have hpl:up < (ns++[(⟨kd,ky,tx,nu,[],pl⟩:Tn)]).length:=by simp;omega
  have hpL:up < L:=by omega
  obtain ⟨ii4,er4,pp4,hdd4⟩:=hS4.dd
  obtain ⟨-,-,f2,-,-,-,-,-,ffz⟩:=hdd4.cells
  have hrowk:=hD4.kid up hpl
  obtain ⟨o4,m4,hv4⟩:=own_slice hrowk
  rw [<-hL1,<-hL] at hD4 hS4
  obtain ⟨-,-,-,-,e4,-,ef⟩:=hD4.node up hpl
  obtain ⟨cN1,hcN1⟩:=(own_typ hD4.row (g:=N1) rfl).2
  rw [hv4] at e4 hrowk
  have hm4:((ns++[(⟨kd,ky,tx,nu,[],pl⟩:Tn)])[up]'hpl).ks.length<=1000000:=by
   have:=HW.out.len up
   unfold ksAt at this
   rw [List.getElem?_eq_getElem HP.out] at this
   simp only [] at this
   rw [List.getElem_append_left HP.out]
   omega
  obtain ⟨m,hm⟩:∃m,((ns++[(⟨kd,ky,tx,nu,[],pl⟩:Tn)])[up]'hpl).ks.length=m:=⟨_,rfl⟩
  have HYS0:Hid (w4.ownsRow B 3 1 (.slice o4 ((ns++[(⟨kd,ky,tx,nu,[],pl⟩:Tn)])[up]'hpl).ks.length m4) ((ns++[(⟨kd,ky,tx,nu,[],pl⟩:Tn)])[up]'hpl).ks.length (((ns++[(⟨kd,ky,tx,nu,[],pl⟩:Tn)])[up]'hpl).ks.map fun q=>Value.int .i64 (q:Nat))):=hrowk
  rw [hm] at hm4 hv4 e4 hrowk
  obtain ⟨ys,hys⟩:∃ys:List Value,(((ns++[(⟨kd,ky,tx,nu,[],pl⟩:Tn)])[up]'hpl).ks.map fun q=>Value.int .i64 (q:Nat))=ys:=⟨_,rfl⟩
  rw [hys] at hrowk
  have HFA:Hid (some R ≠ (Value.slice o4 m m4).ownBlock):=by
   show _ ≠ _
   intro e
   obtain ⟨cc,hcc⟩:=(own_typ hrowk e.symm).2
   exact ne_typ hdd4 hcc (by decide) rfl
  have HFN:Hid (some N1 ≠ (Value.slice o4 m m4).ownBlock):=by
   show _ ≠ _
   intro e
   obtain ⟨cc,hcc⟩:=(own_typ hrowk e.symm).2
   exact ne_typ hcN1 hcc (by decide) rfl
  rw [<-hL1] at f2
  have e4A:(w4.alloc (.cells #[.int .i64 (ns.length:Nat)] 3)).cell? ⟨N1,up * 6+4,none⟩=some (.slice o4 m m4):=(World.grownBy_alloc w4 _ none).cell e4 (by simp)
  have f2A:(w4.alloc (.cells #[.int .i64 (ns.length:Nat)] 3)).cell? ⟨R,2,none⟩=some (.slice (some ⟨N1,0,none⟩) L c1):=(World.grownBy_alloc w4 _ none).cell f2 (by simp)
  obtain ⟨Z,hZ⟩:∃Z,w4.heap.size=Z:=⟨_,rfl⟩
  have hBZ:B<=w4.heap.size:=Nat.le_of_lt (Nat.lt_of_le_of_lt hBR (blk_lt hdd4))
  have HBZ:Hid ((w4.drew.alloc (.cells #[.int .i64 (ns.length:Nat)] 3)).heap[Z]?=some (.cells #[.int .i64 (ns.length:Nat)] 3 (0,0))):=by
   have:=heap_alloc_new w4.drew (.cells #[.int .i64 (ns.length:Nat)] 3)
   rw [show w4.drew.heap.size=Z from hZ] at this
   exact this
  have HN1:Hid (w4.heap[N1]?=some (.cells cN1 53 (0,0))):=hcN1
  have HD4:Hid (DtD w4 B P (ns++[⟨kd,ky,tx,nu,[],pl⟩]) (ns++[(⟨kd,ky,tx,nu,[],pl⟩:Tn)]).length own (.slice (some ⟨N1,0,none⟩) (ns++[(⟨kd,ky,tx,nu,[],pl⟩:Tn)]).length c1) (.slice (some ⟨g,0,none⟩) (ns++[(⟨kd,ky,tx,nu,[],pl⟩:Tn)]).length cap) xs1 ks1):=hD4
  have HS4:Hid (Ds w4 R s (.slice (some ⟨N1,0,none⟩) (ns++[(⟨kd,ky,tx,nu,[],pl⟩:Tn)]).length c1) (.slice (some ⟨g,0,none⟩) (ns++[(⟨kd,ky,tx,nu,[],pl⟩:Tn)]).length cap) now de q):=hS4
  have HV4:Hid (ks1 up=.slice o4 m m4):=hv4
  have HMM:Hid (((ns++[(⟨kd,ky,tx,nu,[],pl⟩:Tn)])[up]'hpl).ks.length=m):=hm
  have HYS:Hid ((((ns++[(⟨kd,ky,tx,nu,[],pl⟩:Tn)])[up]'hpl).ks.map fun q=>Value.int .i64 (q:Nat))=ys):=hys
  have HPL:Hid (up < (ns++[(⟨kd,ky,tx,nu,[],pl⟩:Tn)]).length):=hpl
  have HLL:Hid ((ns++[(⟨kd,ky,tx,nu,[],pl⟩:Tn)]).length=L/\L=ns.length+1):=⟨hL,hL1⟩
  have HPO4:Hid (¬ P=g):=hPO4
  have HFIN:Hid (∀(g' cap':Nat) (w3:World),w3.ownsRow B 3 1 (.slice (some ⟨g',0,none⟩) (m+1) cap') (m+1) (ys++[.int .i64 (ns.length:Nat)])->(w4.drew.alloc (.cells #[.int .i64 (ns.length:Nat)] 3)).grownBy w3 (Value.slice o4 m m4).ownBlock->((Value.slice o4 m m4).ownBlock=some g'\/g'=(w4.drew.alloc (.cells #[.int .i64 (ns.length:Nat)] 3)).heap.size)->DaPost B P R s now de q ns own (addN ns up ⟨kd,ky,tx,nu,[],pl⟩) w (.returned (.int .i64 (ns.length:Nat))) (w3.setCell ⟨N1,up * 6+4,none⟩ (.slice (some ⟨g',0,none⟩) (m+1) cap'))):=fun g' cap' w3 a1 a2 a3=>by
   rw [<-HV4.out] at a2 a3
   rw [<-HYS.out] at a1
   obtain ⟨xs',ks',q1,q2,q3⟩:=dadd_kid up HP.out HPL.out HD4.out HS4.out hBR HPN1.out HMM.out a1 a2 a3
   have elen:(ns++[(⟨kd,ky,tx,nu,[],pl⟩:Tn)]).length=(addN ns up ⟨kd,ky,tx,nu,[],pl⟩).length:=by rw [addN_len];simp
   rw [elen] at q1 q2
   exact ⟨rfl,⟨hBR,HPS.out.1,N1,c1,g,cap,xs',ks',HPN1.out,HPO4.out,q1,q2⟩,(HF1.out.two hF5.out).two q3⟩
  clear hD4 hS4 hdd4 hcN1 hv4 hm hys hL hL1 hPO4 ffz
  go_region_law (refine step_append_lies _ (by rfl) _ _ _ (by rfl) B 3 j0 _ 1 8 Tryz.underlying31 hj0 hy0 hy1 hyb (by rfl) (by decide) (.slice o4 m m4) m ys (by rfl) (hrowk.drew.alloc _) ⟨Z,0,none⟩ 1 1 [.int .i64 (ns.length:Nat)] (by rfl) (by rfl) (World.news_of_block HBZ.out) hone2 (by omega) (by unfold maxLen;omega) (by omega) (by simp;omega) _ rfl ?_;intro g' cap' w3 hown3 hgrow hat hlt3;have hc3:w3.cell? ⟨N1,up * 6+4,none⟩=some (.slice o4 m m4):=cel_app e4 hgrow HFN.out;have hfz3:w3.frozen? ⟨N1,up * 6+4,none⟩=false:=frz_app HN1.out hgrow HFN.out;have hcT3:w3.cell? ⟨R,2,none⟩=some (.slice (some ⟨N1,0,none⟩) L c1):=cel_app f2 hgrow HFA.out)
  all_goals (
   go_wp2_with fail
   go_ret
   exact HFIN.out g' cap' w3 hown3 hgrow hat)
end Go.Proofs.YtbgnflcebafjjaaGreatDoor
