import Derived.Test.YtbgnflcebafjjaaGreatDoorR23
import Derived.Deep.LoopGhost
import Derived.Test.YtbgnflcebafjjaaGreatDoorR15
namespace Go.Proofs.YtbgnflcebafjjaaGreatDoor
open Go.RowKit Go.Maps Go.WideMaps Go.Joins Go.Shelf
set_option linter.unusedVariables false
def fmO (ns:List Tn):Nat->List UInt8->List UInt8->List Vt->Option (List UInt8)
 | 0,_,_,_=>none
 | f+1,out,path,td=>match td.getLast? with
  | none=>some out
  | some v=>fmO ns f (out++hdT out (pathN path v.ab v.ky) v.dbl++prT ns v.t) (pathN path v.ab v.ky) (td.dropLast++belT ns v.t (pathN path v.ab v.ky).length)
theorem fmO_nil (ns:List Tn) (f:Nat) (out path:List UInt8):fmO ns (f+1) out path []=some out:=rfl
theorem fmO_snoc (ns:List Tn) (f:Nat) (out path:List UInt8) (td:List Vt) (v:Vt):fmO ns (f+1) out path (td++[v])=fmO ns f (out++hdT out (pathN path v.ab v.ky) v.dbl++prT ns v.t) (pathN path v.ab v.ky) (td++belT ns v.t (pathN path v.ab v.ky).length):=by
 rw [fmO,List.getLast?_append,List.getLast?_singleton]
 simp only [Option.some_or,List.dropLast_concat]
theorem snoc_cases {α:Type} (l:List α):l=[]\/∃r x,l=r++[x]:=by
 rcases List.eq_nil_or_concat l with h | ⟨r,x,h⟩
 ·exact Or.inl h
 ·exact Or.inr ⟨r,x,by rw [h,List.concat_eq_append]⟩
theorem fmO_len (ns:List Tn):∀(f:Nat) (out path:List UInt8) (td:List Vt) (R:List UInt8),fmO ns f out path td=some R->out.length<=R.length
 | 0,_,_,_,_,h=>by cases h
 | f+1,out,path,td,R,h=>by
  rcases snoc_cases td with rfl | ⟨r,x,rfl⟩
  ·rw [fmO_nil] at h;cases h;exact Nat.le_refl _
  ·rw [fmO_snoc] at h
   have:=fmO_len ns f _ _ _ _ h
   rw [List.length_append,List.length_append] at this
   omega
structure Ef (ns:List Tn) (own:List Nat):Prop where
 wf:WF ns own
 gt:∀p q,q ∈ ksAt ns p->p < q
 nod:∀p,(ksAt ns p).Nodup
 kdd:∀t,kdAt ns t=0->KD ns t
 two:∀t q,kdAt ns t=2->q ∈ ksAt ns t->kdAt ns q=0
 root:0 < ns.length/\kdAt ns 0=0
 txt:∀i (hi:i < ns.length),ns[i].ky.length<=1048576
def BK (ns:List Tn) (t q:Nat):Prop:=(q ∈ ksAt ns t/\kdAt ns q=0)\/∃m,m ∈ ksAt ns t/\kdAt ns m=2/\q ∈ ksAt ns m
theorem vs1_mem {ns:List Tn} {pl k:Nat} {v:Vt} (h:v ∈ vs1 ns pl k):v.ky=kyAt ns k/\v.ab=pl/\((kdAt ns k=0/\v.t=k)\/(kdAt ns k=2/\v.t ∈ ksAt ns k)):=by
 unfold vs1 at h
 split at h
 ·rename_i h0
  rw [List.mem_singleton] at h
  subst h
  exact ⟨rfl,rfl,Or.inl ⟨h0,rfl⟩⟩
 ·split at h
  ·rename_i h2
   rw [List.mem_map] at h
   obtain ⟨m,hm,rfl⟩:=h
   exact ⟨rfl,rfl,Or.inr ⟨h2,List.mem_reverse.1 hm⟩⟩
  ·cases h
theorem belT_mem {ns:List Tn} {t pl:Nat} {v:Vt} (h:v ∈ belT ns t pl):v.ab=pl/\∃k ∈ ksAt ns t,v.ky=kyAt ns k/\((kdAt ns k=0/\v.t=k)\/(kdAt ns k=2/\v.t ∈ ksAt ns k)):=by
 unfold belT at h
 rw [List.mem_flatMap] at h
 obtain ⟨k,hk,hv⟩:=h
 obtain ⟨h1,h2,h3⟩:=vs1_mem hv
 exact ⟨h2,k,srt_mem (List.mem_reverse.1 hk),h1,h3⟩
theorem belT_bk {ns:List Tn} {t pl:Nat} {v:Vt} (h:v ∈ belT ns t pl):BK ns t v.t:=by
 obtain ⟨-,k,hk,-,h3⟩:=belT_mem h
 rcases h3 with ⟨h3,h4⟩ | ⟨h3,h4⟩
 ·exact Or.inl (by rw [h4];exact ⟨hk,h3⟩)
 ·exact Or.inr ⟨k,hk,h3,h4⟩
theorem bk_uni {ns:List Tn} {own:List Nat} (E:Ef ns own) {t t' q:Nat} (ht:kdAt ns t=0) (ht':kdAt ns t'=0) (h:BK ns t q) (h':BK ns t' q):t=t':=by
 rcases h with ⟨h1,h2⟩ | ⟨m,h1,h2,h3⟩ <;> rcases h' with ⟨g1,g2⟩ | ⟨m',g1,g2,g3⟩
 ·exact E.wf.par _ _ _ h1 g1
 ·have e:=E.wf.par _ _ _ h1 g3
  rw [<-e,ht] at g2
  exact absurd g2 (by decide)
 ·have e:=E.wf.par _ _ _ g1 h3
  rw [<-e,ht'] at h2
  exact absurd h2 (by decide)
 ·have:=E.wf.par _ _ _ h3 g3
  subst this
  exact E.wf.par _ _ _ h1 g1
theorem bk_tab {ns:List Tn} {own:List Nat} (E:Ef ns own) {t q:Nat} (h:BK ns t q):kdAt ns q=0/\q < ns.length/\t < q:=by
 rcases h with ⟨h1,h2⟩ | ⟨m,h1,h2,h3⟩
 ·exact ⟨h2,E.wf.lt _ _ h1,E.gt _ _ h1⟩
 ·exact ⟨E.two _ _ h2 h3,E.wf.lt _ _ h3,Nat.lt_trans (E.gt _ _ h1) (E.gt _ _ h3)⟩
theorem nod_rev {l:List Nat} (h:l.Nodup):l.reverse.Nodup:=(List.reverse_perm l).nodup_iff.2 h
theorem belT_nodup {ns:List Tn} {own:List Nat} (E:Ef ns own) (t pl:Nat):((belT ns t pl).map Vt.t).Nodup:=by
 unfold belT List.Nodup
 rw [List.map_flatMap,List.pairwise_flatMap]
 have hns:(srt ns t).reverse.Nodup:=nod_rev ((srt_perm ns t).nodup_iff.2 (E.nod t))
 have hin:∀k ∈ (srt ns t).reverse,k ∈ ksAt ns t:=fun k hk=>srt_mem (List.mem_reverse.1 hk)
 constructor
 ·intro k hk
  unfold vs1
  split
  ·simp
  ·split
   ·rw [List.map_map]
    have e:(Vt.t ∘ fun m=>(⟨m,kyAt ns k,true,pl⟩:Vt))=id:=rfl
    rw [e,List.map_id]
    exact nod_rev (E.nod k)
   ·simp
 ·refine List.Pairwise.imp_of_mem ?_ hns
  intro a b ha hb hab x hx y hy hxy
  subst hxy
  rw [List.mem_map] at hx hy
  obtain ⟨v,hv,rfl⟩:=hx
  obtain ⟨u,hu,hvu⟩:=hy
  obtain ⟨-,-,h1⟩:=vs1_mem hv
  obtain ⟨-,-,h2⟩:=vs1_mem hu
  rw [hvu] at h2
  have ka:=hin a ha
  have kb:=hin b hb
  rcases h1 with ⟨h1,e1⟩ | ⟨h1,e1⟩ <;> rcases h2 with ⟨h2,e2⟩ | ⟨h2,e2⟩
  ·exact hab (e1.symm.trans e2)
  ·rw [e1] at e2
   have e:=E.wf.par _ _ _ ka e2
   have:=E.gt _ _ kb
   omega
  ·rw [e2] at e1
   have e:=E.wf.par _ _ _ kb e1
   have:=E.gt _ _ ka
   omega
  ·exact hab (E.wf.par _ _ _ e1 e2)
theorem nodup_le:∀(n:Nat) (l:List Nat),l.Nodup->(∀q ∈ l,q < n)->l.length<=n
 | 0,l,h,hl=>by
  cases l with
  | nil=>exact Nat.le_refl _
  | cons a r=>exact absurd (hl a (by simp)) (by omega)
 | n+1,l,h,hl=>by
  have h1:=nodup_le n (l.filter fun q=>decide (q ≠ n)) (h.filter _) (fun q hq=>by
   rw [List.mem_filter] at hq
   have:=hl q hq.1
   have:=of_decide_eq_true hq.2
   omega)
  have h2:l.length<=(l.filter fun q=>decide (q ≠ n)).length+1:=by
   clear h1 hl
   induction l with
   | nil=>simp
   | cons a r ih =>
    rw [List.nodup_cons] at h
    by_cases ha:a=n
    ·subst ha
     have e:r.filter (fun q=>decide (q ≠ a))=r:=List.filter_eq_self.2 fun q hq=>by
      simp only [ne_eq,decide_not,Bool.not_eq_true',decide_eq_false_iff_not]
      rintro rfl
      exact h.1 hq
     rw [List.filter_cons_of_neg (by simp),e]
     simp
    ·rw [List.filter_cons_of_pos (by simpa using ha)]
     have:=ih h.2
     simp only [List.length_cons]
     omega
  omega
structure Iv (ns:List Tn) (path:List UInt8) (V:List Nat) (td:List Vt):Prop where
 nod:(V++td.map Vt.t).Nodup
 frm:∀q ∈ V++td.map Vt.t,q=0\/∃p ∈ V,BK ns p q
 tabV:∀q ∈ V,q < ns.length/\kdAt ns q=0
 tab:∀v ∈ td,v.t < ns.length/\kdAt ns v.t=0/\v.ky.length<=1048576
 mono:td.Pairwise fun a b=>a.ab<=b.ab
 ab:∀v ∈ td,v.ab<=path.length
theorem Iv.len {ns:List Tn} {path:List UInt8} {V:List Nat} {td:List Vt} (h:Iv ns path V td):V.length+td.length<=ns.length:=by
 have:=nodup_le ns.length _ h.nod (fun q hq=>by
  rw [List.mem_append] at hq
  rcases hq with hq | hq
  ·exact (h.tabV q hq).1
  ·rw [List.mem_map] at hq
   obtain ⟨v,hv,rfl⟩:=hq
   exact (h.tab v hv).1)
 rw [List.length_append,List.length_map] at this
 exact this
theorem Iv.push {ns:List Tn} {own:List Nat} (E:Ef ns own) {path path':List UInt8} {V:List Nat} {td:List Vt} {t:Nat} (hn:(V++t :: td.map Vt.t).Nodup) (hf:∀q ∈ V++t :: td.map Vt.t,q=0\/∃p ∈ V,BK ns p q) (hV:∀q ∈ V,q < ns.length/\kdAt ns q=0) (ht:t < ns.length/\kdAt ns t=0) (htd:∀v ∈ td,v.t < ns.length/\kdAt ns v.t=0/\v.ky.length<=1048576) (hm:td.Pairwise fun a b=>a.ab<=b.ab) (ha:∀v ∈ td,v.ab<=path'.length):Iv ns path' (V++[t]) (td++belT ns t path'.length) where
 nod:=by
  rw [List.map_append,<-List.append_assoc,List.nodup_append]
  refine ⟨by simpa using hn,belT_nodup E _ _,?_⟩
  intro a ha' b hb hab
  subst hab
  rw [List.mem_map] at hb
  obtain ⟨v,hv,rfl⟩:=hb
  have hbk:=belT_bk hv
  have hlt:=(bk_tab E hbk).2.2
  have htV:t ∉ V:=fun hh=>by
   rw [List.nodup_append] at hn
   exact hn.2.2 t hh t (by simp) rfl
  have hq:v.t ∈ V++t :: td.map Vt.t:=by simpa using ha'
  rcases hf _ hq with h0 | ⟨p,hp,hbp⟩
  ·omega
  ·have e:=bk_uni E ht.2 (hV p hp).2 hbk hbp
   subst e
   exact htV hp
 frm:=by
  intro q hq
  rw [List.map_append,<-List.append_assoc,List.mem_append] at hq
  rcases hq with hq | hq
  ·rcases hf q (by simpa using hq) with h0 | ⟨p,hp,hbp⟩
   ·exact Or.inl h0
   ·exact Or.inr ⟨p,by simp [hp],hbp⟩
  ·rw [List.mem_map] at hq
   obtain ⟨v,hv,rfl⟩:=hq
   exact Or.inr ⟨t,by simp,belT_bk hv⟩
 tabV:=by
  intro q hq
  rw [List.mem_append,List.mem_singleton] at hq
  rcases hq with hq | rfl
  ·exact hV q hq
  ·exact ht
 tab:=by
  intro v hv
  rw [List.mem_append] at hv
  rcases hv with hv | hv
  ·exact htd v hv
  ·have h1:=bk_tab E (belT_bk hv)
   obtain ⟨-,k,hk,hky,-⟩:=belT_mem hv
   have hkl:=E.wf.lt _ _ hk
   refine ⟨h1.2.1,h1.1,?_⟩
   rw [hky,kyAt_in hkl]
   exact E.txt k hkl
 mono:=by
  rw [List.pairwise_append]
  refine ⟨hm,?_,?_⟩
  ·rw [List.pairwise_iff_forall_sublist]
   intro a b hab
   have ha':=(belT_mem (hab.subset (by simp:a ∈ [a,b]))).1
   have hb':=(belT_mem (hab.subset (by simp:b ∈ [a,b]))).1
   omega
  ·intro a haa b hb
   have:=ha a haa
   rw [(belT_mem hb).1]
   exact this
 ab:=by
  intro v hv
  rw [List.mem_append] at hv
  rcases hv with hv | hv
  ·exact ha v hv
  ·rw [(belT_mem hv).1]
   exact Nat.le_refl _
theorem Iv.start {ns:List Tn} {own:List Nat} (E:Ef ns own):Iv ns [] [0] (belT ns 0 0):=by
 have:=Iv.push E (path:=[]) (path':=[]) (V:=[]) (td:=[]) (t:=0) (by simp) (by simp) (by simp) E.root (by simp) List.Pairwise.nil (by simp)
 simpa using this
theorem pathN_len (path:List UInt8) (ab:Nat) (ky:List UInt8) (h:ab<=path.length):ab<=(pathN path ab ky).length:=by
 unfold pathN
 rw [List.length_append,List.length_append,List.length_take]
 omega
theorem Iv.step {ns:List Tn} {own:List Nat} (E:Ef ns own) {path:List UInt8} {V:List Nat} {td:List Vt} {v:Vt} (h:Iv ns path V (td++[v])):Iv ns (pathN path v.ab v.ky) (V++[v.t]) (td++belT ns v.t (pathN path v.ab v.ky).length):=by
 have hm:=h.mono
 rw [List.pairwise_append] at hm
 have hperm:(V++(td++[v]).map Vt.t).Perm (V++v.t :: td.map Vt.t):=by
  refine List.Perm.append_left V ?_
  rw [List.map_append]
  exact List.perm_append_comm
 refine Iv.push E (path:=path) (hperm.nodup_iff.1 h.nod) (fun q hq=>h.frm q (hperm.mem_iff.2 hq)) h.tabV ?_ (fun u hu=>h.tab u (by simp [hu])) hm.1 (fun u hu=>?_)
 ·have:=h.tab v (by simp)
  exact ⟨this.1,this.2.1⟩
 ·have h1:=hm.2.2 u hu v (by simp)
  have h2:=pathN_len path v.ab v.ky (h.ab v (by simp))
  omega
theorem fmO_some {ns:List Tn} {own:List Nat} (E:Ef ns own):∀(f:Nat) (out path:List UInt8) (V:List Nat) (td:List Vt),Iv ns path V td->ns.length+1<=V.length+f->∃R,fmO ns f out path td=some R
 | 0,out,path,V,td,h,hl=>by have:=h.len;omega
 | f+1,out,path,V,td,h,hl=>by
  rcases snoc_cases td with rfl | ⟨r,x,rfl⟩
  ·exact ⟨out,rfl⟩
  ·rw [fmO_snoc]
   exact fmO_some E f _ _ _ _ (h.step E) (by rw [List.length_append,List.length_singleton];omega)
def fmT (ns:List Tn):List UInt8:=((fmO ns ns.length (prT ns 0) [] (belT ns 0 0)).getD [])
theorem fmT_eq {ns:List Tn} {own:List Nat} (E:Ef ns own):fmO ns ns.length (prT ns 0) [] (belT ns 0 0)=some (fmT ns):=by
 obtain ⟨R,hR⟩:=fmO_some E ns.length (prT ns 0) [] [0] (belT ns 0 0) (Iv.start E) (by simp;omega)
 unfold fmT
 rw [hR]
 rfl
end Go.Proofs.YtbgnflcebafjjaaGreatDoor
namespace Go.Proofs.YtbgnflcebafjjaaGreatDoor
open Go.RowKit Go.Maps Go.WideMaps Go.Joins Go.Shelf
set_option linter.unusedVariables false
theorem own_cutS {w:World} {B:Nat} {e:TypeId} {s:Nat} {o:Option Addr} {n c:Nat} {xs:List Value} (h:w.ownsRow B e s (.slice o n c) n xs) (a:Nat) (ha:a<=n):w.ownsRow B e s (.slice o a c) a (xs.take (a * s)):=by
 have hl:xs.length=n * s:=h.1
 have hle:a * s<=n * s:=Nat.mul_le_mul_right _ ha
 refine ⟨by rw [List.length_take];omega,?_⟩
 rcases h.2 with ⟨hv,hn⟩ | ⟨g,cap,cur,hv,h1,h2,h3,h4,h5,h6⟩
 ·injection hv with ho _ hc
  subst ho hc
  have:a=0:=by omega
  subst this
  exact Or.inl ⟨rfl,rfl⟩
 ·injection hv with ho _ hc
  subst ho hc
  refine Or.inr ⟨g,c,cur,rfl,h1,h2,by omega,h4,h5,?_⟩
  rw [<-h6,List.take_take]
  congr 1
  omega
theorem vCs_at (td:List Vt) (v:Vt) (i:Nat) (hi:i < 4):(vCs (td++[v]))[td.length * 4+i]?=(vC v)[i]?:=by
 rw [vCs_app,List.getElem?_append_right (by rw [vCs_len];omega),vCs_len]
 have e:vCs [v]=vC v:=by simp [vCs]
 rw [e]
 congr 1
 omega
theorem vCs_take (td:List Vt) (v:Vt):(vCs (td++[v])).take (td.length * 4)=vCs td:=by
 rw [vCs_app,List.take_append_of_le_length (by rw [vCs_len];exact Nat.le_refl _),List.take_of_length_le (by rw [vCs_len];exact Nat.le_refl _)]
set_option maxRecDepth 100000 in
set_option maxHeartbeats 6400000 in
theorem pForm {w0:World} {N c:Nat} {NV:Value} {ns:List Tn} {own:List Nat} (E:Ev w0 NV N c ns own) (F:Ef ns own) (hR:(fmT ns).length<=70368744177664) :
  Calls Tryz.prog 20 #[NV] w0 fun e w'=>e=.returned (.string ⟨(fmT ns).toArray⟩)/\w0.grownBy w' none:=by
 have hEl:=E.len
 have hfm:=fmT_eq F
 obtain ⟨R,hRe⟩:∃R,fmT ns=R:=⟨_,rfl⟩
 rw [hRe] at hfm hR ⊢
 obtain ⟨o,l0,c0,hv⟩:∃o l c,NV=.slice o l c:=⟨_,_,_,E.nv.val⟩
 subst hv
 obtain ⟨B,hB⟩:∃B,w0.heap.size=B:=⟨_,rfl⟩
 have hbp:=heap_alloc_new w0 (.cells #[.slice o l0 c0,.pointer none,.slice none 0 0,.slice none 0 0] 78)
 have hg1:w0.grownBy (w0.alloc (.cells #[.slice o l0 c0,.pointer none,.slice none 0 0,.slice none 0 0] 78)) none:=World.grownBy_alloc _ _ none
 obtain ⟨w1,hw1⟩:∃W,w0.alloc (.cells #[.slice o l0 c0,.pointer none,.slice none 0 0,.slice none 0 0] 78)=W:=⟨_,rfl⟩
 rw [hw1] at hbp hg1
 have hP1:Pn w1 w0.heap.size w0.heap.size (.slice o l0 c0) [] []:=⟨Nat.le_refl _,.pointer none,.slice none 0 0,.slice none 0 0,hbp,Or.inl rfl,World.ownsRow_nil _ _ _ _,World.ownsRow_nil _ _ _ _,fun g hg=>(by cases hg),fun _=>rfl⟩
 have hl0:=fmO_len ns _ _ _ _ _ hfm
 have CP0:Hid (Calls Tryz.prog 32 #[.pointer (some ⟨w0.heap.size,0,none⟩),.int .i64 0] w1 fun e w'=>e=.returned (.tuple #[])/\Pn w' w0.heap.size w0.heap.size (.slice o l0 c0) (prT ns 0) []/\PF w0.heap.size w1 w'):=pPairs E [] [] 0 w1 F.root.1 (F.kdd 0 F.root.2) hP1 hg1 (by simp;omega)
 have CB0:Hid (∀w,Pn w w0.heap.size w0.heap.size (.slice o l0 c0) (prT ns 0) []->w0.grownBy w none->Calls Tryz.prog 33 #[.pointer (some ⟨w0.heap.size,0,none⟩),.int .i64 0,.slice none 0 0] w fun e w'=>∃v,e=.returned v/\w'.ownsRow w0.heap.size 83 4 v (belT ns 0 0).length (vCs (belT ns 0 0))/\VF w0.heap.size w w'):=fun w h1 h2=>pBelow E (prT ns 0) [] 0 [] (.slice none 0 0) w F.root.1 (F.kdd 0 F.root.2) h1 h2 (World.ownsRow_nil _ _ _ _) (by simp)
 have CH:Hid (∀(out path:List UInt8) (v:Vt) w,Pn w B B (.slice o l0 c0) out path->v.ab<=path.length->v.ky.length<=1048576->out.length+(hdT out (pathN path v.ab v.ky) v.dbl).length<=70368744177664->Calls Tryz.prog 34 #[.pointer (some ⟨B,0,none⟩),.agg #[.int .i64 (v.t:Nat),.string ⟨v.ky.toArray⟩,.bool v.dbl,.int .i64 (v.ab:Nat)]] w fun e w'=>e=.returned (.tuple #[])/\Pn w' B B (.slice o l0 c0) (out++hdT out (pathN path v.ab v.ky) v.dbl) (pathN path v.ab v.ky)/\PF B w w'):=fun out path v w h1 h2 h3 h4=>pHeader B B (.slice o l0 c0) out path v.t v.ky v.dbl v.ab w h1 h2 h3 h4
 have CP:Hid (∀(out path:List UInt8) (t:Nat) w,t < ns.length->kdAt ns t=0->Pn w B B (.slice o l0 c0) out path->w0.grownBy w none->out.length+(prT ns t).length<=70368744177664->Calls Tryz.prog 32 #[.pointer (some ⟨B,0,none⟩),.int .i64 (t:Nat)] w fun e w'=>e=.returned (.tuple #[])/\Pn w' B B (.slice o l0 c0) (out++prT ns t) path/\PF B w w'):=fun out path t w h1 h2 h3 h4 h5=>by
  have:=pPairs E out path t w h1 (F.kdd t h2) (by rw [hB];exact h3) h4 h5
  rw [hB] at this
  exact this
 have CB:Hid (∀(out path:List UInt8) (t:Nat) (td:List Vt) (tv:Value) w,t < ns.length->kdAt ns t=0->Pn w B B (.slice o l0 c0) out path->w0.grownBy w none->w.ownsRow B 83 4 tv td.length (vCs td)->td.length<=900000->Calls Tryz.prog 33 #[.pointer (some ⟨B,0,none⟩),.int .i64 (t:Nat),tv] w fun e w'=>∃v,e=.returned v/\w'.ownsRow B 83 4 v (td++belT ns t path.length).length (vCs (td++belT ns t path.length))/\VF B w w'):=fun out path t td tv w h1 h2 h3 h4 h5 h6=>by
  have:=pBelow E out path t td tv w h1 (F.kdd t h2) (by rw [hB];exact h3) h4 (by rw [hB];exact h5) h6
  rw [hB] at this
  exact this
 have HUP:Hid (∀w w',w0.grownBy w none->Below B w w'->w0.grownBy w' none):=fun w w' h1 h2=>up_gb h1 (by rw [hB];exact h2)
 have HF:Hid (Ef ns own):=F
 have HFM:Hid (fmO ns ns.length (prT ns 0) [] (belT ns 0 0)=some R):=hfm
 have HG1:Hid (w0.grownBy w1 none):=hg1
 rw [hB] at CP0 CB0
 have HW1:Hid (w0.alloc (.cells #[.slice o l0 c0,.pointer none,.slice none 0 0,.slice none 0 0] 78)=w1):=hw1
 clear hfm hP1 hbp hg1 E F hRe hl0 hw1
 go_enter Tryz.func20,Tryz.ntmps20
 go_upto_region 2 with fail
 rw [HW1.out]
 go_wp2_with (first | (go_at_call 32;refine CP0.out.mono ?_;rintro e w2 ⟨rfl,hp2,hf2⟩) | (go_at_call 33;refine (CB0.out _ hp2 (HUP.out _ _ HG1.out hf2.bel)).mono ?_;rintro e w3 ⟨tv3,rfl,hr3,hv3⟩))
 have HP3:Hid (Pn w3 B B (.slice o l0 c0) (prT ns 0) []):=hp2.keep fun b cs t fz hb ht=>hv3.oth b cs t fz hb (by rcases ht with rfl | rfl <;> decide) (by rcases ht with rfl | rfl <;> decide)
 have HG3:Hid (w0.grownBy w3 none):=HUP.out _ _ (HUP.out _ _ HG1.out hf2.bel) hv3.bel
 have HR3:Hid (w3.ownsRow B 83 4 tv3 (belT ns 0 0).length (vCs (belT ns 0 0))):=hr3
 clear hp2 hf2 hr3 hv3
 go_loopg [4] (ns.length) (fun f v4 wr=>∃(out path:List UInt8) (V:List Nat) (td:List Vt),Pn wr B B (.slice o l0 c0) out path/\wr.ownsRow B 83 4 v4 td.length (vCs td)/\w0.grownBy wr none/\Iv ns path V td/\fmO ns f out path td=some R)
 case atStart=>exact ⟨_,_,[0],belT ns 0 0,HP3.out,HR3.out,HG3.out,Iv.start HF.out,HFM.out⟩
 case round =>
  obtain ⟨out,path,V,td,hp,hr,hg,hiv,hfm⟩:=hrel
  obtain ⟨f,rfl⟩:∃f,gk=f+1:=by
   cases gk with
   | zero=>cases hfm
   | succ f=>exact ⟨f,rfl⟩
  rcases snoc_cases td with rfl | ⟨td,v,rfl⟩
  ·obtain ⟨o4,c4,rfl⟩:=own_slice hr
   rw [fmO_nil] at hfm
   obtain rfl:out=R:=by injection hfm
   have CS:Hid (Calls Tryz.prog 35 #[.pointer (some ⟨B,1,none⟩)] wr fun e w'=>e=.returned (.string ⟨out.toArray⟩)/\Below B wr w'):=bStr B B _ out path wr hp hR
   have HG:Hid (w0.grownBy wr none):=hg
   clear hp hr hg hiv hfm
   go_wp2_with (first | (go_at_call 35;refine CS.out.mono ?_))
   rintro e w' ⟨rfl,hbl⟩
   have HB':Hid (w0.grownBy w' none):=HUP.out _ _ HG.out hbl
   clear hbl
   go_wp2
   go_ret
   exact ⟨rfl,HB'.out⟩
  ·rw [fmO_snoc] at hfm
   have hlen:=hiv.len
   rw [List.length_append,List.length_singleton] at hlen
   obtain ⟨htl,htk,hky⟩:=hiv.tab v (by simp)
   have hab:=hiv.ab v (by simp)
   have hst:=hiv.step HF.out
   have hl1:=fmO_len ns _ _ _ _ _ hfm
   rw [List.length_append,List.length_append] at hl1
   rw [List.length_append,List.length_singleton] at hr
   obtain ⟨g,cap,hv4,-,-⟩:=hr.form (by omega)
   subst hv4
   have hcells:=hr.cells (g:=g) rfl
   have e0:=hcells (td.length * 4) _ (by have:=vCs_at td v 0 (by omega);simpa [vC] using this)
   have e1:=hcells (td.length * 4+1) _ (by have:=vCs_at td v 1 (by omega);simpa [vC] using this)
   have e2:=hcells (td.length * 4+2) _ (by have:=vCs_at td v 2 (by omega);simpa [vC] using this)
   have e3:=hcells (td.length * 4+3) _ (by have:=vCs_at td v 3 (by omega);simpa [vC] using this)
   rw [zero_off] at e0 e1 e2 e3
   have hcut:=own_cutS hr td.length (by omega)
   rw [vCs_take] at hcut
   have hcapI:td.length+1<=cap:=by
    rcases hr.2 with ⟨h1,-⟩ | ⟨g',cap',cur,h1,-,-,h2,-⟩
    ·cases h1
    ·injection h1 with _ _ h3
     subst h3
     exact h2
   have HST:Hid (Iv ns (pathN path v.ab v.ky) (V++[v.t]) (td++belT ns v.t (pathN path v.ab v.ky).length)/\fmO ns f (out++hdT out (pathN path v.ab v.ky) v.dbl++prT ns v.t) (pathN path v.ab v.ky) (td++belT ns v.t (pathN path v.ab v.ky).length)=some R):=⟨hst,hfm⟩
   obtain ⟨m,hm⟩:∃m,td.length=m:=⟨_,rfl⟩
   rw [hm] at e0 e1 e2 e3 hcut hcapI hlen hr ⊢
   have hmb:m<=900000:=by omega
   have hm1:((m+1:Nat):Int) - 1=(m:Int):=by omega
   have hmI:(m:Int) < ((m+1:Nat):Int):=by omega
   have hmc:(m:Int)<=(cap:Int):=by omega
   have hm0:(0:Int)<=(m:Int):=by omega
   have hmp:(0:Int) < ((m+1:Nat):Int):=by omega
   obtain ⟨K,hK⟩:∃K:ByteArray,⟨v.ky.toArray⟩=K:=⟨_,rfl⟩
   rw [hK] at e1
   have hga:wr.grownBy (wr.alloc (.cells #[.int .i64 (v.t:Nat),.string K,.bool v.dbl,.int .i64 (v.ab:Nat)] 83)) none:=World.grownBy_alloc _ _ none
   have hbx:=heap_alloc_new wr (.cells #[.int .i64 (v.t:Nat),.string K,.bool v.dbl,.int .i64 (v.ab:Nat)] 83)
   obtain ⟨wa,hwa⟩:∃W,wr.alloc (.cells #[.int .i64 (v.t:Nat),.string K,.bool v.dbl,.int .i64 (v.ab:Nat)] 83)=W:=⟨_,rfl⟩
   obtain ⟨bx,hbxe⟩:∃b,wr.heap.size=b:=⟨_,rfl⟩
   rw [hwa] at hbx hga
   rw [hbxe] at hbx
   have HWA:Hid (wr.alloc (.cells #[.int .i64 (v.t:Nat),.string K,.bool v.dbl,.int .i64 (v.ab:Nat)] 83)=wa/\wr.heap.size=bx):=⟨hwa,hbxe⟩
   have HBX:Hid (wa.heap[bx]?=some (.cells #[.int .i64 (v.t:Nat),.string K,.bool v.dbl,.int .i64 (v.ab:Nat)] 83 (0,0))):=hbx
   have HRA:Hid (wa.ownsRow B 83 4 (.slice (some ⟨g,0,none⟩) m cap) td.length (vCs td)):=by
    show World.ownsRow _ _ _ _ _ _ _
    rw [hm]
    exact own_block hcut fun g cur _ hc=>hga.block g (blk_lt hc) (by simp)
   have HGA:Hid (w0.grownBy wa none):=gb_trans hg hga
   have CHv:Hid (Calls Tryz.prog 34 #[.pointer (some ⟨B,0,none⟩),.agg #[.int .i64 (v.t:Nat),.string K,.bool v.dbl,.int .i64 (v.ab:Nat)]] wa fun e w'=>e=.returned (.tuple #[])/\Pn w' B B (.slice o l0 c0) (out++hdT out (pathN path v.ab v.ky) v.dbl) (pathN path v.ab v.ky)/\PF B wa w'):=by
    rw [<-hK]
    exact CH.out out path v wa (hp.gb hga) hab hky (by omega)
   have CPv:Hid (∀w,Pn w B B (.slice o l0 c0) (out++hdT out (pathN path v.ab v.ky) v.dbl) (pathN path v.ab v.ky)->w0.grownBy w none->Calls Tryz.prog 32 #[.pointer (some ⟨B,0,none⟩),.int .i64 (v.t:Nat)] w fun e w'=>e=.returned (.tuple #[])/\Pn w' B B (.slice o l0 c0) (out++hdT out (pathN path v.ab v.ky) v.dbl++prT ns v.t) (pathN path v.ab v.ky)/\PF B w w'):=fun w h1 h2=>CP.out _ _ v.t w htl htk h1 h2 (by rw [List.length_append];omega)
   have CBv:Hid (∀w,Pn w B B (.slice o l0 c0) (out++hdT out (pathN path v.ab v.ky) v.dbl++prT ns v.t) (pathN path v.ab v.ky)->w0.grownBy w none->w.ownsRow B 83 4 (.slice (some ⟨g,0,none⟩) m cap) td.length (vCs td)->Calls Tryz.prog 33 #[.pointer (some ⟨B,0,none⟩),.int .i64 (v.t:Nat),.slice (some ⟨g,0,none⟩) m cap] w fun e w'=>∃u,e=.returned u/\w'.ownsRow B 83 4 u (td++belT ns v.t (pathN path v.ab v.ky).length).length (vCs (td++belT ns v.t (pathN path v.ab v.ky).length))/\VF B w w'):=fun w h1 h2 h3=>CB.out _ _ v.t td _ w htl htk h1 h2 h3 (by omega)
   have b0:wa.cell? ⟨bx,0,none⟩=some (.int .i64 (v.t:Nat)):=by rw [Lib.cell_of_heap hbx];rfl
   have b1:wa.cell? ⟨bx,1,none⟩=some (.string K):=by rw [Lib.cell_of_heap hbx];rfl
   have b2:wa.cell? ⟨bx,2,none⟩=some (.bool v.dbl):=by rw [Lib.cell_of_heap hbx];rfl
   have b3:wa.cell? ⟨bx,3,none⟩=some (.int .i64 (v.ab:Nat)):=by rw [Lib.cell_of_heap hbx];rfl
   obtain ⟨vt,hvt⟩:∃x,v.t=x:=⟨_,rfl⟩
   obtain ⟨va,hva⟩:∃x,v.ab=x:=⟨_,rfl⟩
   obtain ⟨vd,hvd⟩:∃x,v.dbl=x:=⟨_,rfl⟩
   obtain ⟨P',hP'⟩:∃x,pathN path v.ab v.ky=x:=⟨_,rfl⟩
   rw [hP'] at HST CHv CPv CBv
   rw [hvt] at HST CHv CPv CBv e0 b0 HWA HBX
   rw [hvd] at HST CHv CPv CBv e2 b2 HWA HBX
   rw [hva] at CHv e3 b3 HWA HBX
   obtain ⟨O1,hO1⟩:∃x,out++hdT out P' vd=x:=⟨_,rfl⟩
   rw [hO1] at HST CHv CPv CBv
   clear hr hcells hcut hst hfm hiv hK hga hbx hwa hbxe hp hg hvt hva hvd hP' hO1 hl1 htl htk hky hab hm
   go_upto_region 8 with fail
   try rw [HWA.out.1]
   try rw [HWA.out.2]
   clear e0 e1 e2 e3
   go_wp2_with (first | (go_at_call 34;refine CHv.out.mono ?_))
   rintro e wb ⟨rfl,hpb,hfb⟩
   have hbb:=(hfb.oth _ _ _ _ HBX.out (by decide) (by decide)).trans HBX.out
   have HBB:Hid (wb.heap[bx]?=some (.cells #[.int .i64 (vt:Nat),.string K,.bool vd,.int .i64 (va:Nat)] 83 (0,0))):=hbb
   have f0:wb.cell? ⟨bx,0,none⟩=some (.int .i64 (vt:Nat)):=by rw [Lib.cell_of_heap hbb];rfl
   have HPB:Hid (Pn wb B B (.slice o l0 c0) O1 P'):=hpb
   have HGB:Hid (w0.grownBy wb none):=HUP.out _ _ HGA.out hfb.bel
   have HRB:Hid (wb.ownsRow B 83 4 (.slice (some ⟨g,0,none⟩) m cap) td.length (vCs td)):=own_block HRA.out fun g cur _ hc=>hfb.oth _ _ _ _ hc (by decide) (by decide)
   clear hpb hfb hbb b0 b1 b2 b3
   go_wp2_with (first | (go_at_call 32;refine (CPv.out _ HPB.out HGB.out).mono ?_))
   rintro e wd ⟨rfl,hpd,hfd⟩
   have hbd:=(hfd.oth _ _ _ _ HBB.out (by decide) (by decide)).trans HBB.out
   have g0:wd.cell? ⟨bx,0,none⟩=some (.int .i64 (vt:Nat)):=by rw [Lib.cell_of_heap hbd];rfl
   have HPD:Hid (Pn wd B B (.slice o l0 c0) (O1++prT ns vt) P'):=hpd
   have HGD:Hid (w0.grownBy wd none):=HUP.out _ _ HGB.out hfd.bel
   have HRD:Hid (wd.ownsRow B 83 4 (.slice (some ⟨g,0,none⟩) m cap) td.length (vCs td)):=own_block HRB.out fun g cur _ hc=>hfd.oth _ _ _ _ hc (by decide) (by decide)
   clear hpd hfd hbd f0
   go_wp2_with (first | (go_at_call 33;refine (CBv.out _ HPD.out HGD.out HRD.out).mono ?_))
   rintro e we ⟨u,rfl,hre,hve⟩
   have HPE:Hid (Pn we B B (.slice o l0 c0) (O1++prT ns vt) P'):=HPD.out.keep fun b cs t fz hb ht=>hve.oth b cs t fz hb (by rcases ht with rfl | rfl <;> decide) (by rcases ht with rfl | rfl <;> decide)
   have HGE:Hid (w0.grownBy we none):=HUP.out _ _ HGD.out hve.bel
   have HRE:Hid (we.ownsRow B 83 4 u (td++belT ns vt P'.length).length (vCs (td++belT ns vt P'.length))):=hre
   clear hre hve g0
   go_wp2
   go_roundg f
   case measure=>omega
   case rel=>exact ⟨_,_,_,_,HPE.out,HRE.out,HGE.out,HST.out.1,HST.out.2⟩
end Go.Proofs.YtbgnflcebafjjaaGreatDoor
namespace Go.Proofs.YtbgnflcebafjjaaGreatDoor
open Go.RowKit Go.Joins
set_option linter.unusedVariables false
def TxPost (M R:Nat) (s:ByteArray) (L O:Value) (now de:Nat) (g:Rs (List UInt8 × Nat)) (w:World) (e:Ending) (w':World):Prop:=(∀t j,g=.ok (t,j)->e=.returned (.string ⟨t.toArray⟩)/\Ds w' R s L O now de (.ok j))/\(∀c p,g=.error (c,p)->(∃t:List UInt8,t.length<=M/\e=.returned (.string ⟨t.toArray⟩))/\Ds w' R s L O now de (.error (c,p)))/\w.grownBy w' (some R)
theorem four_lt (l:List UInt8):∀(k i n N j:Nat),four l k i n=.ok (N,j)->N < (n+1) * 16 ^ k
 | 0,i,n,N,j,h=>by
  have h':(Except.ok (n,i):Rs (Nat × Nat))=.ok (N,j):=h
  injection h' with h'
  injection h' with h1 h2
  omega
 | k+1,i,n,N,j,h=>by
  rw [four_step] at h
  split at h
  ·cases h
  ·have:=four_lt l k _ _ N j h
   have hb:=hexV_bound (nx l i)
   have e:(16 * n+(hexV (nx l i)).toNat+1) * 16 ^ k<=(16 * (n+1)) * 16 ^ k:=Nat.mul_le_mul_right _ (by omega)
   rw [Nat.pow_succ]
   have e2:(n+1) * (16 ^ k * 16)=(16 * (n+1)) * 16 ^ k:=by rw [Nat.mul_comm (16 ^ k) 16,<-Nat.mul_assoc,Nat.mul_comm (n+1) 16]
   omega
def uFin (i:Nat):Rs (Nat × Nat)->Rs (List UInt8 × Nat)
 | .error e=>.error e
 | .ok (n,j)=>if 55296<=n/\n<=57343 then .error (2,i) else .ok (wrt n,j)
theorem esc_u (l:List UInt8) (i:Nat) (h:nx l (i+1)=117):esc l i=uFin i (four l 4 (i+2) 0):=by
 unfold esc;rw [if_pos h]
 cases four l 4 (i+2) 0 <;> rfl
theorem esc_no (l:List UInt8) (i:Nat) (h1:¬ nx l (i+1)=117) (h2:¬ nx l (i+1)=98) (h3:¬ nx l (i+1)=116) (h4:¬ nx l (i+1)=110) (h5:¬ nx l (i+1)=102) (h6:¬ nx l (i+1)=114) (h7:¬ nx l (i+1)=34) (h8:¬ nx l (i+1)=92):esc l i=.error (2,i+1):=by
 unfold esc;rw [if_neg h1,if_neg h2,if_neg h3,if_neg h4,if_neg h5,if_neg h6,if_neg h7,if_neg h8]
theorem esc_98 (l:List UInt8) (i:Nat) (h:nx l (i+1)=98):esc l i=.ok ([8],i+2):=by
 unfold esc;rw [if_neg (by rw [h];decide),if_pos h]
theorem esc_116 (l:List UInt8) (i:Nat) (h:nx l (i+1)=116):esc l i=.ok ([9],i+2):=by
 unfold esc;rw [if_neg (by rw [h];decide),if_neg (by rw [h];decide),if_pos h]
theorem esc_110 (l:List UInt8) (i:Nat) (h:nx l (i+1)=110):esc l i=.ok ([10],i+2):=by
 unfold esc;rw [if_neg (by rw [h];decide),if_neg (by rw [h];decide),if_neg (by rw [h];decide),if_pos h]
theorem esc_102 (l:List UInt8) (i:Nat) (h:nx l (i+1)=102):esc l i=.ok ([12],i+2):=by
 unfold esc;rw [if_neg (by rw [h];decide),if_neg (by rw [h];decide),if_neg (by rw [h];decide),if_neg (by rw [h];decide),if_pos h]
theorem esc_114 (l:List UInt8) (i:Nat) (h:nx l (i+1)=114):esc l i=.ok ([13],i+2):=by
 unfold esc;rw [if_neg (by rw [h];decide),if_neg (by rw [h];decide),if_neg (by rw [h];decide),if_neg (by rw [h];decide),if_neg (by rw [h];decide),if_pos h]
theorem esc_34 (l:List UInt8) (i:Nat) (h:nx l (i+1)=34):esc l i=.ok ([34],i+2):=by
 unfold esc;rw [if_neg (by rw [h];decide),if_neg (by rw [h];decide),if_neg (by rw [h];decide),if_neg (by rw [h];decide),if_neg (by rw [h];decide),if_neg (by rw [h];decide),if_pos h]
theorem esc_92 (l:List UInt8) (i:Nat) (h:nx l (i+1)=92):esc l i=.ok ([92],i+2):=by
 unfold esc;rw [if_neg (by rw [h];decide),if_neg (by rw [h];decide),if_neg (by rw [h];decide),if_neg (by rw [h];decide),if_neg (by rw [h];decide),if_neg (by rw [h];decide),if_neg (by rw [h];decide),if_pos h]
set_option maxRecDepth 100000 in
set_option maxHeartbeats 1600000 in
theorem dEsc_end (R:Nat) (s:ByteArray) (L O:Value) (now de i:Nat) (w:World) (h:Dd w R s L O now de i 0 0) (hi:i < s.size) (hs:s.size<=1048576) (he:s.size<=i+1) :
  Calls Tryz.prog 107 #[.pointer (some ⟨R,0,none⟩)] w (TxPost 3 R s L O now de (esc s.data.toList i) w):=by
 have hl:s.data.toList.length=s.size:=by simp
 have HS:Hid (Dd (w.setCell ⟨R,1,none⟩ (.int .i64 ((i:Int)+1))) R s L O now de (i+1) 0 0):=h.setI (i+1)
 have HGS:Hid (w.grownBy (w.setCell ⟨R,1,none⟩ (.int .i64 ((i:Int)+1))) (some R)):=gb_set (gb_refl w (some R)) 1 _
 obtain ⟨c0,c1,-,-,-,-,-,-,df⟩:=h.cells
 have df1:=df 1
 have HE:Hid (esc s.data.toList i=.error (2,i+1)):=by
  have e:nx s.data.toList (i+1)=-1:=nx_end _ _ (by omega)
  exact esc_no _ _ (by rw [e];decide) (by rw [e];decide) (by rw [e];decide) (by rw [e];decide) (by rw [e];decide) (by rw [e];decide) (by rw [e];decide) (by rw [e];decide)
 rw [HE.out]
 clear h df
 obtain ⟨j,hj⟩:∃j,i+1=j:=⟨_,rfl⟩
 have hjs:j<=s.size:=by omega
 have hge:decide ((s.size:Int)<=(j:Int))=true:=by simp;omega
 have hge2:(s.size:Int)<=(j:Int):=by omega
 rw [hj] at HS ⊢
 clear hj he
 go_enter Tryz.func107,Tryz.ntmps107
 go_wp2
 obtain ⟨wA,hwA⟩:∃W,w.setCell ⟨R,1,none⟩ (.int .i64 ((i:Int)+1))=W:=⟨_,rfl⟩
 rw [hwA] at HS HGS ⊢
 obtain ⟨d0,d1,-,-,-,-,-,-,dg⟩:=HS.out.cells
 have dg1:=dg 1
 clear hwA dg c0 c1 df1
 have CF:Hid (∀wx,Dd wx R s L O now de j 0 0->Calls Tryz.prog 55 #[.pointer (some ⟨R,0,none⟩),.int .i64 2,.int .i64 (j:Nat)] wx fun en w'=>en=.returned (.tuple #[])/\Dd w' R s L O now de j 2 j/\wx.grownBy w' (some R)):=fun wx hg=>dFail_yes R s L O now de j 2 j wx hg
 go_quiet (fail)
 go_wp2_with (first | (go_at_call 55;refine (CF.out _ ?_).mono ?_;exact HS.out;rintro e w2 ⟨rfl,hd2,hg2⟩))
 refine bodyPost_ret (results_tmp (t:=2) rfl _ _ _) rfl ?_
 exact ⟨fun t k hh=>(by cases hh),fun c p hh=>(by cases hh;exact ⟨⟨[],by simp,rfl⟩,by decide,j,by omega,hd2⟩),gb_two (w1:=wA) HGS.out ⟨hg2.os,hg2.tape,hg2.output,hg2.size,hg2.block⟩⟩
end Go.Proofs.YtbgnflcebafjjaaGreatDoor
