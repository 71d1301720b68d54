import Derived.Test.YtbbmbnpebiakbaaGreatDoorB13
import Derived.Deep.Cut
import Derived.Test.YtbbmbnpebiakbaaGreatDoorB11
import Derived.RangeFuncKeeps
import Derived.Shelf.SlIter.Collect
namespace Go.Proofs.YtbbmbnpebiakbaaGreatDoor
open Go.RowKit
set_option linter.unusedVariables false
theorem en_set:∀(L:List En) (vs:List Value) (h:L.length=vs.length) (p:Nat) (y:En) (v:Value),p < L.length->((((enCs L vs).set (p * 4) (.string y.nm)).set (p * 4+1) (.string y.ve)).set (p * 4+2) (.string y.dg)).set (p * 4+3) v=enCs (L.set p y) (vs.set p v)
 | [],vs,h,p,y,v,hp=>by simp at hp
 | x :: L,[],h,p,y,v,hp=>by simp at h
 | x :: L,u :: vs,h,0,y,v,hp=>by simp [enCs,enC]
 | x :: L,u :: vs,h,p+1,y,v,hp=>by
  have ih:=en_set L vs (by simpa using h) p y v (by simpa using hp)
  have e:∀M us (z:En) (t:Value),enCs (z :: M) (t :: us)=enC z t++enCs M us:=fun _ _ _ _=>rfl
  rw [List.set_cons_succ,List.set_cons_succ,e,e,<-ih]
  have hl:∀k a,(enC x u++a).set ((p+1) * 4+k)=fun z=>enC x u++a.set (p * 4+k) z:=fun k a=>by
   funext z
   rw [List.set_append_right _ _ (by show 4<=_;omega)]
   have:(p+1) * 4+k - (enC x u).length=p * 4+k:=by show (p+1) * 4+k - 4=_;omega
   rw [this]
  have h0:=hl 0
  simp only [Nat.add_zero] at h0
  rw [h0,hl 1,hl 2,hl 3]
theorem enCs_len:∀(L:List En) (vs:List Value),L.length=vs.length->(enCs L vs).length=L.length * 4
 | [],vs,h=>by simp [enCs]
 | x :: L,[],h=>by simp at h
 | x :: L,v :: vs,h=>by
  have e:enCs (x :: L) (v :: vs)=enC x v++enCs L vs:=rfl
  rw [e,List.length_append,enCs_len L vs (by simpa using h)]
  show 4+_=_
  rw [List.length_cons];omega
theorem encs_one:∀(L:List En) (vs:List Value),L.length=vs.length->(∀k (hk:k < vs.length),vs[k].oneCell'=true)->∀u ∈ enCs L vs,u.oneCell'=true
 | [],vs,h,h1,u,hu=>by simp [enCs] at hu
 | x :: L,[],h,h1,u,hu=>by simp at h
 | x :: L,v :: vs,h,h1,u,hu=>by
  have e:enCs (x :: L) (v :: vs)=enC x v++enCs L vs:=rfl
  rw [e,List.mem_append] at hu
  rcases hu with hu | hu
  ·exact enc_one x v (h1 0 (by simp)) u hu
  ·exact encs_one L vs (by simpa using h) (fun k hk=>by have:=h1 (k+1) (by simpa using hk);simpa using this) u hu
theorem own_cap {w:World} {base g n cap size:Nat} {e:TypeId} {xs:List Value} (h:w.ownsRow base e size (.slice (some ⟨g,0,none⟩) n cap) n xs):n<=cap:=by
 rcases h.2 with ⟨h1,_⟩ | ⟨g',cap',cur,h1,hb,hg,hn,_⟩
 ·cases h1
 ·cases h1;exact hn
theorem row_set {w:World} {base g n cap p:Nat} {L:List En} {vs:List Value} (h:w.ownsRow base 42 4 (.slice (some ⟨g,0,none⟩) n cap) n (enCs L vs)) (hl:L.length=vs.length) (hn:L.length=n) (hp:p < n) (y:En) (v:Value) :
  ((((w.setCell ⟨g,p * 4,none⟩ (.string y.nm)).setCell ⟨g,p * 4+1,none⟩ (.string y.ve)).setCell ⟨g,p * 4+2,none⟩ (.string y.dg)).setCell ⟨g,p * 4+3,none⟩ v).ownsRow base 42 4 (.slice (some ⟨g,0,none⟩) n cap) n (enCs (L.set p y) (vs.set p v)):=by
 rw [<-en_set L vs hl p y v (by omega)]
 exact hown_set (hown_set (hown_set (hown_set h _ _ (by omega)) _ _ (by omega)) _ _ (by omega)) _ _ (by omega)
theorem gb_setF {w W:World} {g:Nat} (h:w.grownBy W none) (hg:w.heap.size<=g) (o:Nat) (v:Value):w.grownBy (W.setCell ⟨g,o,none⟩ v) none:=bel_gb (below_set ⟨h.os,h.tape,h.output,h.size,fun k hk=>h.block k hk (by simp)⟩ hg o v)
theorem row_gb {w W:World} {g:Nat} (h:w.grownBy W none) (hg:w.heap.size<=g) (o:Nat) (a b c d:Value):w.grownBy ((((W.setCell ⟨g,o,none⟩ a).setCell ⟨g,o+1,none⟩ b).setCell ⟨g,o+2,none⟩ c).setCell ⟨g,o+3,none⟩ d) none:=gb_setF (gb_setF (gb_setF (gb_setF h hg _ _) hg _ _) hg _ _) hg _ _
theorem own_ens {M:List En} {w:World} {base n:Nat} {v:Value} {vs:List Value} (hl:vs.length=M.length) (hn:M.length=n) (ho:w.ownsRow base 42 4 v n (enCs M vs)) (ht:∀j (hj:j < M.length),TxS w (vs[j]'(by omega)) M[j].nd):EnS w v M:=by
 subst hn
 rcases ho.2 with ⟨h1,h2⟩ | ⟨g,cap,cur,hv,hb,hc,h3,h4,h5,h6⟩
 ·exact Or.inl ⟨h1,List.length_eq_zero_iff.1 h2⟩
 ·refine Or.inr ⟨⟨g,0,none⟩,cap,hv,h3,fun i hi=>?_⟩
  have h':=ho
  rw [hv] at h'
  have key:∀k u,0 < k->(enC M[i] (vs[i]'(by omega)))[k]?=some u->w.cell? ⟨((⟨g,0,none⟩:Addr).add (i * 4)).block,((⟨g,0,none⟩:Addr).add (i * 4)).off+k,none⟩=some u:=fun k u hk hu=>by
   have:=h'.cells (g:=g) rfl (i * 4+k) u (en_get M vs hl.symm i hi k u hu)
   rw [hadd_off _ _ k hk] at this
   exact this
  have k0:=h'.cells (g:=g) rfl (i * 4+0) _ (en_get M vs hl.symm i hi 0 _ rfl)
  exact ⟨by simpa using k0,key 1 _ (by omega) rfl,key 2 _ (by omega) rfl,_,key 3 _ (by omega) rfl,ht i hi⟩
theorem ens_vs {w:World} {a:Addr}:∀(L:List En),(∀i (hi:i < L.length),EnAt w (a.add (i * 4)) L[i])->∃vs:List Value,∃hl:vs.length=L.length,(∀q u,(enCs L vs)[q]?=some u->w.cell? (a.add q)=some u)/\∀k (hk:k < L.length),TxS w (vs[k]'(by omega)) L[k].nd:=by
 intro L h
 have hS:∀i,i < L.length->∃v:Value,∀hj:i < L.length,w.cell? ⟨(a.add (i * 4)).block,(a.add (i * 4)).off+3,none⟩=some v/\TxS w v L[i].nd:=fun i hi=>by
  obtain ⟨-,-,-,v,h3,h4⟩:=h i hi
  exact ⟨v,fun _=>⟨h3,h4⟩⟩
 obtain ⟨S,hS⟩:∃S:Nat->Value,∀i,i < L.length->∀hj:i < L.length,w.cell? ⟨(a.add (i * 4)).block,(a.add (i * 4)).off+3,none⟩=some (S i)/\TxS w (S i) L[i].nd:=by
  refine ⟨fun i=>if h:i < L.length then Classical.choose (hS i h) else .nilFunc,fun i hi=>?_⟩
  simp only [dif_pos hi]
  exact Classical.choose_spec (hS i hi)
 have hlen:((List.range L.length).map S).length=L.length:=by simp
 refine ⟨(List.range L.length).map S,hlen,fun q u hu=>?_,fun k hk=>?_⟩
 ·have hq:q < L.length * 4:=by
   have:=(List.getElem?_eq_some_iff.1 hu).1
   rwa [enCs_len L _ hlen.symm] at this
  obtain ⟨i,k,hk,rfl⟩:∃i k,k < 4/\q=i * 4+k:=⟨q / 4,q % 4,Nat.mod_lt _ (by decide),by omega⟩
  have hi:i < L.length:=by omega
  obtain ⟨e0,e1,e2,-,-,-⟩:=h i hi
  have e3:=(hS i hi hi).1
  have hv:((List.range L.length).map S)[i]'(by omega)=S i:=by simp
  have key:∀k u,(enC L[i] (S i))[k]?=some u->(enCs L ((List.range L.length).map S))[i * 4+k]?=some u:=fun k u hu=>en_get L _ hlen.symm i hi k u (by rw [hv];exact hu)
  match k,hk,hu with
  | 0,_,hu =>
   rw [key 0 _ rfl] at hu
   injection hu with hu
   rw [<-hu];exact e0
  | 1,_,hu =>
   rw [key 1 _ rfl] at hu
   injection hu with hu
   rw [<-hu,hadd_off _ _ 1 (by omega)];exact e1
  | 2,_,hu =>
   rw [key 2 _ rfl] at hu
   injection hu with hu
   rw [<-hu,hadd_off _ _ 2 (by omega)];exact e2
  | 3,_,hu =>
   rw [key 3 _ rfl] at hu
   injection hu with hu
   rw [<-hu,hadd_off _ _ 3 (by omega)];exact e3
 ·have hv:((List.range L.length).map S)[k]'(by omega)=S k:=by simp
  rw [hv]
  exact (hS k hk hk).2
set_option maxRecDepth 100000 in
set_option maxHeartbeats 400000 in
theorem swapped_at (a:Addr) (cap:Nat) (L:List En) (i j:Nat) (w:World) (hL:L.length<=1048576) (hcap:L.length<=cap) (h:∀i (hi:i < L.length),EnAt w (a.add (i * 4)) L[i]) (hi:i < L.length) (hj:j < L.length) :
  Calls Tryz.prog 13 #[.slice (some a) L.length cap,.int .i64 i,.int .i64 j] w fun e w'=>∃v,e=.returned v/\EnS w' v ((L.set i L[j]).set j L[i])/\w.grownBy w' none:=by
 obtain ⟨vs,hvl,hnews,htx⟩:∃vs:List Value,∃hl:vs.length=L.length,(∀q u,(enCs L vs)[q]?=some u->w.cell? (a.add q)=some u)/\∀k (hk:k < L.length),TxS w (vs[k]'(by omega)) L[k].nd:=ens_vs L h
 have HNE:Hid (∀q u,(enCs L vs)[q]?=some u->w.cell? (a.add q)=some u):=hnews
 have HTX:Hid (∀k (hk:k < L.length),TxS w (vs[k]'(by omega)) L[k].nd):=htx
 have HVL:Hid (vs.length=L.length):=hvl
 have hlen:(enCs L vs).length=L.length * 4:=enCs_len L vs hvl.symm
 have hone:∀u ∈ enCs L vs,u.oneCell'=true:=encs_one L vs hvl.symm (fun k hk=>by
  obtain ⟨o,c,e⟩:=txs_slice (htx k (by omega))
  rw [e];rfl)
 have hinfo:=infoRn
 obtain ⟨i0,hi0,hii⟩:=Option.map_eq_some_iff.1 hinfo
 simp only [Prod.mk.injEq] at hii
 obtain ⟨hz0,hz1,hzb⟩:=hii
 obtain ⟨oi,ci,ei⟩:=txs_slice (htx i hi)
 obtain ⟨oj,cj,ej⟩:=txs_slice (htx j hj)
 obtain ⟨xi,hxi⟩:∃x,L[i]=x:=⟨_,rfl⟩
 obtain ⟨xj,hxj⟩:∃x,L[j]=x:=⟨_,rfl⟩
 rw [hxi] at ei ⊢
 rw [hxj] at ej ⊢
 obtain ⟨ni,hni⟩:∃n,xi.nd.length=n:=⟨_,rfl⟩
 obtain ⟨nj,hnj⟩:∃n,xj.nd.length=n:=⟨_,rfl⟩
 rw [hni] at ei
 rw [hnj] at ej
 have HCI:Hid (∀k u,(enC xi (.slice oi ni ci))[k]?=some u->(enCs L vs)[i * 4+k]?=some u):=fun k u hu=>en_get L vs hvl.symm i hi k u (by rw [ei,hxi];exact hu)
 have HCJ:Hid (∀k u,(enC xj (.slice oj nj cj))[k]?=some u->(enCs L vs)[j * 4+k]?=some u):=fun k u hu=>en_get L vs hvl.symm j hj k u (by rw [ej,hxj];exact hu)
 have HEI:Hid (vs[i]'(by omega)=.slice oi ni ci/\L[i]=xi):=⟨ei,hxi⟩
 have HEJ:Hid (vs[j]'(by omega)=.slice oj nj cj/\L[j]=xj):=⟨ej,hxj⟩
 obtain ⟨n,hn⟩:∃n,L.length=n:=⟨_,rfl⟩
 have HN:Hid (L.length=n):=hn
 rw [hn] at hlen hL hcap ⊢
 have hiI:(i:Int) < (n:Int):=by omega
 have hjI:(j:Int) < (n:Int):=by omega
 have hi0':(0:Int)<=(i:Int):=by omega
 have hj0':(0:Int)<=(j:Int):=by omega
 have hin:i < n:=by omega
 have hjn:j < n:=by omega
 clear h hinfo hn hnews htx ei ej hxi hxj hni hnj
 go_enter Tryz.func13,Tryz.ntmps13
 go_upto_region 5 with (first | (at_builtin;refine wpList_append_lies _ rfl _ _ 22 rfl w.heap.size 42 i0 _ 4 72 Tryz.underlying22 hi0 hz0 hz1 hzb rfl (by decide) (.slice none 0 0) 0 [] rfl (World.ownsRow_nil _ _ _ _) a n cap (enCs L vs) rfl hlen HNE.out hone (by omega) (by unfold maxLen;omega) (by omega) (Nat.le_refl _) _ rfl ?_;intro g cap1 w1 hown hgrow hat hlt;have f0:=hown.cells (g:=g) rfl _ _ (HCI.out 0 _ rfl);have f1:=hown.cells (g:=g) rfl _ _ (HCI.out 1 _ rfl);have f2:=hown.cells (g:=g) rfl _ _ (HCI.out 2 _ rfl);have f3:=hown.cells (g:=g) rfl _ _ (HCI.out 3 _ rfl);have g0:=hown.cells (g:=g) rfl _ _ (HCJ.out 0 _ rfl);have g1:=hown.cells (g:=g) rfl _ _ (HCJ.out 1 _ rfl);have g2:=hown.cells (g:=g) rfl _ _ (HCJ.out 2 _ rfl);have g3:=hown.cells (g:=g) rfl _ _ (HCJ.out 3 _ rfl);rw [hzero_off] at f0 f1 f2 f3 g0 g1 g2 g3;rw [Nat.add_zero] at f0 g0;have hcp:n<=cap1:=(by have:=own_cap hown;omega);have hfz:=hown_f hown))
 obtain ⟨W2,hW2⟩:∃W,w1.alloc (.cells #[.string xi.nm,.string xi.ve,.string xi.dg,.slice oi ni ci] 42)=W:=⟨_,rfl⟩
 have HA2:Hid (W2.heap[w1.heap.size]?=some (.cells #[.string xi.nm,.string xi.ve,.string xi.dg,.slice oi ni ci] 42 (0,0))):=by rw [<-hW2];exact heap_alloc_new w1 _
 have hown2:W2.ownsRow w.heap.size 42 4 (.slice (some ⟨g,0,none⟩) n cap1) n (enCs L vs):=by
  rw [<-hW2]
  have:=hown.alloc (.cells #[.string xi.nm,.string xi.ve,.string xi.dg,.slice oi ni ci] 42)
  simpa using this
 have HG2:Hid (w.grownBy W2 none):=by rw [<-hW2];exact gb_alloc hgrow _
 have HOW:Hid (W2.ownsRow w.heap.size 42 4 (.slice (some ⟨g,0,none⟩) n cap1) n (enCs L vs)):=hown2
 obtain ⟨A,hA⟩:∃A,w1.heap.size=A:=⟨_,rfl⟩
 have HAg:Hid (g < A/\W2.heap.size=A+1):=⟨by rw [<-hA];exact hlt,by rw [<-hW2,World.size_alloc,hA]⟩
 rw [hA] at HA2
 rw [hW2,hA]
 clear f0 f1 f2 f3 g0 g1 g2 g3 hfz hown hgrow hat hW2 hA
 have f0:=hown2.cells (g:=g) rfl _ _ (HCI.out 0 _ rfl);have f1:=hown2.cells (g:=g) rfl _ _ (HCI.out 1 _ rfl);have f2:=hown2.cells (g:=g) rfl _ _ (HCI.out 2 _ rfl);have f3:=hown2.cells (g:=g) rfl _ _ (HCI.out 3 _ rfl)
 have g0:=hown2.cells (g:=g) rfl _ _ (HCJ.out 0 _ rfl);have g1:=hown2.cells (g:=g) rfl _ _ (HCJ.out 1 _ rfl);have g2:=hown2.cells (g:=g) rfl _ _ (HCJ.out 2 _ rfl);have g3:=hown2.cells (g:=g) rfl _ _ (HCJ.out 3 _ rfl)
 rw [hzero_off] at f0 f1 f2 f3 g0 g1 g2 g3
 rw [Nat.add_zero] at f0 g0
 have hfz:=hown_f hown2
 clear hown2
 go_upto_region 6 with fail
 have HGw:Hid (w.heap.size<=g):=(HOW.out.lt g rfl).1
 have HO3:=row_set HOW.out HVL.out.symm HN.out hin xj (.slice oj nj cj)
 have HG3:=row_gb HG2.out HGw.out (i * 4) (.string xj.nm) (.string xj.ve) (.string xj.dg) (.slice oj nj cj)
 obtain ⟨W3,hW3⟩:∃W,((((W2.setCell ⟨g,i * 4,none⟩ (.string xj.nm)).setCell ⟨g,i * 4+1,none⟩ (.string xj.ve)).setCell ⟨g,i * 4+2,none⟩ (.string xj.dg)).setCell ⟨g,i * 4+3,none⟩ (.slice oj nj cj))=W:=⟨_,rfl⟩
 have HA3:W3.heap[A]?=some (.cells #[.string xi.nm,.string xi.ve,.string xi.dg,.slice oi ni ci] 42 (0,0)):=by
  have hne:¬ A=g:=by have:=HAg.out;omega
  rw [<-hW3,heap_setCell_other _ _ A _ (by simp;omega),heap_setCell_other _ _ A _ (by simp;omega),heap_setCell_other _ _ A _ (by simp;omega),heap_setCell_other _ _ A _ (by simp;omega)]
  exact HA2.out
 rw [hW3] at HO3 HG3 ⊢
 have HOW3:Hid (W3.ownsRow w.heap.size 42 4 (.slice (some ⟨g,0,none⟩) n cap1) n (enCs (L.set i xj) (vs.set i (.slice oj nj cj)))):=HO3
 have HGG3:Hid (w.grownBy W3 none):=HG3
 clear f0 f1 f2 f3 g0 g1 g2 g3 hfz hW3 HG3
 obtain ⟨c0,c1,c2,c3⟩:=en_block HA3
 have hl3:(L.set i xj).length=(vs.set i (.slice oj nj cj)).length:=by rw [List.length_set,List.length_set];exact HVL.out.symm
 have hj3:j < (L.set i xj).length:=by rw [List.length_set];exact hj
 have g0:=HO3.cells (g:=g) rfl _ _ (en_get _ _ hl3 j hj3 0 _ rfl)
 have g1:=HO3.cells (g:=g) rfl _ _ (en_get _ _ hl3 j hj3 1 _ rfl)
 have g2:=HO3.cells (g:=g) rfl _ _ (en_get _ _ hl3 j hj3 2 _ rfl)
 have g3:=HO3.cells (g:=g) rfl _ _ (en_get _ _ hl3 j hj3 3 _ rfl)
 rw [hzero_off] at g0 g1 g2 g3
 rw [Nat.add_zero] at g0
 have hfz:=hown_f HO3
 obtain ⟨z0,y0⟩:∃t,W3.cell? ⟨g,j * 4,none⟩=some t:=⟨_,g0⟩
 obtain ⟨z1,y1⟩:∃t,W3.cell? ⟨g,j * 4+1,none⟩=some t:=⟨_,g1⟩
 obtain ⟨z2,y2⟩:∃t,W3.cell? ⟨g,j * 4+2,none⟩=some t:=⟨_,g2⟩
 obtain ⟨z3,y3⟩:∃t,W3.cell? ⟨g,j * 4+3,none⟩=some t:=⟨_,g3⟩
 clear HO3 HA3 g0 g1 g2 g3 hl3 hj3
 go_upto_region 7 with fail
 have HO4:=row_set HOW3.out (by rw [List.length_set,List.length_set];exact HVL.out.symm) (by rw [List.length_set];exact HN.out) hjn xi (.slice oi ni ci)
 have HG4:=row_gb HGG3.out HGw.out (j * 4) (.string xi.nm) (.string xi.ve) (.string xi.dg) (.slice oi ni ci)
 obtain ⟨W4,hW4⟩:∃W,((((W3.setCell ⟨g,j * 4,none⟩ (.string xi.nm)).setCell ⟨g,j * 4+1,none⟩ (.string xi.ve)).setCell ⟨g,j * 4+2,none⟩ (.string xi.dg)).setCell ⟨g,j * 4+3,none⟩ (.slice oi ni ci))=W:=⟨_,rfl⟩
 rw [hW4] at HO4 HG4 ⊢
 have HF:Hid (EnS W4 (.slice (some ⟨g,0,none⟩) n cap1) ((L.set i xj).set j xi)):=by
  refine own_ens (by simp only [List.length_set];exact HVL.out) (by simp only [List.length_set];exact HN.out) HO4 (fun k hk=>?_)
  have hk':k < L.length:=by simpa using hk
  by_cases hkj:j=k
  ·subst hkj
   simp only [List.getElem_set_self]
   have:=HTX.out i hi
   rw [HEI.out.1,HEI.out.2] at this
   exact this.grow HG4
  ·rw [List.getElem_set_ne hkj,List.getElem_set_ne hkj]
   by_cases hki:i=k
   ·subst hki
    simp only [List.getElem_set_self]
    have:=HTX.out j hj
    rw [HEJ.out.1,HEJ.out.2] at this
    exact this.grow HG4
   ·rw [List.getElem_set_ne hki,List.getElem_set_ne hki]
    exact (HTX.out k hk').grow HG4
 have HGF:Hid (w.grownBy W4 none):=HG4
 clear HO4 HG4 hW4 y0 y1 y2 y3 c0 c1 c2 c3 hfz
 go_wp2
 refine bodyPost_ret (results_tmp (t:=6) rfl _ _ _) rfl ⟨_,rfl,HF.out,HGF.out⟩
end Go.Proofs.YtbbmbnpebiakbaaGreatDoor
namespace Go.Proofs.YtbbmbnpebiakbaaGreatDoor
open Go.RowKit Go.Maps Go.Sort Go.Shelf
set_option linter.unusedVariables false
attribute [local go_sem] Oper.semAt_some
theorem range_in {P:Program} {n:Nat} {g:Operand} {ps:Array Tmp} {assign body:Code} {Q:Exit->Act->World->Prop} {a:Act} {w:World} {gf:Nat} {lb:Array Value}
  (hg:a.eval g=.func (.func gf) #[] lb) (eg:∀args w,(callFunc gf args).run P w=.ok (.enter gf args) w)
  (h:∀(r:Loop) (W4:World),r.state=.ready->r.pending=none->r.params=ps->r.assign=assign->r.body=body->r.tmps=a.tmps->(w.alloc (.deferred (some []))).alloc (.loop r)=W4 →
   CallsIn Fence.wide (n - 1) P gf (#[.func (.yield (w.heap.size+1)) #[] #[]]++lb) W4 (rangePost Fence.wide n P (w.heap.size+1) Q { a with defers:=[{ target:=.collected w.heap.size,args:=#[] }]++a.defers })) :
  (Code.rangeFunc g ps assign body).wpIn Fence.wide n P Q a w:=by
 refine wpIn_rangeFunc ?_
 intro fn hfn
 obtain ⟨r,hr⟩:∃r:Loop,r={ state:=.ready,pending:=none,fn:=fn,tmps:=a.tmps,params:=ps,assign:=assign,body:=body,defers:=w.heap.size }:=⟨_,rfl⟩
 obtain ⟨W1,hW1⟩:∃W1,(w.alloc (.deferred (some []))).alloc (.loop r)=W1:=⟨_,rfl⟩
 have hc:=h r W1 (by rw [hr]) (by rw [hr]) (by rw [hr]) (by rw [hr]) (by rw [hr]) (by rw [hr]) hW1
 have e1:(Instr.enterLoop fn a.tmps ps assign body Fence.wide.round).run P w=.ok (w.heap.size+1,[{ target:=.collected w.heap.size,args:=#[] }]) W1:=by
  rw [<-hW1,hr,show Fence.wide.round=none from rfl]
  exact run_enterLoop_outer _ _ _ _ _
 have e2:(resolve a.eval (rangeCall g (w.heap.size+1)) 0).run P W1=.ok { target:=.fn (.func gf) lb,args:=#[.func (.yield (w.heap.size+1)) #[] #[]] } W1:=by
  simp only [resolve,hg]
  simp [go_sem]
 have e3:(invoke (.fn (.func gf) lb) #[.func (.yield (w.heap.size+1)) #[] #[]]).run P W1=.ok (.enter gf (#[.func (.yield (w.heap.size+1)) #[] #[]]++lb)) W1:=by
  simp [invoke,go_sem,eg]
 have e4:Fence.wide.depth.isSome=true->1<=n:=by
  intro hd
  simp [Fence.wide] at hd
 clear h hr
 refine ⟨w.heap.size+1,[{ target:=.collected w.heap.size,args:=#[] }],W1,{ target:=.fn (.func gf) lb,args:=#[.func (.yield (w.heap.size+1)) #[] #[]] },W1,gf,#[.func (.yield (w.heap.size+1)) #[] #[]]++lb,W1,e1,?_⟩
 refine ⟨e2,?_⟩
 refine ⟨fun _ _=>trivial,?_⟩
 refine ⟨e3,?_⟩
 refine ⟨e4,?_⟩
 exact hc
theorem loop_back (r:Loop) (h1:r.state=.ready) (h2:r.pending=none):({ ({ r with state:=.busy }:Loop) with state:=if (none:Option Code).isNone then .ready else .done,pending:=none }:Loop)=r:=by
 cases r
 simp at h1 h2
 simp [h1,h2]
theorem yield_in {P:Program} {n l:Nat} {r:Loop} {args:Array Value} {W1:World} {R:Ending->World->Prop} (hl:W1.heap[l]?=some (.loop r)) (hps:args.size=r.params.size)
  (h:r.assign.wpIn (Fence.wide.inRound l) n P (Exit.then (fun a₁ w₁=>∃w₂,(Instr.beginRound l).run P w₁=.ok () w₂/\r.body.wpIn (Fence.wide.inRound l) n P (roundPost P l R) a₁ w₂) (fun _ _ _=>False))
   { tmps:=(r.params.zip args).foldl (fun tmps (t,a)=>tmps.setIfInBounds t a) r.tmps,defers:=[] } W1) :
  YieldAt Fence.wide n P l args W1 R:=⟨_,_,_,_,run_yield hl hps,roundIn_of_wpIn trivial h⟩
theorem valS_any (o:Option Addr) (n c:Nat) (w:World):Calls Tryz.prog 60 #[.slice o n c] w fun e w'=>e=.returned (.func (.func 82) #[] #[.pointer (some ⟨w.heap.size,0,none⟩)])/\w'=w.alloc (.cells #[.slice o n c] 40):=by
 go_enter Tryz.func60,Tryz.ntmps60
 go_wp2
 go_ret
 exact ⟨rfl,rfl⟩
set_option maxRecDepth 100000 in
set_option maxHeartbeats 3200000 in
theorem iterS (n l bm:Nat) (hn:1<=n) (o:Option Addr) (c:Nat) (L:List ByteArray) (hL:L.length<=1048576) (J:List ByteArray->World->Prop)
  (hc:∀pre W,J pre W->W.cell? ⟨bm,0,none⟩=some (.slice o L.length c)/\TxS W (.slice o L.length c) L)
  (hY:∀pre x W,J pre W->pre.length < L.length->YieldAt Fence.wide (n - 1) Tryz.prog l #[.string x] W fun e W'=>e=.returned (.bool true)/\J (pre++[x]) W') (W:World) (h0:J [] W) :
  CallsIn Fence.wide n Tryz.prog 82 #[.func (.yield l) #[] #[],.pointer (some ⟨bm,0,none⟩)] W fun e W'=>(∃v,e=.returned v)/\J L W':=by
 refine callsIn_of_wp Tryz.func82 rfl trivial ?_ rfl
 simp only [Tryz.ntmps82,List.size_toArray,List.length_cons,List.length_nil,Nat.reduceAdd,Nat.reduceSub,Array.replicate_succ,Array.replicate_zero,List.push_toArray,List.append_toArray,List.nil_append,List.cons_append]
 obtain ⟨m0,-⟩:=hc [] W h0
 gi_wp2
 clear m0
 gi_loopw [7] (fun vi wr=>∃i:Nat,vi=.int .i64 i/\i<=L.length/\J (L.take i) wr) (fun vi _=>L.length - (intOf vi).toNat)
 case atStart=>exact ⟨0,rfl,Nat.zero_le _,h0⟩
 case round =>
  obtain ⟨i,rfl,hi,hJ⟩:=hrel
  have HJ:Hid (J (L.take i) wr):=hJ
  by_cases hlt:i < L.length
  ·obtain ⟨m1,m2⟩:=hc _ _ hJ
   obtain ⟨a,rfl,hcv,hat⟩:=txs_at m2 hlt
   have e0:=hat i hlt
   obtain ⟨x,hx⟩:∃x,L[i]=x:=⟨_,rfl⟩
   rw [hx] at e0
   obtain ⟨fn,tmps,assign,body,hy,hR⟩:=hY (L.take i) x wr hJ (by simp;omega)
   have HTK:Hid (L.take i++[x]=L.take (i+1)):=by
    show _=_
    rw [List.take_succ_eq_append_getElem hlt,hx]
   clear m1 m2 hat hx hJ
   gi_wp2
   refine hR.mono ?_
   rintro e W3 ⟨rfl,hJ3⟩
   have HJ3:Hid (J (L.take (i+1)) W3):=by show J _ _;rw [<-HTK.out];exact hJ3
   clear hJ3
   gi_wp2
   exact ⟨⟨i+1,by go_num,by omega,HJ3.out⟩,by simp [intOf];omega⟩
  ·have hil:i=L.length:=by omega
   have HJ3:Hid (J L wr):=by
    rw [hil,List.take_length] at hJ
    exact hJ
   clear hJ hil hi
   gi_wp2
   go_end0
   exact ⟨⟨_,rfl⟩,HJ3.out⟩
theorem gb_put (W:World) (l:Nat) (o:Obj):W.grownBy (W.putObj l o) (some l) :=
 ⟨rfl,rfl,rfl,by simp,fun k _ hk=>World.putObj_heap_other (fun e=>hk (by rw [e]))⟩
set_option maxRecDepth 100000 in
set_option maxHeartbeats 6400000 in
theorem appS (bm:Nat) (o:Option Addr) (c:Nat) (L:List ByteArray) (hL:L.length<=1048576) (w:World) (hbm:w.heap[bm]?=some (.cells #[.slice o L.length c] 40 (0,0))) (htx:TxS w (.slice o L.length c) L) :
  CallsIn Fence.wide 4 Tryz.prog 66 #[.slice none 0 0,.func (.func 82) #[] #[.pointer (some ⟨bm,0,none⟩)]] w fun e w'=>∃v,e=.returned v/\w'.ownsRow w.heap.size 9 1 v L.length (L.map Value.string)/\Below w.heap.size w w':=by
 have hinfo2:=infoTx
 obtain ⟨j0,hj0,hjj⟩:=Option.map_eq_some_iff.1 hinfo2
 simp only [Prod.mk.injEq] at hjj
 obtain ⟨hy0,hy1,hyb⟩:=hjj
 clear hinfo2
 have HBM:Hid (w.heap[bm]?=some (.cells #[.slice o L.length c] 40 (0,0))/\TxS w (.slice o L.length c) L):=⟨hbm,htx⟩
 have hbl:bm < w.heap.size:=(Array.getElem?_eq_some_iff.1 hbm).1
 clear hbm htx
 refine callsIn_of_wp_marks Tryz.func66 rfl trivial ?_ rfl
 simp only [Tryz.ntmps66,List.size_toArray,List.length_cons,List.length_nil,Nat.reduceAdd,Nat.reduceSub,Array.replicate_succ,Array.replicate_zero,List.push_toArray,List.append_toArray,List.nil_append,List.cons_append]
 gi_wp2
 refine range_in (gf:=82) (lb:=#[.pointer (some ⟨bm,0,none⟩)]) rfl (enters_of Tryz.func82 (by kernel_rfl) rfl) ?_
 intro r W4 hr1 hr2 hr3 hr4 hr5 hr6 hW4
 obtain ⟨B,hB⟩:∃B,w.heap.size=B:=⟨_,rfl⟩
 have hs1:(w.alloc (.cells #[.slice none 0 0] 40)).heap.size=B+1:=by rw [World.size_alloc,hB]
 rw [hs1]
 have q0:W4.heap[B]?=some (.cells #[.slice none 0 0] 40 (0,0)):=by
  rw [<-hW4,Below.heap_alloc _ _ _ (by simp;omega),Below.heap_alloc _ _ _ (by simp;omega),<-hB]
  exact heap_alloc_new w _
 have qd:W4.heap[B+1]?=some (.deferred (some [])):=by
  rw [<-hW4,Below.heap_alloc _ _ _ (by simp;omega),<-hs1]
  exact heap_alloc_new _ _
 have ql:W4.heap[B+2]?=some (.loop r):=by
  rw [<-hW4]
  have:=heap_alloc_new ((w.alloc (.cells #[.slice none 0 0] 40)).alloc (.deferred (some []))) (.loop r)
  rw [World.size_alloc,hs1] at this
  exact this
 have b4:Below w.heap.size w W4:=by
  rw [<-hW4]
  exact (((Below.refl _ _).alloc (Nat.le_refl _) _).alloc (by simp) _).alloc (by simp;omega) _
 have HB:Hid (w.heap.size=B):=hB
 clear hW4 hs1
 have hbB:bm < B:=by omega
 have hcl:∀W,Below w.heap.size w W->W.cell? ⟨bm,0,none⟩=some (.slice o L.length c)/\TxS W (.slice o L.length c) L:=fun W hb=>by
  refine ⟨?_,HBM.out.2.grow (bel_gb hb)⟩
  rw [Lib.cell_of_heap ((hb.block bm hbl).trans HBM.out.1)]
  rfl
 refine (iterS 3 (B+2) bm (by omega) o c L hL (fun pre W=>(∃v,W.heap[B]?=some (.cells #[v] 40 (0,0))/\W.ownsRow w.heap.size 9 1 v pre.length (pre.map Value.string))/\W.heap[B+2]?=some (.loop r)/\W.heap[B+1]?=some (.deferred (some []))/\Below w.heap.size w W)
  (fun pre W h=>hcl W h.2.2.2) ?yl W4 ⟨⟨_,q0,World.ownsRow_nil _ _ _ _⟩,ql,qd,b4⟩).mono ?fin
 case fin =>
  rintro e W5 ⟨⟨v,rfl⟩,⟨v5,qv,qr⟩,q2,q3,q4⟩
  obtain ⟨W6,hW6⟩:∃W6,W5.putObj (B+2) (Obj.loop { r with state:=.exhausted })=W6:=⟨_,rfl⟩
  have hel:=run_endLoop (P:=Tryz.prog) q2 (by rw [hr1];simp)
  rw [hW6,hr2] at hel
  refine ⟨none,W6,hel,?_⟩
  clear hel
  have p1:W6.heap[B]?=some (.cells #[v5] 40 (0,0)):=by rw [<-hW6];exact (World.putObj_heap_other (by omega)).trans qv
  have p3:W6.heap[B+1]?=some (.deferred (some [])):=by rw [<-hW6];exact (World.putObj_heap_other (by omega)).trans q3
  have pg:W5.grownBy W6 (some (B+2)):=by rw [<-hW6];exact gb_put _ _ _
  have pr:W6.ownsRow w.heap.size 9 1 v5 L.length (L.map Value.string):=qr.kept pg (ownsRow_ne_a qr q2 (fun cur e=>by cases e))
  have p4:Below w.heap.size w W6:=q4.grown pg q4.size (fun k e=>by cases e;omega)
  obtain ⟨pc,pf⟩:=cell_of_box_a p1
  have HPR:Hid (W6.ownsRow w.heap.size 9 1 v5 L.length (L.map Value.string)):=pr
  have hpb:=HB.out
  clear hW6 qv qr q2 q3 q4 hr4 hr5 hr6 q0 qd ql b4 pg pr
  try rw [hpb]
  simp only [List.cons_append,List.nil_append]
  gi_wp2
  refine ⟨by simp,.inl ⟨_,_,rfl,run_takeDeferred p3,?_⟩⟩
  refine ⟨_,results_tmp rfl _ _ _,?_⟩
  exact ⟨v5,rfl,HPR.out.kept (gb_put _ _ _) (ownsRow_ne_a HPR.out p3 (fun cur e=>by cases e)),p4.grown (gb_put _ _ _) p4.size (fun k e=>by cases e;omega)⟩
 case yl =>
  rintro pre x W5 ⟨⟨v5,qv,qr⟩,q2,q3,q4⟩ hlen
  refine yield_in q2 (by rw [hr3];rfl) ?_
  rw [hr3,hr4,hr5,hr6]
  obtain ⟨W6,hW6⟩:∃W6,W5.putObj (B+2) (Obj.loop { r with state:=.busy })=W6:=⟨_,rfl⟩
  have hbr:=run_beginRound (P:=Tryz.prog) q2 hr1
  rw [hW6] at hbr
  have l2:B+2 < W5.heap.size:=(Array.getElem?_eq_some_iff.1 q2).1
  have pg:W5.grownBy W6 (some (B+2)):=by rw [<-hW6];exact gb_put _ _ _
  have p1:W6.heap[B]?=some (.cells #[v5] 40 (0,0)):=by rw [<-hW6];exact (World.putObj_heap_other (by omega)).trans qv
  have p2:W6.heap[B+2]?=some (.loop { r with state:=.busy }):=by rw [<-hW6];exact World.putObj_heap_same l2
  have p3:W6.heap[B+1]?=some (.deferred (some [])):=by rw [<-hW6];exact (World.putObj_heap_other (by omega)).trans q3
  have pr:W6.ownsRow w.heap.size 9 1 v5 pre.length (pre.map Value.string):=qr.kept pg (ownsRow_ne_a qr q2 (fun cur e=>by cases e))
  have p4:Below w.heap.size w W6:=q4.grown pg q4.size (fun k e=>by cases e;omega)
  obtain ⟨pc,pf⟩:=cell_of_box_a p1
  have hz6:=p4.size
  have hB6:B < W6.heap.size:=(Array.getElem?_eq_some_iff.1 p1).1
  have hD6:B+1 < W6.heap.size:=(Array.getElem?_eq_some_iff.1 p3).1
  have hl6:B+2 < W6.heap.size:=(Array.getElem?_eq_some_iff.1 p2).1
  have ne_of:∀{j:Nat} {ob:Obj},W6.heap[j]?=some ob->(∀cur,ob ≠ .cells cur 9 (0,0))->some j ≠ v5.ownBlock:=fun hj hno=>by
   rcases ownsRow_ne_a pr hj hno with e | e
   ·rw [e];simp
   ·exact fun e'=>e e'.symm
  have nB:=ne_of p1 (fun cur e=>by simp at e)
  have nl:=ne_of p2 (fun cur e=>by cases e)
  have nD:=ne_of p3 (fun cur e=>by cases e)
  have hpb:=HB.out
  rw [hpb] at hr6
  clear hW6 qv qr q3 q4 q0 qd ql b4 pg
  rw [hpb]
  clear q2
  gi_wp2_with (first
   | (gi_at_builtin;refine wpListIn_append_own _ rfl _ _ 40 rfl w.heap.size 9 j0 (.string ⟨#[]⟩) 1 16 Tryz.underlying40 hj0 hy0 hy1 hyb rfl (by decide) _ _ _ rfl (pr.alloc _) ⟨W6.heap.size,0,none⟩ 1 1 [.string x] rfl rfl (cell_one_new _ _ _) (by simp [Value.oneCell']) (by unfold maxLen;omega) (by omega) (by simp;omega) ?_;intro v' w3 hown' hg3 hnil3
      have hv3:w3.heap[B]?=some (.cells #[v5] 40 (0,0)):=(hg3.block B (by simp;omega) nB).trans ((Below.heap_alloc _ _ B hB6).trans p1)
      obtain ⟨hc3,hf3⟩:=cell_of_box_a hv3
      obtain ⟨g',cap',cur',rfl,hbase',hgb',hr1',hr2',hr3',hr4'⟩:∃g' cap' cur',v'=.slice (some ⟨g',0,none⟩) (pre.length+1) cap'/\w.heap.size<=g'/\w3.heap[g']?=some (.cells cur' 9 (0,0))/\pre.length+1<=cap'/\cap'<=maxLen/\cur'.size=cap' * 1/\cur'.toList.take ((pre.length+1) * 1)=pre.map Value.string++[.string x]:=by
       rcases hown'.2 with ⟨_,h0⟩ | h'
       ·exact absurd h0 (by omega)
       ·exact h'
      go_frame)
   | gi_in)
  have hg3':(W6.alloc (.cells #[.string x] 9)).grownBy w3 v5.ownBlock:=hg3
  have hL3:w3.heap[B+2]?=some (.loop { r with state:=.busy }):=(hg3'.block (B+2) (by simp;omega) nl).trans ((Below.heap_alloc _ _ _ hl6).trans p2)
  have hK3:w3.heap[B+1]?=some (.deferred (some [])):=(hg3'.block (B+1) (by simp;omega) nD).trans ((Below.heap_alloc _ _ _ hD6).trans p3)
  obtain ⟨w4,hw4⟩:∃w4,w3.setCell ⟨B,0,none⟩ (.slice (some ⟨g',0,none⟩) (pre.length+1) cap')=w4:=⟨_,rfl⟩
  rw [hw4]
  have hg4:w3.grownBy w4 (some B):=by rw [<-hw4];exact grownBy_setCell0_a _ _ _
  have hv4:w4.heap[B]?=some (.cells #[.slice (some ⟨g',0,none⟩) (pre.length+1) cap'] 40 (0,0)):=by rw [<-hw4];exact heap_setCell_box_a _ hv3
  have hL4:w4.heap[B+2]?=some (.loop { r with state:=.busy }):=(hg4.block (B+2) (Array.getElem?_eq_some_iff.1 hL3).1 (by simp)).trans hL3
  have hK4:w4.heap[B+1]?=some (.deferred (some [])):=(hg4.block (B+1) (Array.getElem?_eq_some_iff.1 hK3).1 (by simp)).trans hK3
  have hrow4:=hown'.kept hg4 (ownsRow_ne_a hown' hv3 (fun cur e=>by simp at e))
  have hl4:B+2 < w4.heap.size:=(Array.getElem?_eq_some_iff.1 hL4).1
  have hb3:Below w.heap.size w w3:=(p4.alloc p4.size _).grown hg3' (by simp;omega) (fun k e=>(pr.lt k e).1)
  have hb4:Below w.heap.size w w4:=hb3.grown hg4 hb3.size (fun k e=>by cases e;omega)
  clear hw4
  have hsz4:=hb4.size
  rw [hpb] at hb4 hrow4
  refine ⟨_,_,run_endRound none hL4,rfl,⟨_,(World.putObj_heap_other (by omega)).trans hv4,?_⟩,by rw [World.putObj_heap_same hl4,loop_back r hr1 hr2],(World.putObj_heap_other (by omega)).trans hK4,hb4.grown (gb_put _ _ _) (by omega) (fun k e=>by cases e;omega)⟩
  have:=hrow4.kept (gb_put w4 (B+2) (.loop { { r with state:=.busy } with state:=if (none:Option Code).isNone then .ready else .done,pending:=none })) (ownsRow_ne_a hrow4 hL4 (fun cur e=>by cases e))
  simpa using this
end Go.Proofs.YtbbmbnpebiakbaaGreatDoor
namespace Go.Proofs.YtbbmbnpebiakbaaGreatDoor
open Go.RowKit Go.Maps Go.Sort Go.Shelf
set_option linter.unusedVariables false
attribute [local go_sem] Oper.semAt_some
structure Ec where
 nm:ByteArray
 ve:ByteArray
 dg:ByteArray
 o:Option Addr
 n:Nat
 c:Nat
def ecA (x:Ec):Value:=.agg #[.string x.nm,.string x.ve,.string x.dg,.slice x.o x.n x.c]
def ecC (x:Ec):List Value:=[.string x.nm,.string x.ve,.string x.dg,.slice x.o x.n x.c]
def EcAt (w:World) (p:Addr) (x:Ec):Prop:=w.cell? p=some (.string x.nm)/\w.cell? ⟨p.block,p.off+1,none⟩=some (.string x.ve)/\w.cell? ⟨p.block,p.off+2,none⟩=some (.string x.dg)/\w.cell? ⟨p.block,p.off+3,none⟩=some (.slice x.o x.n x.c)
theorem EcAt.grow {w w':World} {p:Addr} {x:Ec} (h:EcAt w p x) (hg:w.grownBy w' none):EcAt w' p x:=⟨hg.cell h.1 (by simp),hg.cell h.2.1 (by simp),hg.cell h.2.2.1 (by simp),hg.cell h.2.2.2 (by simp)⟩
def EcS (w:World) (v:Value) (L:List Ec):Prop:=(v=.slice none 0 0/\L=[])\/∃a cap,v=.slice (some a) L.length cap/\L.length<=cap/\∀i (hi:i < L.length),EcAt w (a.add (i * 4)) L[i]
theorem EcS.grow {w w':World} {v:Value} {L:List Ec} (h:EcS w v L) (hg:w.grownBy w' none):EcS w' v L:=by
 rcases h with h | ⟨a,cap,h1,h2,h3⟩
 ·exact Or.inl h
 ·exact Or.inr ⟨a,cap,h1,h2,fun i hi=>(h3 i hi).grow hg⟩
theorem ecs_at {w:World} {o:Option Addr} {c:Nat} {L:List Ec} (h:EcS w (.slice o L.length c) L) {i:Nat} (hi:i < L.length):∃a,o=some a/\L.length<=c/\∀j (hj:j < L.length),EcAt w (a.add (j * 4)) L[j]:=by
 rcases h with ⟨h1,h2⟩ | ⟨a,cap,h1,h2,h3⟩
 ·rw [h2] at hi;simp at hi
 ·cases h1
  exact ⟨a,rfl,h2,h3⟩
theorem ecc_one (s:Ec):∀u ∈ ecC s,u.oneCell'=true:=by
 intro u hu
 simp only [ecC,List.mem_cons,List.not_mem_nil,or_false] at hu
 rcases hu with rfl | rfl | rfl | rfl <;> rfl
def EcIs (w:World) (x:Ec) (y:En):Prop:=x.nm=y.nm/\x.ve=y.ve/\x.dg=y.dg/\TxS w (.slice x.o x.n x.c) y.nd
theorem EcIs.grow {w w':World} {x:Ec} {y:En} (h:EcIs w x y) (hg:w.grownBy w' none):EcIs w' x y:=⟨h.1,h.2.1,h.2.2.1,h.2.2.2.grow hg⟩
theorem ens_ecs {w:World} {v:Value} {L:List En} (h:EnS w v L):∃E:List Ec,EcS w v E/\E.length=L.length/\∀i (hi:i < E.length) (hj:i < L.length),EcIs w E[i] L[i]:=by
 rcases h with ⟨rfl,rfl⟩ | ⟨a,cap,rfl,h2,h3⟩
 ·exact ⟨[],Or.inl ⟨rfl,rfl⟩,rfl,fun i hi=>by simp at hi⟩
 ·have hS:∀i,i < L.length->∃x:Ec,EcAt w (a.add (i * 4)) x/\∀hj:i < L.length,EcIs w x L[i]:=fun i hi=>by
   obtain ⟨e0,e1,e2,sv,e3,hsv⟩:=h3 i hi
   obtain ⟨so,sc,rfl⟩:=txs_slice hsv
   exact ⟨⟨L[i].nm,L[i].ve,L[i].dg,so,L[i].nd.length,sc⟩,⟨e0,e1,e2,e3⟩,fun _=>⟨rfl,rfl,rfl,hsv⟩⟩
  have:Nonempty Ec:=⟨⟨⟨#[]⟩,⟨#[]⟩,⟨#[]⟩,none,0,0⟩⟩
  obtain ⟨S,hS⟩:∃S:Nat->Ec,∀i,i < L.length->EcAt w (a.add (i * 4)) (S i)/\∀hj:i < L.length,EcIs w (S i) L[i]:=by
   refine ⟨fun i=>if h:i < L.length then Classical.choose (hS i h) else ⟨⟨#[]⟩,⟨#[]⟩,⟨#[]⟩,none,0,0⟩,fun i hi=>?_⟩
   simp only [dif_pos hi]
   exact Classical.choose_spec (hS i hi)
  have hlen:((List.range L.length).map S).length=L.length:=by simp
  refine ⟨(List.range L.length).map S,Or.inr ⟨a,cap,by rw [hlen],by rw [hlen];exact h2,fun i hi=>?_⟩,hlen,fun i hi hj=>?_⟩
  ·rw [List.getElem_map,List.getElem_range]
   exact (hS i (by rw [hlen] at hi;exact hi)).1
  ·rw [List.getElem_map,List.getElem_range]
   exact (hS i hj).2 hj
theorem valE_any (o:Option Addr) (n c:Nat) (w:World):Calls Tryz.prog 35 #[.slice o n c] w fun e w'=>e=.returned (.func (.func 57) #[] #[.pointer (some ⟨w.heap.size,0,none⟩)])/\w'=w.alloc (.cells #[.slice o n c] 23):=by
 go_enter Tryz.func35,Tryz.ntmps35
 go_wp2
 go_ret
 exact ⟨rfl,rfl⟩
set_option maxRecDepth 100000 in
set_option maxHeartbeats 3200000 in
theorem iterE (n l bm:Nat) (hn:1<=n) (o:Option Addr) (c:Nat) (L:List Ec) (hL:L.length<=1048576) (J:List Ec->World->Prop)
  (hA:∀pre W ob,J pre W->J pre (W.alloc ob))
  (hc:∀pre W,J pre W->W.cell? ⟨bm,0,none⟩=some (.slice o L.length c)/\EcS W (.slice o L.length c) L)
  (hY:∀pre x W,J pre W->pre.length < L.length->YieldAt Fence.wide (n - 1) Tryz.prog l #[ecA x] W fun e W'=>e=.returned (.bool true)/\J (pre++[x]) W') (W:World) (h0:J [] W) :
  CallsIn Fence.wide n Tryz.prog 57 #[.func (.yield l) #[] #[],.pointer (some ⟨bm,0,none⟩)] W fun e W'=>(∃v,e=.returned v)/\J L W':=by
 refine callsIn_of_wp Tryz.func57 rfl trivial ?_ rfl
 simp only [Tryz.ntmps57,List.size_toArray,List.length_cons,List.length_nil,Nat.reduceAdd,Nat.reduceSub,Array.replicate_succ,Array.replicate_zero,List.push_toArray,List.append_toArray,List.nil_append,List.cons_append]
 obtain ⟨m0,-⟩:=hc [] W h0
 gi_wp2
 clear m0
 gi_loopw [7] (fun vi wr=>∃i:Nat,vi=.int .i64 i/\i<=L.length/\J (L.take i) wr) (fun vi _=>L.length - (intOf vi).toNat)
 case atStart=>exact ⟨0,rfl,Nat.zero_le _,h0⟩
 case round =>
  obtain ⟨i,rfl,hi,hJ⟩:=hrel
  by_cases hlt:i < L.length
  ·obtain ⟨m1,m2⟩:=hc _ _ hJ
   obtain ⟨a,rfl,hcv,hat⟩:=ecs_at m2 hlt
   obtain ⟨x,hx⟩:∃x,L[i]=x:=⟨_,rfl⟩
   obtain ⟨e0,e1,e2,e3⟩:=hat i hlt
   rw [hx] at e0 e1 e2 e3
   obtain ⟨fn,tmps,assign,body,hy,hR⟩:=hY (L.take i) x (wr.alloc (.cells #[.string x.nm,.string x.ve,.string x.dg,.slice x.o x.n x.c] 43)) (hA _ _ _ hJ) (by simp;omega)
   have HTK:Hid (L.take i++[x]=L.take (i+1)):=by
    show _=_
    rw [List.take_succ_eq_append_getElem hlt,hx]
   unfold ecA at hy
   clear m1 m2 hat hx hJ
   gi_wp2
   refine hR.mono ?_
   rintro e W3 ⟨rfl,hJ3⟩
   have HJ3:Hid (J (L.take (i+1)) W3):=by show J _ _;rw [<-HTK.out];exact hJ3
   clear hJ3
   gi_wp2
   exact ⟨⟨i+1,by go_num,by omega,HJ3.out⟩,by simp [intOf];omega⟩
  ·have hil:i=L.length:=by omega
   have HJ3:Hid (J L wr):=by
    rw [hil,List.take_length] at hJ
    exact hJ
   clear hJ hil hi
   gi_wp2
   go_end0
   exact ⟨⟨_,rfl⟩,HJ3.out⟩
end Go.Proofs.YtbbmbnpebiakbaaGreatDoor
