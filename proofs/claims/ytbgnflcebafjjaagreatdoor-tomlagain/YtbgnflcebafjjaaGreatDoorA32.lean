import Derived.Test.YtbgnflcebafjjaaGreatDoorA31
namespace Go.Proofs.YtbgnflcebafjjaaGreatDoor
open Go.RowKit Go.Joins
set_option linter.unusedVariables false
def Run (l:List UInt8) (d d':Sd):Prop:=∀f,l.length - d.i < f->∃f',l.length - d'.i < f'/\rdAll l f d=rdAll l f' d'
theorem Run.refl (l:List UInt8) (d:Sd):Run l d d:=fun f hf=>⟨f,hf,rfl⟩
theorem Run.trans {l:List UInt8} {a b c:Sd} (h:Run l a b) (h':Run l b c):Run l a c:=fun f hf=>by
 obtain ⟨f1,h1,e1⟩:=h f hf
 obtain ⟨f2,h2,e2⟩:=h' f1 h1
 exact ⟨f2,h2,e1.trans e2⟩
theorem run_line {l:List UInt8} {d d':Sd} (h:rdLine l d=.ok d') (h1:d.i < l.length) (h2:d.i < d'.i):Run l d d':=fun f hf=>by
 match f,hf with
 | f+1,hf =>
  refine ⟨f,by omega,?_⟩
  rw [rdAll_step,if_neg (by omega),h]
theorem line_end {l:List UInt8} {d:Sd} {r:List UInt8} (h:l.drop d.i=10 :: r):lnT l (.ok d)=.ok ⟨d.i+1,d.ns,d.own,d.now⟩:=by
 have e:bl l d.i=d.i:=bl_no h rfl
 have n:nx l d.i=10:=nx_cons (c:=10) h
 show lnE l d (cmt l (bl l d.i))=_
 rw [e,cmt_no l _ (by rw [n];decide)]
 unfold lnE must
 simp only [Bool.true_eq_false,if_false]
 rw [n,if_neg (by decide),if_pos rfl]
theorem line_nl {l:List UInt8} {i:Nat} {r:List UInt8} (h:l.drop i=10 :: r) (a:List Tn) (own:List Nat) (now:Nat):rdLine l ⟨i,a,own,now⟩=.ok ⟨i+1,a,own,now⟩:=by
 have e:bl l i=i:=bl_no h rfl
 have n:nx l i=10:=nx_cons (c:=10) h
 rw [rdLine_eq,e,n,if_neg (by decide),if_neg (by decide)]
 exact line_end (d:=⟨i,a,own,now⟩) h
theorem kt_hd (k:List UInt8):∃c r,kt k=c :: r/\(c.toNat=34\/isBa (c.toNat:Int)=true):=by
 unfold kt
 by_cases h0:k=[]
 ·rw [if_pos h0];exact ⟨34,_,rfl,Or.inl rfl⟩
 ·rw [if_neg h0]
  by_cases h1:k.all (fun c=>isBa (c.toNat:Int))=true
  ·rw [if_pos h1]
   match k,h0,h1 with
   | c :: r,_,h1=>exact ⟨c,r,rfl,Or.inr (List.all_eq_true.1 h1 c (by simp))⟩
  ·rw [if_neg h1];exact ⟨34,_,rfl,Or.inl rfl⟩
theorem hd_no {c:UInt8} (h:c.toNat=34\/isBa (c.toNat:Int)=true):isBl (c.toNat:Int)=false/\¬ (c.toNat:Int)=91:=by
 rcases h with h | h
 ·rw [h];decide
 ·unfold isBa isSm isDg at h
  simp at h
  constructor
  ·unfold isBl
   apply decide_eq_false
   omega
  ·omega
theorem line_pair {n S:Nat} {ns:List Tn} {own':List Nat} (T:Tv n ns S) (W:WF ns own') {l:List UInt8} {i q P:Nat} {a:List Tn} {own:List Nat} {now:Nat} {r:List UInt8} (hq:q ∈ ksAt ns P) (hP:kdAt ns P=0) (hkd:kdAt ns q=1\/kdAt ns q=3\/kdAt ns q=4\/kdAt ns q=5) (hu:now < a.length) (hk:kidO a now (kyAt ns q)=none) (h:l.drop i=kt (kyAt ns q)++[32,61,32]++vT ns ns.length q++[10]++r) :
  ∃b,rdLine l ⟨i,a,own,now⟩=.ok ⟨i+(kt (kyAt ns q)++[32,61,32]++vT ns ns.length q++[10]).length,b,own,now⟩/\Ext now a b [a.length]/\Al ns b q a.length:=by
 have hql:=T.lt _ _ hq
 have hus:Us (kyAt ns q):=by
  have:=(T.shp P q hq ns[q] (List.getElem?_eq_getElem hql)).par
  rw [hP] at this
  rw [kyAt_in hql]
  rcases this with ⟨_,h1,_⟩ | ⟨h1,_⟩ | ⟨h1,_⟩
  ·exact h1
  ·exact absurd h1 (by decide)
  ·exact absurd h1 (by decide)
 have h':l.drop i=kt (kyAt ns q)++32 :: (61 :: 32 :: (vT ns ns.length q++10 :: r)):=by rw [h];simp
 obtain ⟨c,kr,hc,hc2⟩:=kt_hd (kyAt ns q)
 obtain ⟨n1,n2⟩:=hd_no hc2
 have h0:nx l i=(c.toNat:Int):=by rw [hc] at h';exact nx_cons (c:=c) h'
 have e0:bl l i=i:=by rw [hc] at h';exact bl_no h' n1
 have hkey:=rdKey_back hus (c:=32) (by decide) h'
 have d1:=drop_more h'
 have e1:=bl_one d1 (r:=61 :: 32 :: (vT ns ns.length q++10 :: r)) rfl
 have d2:=drop_more (a:=[32]) d1
 have d3:=drop_more (a:=[32,61]) d1
 have d4:=drop_more (a:=[32,61,32]) d1
 obtain ⟨f',hf'⟩:∃f',ns.length=f'+1:=⟨ns.length - 1,by omega⟩
 obtain ⟨v0,vr,hv,hvh⟩:=vT_hd (f:=f') hql hkd
 rw [<-hf'] at hv
 have e2:bl l (i+(kt (kyAt ns q)).length+2)=i+(kt (kyAt ns q)).length+2+1:=bl_one d3 (by rw [hv];exact (vHd_gap hvh).1)
 have m1:must l (i+(kt (kyAt ns q)).length+1) 61=.ok (i+(kt (kyAt ns q)).length+1+1):=by
  unfold must
  rw [show nx l (i+(kt (kyAt ns q)).length+1)=61 from nx_cons (c:=61) d2,if_pos rfl]
 have hlen:=congrArg List.length h'
 rw [List.length_drop] at hlen
 obtain ⟨b,hb1,hb2,hb3⟩:=val_back T W l ns.length q P (i+(kt (kyAt ns q)).length+3) now i 0 a 10 r (2 * l.length+2) hq (by omega) hkd (Ld.top P hP) hu (Or.inl rfl) d4 (by omega)
 refine ⟨b,?_,hb2,hb3⟩
 have hp:rdPair l ⟨i,a,own,now⟩=.ok ⟨i+(kt (kyAt ns q)).length+3+(vT ns ns.length q).length,b,own,now⟩:=by
  rw [rdPair_eq,hkey]
  simp only []
  rw [e1,m1]
  simp only []
  rw [hk]
  simp only []
  rw [show bl l (i+(kt (kyAt ns q)).length+1+1)=i+(kt (kyAt ns q)).length+3 from e2,hb1]
  rfl
 have hor:nx l i=34\/isBa (nx l i)=true:=by
  rw [h0]
  rcases hc2 with h | h
  ·left;omega
  ·exact Or.inr h
 rw [rdLine_eq,e0,if_neg (by rw [h0];exact n2),if_pos hor,hp]
 have d5:=drop_more d4
 rw [line_end (d:=⟨i+(kt (kyAt ns q)).length+3+(vT ns ns.length q).length,b,own,now⟩) d5]
 simp only [List.length_append,List.length_cons,List.length_nil]
 congr 2
 omega
def jk:List (List UInt8)->List UInt8
 | []=>[]
 | [k]=>kt k
 | k :: b :: r=>kt k++46 :: jk (b :: r)
theorem jk_ne (k:List UInt8) (K:List (List UInt8)):jk (k :: K) ≠ []:=by
 have:=(kt_len k).1
 cases K with
 | nil=>intro e;have e':kt k=[]:=e;rw [e'] at this;simp at this
 | cons b r=>intro e;have e':kt k++46 :: jk (b :: r)=[]:=e;simp at e'
theorem jk_snoc:∀(K:List (List UInt8)) (k:List UInt8),K ≠ []->jk (K++[k])=jk K++46 :: kt k
 | [],k,h=>absurd rfl h
 | [a],k,_=>rfl
 | a :: b :: r,k,_=>by
  show kt a++46 :: jk (b :: r++[k])=(kt a++46 :: jk (b :: r))++46 :: kt k
  rw [jk_snoc (b :: r) k (by simp)]
  simp
theorem jk_path (K:List (List UInt8)) (k:List UInt8):pathN (jk K) (jk K).length k=jk (K++[k]):=by
 unfold pathN
 rw [List.take_length]
 cases K with
 | nil=>rfl
 | cons a r =>
  rw [if_pos (List.length_pos_iff.2 (jk_ne a r)),jk_snoc _ _ (by simp)]
  simp
theorem hdK_back (l:List UInt8):∀(K:List (List UInt8)) (k:List UInt8) (f i:Nat) (acc:List (List UInt8 × Nat)) (r:List UInt8),(∀x ∈ k :: K,Us x)->l.drop i=jk (k :: K)++93 :: r->K.length < f->∃ks,hdK l f i acc=.ok (acc++ks,i+(jk (k :: K)).length)/\ks.map Prod.fst=k :: K
 | K,k,0,i,acc,r,_,_,hf=>by omega
 | K,k,f+1,i,acc,r,hus,h,hf=>by
  obtain ⟨c,kr,hc,hc2⟩:=kt_hd k
  obtain ⟨n1,n2⟩:=hd_no hc2
  have hk:=hus k (by simp)
  cases K with
  | nil =>
   have h':l.drop i=kt k++93 :: r:=h
   have e0:bl l i=i:=by rw [hc] at h';exact bl_no h' n1
   have d1:=drop_more h'
   have e1:=bl_no d1 rfl
   refine ⟨[(k,i)],?_,rfl⟩
   rw [hdK_step,e0,rdKey_back hk (by decide) h']
   simp only []
   rw [e1,nx_cons d1,if_neg (by decide)]
   rfl
  | cons b K =>
   have h':l.drop i=kt k++46 :: (jk (b :: K)++93 :: r):=by rw [h];show (kt k++46 :: jk (b :: K))++93 :: r=_;simp
   have e0:bl l i=i:=by rw [hc] at h';exact bl_no h' n1
   have d1:=drop_more h'
   have e1:=bl_no d1 rfl
   have d2:=drop_more (a:=[46]) d1
   obtain ⟨ks,hks,hm⟩:=hdK_back l K b f _ (acc++[(k,i)]) r (fun x hx=>hus x (by simp only [List.mem_cons] at hx ⊢;exact Or.inr hx)) d2 (by simp only [List.length_cons] at hf;omega)
   refine ⟨(k,i) :: ks,?_,by rw [List.map_cons,hm]⟩
   rw [hdK_step,e0,rdKey_back hk (by decide) h']
   simp only []
   rw [e1,nx_cons d1,if_pos (by decide)]
   rw [show hdK l f (i+(kt k).length+1) (acc++[(k,i)])=_ from hks]
   show Except.ok (_,_)=Except.ok (_,i+(kt k++46 :: jk (b :: K)).length)
   simp only [List.append_assoc,List.singleton_append,List.length_append,List.length_cons,List.length_nil]
   congr 2
   omega
def nxt (a:List Tn) (t:Nat) (k:List UInt8):Option Nat:=match kidO a t k with | none=>none | some q=>if kdAt a q=0 then some q else if kdAt a q=2 then (ksAt a q).getLast? else none
def wk (a:List Tn):List (List UInt8)->Nat->Option Nat
 | [],t=>some t
 | k :: K,t=>match nxt a t k with | none=>none | some u=>wk a K u
theorem stp_nxt {a:List Tn} {t u:Nat} {k:List UInt8} (p:Nat) (h:nxt a t k=some u):stp a t k p=.ok (u,a):=by
 unfold nxt at h
 unfold stp
 cases hq:kidO a t k with
 | none=>rw [hq] at h;cases h
 | some q =>
  rw [hq] at h
  simp only [] at h ⊢
  split at h
  ·rename_i h0
   rw [if_pos h0]
   injection h with h
   rw [h]
  ·rename_i h0
   rw [if_neg h0]
   split at h
   ·rename_i h2
    rw [if_pos h2]
    unfold ksAt at h
    cases hx:a[q]? with
    | none=>rw [hx] at h;cases h
    | some x =>
     rw [hx] at h
     simp only [] at h ⊢
     rw [List.getLastD_eq_getLast?,h]
     rfl
   ·cases h
theorem way_wk (many:Bool) (own:List Nat) (a:List Tn) (k:List UInt8) (p:Nat):∀(ks:List (List UInt8 × Nat)) (t t':Nat),wk a (ks.map Prod.fst) t=some t'->way many own (ks++[(k,p)]) t a=if many=true then endL a t' k p else endT a own t' k p
 | [],t,t',h=>by
  injection h with h
  rw [<-h]
  rfl
 | (k0,p0) :: ks,t,t',h=>by
  have h':(match nxt a t k0 with | none=>none | some u=>wk a (ks.map Prod.fst) u)=some t':=h
  cases hn:nxt a t k0 with
  | none=>rw [hn] at h';cases h'
  | some u =>
   rw [hn] at h'
   have ih:=way_wk many own a k p ks u t' h'
   rw [<-ih]
   cases hks:ks++[(k,p)] with
   | nil=>simp at hks
   | cons b r =>
    rw [List.cons_append,hks,way_more,stp_nxt p0 hn]
def opB (dbl:Bool):List UInt8:=if dbl then [91,91] else [91]
def shB (dbl:Bool):List UInt8:=if dbl then [93,93,10] else [93,10]
theorem line_head {l:List UInt8} {i:Nat} {a:List Tn} {own:List Nat} {now t' t1:Nat} {K:List (List UInt8)} {k:List UInt8} {dbl:Bool} {r:List UInt8} {b:Nat->List Tn} (hus:∀x ∈ K++[k],Us x) (hw:wk a K 0=some t') (he:∀p,(if dbl=true then endL a t' k p else endT a own t' k p)=.ok (t1,b p)) (h:l.drop i=opB dbl++jk (K++[k])++shB dbl++r) :
  ∃p,rdLine l ⟨i,a,own,now⟩=.ok ⟨i+(opB dbl++jk (K++[k])++shB dbl).length,b p,t1 :: own,t1⟩:=by
 obtain ⟨k0,K0,hK⟩:∃k0 K0,K++[k]=k0 :: K0:=by
  cases K with
  | nil=>exact ⟨k,[],rfl⟩
  | cons x y=>exact ⟨x,y++[k],rfl⟩
 obtain ⟨c,kr,hc,hc2⟩:=kt_hd k0
 obtain ⟨n1,n2⟩:=hd_no hc2
 have hjc:∃jr,jk (K++[k])=c :: jr:=by
  rw [hK]
  cases K0 with
  | nil=>exact ⟨kr,hc⟩
  | cons x y=>exact ⟨_,by show kt k0++46 :: jk (x :: y)=_;rw [hc];rfl⟩
 obtain ⟨jr,hjr⟩:=hjc
 rw [List.append_assoc,List.append_assoc] at h
 have h0:nx l i=91:=by
  cases dbl with
  | true=>exact nx_cons (c:=91) h
  | false=>exact nx_cons (c:=91) h
 have e0:bl l i=i:=toR_stop isBl l i (by rw [h0];decide)
 have d1:=drop_more h
 have hol:(if dbl=true then i+2 else i+1)=i+(opB dbl).length:=by cases dbl <;> rfl
 have hm:decide (nx l (i+1)=91)=dbl:=by
  cases dbl with
  | true =>
   have:=drop_more (a:=[91]) (l:=l) (i:=i) (r:=91 :: (jk (K++[k])++(shB true++r))) h
   rw [show nx l (i+1)=91 from nx_cons (c:=91) this]
   decide
  | false =>
   have d1':l.drop (i+1)=_:=d1
   rw [hjr] at d1'
   rw [nx_cons (c:=c) d1']
   exact decide_eq_false n2
 have hsh:shB dbl++r=93 :: ((if dbl=true then [93] else [])++10 :: r):=by cases dbl <;> rfl
 rw [hsh] at d1
 rw [hK] at d1 hus
 obtain ⟨ks,hks,hmap⟩:=hdK_back l K0 k0 (l.length+1) _ [] _ hus d1 (by
  have:=congrArg List.length d1
  have h2:∀(K0:List (List UInt8)) k0,K0.length<=(jk (k0 :: K0)).length:=fun K0=>by
   induction K0 with
   | nil=>intro _;simp
   | cons x y ih =>
    intro k0
    have:=ih x
    show _<=(kt k0++46 :: jk (x :: y)).length
    simp only [List.length_append,List.length_cons]
    omega
  have:=h2 K0 k0
  rw [List.length_drop,List.length_append] at *
  omega)
 rw [<-hK] at hmap hks d1
 obtain ⟨ks0,kl,hk1,hk2,hk3⟩:=List.map_eq_append_iff.1 hmap
 obtain ⟨p,hkl⟩:∃p,kl=[(k,p)]:=by
  match kl,hk3 with
  | [(k',p)],hk3 =>
   have:k'=k:=by simpa using hk3
   exact ⟨p,by rw [this]⟩
 subst hkl
 have d2:=drop_more d1
 have m1:must l (i+(opB dbl).length+(jk (K++[k])).length) 93=.ok (i+(opB dbl).length+(jk (K++[k])).length+1):=by
  unfold must
  rw [nx_cons (c:=93) d2,if_pos (by decide)]
 have d3:=drop_more (a:=[93]) d2
 have m2:(if dbl=true then must l (i+(opB dbl).length+(jk (K++[k])).length+1) 93 else .ok (i+(opB dbl).length+(jk (K++[k])).length+1):Rs Nat)=.ok (i+(opB dbl).length+(jk (K++[k])).length+1+(if dbl=true then 1 else 0)):=by
  cases dbl with
  | true =>
   unfold must
   rw [if_pos rfl,show nx l (i+(opB true).length+(jk (K++[k])).length+1)=93 from nx_cons (c:=93) d3,if_pos rfl]
   rfl
  | false=>rfl
 have d4:l.drop (i+(opB dbl).length+(jk (K++[k])).length+1+(if dbl=true then 1 else 0))=10 :: r:=by
  cases dbl with
  | true=>exact drop_more (a:=[93]) d3
  | false=>exact d3
 refine ⟨p,?_⟩
 have hh:rdHead l ⟨i,a,own,now⟩=.ok ⟨i+(opB dbl).length+(jk (K++[k])).length+1+(if dbl=true then 1 else 0),b p,t1 :: own,t1⟩:=by
  rw [rdHead_eq l i a own now dbl hm,hol,hks]
  simp only []
  rw [m1]
  simp only []
  rw [m2]
  simp only []
  rw [List.nil_append,hk1,way_wk dbl own a k p ks0 0 t' (by rw [hk2];exact hw),he p]
  rfl
 rw [rdLine_eq,e0,if_pos h0,hh,line_end (d:=⟨i+(opB dbl).length+(jk (K++[k])).length+1+(if dbl=true then 1 else 0),b p,t1 :: own,t1⟩) d4]
 have hsl:(shB dbl).length=2+(if dbl=true then 1 else 0):=by cases dbl <;> rfl
 simp only [List.length_append,hsl]
 congr 2
 omega
def Inv (l:List UInt8) (d:Sd):Prop:=Li l d/\∃S,Tv l.length d.ns S
theorem Inv.line {l:List UInt8} {d d':Sd} (h:Inv l d) (hi:d.i < l.length) (hr:rdLine l d=.ok d'):Inv l d'/\Run l d d':=by
 obtain ⟨L,S,T⟩:=h
 obtain ⟨L',hlt⟩:=line_ok l d d' L hi hr
 obtain ⟨m,g1,g2⟩:=line_gr l d d' L hi hr
 exact ⟨⟨L',_,g1.tv T⟩,run_line hr hi hlt⟩
theorem dord_perm {ns:List Tn} {t:Nat} (h:kdAt ns t=0):(dord ns t).Perm (ksAt ns t):=by
 unfold dord rs
 rw [if_pos h]
 have h1:=List.filter_append_perm (fun q=>tb ns q == false) (srt ns t)
 have e:(srt ns t).filter (fun q=>!(tb ns q == false))=(srt ns t).filter fun q=>tb ns q == true:=by
  congr 1
  funext q
  cases tb ns q <;> rfl
 rw [e] at h1
 exact h1.trans (srt_perm ns t)
theorem dord_keys {ns:List Tn} {t:Nat} (h:kdAt ns t=0) (hk:KD ns t):(dord ns t).Pairwise fun x y=>kyAt ns x ≠ kyAt ns y:=((dord_perm h).pairwise_iff (fun {a b} h=>Ne.symm h)).2 hk
section
variable {up:Nat} {a b:List Tn} {L:List Nat}
theorem Ext.node (h:Ext up a b L) (q:Nat) (hq:q < a.length):kdAt b q=kdAt a q/\kyAt b q=kyAt a q/\(∀k,kyB b k q=kyB a k q)/\(q ≠ up->ksAt b q=ksAt a q)/\(q=up->ksAt b q=ksAt a q++L):=by
 by_cases he:q=up
 ·subst he
  have h1:=h.here a[q] (List.getElem?_eq_getElem hq)
  have h2:a[q]?=some a[q]:=List.getElem?_eq_getElem hq
  unfold kdAt kyAt kyB ksAt
  rw [h1,h2]
  exact ⟨rfl,rfl,fun _=>rfl,fun h=>absurd rfl h,fun _=>rfl⟩
 ·have h1:=h.oth q hq he
  unfold kdAt kyAt kyB ksAt
  rw [h1]
  exact ⟨rfl,rfl,fun _=>rfl,fun _=>rfl,fun h=>absurd h he⟩
theorem find_keep {a b:List Tn} {k:List UInt8}:∀(l:List Nat),(∀q ∈ l,kyB b k q=kyB a k q)->l.find? (kyB b k)=l.find? (kyB a k)
 | [],_=>rfl
 | x :: l,h=>by
  rw [List.find?_cons,List.find?_cons,h x (by simp),find_keep l fun q hq=>h q (by simp [hq])]
theorem kidO_keep (h:Ext up a b L) {t:Nat} (ht:t < a.length) (hne:t ≠ up) (hl:∀q ∈ ksAt a t,q < a.length) (k:List UInt8):kidO b t k=kidO a t k:=by
 rw [kidO_eq,kidO_eq,(h.node t ht).2.2.2.1 hne]
 exact find_keep _ fun q hq=>(h.node q (hl q hq)).2.2.1 k
end
theorem nxt_gt {n S:Nat} {a:List Tn} (T:Tv n a S) {t u:Nat} {k:List UInt8} (h:nxt a t k=some u):t < u/\u < a.length:=by
 unfold nxt at h
 cases hq:kidO a t k with
 | none=>rw [hq] at h;cases h
 | some q =>
  rw [hq] at h
  simp only [] at h
  have hm:q ∈ ksAt a t:=by rw [kidO_eq] at hq;exact List.mem_of_find?_eq_some hq
  have g1:=T.gt _ _ hm
  have g2:=T.lt _ _ hm
  split at h
  ·injection h with h;subst h;exact ⟨g1,g2⟩
  ·split at h
   ·have hu:=List.mem_of_getLast? h
    have:=T.gt _ _ hu
    have:=T.lt _ _ hu
    omega
   ·cases h
theorem wk_ge {n S:Nat} {a:List Tn} (T:Tv n a S):∀(K:List (List UInt8)) (t t':Nat),wk a K t=some t'->t<=t'
 | [],t,t',h=>by injection h with h;omega
 | k :: K,t,t',h=>by
  have h':(match nxt a t k with | none=>none | some u=>wk a K u)=some t':=h
  cases hn:nxt a t k with
  | none=>rw [hn] at h';cases h'
  | some u =>
   rw [hn] at h'
   have:=wk_ge T K u t' h'
   have:=nxt_gt T hn
   omega
theorem wk_keep {n S:Nat} {a b:List Tn} (T:Tv n a S) {up:Nat} {L:List Nat} (h:Ext up a b L) (t':Nat) (hle:t'<=up):∀(K:List (List UInt8)) (t:Nat),wk a K t=some t'->wk b K t=some t'
 | [],t,hw=>hw
 | k :: K,t,hw=>by
  have h':(match nxt a t k with | none=>none | some u=>wk a K u)=some t':=hw
  show (match nxt b t k with | none=>none | some u=>wk b K u)=some t'
  cases hn:nxt a t k with
  | none=>rw [hn] at h';cases h'
  | some u =>
   rw [hn] at h'
   have g:=nxt_gt T hn
   have g2:=wk_ge T K u t' h'
   have e:nxt b t k=nxt a t k:=by
    unfold nxt
    rw [kidO_keep h (by omega) (by omega) (fun q hq=>T.lt _ _ hq)]
    cases hq:kidO a t k with
    | none=>rfl
    | some q =>
     simp only []
     have hm:q ∈ ksAt a t:=by rw [kidO_eq] at hq;exact List.mem_of_find?_eq_some hq
     obtain ⟨n1,-,-,n4,-⟩:=h.node q (T.lt _ _ hm)
     rw [n1]
     by_cases h2:kdAt a q=2
     ·have hne:q ≠ up:=by
       unfold nxt at hn
       rw [hq] at hn
       simp only [] at hn
       rw [if_neg (by omega),if_pos h2] at hn
       have:=T.gt _ _ (List.mem_of_getLast? hn)
       omega
      rw [n4 hne]
     ·rw [if_neg h2,if_neg h2]
   rw [e,hn]
   exact wk_keep T h t' hle K u h'
theorem wk_snoc (a:List Tn) (k:List UInt8):∀(K:List (List UInt8)) (t t' u:Nat),wk a K t=some t'->nxt a t' k=some u->wk a (K++[k]) t=some u
 | [],t,t',u,h,hn=>by
  injection h with h
  subst h
  show (match nxt a t k with | none=>none | some u=>wk a [] u)=some u
  rw [hn]
  rfl
 | k0 :: K,t,t',u,h,hn=>by
  have h':(match nxt a t k0 with | none=>none | some u=>wk a K u)=some t':=h
  show (match nxt a t k0 with | none=>none | some u=>wk a (K++[k]) u)=some u
  cases h0:nxt a t k0 with
  | none=>rw [h0] at h';cases h'
  | some v =>
   rw [h0] at h'
   exact wk_snoc a k K v t' u h' hn
theorem Al.ky {ns a:List Tn} {q q':Nat} (h:Al ns a q q'):kyAt a q'=kyAt ns q/\kdAt a q'=kdAt ns q:=by
 cases h with
 | mk _ _ x y h1 h2 h3 h4 =>
  unfold kyAt kdAt
  rw [h1,h2]
  exact ⟨h4,h3⟩
theorem kidO_none {n S:Nat} {ns a:List Tn} (T:Tv n a S) {t:Nat} {M LM:List Nat} (hM:ksAt a t=LM) (hc:Cps ns a M LM) {k:List UInt8} (hk:∀x ∈ M,kyAt ns x ≠ k):kidO a t k=none:=by
 rw [kidO_eq,hM,List.find?_eq_none]
 intro y hy
 obtain ⟨i,hi⟩:=List.mem_iff_getElem?.1 hy
 have hil:i < M.length:=by
  rw [<-hc.len]
  exact (List.getElem?_eq_some_iff.1 hi).1
 have hx:M[i]?=some M[i]:=List.getElem?_eq_getElem hil
 have hA:=hc.al i _ y hx hi
 have h1:=hA.ky.1
 have h2:=hk M[i] (List.getElem_mem hil)
 have h3:=hA.lt
 unfold kyB
 rw [List.getElem?_eq_getElem h3]
 rw [kyAt_in h3] at h1
 simp only [decide_eq_true_eq]
 rw [h1]
 exact h2
theorem kidO_new {a:List Tn} {t:Nat} {M:List Nat} {m:Nat} {k:List UInt8} (hM:ksAt a t=M++[m]) (h0:∀q ∈ M,kyB a k q=false) (h1:kyB a k m=true):kidO a t k=some m:=by
 rw [kidO_eq,hM,List.find?_append]
 have:M.find? (kyB a k)=none:=List.find?_eq_none.2 fun q hq=>by rw [h0 q hq];simp
 rw [this,List.find?_cons,h1]
 rfl
theorem head_back {l:List UInt8} {d:Sd} {o r:List UInt8} {K:List (List UInt8)} {k:List UInt8} {dbl:Bool} {t' t1:Nat} {b:Nat->List Tn} (I:Inv l d) (hi:d.i=o.length) (hl:l=o++hdT o (jk (K++[k])) dbl++r) (hus:∀x ∈ K++[k],Us x) (hw:wk d.ns K 0=some t') (he:∀p,(if dbl=true then endL d.ns t' k p else endT d.ns d.own t' k p)=.ok (t1,b p)) :
  ∃p d2,Run l d d2/\Inv l d2/\d2.i=(o++hdT o (jk (K++[k])) dbl).length/\d2.ns=b p/\d2.now=t1:=by
 obtain ⟨i,a,own,now⟩:=d
 simp only [] at hi hw he
 have hhd:hdT o (jk (K++[k])) dbl=(if o=[] then [] else [10])++(opB dbl++jk (K++[k])++shB dbl):=by
  unfold hdT opB shB
  simp
 have d0:l.drop i=hdT o (jk (K++[k])) dbl++r:=by rw [hl,hi,List.append_assoc,List.drop_left' rfl]
 rw [hhd] at d0 ⊢
 have hne:0 < (opB dbl).length:=by cases dbl <;> decide
 have fin:∀d1:Sd,Run l ⟨i,a,own,now⟩ d1->Inv l d1->d1.ns=a->d1.own=own->l.drop d1.i=opB dbl++jk (K++[k])++shB dbl++r->d1.i=o.length+(if o=[] then [] else ([10]:List UInt8)).length->∃p d2,Run l ⟨i,a,own,now⟩ d2/\Inv l d2/\d2.i=(o++((if o=[] then [] else [10])++(opB dbl++jk (K++[k])++shB dbl))).length/\d2.ns=b p/\d2.now=t1:=by
  intro d1 R1 I1 e1 e2 hd e3
  obtain ⟨i1,a1,own1,now1⟩:=d1
  simp only [] at e1 e2 hd e3
  subst e1 e2
  obtain ⟨p,hp⟩:=line_head (now:=now1) hus hw he hd
  have hlt:i1 < l.length:=by
   have:=congrArg List.length hd
   rw [List.length_drop] at this
   simp only [List.length_append] at this
   omega
  obtain ⟨I2,R2⟩:=I1.line hlt hp
  refine ⟨p,_,R1.trans R2,I2,?_,rfl,rfl⟩
  simp only [List.length_append]
  rw [e3]
  omega
 by_cases h0:o=[]
 ·refine fin _ (Run.refl _ _) I rfl rfl ?_ ?_
  ·rw [if_pos h0] at d0
   simpa using d0
  ·rw [if_pos h0];simpa using hi
 ·rw [if_neg h0] at d0
  have d0':l.drop i=10 :: (opB dbl++jk (K++[k])++shB dbl++r):=by rw [d0];simp
  have hlt:i < l.length:=by
   have:=congrArg List.length d0'
   rw [List.length_drop] at this
   simp only [List.length_cons] at this
   omega
  obtain ⟨I2,R2⟩:=I.line hlt (line_nl d0' a own now)
  refine fin _ R2 I2 rfl rfl (drop_more (a:=[10]) d0') ?_
  rw [if_neg h0,<-hi]
  rfl
theorem pairs_back {n S:Nat} {ns:List Tn} {own':List Nat} (T:Tv n ns S) (W:WF ns own') (l:List UInt8) {t:Nat} (ht:kdAt ns t=0):∀(Q M LM:List Nat) (out r:List UInt8) (d:Sd),(∃R,dord ns t=M++(Q++R))->(∀q ∈ Q,q ∈ rs ns t false)->Inv l d->d.i=out.length->l=out++Q.flatMap (pr1 ns)++r->ksAt d.ns d.now=LM->Cps ns d.ns M LM->∃d' L,Run l d d'/\Inv l d'/\d'.i=(out++Q.flatMap (pr1 ns)).length/\d'.now=d.now/\Ext d.now d.ns d'.ns L/\Cps ns d'.ns Q L
 | [],M,LM,out,r,d,_,_,I,hi,hl,hM,hc=>⟨d,[],Run.refl _ _,I,by simpa using hi,rfl,Ext.refl _ _,Cps.nil⟩
 | q :: Q,M,LM,out,r,d,⟨R,hD⟩,hQ,I,hi,hl,hM,hc=>by
  obtain ⟨hq,htb⟩:=rs_mem (hQ q (by simp))
  have hql:=T.lt _ _ hq
  have htb':=of_decide_eq_false htb
  have hsh:=(T.shp t q hq ns[q] (List.getElem?_eq_getElem hql)).par
  have hkq:kdAt ns q=ns[q].kd:=by unfold kdAt;rw [List.getElem?_eq_getElem hql]
  rw [ht] at hsh
  have hkd:kdAt ns q=1\/kdAt ns q=3\/kdAt ns q=4\/kdAt ns q=5:=by
   rcases hsh with ⟨_,_,h1,h2⟩ | ⟨h1,_⟩ | ⟨h1,_⟩
   ·omega
   ·exact absurd h1 (by decide)
   ·exact absurd h1 (by decide)
  have hp1:pr1 ns q=kt (kyAt ns q)++[32,61,32]++vT ns ns.length q++[10]:=by unfold pr1;rw [if_neg htb']
  have hkk:∀x ∈ M,kyAt ns x ≠ kyAt ns q:=fun x hx=>by
   have h1:=dord_keys ht (T.kdd t ht)
   rw [hD,List.pairwise_append] at h1
   exact h1.2.2 x hx q (by simp)
  have I0:=I
  obtain ⟨L0,S0,T0⟩:=I0
  have hd0:l.drop d.i=(kt (kyAt ns q)++[32,61,32]++vT ns ns.length q++[10])++(Q.flatMap (pr1 ns)++r):=by
   rw [hl,hi,List.flatMap_cons,hp1,List.append_assoc,List.drop_left' rfl,List.append_assoc]
  obtain ⟨i,a,own,now⟩:=d
  obtain ⟨b,hb1,hb2,hb3⟩:=line_pair T W (own:=own) hq ht hkd L0.jt.lt (kidO_none T0 hM hc hkk) hd0
  have hlt:i < l.length:=by
   have:=congrArg List.length hd0
   rw [List.length_drop] at this
   simp only [List.length_append,List.length_cons,List.length_nil] at this
   omega
  obtain ⟨I2,R2⟩:=I.line hlt hb1
  simp only [] at hM hc hb2 hb3 hi
  have hnl:now < a.length:=L0.jt.lt
  have hks2:ksAt b now=LM++[a.length]:=by rw [(hb2.node now hnl).2.2.2.2 rfl,hM]
  have hgt:∀y ∈ LM,now+1<=y:=fun y hy=>by rw [<-hM] at hy;exact T0.gt _ _ hy
  have hc2:Cps ns b (M++[q]) (LM++[a.length]):=(hc.keep hgt fun p hp hpl=>hb2.oth p hpl (by omega)).app (Cps.one hb3)
  obtain ⟨d',L,R3,I3,e3,e4,E3,C3⟩:=pairs_back T W l ht Q (M++[q]) (LM++[a.length]) (out++pr1 ns q) r ⟨i+(kt (kyAt ns q)++[32,61,32]++vT ns ns.length q++[10]).length,b,own,now⟩ ⟨R,by rw [hD];simp⟩ (fun x hx=>hQ x (by simp [hx])) I2 (by rw [hp1];simp only [List.length_append] at hi ⊢;omega) (by rw [hl,List.flatMap_cons];simp) hks2 hc2
  refine ⟨d',a.length :: L,R2.trans R3,I3,?_,e4,hb2.trans E3,?_⟩
  ·rw [e3,List.flatMap_cons];simp
  ·exact (Cps.one (hb3.keep fun p hp hpl=>E3.oth p hpl (by simp only [];omega))).app C3
def TbC (ns:List Tn) (l:List UInt8) (f:Nat):Prop:=∀(t:Nat) (K:List (List UInt8)) (out r:List UInt8) (d:Sd),t < ns.length->kdAt ns t=0->ns.length - t<=f->(∀x ∈ K,Us x)->Inv l d->d.i=out.length->l=dT ns f t (jk K) out++r->wk d.ns K 0=some d.now->ksAt d.ns d.now=[]->∃d' L,Run l d d'/\Inv l d'/\d'.i=(dT ns f t (jk K) out).length/\Ext d.now d.ns d'.ns L/\Cps ns d'.ns (dord ns t) L
theorem dT_pre (ns:List Tn):∀(f t:Nat) (P o:List UInt8),∃r,dT ns f t P o=o++r
 | 0,t,P,o=>⟨[],by simp [dT]⟩
 | f+1,t,P,o=>by
  have key:∀(l:List Vt) (o:List UInt8),∃r,l.foldl (fun o v=>dT ns f v.t (pathN P P.length v.ky) (o++hdT o (pathN P P.length v.ky) v.dbl)) o=o++r:=by
   intro l
   induction l with
   | nil=>intro o;exact ⟨[],by simp⟩
   | cons v l ih =>
    intro o
    obtain ⟨r1,h1⟩:=dT_pre ns f v.t (pathN P P.length v.ky) (o++hdT o (pathN P P.length v.ky) v.dbl)
    obtain ⟨r2,h2⟩:=ih (dT ns f v.t (pathN P P.length v.ky) (o++hdT o (pathN P P.length v.ky) v.dbl))
    refine ⟨hdT o (pathN P P.length v.ky) v.dbl++r1++r2,?_⟩
    rw [List.foldl_cons,h2,h1]
    simp
  obtain ⟨r,hr⟩:=key (belT ns t P.length).reverse (o++prT ns t)
  exact ⟨prT ns t++r,by show List.foldl _ _ _=_;rw [hr];simp⟩
theorem al_tab {ns a b:List Tn} {m m':Nat} {L:List Nat} {k:List UInt8} {p:Nat} (hm:m < ns.length) (h0:kdAt ns m=0) (hk:kyAt ns m=k) (ht:ns[m].tx=[]) (hn:ns[m].nu=0) (ha:a[m']?=some ⟨0,k,[],0,[],p⟩) (E:Ext m' a b L) (C:Cps ns b (dord ns m) L):Al ns b m m':=by
 have hb:=E.here _ ha
 have hml:=get_lt ha
 rw [kyAt_in hm] at hk
 have e0:kdAt ns m=ns[m].kd:=by unfold kdAt;rw [List.getElem?_eq_getElem hm]
 refine Al.mk m m' ns[m] _ (List.getElem?_eq_getElem hm) hb (by rw [<-e0];exact h0.symm) hk.symm ht.symm hn.symm (fun x hx=>?_) (by simpa using C.len) (fun i x y hx hy=>C.al i x y hx (by simpa using hy))
 have:=E.new x (by simpa using hx)
 omega
theorem tab_empty {n S:Nat} {ns:List Tn} (T:Tv n ns S) {m:Nat} (hm:m < ns.length) (h0:kdAt ns m=0\/kdAt ns m=2):ns[m].tx=[]/\ns[m].nu=0:=by
 have e0:kdAt ns m=ns[m].kd:=by unfold kdAt;rw [List.getElem?_eq_getElem hm]
 by_cases hz:m=0
 ·subst hz
  exact (T.rt ns[0] (List.getElem?_eq_getElem hm)).2
 ·obtain ⟨p,hp⟩:=T.par m (by omega) hm
  obtain ⟨_,h1,h2⟩:=T.shp p m hp ns[m] (List.getElem?_eq_getElem hm)
  rw [if_neg (by omega)] at h1
  rw [if_neg (by omega),if_neg (by omega)] at h2
  exact ⟨h1,h2⟩
theorem fold_ext {α:Type} (g:List UInt8->α->List UInt8) (h:∀o a,∃r,g o a=o++r):∀(l:List α) (o:List UInt8),∃r,l.foldl g o=o++r
 | [],o=>⟨[],by simp⟩
 | a :: l,o=>by
  obtain ⟨r1,h1⟩:=h o a
  obtain ⟨r2,h2⟩:=fold_ext g h l (g o a)
  exact ⟨r1++r2,by rw [List.foldl_cons,h2,h1];simp⟩
theorem gT_ext (ns:List Tn) (f:Nat) (K:List UInt8) (b:Bool) (o:List UInt8) (m:Nat):∃r,gT ns f K b o m=o++hdT o K b++r:=dT_pre ns f m K (o++hdT o K b)
theorem gT_ext2 (ns:List Tn) (f:Nat) (K:List UInt8) (b:Bool) (o:List UInt8) (m:Nat):∃r,gT ns f K b o m=o++r:=by
 obtain ⟨r,h⟩:=gT_ext ns f K b o m
 exact ⟨hdT o K b++r,by rw [h];simp⟩
theorem more_back {n S:Nat} {ns:List Tn} (T:Tv n ns S) (l:List UInt8) (f:Nat) (C:TbC ns l f) {q:Nat} (hq:kdAt ns q=2) {K:List (List UInt8)} {k:List UInt8} (hus:∀x ∈ K++[k],Us x) (t' n1:Nat):∀(Q:List Nat) (o r:List UInt8) (d:Sd),(∀m ∈ Q,m ∈ ksAt ns q/\ns.length - m<=f)->Inv l d->d.i=o.length->l=Q.foldl (gT ns f (jk (K++[k])) true) o++r->wk d.ns K 0=some t'->kidO d.ns t' k=some n1->kdAt d.ns n1=2->∃d' L,Run l d d'/\Inv l d'/\d'.i=(Q.foldl (gT ns f (jk (K++[k])) true) o).length/\Ext n1 d.ns d'.ns L/\Cps ns d'.ns Q L
 | [],o,r,d,_,I,hi,hl,hw,hk,h2=>⟨d,[],Run.refl _ _,I,hi,Ext.refl _ _,Cps.nil⟩
 | m :: Q,o,r,d,hQ,I,hi,hl,hw,hk,h2=>by
  obtain ⟨hm,hmf⟩:=hQ m (by simp)
  have hml:=T.lt _ _ hm
  have hm0:=T.two _ _ hq hm
  have I0:=I
  obtain ⟨L0,S0,T0⟩:=I0
  have hn1:n1 < d.ns.length:=kdAt_lt h2 (by decide)
  have hmem:n1 ∈ ksAt d.ns t':=by rw [kidO_eq] at hk;exact List.mem_of_find?_eq_some hk
  have hlt:=T0.gt _ _ hmem
  rw [List.foldl_cons] at hl ⊢
  obtain ⟨r1,hr1⟩:=gT_ext ns f (jk (K++[k])) true o m
  obtain ⟨r2,hr2⟩:=fold_ext _ (gT_ext2 ns f (jk (K++[k])) true) Q (gT ns f (jk (K++[k])) true o m)
  have hl1:l=o++hdT o (jk (K++[k])) true++(r1++(r2++r)):=by rw [hl,hr2,hr1];simp
  have hl2:l=dT ns f m (jk (K++[k])) (o++hdT o (jk (K++[k])) true)++(r2++r):=by
   show l=gT ns f (jk (K++[k])) true o m++_
   rw [<-List.append_assoc,<-hr2];exact hl
  obtain ⟨p,d2,R2,I2,e2,n2,w2⟩:=head_back (dbl:=true) (b:=fun p=>addN d.ns n1 ⟨0,[],[],0,[],p⟩) (t1:=d.ns.length) I hi hl1 hus hw (fun p=>by
   rw [if_pos rfl]
   unfold endL
   rw [hk]
   simp only []
   rw [if_pos h2])
  have E2:Ext n1 d.ns d2.ns [d.ns.length]:=by rw [n2];exact ext_add _ hn1
  have hnew:d2.ns[d.ns.length]?=some ⟨0,[],[],0,[],p⟩:=by rw [n2];exact add_new _ hn1
  have hw2:=wk_keep T0 E2 t' (by omega) K 0 hw
  have hk2:kidO d2.ns t' k=some n1:=by rw [kidO_keep E2 (by omega) (by omega) (fun x hx=>T0.lt _ _ hx)];exact hk
  obtain ⟨a1,-,-,-,a5⟩:=E2.node n1 hn1
  have hx2:nxt d2.ns t' k=some d.ns.length:=by
   unfold nxt
   rw [hk2]
   simp only []
   rw [a1,h2,if_neg (by decide),if_pos rfl,a5 rfl]
   simp
  have hks:ksAt d2.ns d2.now=[]:=by rw [w2];unfold ksAt;rw [hnew]
  obtain ⟨d3,L3,R3,I3,e3,E3,C3⟩:=C m (K++[k]) _ _ d2 hml hm0 hmf hus I2 e2 hl2 (by rw [w2];exact wk_snoc _ _ K 0 t' _ hw2 hx2) hks
  rw [w2] at E3
  obtain ⟨x1,x2⟩:=tab_empty T hml (Or.inl hm0)
  have hky:kyAt ns m=[]:=by
   have:=(T.shp q m hm ns[m] (List.getElem?_eq_getElem hml)).par
   rw [hq] at this
   rw [kyAt_in hml]
   rcases this with ⟨h,_⟩ | ⟨h,_⟩ | ⟨_,h,_⟩
   ·exact absurd h (by decide)
   ·exact absurd h (by decide)
   ·exact h
  have hal:=al_tab hml hm0 hky x1 x2 hnew E3 C3
  have E13:Ext n1 d.ns d3.ns [d.ns.length]:=E2.deep (Nat.le_refl _) hn1 E3
  obtain ⟨d4,L4,R4,I4,e4,E4,C4⟩:=more_back T l f C hq hus t' n1 Q _ r d3 (fun x hx=>hQ x (by simp [hx])) I3 e3 hl (wk_keep T0 E13 t' (by omega) K 0 hw) (by rw [kidO_keep E13 (by omega) (by omega) (fun x hx=>T0.lt _ _ hx)];exact hk) (by rw [(E13.node n1 hn1).1];exact h2)
  exact ⟨d4,d.ns.length :: L4,R2.trans (R3.trans R4),I4,e4,E13.trans E4,(Cps.one (hal.keep fun p hp hpl=>E4.oth p hpl (by omega))).app C4⟩
theorem kid_back {n S:Nat} {ns:List Tn} (T:Tv n ns S) (V:WT ns) (l:List UInt8) (f:Nat) (C:TbC ns l f) {t:Nat} (ht:kdAt ns t=0) (hf:ns.length - t<=f+1) {K:List (List UInt8)} (hus:∀x ∈ K,Us x) {q t':Nat} (hq:q ∈ rs ns t true) {M LM:List Nat} {o r:List UInt8} {d:Sd} (hkk:∀x ∈ M,kyAt ns x ≠ kyAt ns q) (I:Inv l d) (hi:d.i=o.length) (hl:l=gK ns f (jk K) o q++r) (hw:wk d.ns K 0=some t') (hM:ksAt d.ns t'=LM) (hc:Cps ns d.ns M LM) (ht':t' < d.ns.length) :
  ∃d',Run l d d'/\Inv l d'/\d'.i=(gK ns f (jk K) o q).length/\Ext t' d.ns d'.ns [d.ns.length]/\Al ns d'.ns q d.ns.length:=by
 obtain ⟨hqm,htb⟩:=rs_mem hq
 have hql:=T.lt _ _ hqm
 have hqg:=T.gt _ _ hqm
 have hkd:kdAt ns q=0\/kdAt ns q=2:=of_decide_eq_true htb
 have I0:=I
 obtain ⟨L0,S0,T0⟩:=I0
 have husk:∀x ∈ K++[kyAt ns q],Us x:=fun x hx=>by
  rcases List.mem_append.1 hx with hx | hx
  ·exact hus x hx
  ·rw [List.mem_singleton.1 hx,kyAt_in hql]
   have:=(T.shp t q hqm ns[q] (List.getElem?_eq_getElem hql)).par
   rw [ht] at this
   rcases this with ⟨_,h,_⟩ | ⟨h,_⟩ | ⟨h,_⟩
   ·exact h
   ·exact absurd h (by decide)
   ·exact absurd h (by decide)
 have hnone:=kidO_none T0 hM hc hkk
 obtain ⟨k,hk⟩:∃k,kyAt ns q=k:=⟨_,rfl⟩
 rw [hk] at husk hnone hkk
 have hff:∀y ∈ LM,kyB d.ns k y=false:=fun y hy=>by
  rw [kidO_eq,hM,List.find?_eq_none] at hnone
  have:=hnone y hy
  cases hb:kyB d.ns k y with
  | true=>exact absurd hb this
  | false=>rfl
 obtain ⟨x1,x2⟩:=tab_empty T hql hkd
 unfold gK at hl ⊢
 rw [jk_path,hk] at hl ⊢
 rcases hkd with h0 | h2
 ·have hms:msT ns q=[q]:=by unfold msT;rw [if_neg (by omega)]
  have hdb:dbT ns q=false:=by unfold dbT;exact decide_eq_false (by omega)
  rw [hms,hdb,List.foldl_cons,List.foldl_nil] at hl ⊢
  obtain ⟨r1,hr1⟩:=gT_ext ns f (jk (K++[k])) false o q
  have hl1:l=o++hdT o (jk (K++[k])) false++(r1++r):=by rw [hl,hr1];simp
  obtain ⟨p,d2,R2,I2,e2,n2,w2⟩:=head_back (dbl:=false) (b:=fun p=>addN d.ns t' ⟨0,k,[],0,[],p⟩) (t1:=d.ns.length) I hi hl1 husk hw (fun p=>by
   rw [if_neg (by decide)]
   unfold endT
   rw [hnone])
  have E2:Ext t' d.ns d2.ns [d.ns.length]:=by rw [n2];exact ext_add _ ht'
  have hnew:d2.ns[d.ns.length]?=some ⟨0,k,[],0,[],p⟩:=by rw [n2];exact add_new _ ht'
  have hw2:=wk_keep T0 E2 t' (Nat.le_refl _) K 0 hw
  have hko:kidO d2.ns t' k=some d.ns.length:=by
   refine kidO_new (M:=LM) (by rw [(E2.node t' ht').2.2.2.2 rfl,hM]) (fun y hy=>?_) ?_
   ·rw [(E2.node y (T0.lt t' y (by rw [hM];exact hy))).2.2.1];exact hff y hy
   ·unfold kyB;rw [hnew];simp
  have hx2:nxt d2.ns t' k=some d.ns.length:=by
   have hk0:kdAt d2.ns d.ns.length=0:=by unfold kdAt;rw [hnew]
   unfold nxt
   rw [hko]
   simp only []
   rw [if_pos hk0]
  have hks:ksAt d2.ns d2.now=[]:=by rw [w2];unfold ksAt;rw [hnew]
  obtain ⟨d3,L3,R3,I3,e3,E3,C3⟩:=C q (K++[k]) _ _ d2 hql h0 (by omega) husk I2 e2 hl (by rw [w2];exact wk_snoc _ _ K 0 t' _ hw2 hx2) hks
  rw [w2] at E3
  exact ⟨d3,R2.trans R3,I3,e3,E2.deep (Nat.le_refl _) ht' E3,al_tab hql h0 hk x1 x2 hnew E3 C3⟩
 ·have hms:msT ns q=ksAt ns q:=by unfold msT;rw [if_pos h2]
  have hdb:dbT ns q=true:=by unfold dbT;exact decide_eq_true h2
  rw [hms,hdb] at hl ⊢
  cases hQ:ksAt ns q with
  | nil=>exact absurd hQ (V q h2).1
  | cons m Q =>
   rw [hQ,List.foldl_cons] at hl
   rw [List.foldl_cons]
   have hm:m ∈ ksAt ns q:=by rw [hQ];simp
   have hml:=T.lt _ _ hm
   have hmg:=T.gt _ _ hm
   have hm0:=T.two _ _ h2 hm
   obtain ⟨r1,hr1⟩:=gT_ext ns f (jk (K++[k])) true o m
   obtain ⟨r2,hr2⟩:=fold_ext _ (gT_ext2 ns f (jk (K++[k])) true) Q (gT ns f (jk (K++[k])) true o m)
   have hl1:l=o++hdT o (jk (K++[k])) true++(r1++(r2++r)):=by rw [hl,hr2,hr1];simp
   have hl2:l=dT ns f m (jk (K++[k])) (o++hdT o (jk (K++[k])) true)++(r2++r):=by
    show l=gT ns f (jk (K++[k])) true o m++_
    rw [<-List.append_assoc,<-hr2];exact hl
   obtain ⟨p,d2,R2,I2,e2,n2,w2⟩:=head_back (dbl:=true) (b:=fun p=>addN (addN d.ns t' ⟨2,k,[],0,[],p⟩) d.ns.length ⟨0,[],[],0,[],p⟩) (t1:=d.ns.length+1) I hi hl1 husk hw (fun p=>by
    rw [if_pos rfl]
    unfold endL
    rw [hnone])
   have hl':(addN d.ns t' ⟨2,k,[],0,[],p⟩).length=d.ns.length+1:=addN_len _ _ _
   have hn1:d.ns.length < (addN d.ns t' ⟨2,k,[],0,[],p⟩).length:=by omega
   have E2:Ext t' d.ns d2.ns [d.ns.length]:=by
    rw [n2]
    exact (ext_add _ ht').deep (Nat.le_refl _) ht' (ext_add _ hn1)
   have hnew:d2.ns[d.ns.length+1]?=some ⟨0,[],[],0,[],p⟩:=by
    rw [n2,<-hl'];exact add_new _ hn1
   have hlst:d2.ns[d.ns.length]?=some ⟨2,k,[],0,[d.ns.length+1],p⟩:=by
    rw [n2]
    have:=(ext_add (ns:=addN d.ns t' ⟨2,k,[],0,[],p⟩) ⟨0,[],[],0,[],p⟩ hn1).here _ (add_new ⟨2,k,[],0,[],p⟩ ht')
    rw [hl'] at this
    exact this
   have hw2:=wk_keep T0 E2 t' (Nat.le_refl _) K 0 hw
   have hko:kidO d2.ns t' k=some d.ns.length:=by
    refine kidO_new (M:=LM) (by rw [(E2.node t' ht').2.2.2.2 rfl,hM]) (fun y hy=>?_) ?_
    ·rw [(E2.node y (T0.lt t' y (by rw [hM];exact hy))).2.2.1];exact hff y hy
    ·unfold kyB;rw [hlst];simp
   have hk2:kdAt d2.ns d.ns.length=2:=by unfold kdAt;rw [hlst]
   have hx2:nxt d2.ns t' k=some (d.ns.length+1):=by
    have hks2:ksAt d2.ns d.ns.length=[d.ns.length+1]:=by unfold ksAt;rw [hlst]
    unfold nxt
    rw [hko]
    simp only []
    rw [hk2,if_neg (by decide),if_pos rfl,hks2]
    rfl
   have hks:ksAt d2.ns d2.now=[]:=by rw [w2];unfold ksAt;rw [hnew]
   obtain ⟨d3,L3,R3,I3,e3,E3,C3⟩:=C m (K++[k]) _ _ d2 hml hm0 (by omega) husk I2 e2 hl2 (by rw [w2];exact wk_snoc _ _ K 0 t' _ hw2 hx2) hks
   rw [w2] at E3
   obtain ⟨y1,y2⟩:=tab_empty T hml (Or.inl hm0)
   have hky:kyAt ns m=[]:=by
    have:=(T.shp q m hm ns[m] (List.getElem?_eq_getElem hml)).par
    rw [h2] at this
    rw [kyAt_in hml]
    rcases this with ⟨h,_⟩ | ⟨h,_⟩ | ⟨_,h,_⟩
    ·exact absurd h (by decide)
    ·exact absurd h (by decide)
    ·exact h
   have hal:=al_tab hml hm0 hky y1 y2 hnew E3 C3
   obtain ⟨L2',S2,T2⟩:=I2
   have hl2n:d.ns.length+1 < d2.ns.length:=get_lt hnew
   obtain ⟨d4,L4,R4,I4,e4,E4,C4⟩:=more_back T l f C h2 husk t' d.ns.length Q _ r d3 (fun x hx=>by
    have hx':x ∈ ksAt ns q:=by rw [hQ];simp [hx]
    have:=T.gt _ _ hx'
    exact ⟨hx',by omega⟩) I3 e3 hl (wk_keep T2 E3 t' (by omega) K 0 hw2) (by rw [kidO_keep E3 (by omega) (by omega) (fun x hx=>T2.lt _ _ hx)];exact hko) (by rw [(E3.node d.ns.length (by omega)).1];exact hk2)
   have hlst3:d3.ns[d.ns.length]?=some ⟨2,k,[],0,[d.ns.length+1],p⟩:=(E3.oth _ (by omega) (by omega)).trans hlst
   have hlst4:=E4.here _ hlst3
   have e0:kdAt ns q=ns[q].kd:=by unfold kdAt;rw [List.getElem?_eq_getElem hql]
   have hdq:dord ns q=m :: Q:=by unfold dord;rw [if_neg (by omega),hQ]
   have hl3:=E3.len
   have CA:Cps ns d4.ns (m :: Q) ((d.ns.length+1) :: L4):=(Cps.one (hal.keep fun p hp hpl=>E4.oth p hpl (by omega))).app C4
   refine ⟨d4,R2.trans (R3.trans R4),I4,e4,(E2.deep (by omega) ht' E3).deep (Nat.le_refl _) ht' E4,?_⟩
   refine Al.mk q d.ns.length ns[q] _ (List.getElem?_eq_getElem hql) hlst4 (by rw [<-e0];exact h2.symm) (by rw [<-kyAt_in hql];exact hk.symm) x1.symm x2.symm (fun x hx=>?_) ?_ ?_
   ·have hx':x=d.ns.length+1\/x ∈ L4:=by simpa using hx
    rcases hx' with rfl | hx'
    ·omega
    ·have:=E4.new x hx'
     omega
   ·rw [hdq]
    exact CA.len
   ·rw [hdq]
    exact CA.al
theorem tabs_back {n S:Nat} {ns:List Tn} (T:Tv n ns S) (V:WT ns) (l:List UInt8) (f:Nat) (C:TbC ns l f) {t:Nat} (ht:kdAt ns t=0) (hf:ns.length - t<=f+1) {K:List (List UInt8)} (hus:∀x ∈ K,Us x) (t':Nat):∀(Q M LM:List Nat) (o r:List UInt8) (d:Sd),(∃R,dord ns t=M++(Q++R))->(∀q ∈ Q,q ∈ rs ns t true)->Inv l d->d.i=o.length->l=Q.foldl (gK ns f (jk K)) o++r->wk d.ns K 0=some t'->t' < d.ns.length->ksAt d.ns t'=LM->Cps ns d.ns M LM->∃d' L,Run l d d'/\Inv l d'/\d'.i=(Q.foldl (gK ns f (jk K)) o).length/\Ext t' d.ns d'.ns L/\Cps ns d'.ns Q L
 | [],M,LM,o,r,d,_,_,I,hi,_,_,_,_,_=>⟨d,[],Run.refl _ _,I,hi,Ext.refl _ _,Cps.nil⟩
 | q :: Q,M,LM,o,r,d,⟨R,hD⟩,hQ,I,hi,hl,hw,ht',hM,hc=>by
  have hkk:∀x ∈ M,kyAt ns x ≠ kyAt ns q:=fun x hx=>by
   have h1:=dord_keys ht (T.kdd t ht)
   rw [hD,List.pairwise_append] at h1
   exact h1.2.2 x hx q (by simp)
  have I0:=I
  obtain ⟨L0,S0,T0⟩:=I0
  rw [List.foldl_cons] at hl ⊢
  have hgx:∀o q,∃r,gK ns f (jk K) o q=o++r:=fun o q=>fold_ext _ (gT_ext2 ns f _ _) _ o
  obtain ⟨r2,hr2⟩:=fold_ext _ hgx Q (gK ns f (jk K) o q)
  obtain ⟨d2,R2,I2,e2,E2,A2⟩:=kid_back T V l f C ht hf hus (hQ q (by simp)) (r:=r2++r) hkk I hi (by rw [<-List.append_assoc,<-hr2];exact hl) hw hM hc ht'
  have hgt:∀y ∈ LM,t'+1<=y:=fun y hy=>by rw [<-hM] at hy;exact T0.gt _ _ hy
  have hc2:Cps ns d2.ns (M++[q]) (LM++[d.ns.length]):=(hc.keep hgt fun p hp hpl=>E2.oth p hpl (by omega)).app (Cps.one A2)
  have hl2:=E2.len
  obtain ⟨d3,L,R3,I3,e3,E3,C3⟩:=tabs_back T V l f C ht hf hus t' Q (M++[q]) (LM++[d.ns.length]) _ r d2 ⟨R,by rw [hD];simp⟩ (fun x hx=>hQ x (by simp [hx])) I2 e2 hl (wk_keep T0 E2 t' (Nat.le_refl _) K 0 hw) (by omega) (by rw [(E2.node t' ht').2.2.2.2 rfl,hM]) hc2
  exact ⟨d3,d.ns.length :: L,R2.trans R3,I3,e3,E2.trans E3,(Cps.one (A2.keep fun p hp hpl=>E3.oth p hpl (by omega))).app C3⟩
theorem tb_back {n S:Nat} {ns:List Tn} {own:List Nat} (T:Tv n ns S) (W:WF ns own) (V:WT ns) (l:List UInt8):∀f,TbC ns l f
 | 0=>fun t K out r d ht h0 hf=>by omega
 | f+1=>by
  intro t K out r d ht h0 hf hus I hi hl hw hks
  have I0:=I
  obtain ⟨L0,S0,T0⟩:=I0
  have hnow:=L0.jt.lt
  rw [dT_gK,prT_rs] at hl ⊢
  have hgx:∀o q,∃r,gK ns f (jk K) o q=o++r:=fun o q=>fold_ext _ (gT_ext2 ns f _ _) _ o
  obtain ⟨r2,hr2⟩:=fold_ext _ hgx (rs ns t true) (out++(rs ns t false).flatMap (pr1 ns))
  have hd:dord ns t=rs ns t false++rs ns t true:=by unfold dord;rw [if_pos h0]
  obtain ⟨d1,L1,R1,I1,e1,w1,E1,C1⟩:=pairs_back T W l h0 (rs ns t false) [] [] out (r2++r) d ⟨rs ns t true,by rw [hd];rfl⟩ (fun q hq=>hq) I hi (by rw [<-List.append_assoc,<-hr2];exact hl) hks Cps.nil
  have hl1:=E1.len
  obtain ⟨d2,L2,R2,I2,e2,E2,C2⟩:=tabs_back T V l f (tb_back T W V l f) h0 hf hus d.now (rs ns t true) (rs ns t false) L1 _ r d1 ⟨[],by rw [hd];simp⟩ (fun q hq=>hq) I1 e1 hl (wk_keep T0 E1 d.now (Nat.le_refl _) K 0 hw) (by omega) (by rw [(E1.node d.now hnow).2.2.2.2 rfl,hks];rfl) C1
  refine ⟨d2,L1++L2,R1.trans R2,I2,e2,E1.trans E2,?_⟩
  rw [hd]
  exact (C1.keep (m:=d.now+1) (fun q hq=>by have:=E1.new q hq;omega) fun p hp hpl=>E2.oth p hpl (by omega)).app C2
theorem toml_again (l:List UInt8) (ns:List Tn) (h:rdToml l=.ok ns) (hlen:(fmT ns).length<=100000):∃ns',rdToml (fmT ns)=.ok ns'/\Al ns ns' 0 0:=by
 obtain ⟨T,own,W,hn⟩:=toml_tv l ns h
 obtain ⟨own2,now2,J,-⟩:=toml_ok l ns h
 have F:Ef ns own:=⟨W,T.gt,T.nod,T.kdd,T.two,T.root,fun i hi=>by have:=(T.txt ns[i] (List.getElem_mem hi)).1;omega⟩
 have hf:=dT_fmT F
 obtain ⟨x,hx⟩:∃x,fmT ns=x:=⟨_,rfl⟩
 rw [hx] at hf hlen ⊢
 obtain ⟨d,L,R,I,e,E,C⟩:=tb_back T W J.wt x ns.length 0 [] [] [] ⟨0,[⟨0,[],[],0,[],0⟩],[],0⟩ F.root.1 F.root.2 (by omega) (by simp) ⟨li_start x,_,tv_start _⟩ rfl (by rw [show jk []=[] from rfl,hf];simp) rfl rfl
 rw [show jk []=[] from rfl,hf] at e
 obtain ⟨f',hf',hr⟩:=R (x.length+1) (by simp only [];omega)
 match f',hf' with
 | f'+1,_ =>
  have h0:0 < ns.length:=F.root.1
  have hr2:rdAll x (f'+1) d=.ok d:=by rw [rdAll_step,if_pos (by omega)]
  rw [hr2] at hr
  obtain ⟨x1,x2⟩:=tab_empty T F.root.1 (Or.inl F.root.2)
  have hk:=(T.rt ns[0] (List.getElem?_eq_getElem F.root.1)).1
  refine ⟨d.ns,?_,al_tab F.root.1 F.root.2 (by rw [kyAt_in F.root.1];exact hk) x1 x2 rfl E C⟩
  rw [rdToml_eq,if_neg (by omega),hr]
  rfl
end Go.Proofs.YtbgnflcebafjjaaGreatDoor
