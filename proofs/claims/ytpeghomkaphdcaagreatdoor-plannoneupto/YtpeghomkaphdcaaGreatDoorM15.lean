import Derived.Test.YtpeghomkaphdcaaGreatDoorM14
import Derived.Test.YtpeghomkaphdcaaGreatDoorM11
namespace Go.Proofs.YtpeghomkaphdcaaGreatDoor
open Go.RowKit
set_option linter.unusedVariables false
theorem hown_set {w:World} {base:Nat} {e:TypeId} {size:Nat} {g n cap:Nat} {xs:List Value} (h:w.ownsRow base e size (.slice (some ⟨g,0,none⟩) n cap) n xs) (o:Nat) (x:Value) (ho:o < n * size):(w.setCell ⟨g,o,none⟩ x).ownsRow base e size (.slice (some ⟨g,0,none⟩) n cap) n (xs.set o x):=by
 refine ⟨by rw [List.length_set];exact h.1,?_⟩
 rcases h.2 with ⟨h1,_⟩ | ⟨g',cap',cur,h1,hb,hg,hn,hm,hs,ht⟩
 ·cases h1
 ·cases h1
  refine Or.inr ⟨g,cap,cur.setIfInBounds o x,rfl,hb,?_,hn,hm,by simpa using hs,?_⟩
  ·simp [World.setCell,Array.getElem?_modify,hg]
  ·rw [Array.toList_setIfInBounds,List.take_set,ht]
theorem hzero_off (g k:Nat):(⟨g,0,none⟩:Addr).add k=⟨g,k,none⟩:=by
 unfold Addr.add
 split
 ·rename_i h;rw [h]
 ·simp
theorem hown_f {w:World} {base:Nat} {e:TypeId} {size gs n cap:Nat} {xs:List Value} (h:w.ownsRow base e size (.slice (some ⟨gs,0,none⟩) n cap) n xs) (o:Nat):w.frozen? ⟨gs,o,none⟩=false:=by
 rcases h.2 with ⟨h1,_⟩ | ⟨g',cap',cur,h1,hb,hg,_⟩
 ·cases h1
 ·cases h1;exact Lib.frozen_of_heap hg o
theorem swap_set (P:List Value) (u v:Value) (Q:List Value):((P++u :: v :: Q).set (P.length+1) u).set P.length v=P++v :: u :: Q:=by
 rw [List.set_append_right _ _ (by omega),show P.length+1 - P.length=1 by omega]
 rw [List.set_append_right _ _ (by omega),Nat.sub_self]
 rfl
theorem below_set {B:Nat} {a w:World} (h:Below B a w) {g:Nat} (hg:B<=g) (o:Nat) (v:Value):Below B a (w.setCell ⟨g,o,none⟩ v) :=
 ⟨h.os,h.tape,h.output,by simpa [World.setCell] using h.size,fun k hk=>by rw [<-h.block k hk];exact heap_setCell_other w _ k v (by simp;omega)⟩
theorem own_stay {w w':World} {base:Nat} {e:TypeId} {size:Nat} {v:Value} {n:Nat} {xs:List Value} (h:w.ownsRow base e size v n xs) (hg:w.grownBy w' none):w'.ownsRow base e size v n xs :=
 h.kept hg (by cases v.ownBlock <;> simp)
theorem srow_cell {w:World} {base g n cap:Nat} {A B:List ByteArray} {x:ByteArray} (h:w.ownsRow base 9 1 (.slice (some ⟨g,0,none⟩) n cap) n ((A++x :: B).map Value.string)):w.cell? ⟨g,A.length,none⟩=some (.string x):=by
 have:=h.cells (g:=g) rfl A.length (.string x) (by simp)
 rw [hzero_off] at this
 exact this
set_option maxRecDepth 100000 in
set_option maxHeartbeats 6400000 in
theorem sorted_at (a:Addr) (c:Nat) (L:List ByteArray) (w:World) (hL:L.length<=1048576) (hpos:0 < L.length) (h:∀j (hj:j < L.length),w.cell? (a.add j)=some (.string L[j])) :
  Calls Tryz.prog 30 #[.slice (some a) L.length c] w (SrtPost L w):=by
 have hinfo2:=infoTx
 obtain ⟨j0,hj0,hjj⟩:=Option.map_eq_some_iff.1 hinfo2
 simp only [Prod.mk.injEq] at hjj
 obtain ⟨hy0,hy1,hyb⟩:=hjj
 clear hinfo2
 have hnews:∀j u,(L.map Value.string)[j]?=some u->w.cell? (a.add j)=some u:=fun j u hu=>by
  obtain ⟨hj,rfl⟩:=List.getElem?_eq_some_iff.1 hu
  rw [List.getElem_map];exact h j (by simpa using hj)
 obtain ⟨n,hn⟩:∃n,L.length=n:=⟨_,rfl⟩
 have HN:Hid (L.length=n):=hn
 rw [hn] at hL hpos ⊢
 clear h
 go_enter Tryz.func30,Tryz.ntmps30
 go_wp2_with (first | (at_builtin;refine wpList_append_lies _ rfl _ _ 40 rfl w.heap.size 9 j0 _ 1 16 Tryz.underlying40 hj0 hy0 hy1 hyb rfl (by decide) (.slice none 0 0) 0 [] rfl (World.ownsRow_nil _ _ _ _) a n c (L.map Value.string) rfl (by rw [List.length_map,hn,Nat.mul_one]) hnews (txt_one _) hpos (by unfold maxLen;omega) (by omega) (Nat.le_refl _) _ rfl ?_;intro g cap1 w1 hown1 hgrow1 hat1 hlt1))
 simp only [Nat.zero_add] at hown1 ⊢
 have HO1:Hid (w1.ownsRow w.heap.size 9 1 (.slice (some ⟨g,0,none⟩) n cap1) n (L.map Value.string)):=hown1
 have HB1:Hid (Below w.heap.size w w1):=⟨hgrow1.os,hgrow1.tape,hgrow1.output,hgrow1.size,fun k hk=>hgrow1.block k hk (by simp [Value.ownBlock])⟩
 have HCP:Hid (n<=cap1):=by
  rcases hown1.2 with ⟨h1,_⟩ | ⟨g',cap',cur,hv,_,_,h3,_⟩
  ·cases h1
  ·cases hv;exact h3
 clear hown1 hgrow1 hat1 hlt1 hnews hn
 have hcp:=HCP.out
 go_wp2
 go_loopw [4] (fun vi wr=>∃(i:Nat) (P:List ByteArray),vi=.int .i64 i/\1<=i/\i<=n/\P.Perm (L.take i)/\RiseT P/\wr.ownsRow w.heap.size 9 1 (.slice (some ⟨g,0,none⟩) n cap1) n ((P++L.drop i).map Value.string)/\Below w.heap.size w wr) (fun vi _=>n - (intOf vi).toNat)
 case atStart=>exact ⟨1,L.take 1,rfl,Nat.le_refl _,hpos,List.Perm.refl _,by
  unfold RiseT
  match L,HN.out with
  | [],h=>exact List.Pairwise.nil
  | x :: r,h=>simp,by rw [List.take_append_drop];exact HO1.out,HB1.out⟩
 case round =>
  obtain ⟨i,P,rfl,hi1,hi,hp,hs,hown,hb⟩:=hrel
  have HP:Hid (P.Perm (L.take i)/\RiseT P):=⟨hp,hs⟩
  have HB:Hid (Below w.heap.size w wr):=hb
  by_cases hlt:i < n
  ·have hlt':i < L.length:=by rw [HN.out];exact hlt
   obtain ⟨x,hx⟩:∃x,L[i]=x:=⟨_,rfl⟩
   have HPL:Hid (P.length=i):=by
    show _=_
    rw [hp.length_eq,List.length_take];omega
   have HTK:Hid (L.take (i+1)=L.take i++[x]):=by
    show _=_
    rw [List.take_succ_eq_append_getElem hlt',hx]
   obtain ⟨Z,hZ⟩:∃Z,L.drop (i+1)=Z:=⟨_,rfl⟩
   have HZ:Hid (L.drop (i+1)=Z):=hZ
   have HR0:Hid (wr.ownsRow w.heap.size 9 1 (.slice (some ⟨g,0,none⟩) n cap1) n ((P++x :: ([]++Z)).map Value.string)):=by
    show World.ownsRow _ _ _ _ _ _ _
    rw [List.nil_append,<-hZ,<-hx,<-List.drop_eq_getElem_cons hlt']
    exact hown
   clear hp hs hown hb hx hZ
   go_wp2
   go_loopw [5] (fun vk wk=>∃A B:List ByteArray,vk=.int .i64 (A.length:Int)/\A++B=P/\(∀b ∈ B,cT x b < 0)/\wk.ownsRow w.heap.size 9 1 (.slice (some ⟨g,0,none⟩) n cap1) n ((A++x :: (B++Z)).map Value.string)/\Below w.heap.size w wk) (fun vk _=>(intOf vk).toNat)
   case atStart=>exact ⟨P,[],by rw [HPL.out],by simp,by simp,HR0.out,HB.out⟩
   case round =>
    obtain ⟨A,B,rfl,hAB,hBn,hrow,hbk⟩:=hrel
    have HRW:Hid (wr.ownsRow w.heap.size 9 1 (.slice (some ⟨g,0,none⟩) n cap1) n ((A++x :: (B++Z)).map Value.string)):=hrow
    have HBK:Hid (Below w.heap.size w wr):=hbk
    have HBN:Hid (∀b ∈ B,cT x b < 0):=hBn
    have HAB:Hid (A++B=P):=hAB
    have HOUT:Hid ((∀A0 y,A=A0++[y]->cT y x<=0)->(A++x :: B).Perm (L.take (i+1))/\RiseT (A++x :: B)):=fun hlast=>by
     refine ⟨?_,rise_mid (by rw [HAB.out];exact HP.out.2) HBN.out hlast⟩
     have h1:(A++x :: B).Perm (x :: (A++B)):=List.perm_middle
     rw [HAB.out] at h1
     rw [HTK.out]
     exact h1.trans ((HP.out.1.cons x).trans (List.perm_append_singleton x _).symm)
    have HAE:Hid ((A++x :: (B++Z)).map Value.string=((A++x :: B)++L.drop (i+1)).map Value.string):=by
     show _=_
     rw [HZ.out];simp
    clear hAB hBn hrow hbk
    rcases List.eq_nil_or_concat A with rfl | ⟨A0,y,rfl⟩
    ·have HDN:=HOUT.out (fun A0 y e=>by simp at e)
     have HDO:Hid (([]++x :: B).Perm (L.take (i+1))/\RiseT ([]++x :: B)):=HDN
     clear HDN HOUT
     have k0:(([]:List ByteArray).length:Int)=0:=rfl
     rw [k0]
     clear k0
     have hdec:decide ((0:Int) < 0)=false:=by decide
     go_wp2
     go_quiet (fail)
     go_wp2
     go_roundw
     case rel=>exact ⟨i+1,[]++x :: B,by go_num,by omega,by omega,HDO.out.1,HDO.out.2,by rw [<-HAE.out];exact own_stay HRW.out (gb_drew (gb_refl _ none) _),below_drewN HBK.out _⟩
     case measure=>simp [intOf];omega
    ·simp only [List.concat_eq_append] at HRW HAB HOUT HAE ⊢
     have d1:wr.cell? ⟨g,A0.length+1,none⟩=some (.string x):=by
      have:=srow_cell HRW.out
      simpa using this
     have d2:wr.cell? ⟨g,A0.length,none⟩=some (.string y):=by
      have h1:=HRW.out
      rw [List.append_assoc] at h1
      exact srow_cell (A:=A0) (x:=y) (B:=x :: (B++Z)) h1
     have HLN:Hid (A0.length+1<=i):=by
      have h1:=congrArg List.length HAB.out
      have h2:=HPL.out
      simp only [List.length_append,List.length_cons,List.length_nil] at h1
      show _<=_
      omega
     obtain ⟨m,hm⟩:∃m,A0.length=m:=⟨_,rfl⟩
     have hmi:=HLN.out
     have kl:(((A0++[y]).length:Nat):Int)=(m:Int)+1:=by simp [hm]
     rw [kl]
     rw [hm] at d1 d2 hmi
     have HNN:Hid (A0.length=m):=hm
     clear hm kl
     have t1:((m:Int)+1).toNat=m+1:=by omega
     have t3:(0:Int) < (m:Int)+1:=by omega
     have t4:decide ((0:Int) < (m:Int)+1)=true:=decide_eq_true t3
     have t6:(m:Int)+1 < (n:Int):=by omega
     have t7:(0:Int)<=(m:Int)+1:=by omega
     have t8:(m:Int) < (n:Int):=by omega
     have tE:IntKind.i64.wrap (m:Int)=(m:Int):=by
      rw [IntKind.wrap_i64];omega
     have tD:(0:Int)<=(m:Int):=by omega
     have t9:m+1 < n:=by omega
     have t10:m < n:=by omega
     by_cases hr0:cT x y < 0
     ·have t5:=cT_less hr0
      have ff:=hown_f HRW.out
      go_wp2
      go_quiet (fail)
      go_wp2
      have hgb:=(HRW.out.lt g rfl).1
      refine ⟨⟨A0,y :: B,by rw [HNN.out],by have:=HAB.out;simpa using this,fun b hb=>?_,?_,below_set (below_set (below_drewN HBK.out _) hgb _ _) hgb _ _⟩,by simp [intOf]⟩
      ·rcases List.mem_cons.1 hb with rfl | hb
       ·exact hr0
       ·exact HBN.out b hb
      ·have e1:((A0++[y])++x :: (B++Z)).map Value.string=A0.map Value.string++.string y :: .string x :: (B++Z).map Value.string:=by simp
       have e2:(A0++x :: (y :: B++Z)).map Value.string=A0.map Value.string++.string x :: .string y :: (B++Z).map Value.string:=by simp
       have e4:m=(A0.map Value.string).length:=by rw [List.length_map];exact HNN.out.symm
       have h1:∀q,(((wr.drewN q).setCell ⟨g,m+1,none⟩ (.string y)).setCell ⟨g,m,none⟩ (.string x)).ownsRow w.heap.size 9 1 (.slice (some ⟨g,0,none⟩) n cap1) n ((A0++x :: (y :: B++Z)).map Value.string):=fun q=>by
        have h:=hown_set (hown_set (own_stay HRW.out (gb_drew (gb_refl wr none) q)) (m+1) (.string y) (by omega)) m (.string x) (by omega)
        rw [e1,e4,swap_set,<-e2,<-e4] at h
        exact h
       exact h1 _
     ·have t5:=cT_not hr0
      have HDN:=HOUT.out (fun A1 y1 e=>by
       have e1:=List.append_inj' e rfl
       have e2:y=y1:=by simpa using e1.2
       rw [<-e2];exact cT_flip hr0)
      have HDO:Hid (((A0++[y])++x :: B).Perm (L.take (i+1))/\RiseT ((A0++[y])++x :: B)):=HDN
      clear HDN HOUT
      go_wp2
      go_quiet (fail)
      go_wp2
      go_roundw
      case rel=>exact ⟨i+1,(A0++[y])++x :: B,by go_num,by omega,by omega,HDO.out.1,HDO.out.2,by rw [<-HAE.out];exact own_stay HRW.out (gb_drew (gb_refl _ none) _),below_drewN HBK.out _⟩
      case measure=>simp [intOf];omega
  ·have hil:i=n:=by omega
   have HQ:Hid (P.Perm L/\wr.ownsRow w.heap.size 9 1 (.slice (some ⟨g,0,none⟩) n cap1) P.length (P.map Value.string)):=by
    have hln:L.length=i:=HN.out.trans hil.symm
    have e1:L.take i=L:=by rw [<-hln,List.take_length]
    have e2:L.drop i=[]:=by rw [<-hln,List.drop_length]
    rw [e1] at hp
    rw [e2,List.append_nil] at hown
    refine ⟨hp,?_⟩
    rw [hp.length_eq,HN.out]
    exact hown
   clear hp hs hown hb hil hi
   go_wp2
   refine bodyPost_ret (results_tmp (t:=2) rfl _ _ _) rfl ⟨_,P,rfl,HQ.out.2,HQ.out.1,HP.out.2,HB.out⟩
theorem cSorted (v:Value) (L:List ByteArray) (w:World) (h:TxS w v L) (hL:L.length<=1048576):Calls Tryz.prog 30 #[v] w (SrtPost L w):=by
 obtain ⟨o,c,rfl⟩:=txs_slice h
 by_cases h0:L.length=0
 ·have hnil:=List.length_eq_zero_iff.1 h0
  subst hnil
  have hinfo2:=infoTx
  obtain ⟨j0,hj0,hjj⟩:=Option.map_eq_some_iff.1 hinfo2
  clear h hinfo2 hjj
  have hz:(([]:List ByteArray).length)=0:=rfl
  rw [hz]
  clear hz
  go_enter Tryz.func30,Tryz.ntmps30
  go_wp2_with (first | (at_builtin;refine append_zero rfl _ _ 40 rfl 9 j0 Tryz.underlying40 hj0 rfl _ _ rfl ?_))
  go_wp2
  go_loopw [4] (fun vi wr=>vi=.int .i64 1/\Below w.heap.size w wr) (fun vi _=>0)
  case atStart=>exact ⟨rfl,Below.refl _ _⟩
  case round =>
   obtain ⟨rfl,hb⟩:=hrel
   have HB:Hid (Below w.heap.size w wr):=hb
   clear hb
   go_wp2
   refine bodyPost_ret (results_tmp (t:=2) rfl _ _ _) rfl ⟨_,[],rfl,World.ownsRow_nil _ _ _ _,List.Perm.refl _,List.Pairwise.nil,HB.out⟩
 ·rcases h with ⟨h1,h2⟩ | ⟨a,cap,h1,h2,h3⟩
  ·rw [h2] at h0;exact absurd rfl h0
  ·cases h1
   exact sorted_at a c L w hL (by omega) h3
open Go.RowKit
set_option linter.unusedVariables false
def leT (a b:ByteArray):Bool:=decide (cT a b<=0)
theorem leT_trans (a b c:ByteArray) (h1:leT a b=true) (h2:leT b c=true):leT a c=true:=by
 unfold leT at *
 exact decide_eq_true (cT_trans (of_decide_eq_true h1) (of_decide_eq_true h2))
theorem leT_total (a b:ByteArray):(leT a b || leT b a)=true:=by
 unfold leT
 have:=good_T.anti a b
 simp only [Bool.or_eq_true,decide_eq_true_eq]
 omega
def sortT (L:List ByteArray):List ByteArray:=L.mergeSort leT
theorem sortT_perm (L:List ByteArray):(sortT L).Perm L:=List.mergeSort_perm L leT
theorem sortT_rise (L:List ByteArray):RiseT (sortT L):=(List.pairwise_mergeSort leT_trans leT_total L).imp (fun h=>of_decide_eq_true h)
theorem sortT_one {S L:List ByteArray} (hp:S.Perm L) (hs:RiseT S):S=sortT L:=rise_one (hp.trans (sortT_perm L).symm) hs (sortT_rise L)
def riseE (x:En):En:=⟨x.nm,x.ve,x.dg,sortT x.nd⟩
def leE (a b:En):Bool:=leT a.nm b.nm
def sortE (L:List En):List En:=L.mergeSort leE
def RiseE (E:List En):Prop:=E.Pairwise (fun a b=>cT a.nm b.nm<=0)
theorem sortE_perm (L:List En):(sortE L).Perm L:=List.mergeSort_perm L leE
theorem sortE_rise (L:List En):RiseE (sortE L):=(List.pairwise_mergeSort (fun a b c=>leT_trans a.nm b.nm c.nm) (fun a b=>leT_total a.nm b.nm) L).imp (fun h=>of_decide_eq_true h)
theorem name_one:∀{L:List En},(L.map (·.nm)).Nodup->∀a ∈ L,∀b ∈ L,a.nm=b.nm->a=b
 | [],_,a,ha,_,_,_=>by cases ha
 | x :: L,h,a,ha,b,hb,e=>by
  rw [List.map_cons,List.nodup_cons] at h
  rcases List.mem_cons.1 ha with ha1 | ha1
  ·rcases List.mem_cons.1 hb with hb1 | hb1
   ·rw [ha1,hb1]
   ·exact absurd (by rw [<-ha1,e];exact List.mem_map.2 ⟨b,hb1,rfl⟩) h.1
  ·rcases List.mem_cons.1 hb with hb1 | hb1
   ·exact absurd (by rw [<-hb1,<-e];exact List.mem_map.2 ⟨a,ha1,rfl⟩) h.1
   ·exact name_one h.2 a ha1 b hb1 e
theorem sortE_one {E L:List En} (hn:(L.map (·.nm)).Nodup) (hp:E.Perm L) (hs:RiseE E):E=sortE L:=by
 refine perm_one _ E (sortE L) (hp.trans (sortE_perm L).symm) hs (sortE_rise L) (fun a ha b hb r1 r2=>?_)
 exact name_one hn a (hp.subset ha) b (hp.subset hb) (cT_eq (by have:=good_T.anti a.nm b.nm;omega))
def entOf (L:List En) (n:ByteArray):En:=(L.find? (fun e=>decide (e.nm=n))).getD ⟨⟨#[]⟩,⟨#[]⟩,⟨#[]⟩,[]⟩
theorem entOf_at (L:List En) (n:ByteArray) (j:Nat) (hj:j < L.length) (h1:L[j].nm=n) (h2:hasNm (L.take j) n=false):entOf L n=L[j]:=by
 have:L.find? (fun e=>decide (e.nm=n))=some L[j]:=by
  rw [List.find?_eq_some_iff_getElem]
  refine ⟨by simpa using h1,j,hj,rfl,fun k hk=>?_⟩
  unfold hasNm at h2
  rw [List.any_eq_false] at h2
  have:=h2 L[k] (List.mem_take_iff_getElem.2 ⟨k,by omega,rfl⟩)
  simpa using this
 unfold entOf
 rw [this]
 rfl
theorem entOf_mem {L:List En} (hn:(L.map (·.nm)).Nodup) (x:En) (hx:x ∈ L):entOf L x.nm=x:=by
 unfold entOf
 cases hf:L.find? (fun e=>decide (e.nm=x.nm)) with
 | none =>
  have:=List.find?_eq_none.1 hf x hx
  simp at this
 | some y =>
  have h1:=List.mem_of_find?_eq_some hf
  have h2:y.nm=x.nm:=by simpa using List.find?_some hf
  exact name_one hn y h1 x hx h2
theorem ents_perm {L:List En} (hn:(L.map (·.nm)).Nodup) {S:List ByteArray} (hp:S.Perm (L.map (·.nm))):(S.map (entOf L)).Perm L:=by
 have h1:=hp.map (entOf L)
 rw [List.map_map] at h1
 have h2:L.map (entOf L ∘ (·.nm))=L:=by
  conv=>rhs;rw [<-List.map_id L]
  exact List.map_congr_left (fun x hx=>entOf_mem hn x hx)
 rw [h2] at h1
 exact h1
theorem ents_rise {L:List En} {S:List ByteArray} (hm:∀n ∈ S,(entOf L n).nm=n) (hs:RiseT S):RiseE (S.map (entOf L)):=by
 unfold RiseE
 rw [List.pairwise_map]
 refine List.Pairwise.imp_of_mem (fun {a b} ha hb h=>?_) hs
 rw [hm a ha,hm b hb]
 exact h
theorem ents_sort {L:List En} (hn:(L.map (·.nm)).Nodup) {S:List ByteArray} (hp:S.Perm (L.map (·.nm))) (hs:RiseT S):S.map (entOf L)=sortE L:=by
 refine sortE_one hn (ents_perm hn hp) (ents_rise (fun n hn2=>?_) hs)
 obtain ⟨x,hx,rfl⟩:=List.mem_map.1 (hp.subset hn2)
 rw [entOf_mem hn x hx]
theorem infoRn:(Tryz.prog.info? 42).map (fun i=>(i.zero,i.size,i.bytes))=some (some (.agg #[.string ⟨#[]⟩,.string ⟨#[]⟩,.string ⟨#[]⟩,.slice none 0 0]),4,72):=by kernel_rfl
def QRow (M:List En) (w:World) (base:Nat) (vm:Value):Prop:=∃vs:List Value,∃hl:vs.length=M.length,w.ownsRow base 42 4 vm M.length (enCs M vs)/\∀j (hj:j < M.length),TxS w (vs[j]'(by omega)) M[j].nd/\TxFar (vs[j]'(by omega)) vm.ownBlock
theorem qrow_ens {M:List En} {w:World} {base:Nat} {v:Value} (h:QRow M w base v):EnS w v M:=by
 obtain ⟨vs,hl,ho,hn⟩:=h
 rcases ho.2 with ⟨h1,h2⟩ | ⟨g,cap,cur,hv,hb,hc,h3,h4,h5,h6⟩
 ·exact Or.inl ⟨h1,List.length_eq_zero_iff.1 h2⟩
 ·refine Or.inr ⟨⟨g,0,none⟩,cap,hv,h3,fun i hi=>?_⟩
  have h':=ho
  rw [hv] at h'
  have key:∀k u,0 < k->(enC M[i] (vs[i]'(by omega)))[k]?=some u->w.cell? ⟨((⟨g,0,none⟩:Addr).add (i * 4)).block,((⟨g,0,none⟩:Addr).add (i * 4)).off+k,none⟩=some u:=fun k u hk hu=>by
   have:=h'.cells (g:=g) rfl (i * 4+k) u (en_get M vs hl.symm i hi k u hu)
   rw [hadd_off _ _ k hk] at this
   exact this
  have k0:=h'.cells (g:=g) rfl (i * 4+0) _ (en_get M vs hl.symm i hi 0 _ rfl)
  exact ⟨by simpa using k0,key 1 _ (by omega) rfl,key 2 _ (by omega) rfl,_,key 3 _ (by omega) rfl,(hn i hi).1⟩
theorem qrow_snoc {M:List En} {w w1 w3:World} {base g cap k:Nat} {vm v2:Value} {y:En} {vs:List Value} (hk:M.length=k) (hl:vs.length=M.length) (hown:w.ownsRow base 42 4 vm k (enCs M vs)) (hin:∀j (hj:j < M.length),TxS w (vs[j]'(by omega)) M[j].nd/\TxFar (vs[j]'(by omega)) vm.ownBlock) (hg:w.grownBy w1 none)
  (ho:w3.ownsRow base 42 4 (.slice (some ⟨g,0,none⟩) (k+1) cap) (k+1) (enCs M vs++enC y v2)) (hgrow:w1.grownBy w3 vm.ownBlock) (hat:vm.ownBlock=some g\/g=w1.heap.size)
  (ht:TxS w1 v2 y.nd) (hf:∀a n k,v2=.slice (some a) n k->0 < n->w.heap.size<=a.block/\a.block < w1.heap.size):QRow (M++[y]) w3 base (.slice (some ⟨g,0,none⟩) (k+1) cap):=by
 subst hk
 refine ⟨vs++[v2],by simp [hl],by rw [List.length_append,List.length_singleton,enCs_snoc M vs y v2 hl.symm];exact ho,fun j hj=>?_⟩
 have hfar:∀v N,TxS w1 v N->TxFar v vm.ownBlock->(∀a n k,v=.slice (some a) n k->0 < n->a.block < w1.heap.size)->TxFar v (some g):=fun v N h1 h2 h3 a n k e hn=>by
  rcases hat with h5 | h5
  ·rw [<-h5];exact h2 a n k e hn
  ·intro h6
   injection h6 with h6
   have:=h3 a n k e hn
   omega
 by_cases hji:j < M.length
 ·obtain ⟨k1,k2⟩:=hin j hji
  have ej:(vs++[v2])[j]'(by simp;omega)=vs[j]'(by omega):=List.getElem_append_left (by omega)
  have em:(M++[y])[j]'hj=M[j]:=List.getElem_append_left hji
  rw [ej,em]
  refine ⟨(k1.grow hg).far hgrow k2,hfar _ _ (k1.grow hg) k2 (fun a n k e hn=>?_)⟩
  have:=txs_lt (by rw [<-e];exact k1) hn
  exact Nat.lt_of_lt_of_le this hg.size
 ·have hje:j=M.length:=by simp at hj;omega
  subst hje
  have ej:(vs++[v2])[M.length]'(by simp [hl])=v2:=by simp [<-hl]
  have em:(M++[y])[M.length]'hj=y:=by simp
  rw [ej,em]
  have hfv:TxFar v2 vm.ownBlock:=fun a n k e hn h2=>by
   have h1:=(hf a n k e hn).1
   have h3:=(hown.lt a.block h2.symm).2
   omega
  exact ⟨ht.far hgrow hfv,hfar _ _ ht hfv (fun a n k e hn=>(hf a n k e hn).2)⟩
open Go.RowKit
set_option linter.unusedVariables false
theorem snoc_map (L:List En) (i:Nat) (hi:i < L.length):((L.take (i+1)).map (·.nm)).map Value.string=((L.take i).map (·.nm)).map Value.string++[.string L[i].nm]:=by
 rw [List.take_succ_eq_append_getElem hi,List.map_append,List.map_append];rfl
theorem gb_row0b {w wa wb:World} {row:Option Nat} (h:w.grownBy wa none) (hg:wa.grownBy wb row) (hr:∀q,row=some q->w.heap.size<=q):w.grownBy wb none :=
 ⟨hg.os.trans h.os,hg.tape.trans h.tape,hg.output.trans h.output,Nat.le_trans h.size hg.size,fun k hk hn=>(hg.block k (Nat.lt_of_lt_of_le hk h.size) (fun e=>by have:=hr k e.symm;omega)).trans (h.block k hk hn)⟩
theorem str_one (s:ByteArray):∀u ∈ [Value.string s],u.oneCell'=true:=by
 intro u hu
 rw [List.mem_singleton.1 hu]
 rfl
set_option maxRecDepth 100000 in
set_option maxHeartbeats 6400000 in
theorem rising_at (a:Addr) (cap:Nat) (L:List En) (w:World) (hL:L.length<=1048576) (hcap:L.length<=cap) (hN:∀x ∈ L,x.nd.length<=1048576) (hnd:(L.map (·.nm)).Nodup) (h:∀i (hi:i < L.length),EnAt w (a.add (i * 4)) L[i]) :
  Calls Tryz.prog 21 #[.slice (some a) L.length cap] w fun e w'=>∃v,e=.returned v/\EnS w' v ((sortE L).map riseE)/\w.grownBy w' none:=by
 have HEN:Hid (∀w',w.grownBy w' none->EnS w' (.slice (some a) L.length cap) L):=fun w' hg=>Or.inr ⟨a,cap,rfl,hcap,fun j hj=>(h j hj).grow hg⟩
 have HA:Hid (∀i (hi:i < L.length),EnAt w (a.add (i * 4)) L[i]):=h
 have CE:Hid (∀n w',w.grownBy w' none->Calls Tryz.prog 29 #[.slice (some a) L.length cap,.string n] w' fun e w''=>∃c:Int,e=.returned (.int .i64 c)/\EntI L n c/\w'.grownBy w'' none):=fun n w' hg=>entryOf_any _ L n w' (HEN.out w' hg) hL
 have CS:Hid (∀(v:Value) (K:List ByteArray) (w:World),TxS w v K->K.length<=1048576->Calls Tryz.prog 30 #[v] w (SrtPost K w)):=fun v K w h1 h2=>cSorted v K w h1 h2
 have HND:Hid (L.map (·.nm)).Nodup:=hnd
 have HNL:Hid (∀x ∈ L,x.nd.length<=1048576):=hN
 clear h hN hnd
 have hinfo:=infoRn
 obtain ⟨i0,hi0,hii⟩:=Option.map_eq_some_iff.1 hinfo
 simp only [Prod.mk.injEq] at hii
 obtain ⟨hz0,hz1,hzb⟩:=hii
 have hinfo2:=infoTx
 obtain ⟨j0,hj0,hjj⟩:=Option.map_eq_some_iff.1 hinfo2
 simp only [Prod.mk.injEq] at hjj
 obtain ⟨hy0,hy1,hyb⟩:=hjj
 clear hinfo hinfo2
 go_enter Tryz.func21,Tryz.ntmps21
 go_wp2
 go_loopw [3,4] (fun vm vi wr=>∃i:Nat,vi=.int .i64 i/\i<=L.length/\wr.ownsRow w.heap.size 9 1 vm i (((L.take i).map (·.nm)).map Value.string)/\Below w.heap.size w wr) (fun _ vi _=>L.length - (intOf vi).toNat)
 case atStart=>exact ⟨0,rfl,Nat.zero_le _,World.ownsRow_nil _ _ _ _,Below.refl _ _⟩
 case round =>
  obtain ⟨i,rfl,hi,hown,hb⟩:=hrel
  by_cases hlt:i < L.length
  ·obtain ⟨e0,-,-,-⟩:=(HA.out i hlt).grow (bel_gb hb)
   obtain ⟨s,hs⟩:∃s,L[i].nm=s:=⟨_,rfl⟩
   rw [hs] at e0
   have HTK:Hid (((L.take (i+1)).map (·.nm)).map Value.string=((L.take i).map (·.nm)).map Value.string++[.string s]):=by
    show _=_
    rw [snoc_map L i hlt,hs]
   have hzz:=hb.size
   clear hs
   go_wp2_with (first | (at_builtin;refine wpList_append_lies _ rfl _ _ 40 rfl w.heap.size 9 j0 _ 1 16 Tryz.underlying40 hj0 hy0 hy1 hyb rfl (by decide) _ _ _ rfl (hown.alloc _) _ 1 1 [.string s] rfl rfl (World.news_of_block (heap_alloc_new _ _)) (str_one s) (by decide) (by unfold maxLen;omega) (by omega) (by simp;omega) _ rfl ?_;intro g cap1 w3 hown3 hgrow hat3 hlt3))
   have HB3:Hid (Below w.heap.size w w3):=(hb.alloc hb.size _).grown hgrow (by simp;omega) (fun q hq=>(hown.lt q hq).1)
   have HO3:Hid (w3.ownsRow w.heap.size 9 1 (.slice (some ⟨g,0,none⟩) (i+1) cap1) (i+1) (((L.take (i+1)).map (·.nm)).map Value.string)):=by show World.ownsRow _ _ _ _ _ _ _;rw [HTK.out];exact hown3
   clear hown3 hgrow hat3 hlt3 hown hb e0
   go_wp2
   go_roundw
   case rel=>exact ⟨i+1,by go_num,by omega,HO3.out,HB3.out⟩
   case measure=>simp [intOf];omega
  ·have hil:i=L.length:=by omega
   have htx:TxS wr u3 (L.map (·.nm)):=by
    rw [hil,List.take_length] at hown
    exact txs_own (by simp) hown
   have HG:Hid (w.grownBy wr none):=bel_gb hb
   obtain ⟨ou,cu,rfl⟩:=txs_slice htx
   obtain ⟨nl,hnl⟩:∃n,(L.map (·.nm)).length=n:=⟨_,rfl⟩
   have HNM:Hid ((L.map (·.nm)).length<=1048576):=by rw [List.length_map];exact hL
   rw [hnl] at htx
   try rw [hnl]
   have HTX:Hid (TxS wr (.slice ou nl cu) (L.map (·.nm))):=htx
   clear hown hb hil hi htx hnl
   go_wp2_with (first | (go_at_call 30;refine (CS.out _ (L.map (·.nm)) _ HTX.out HNM.out).mono ?_))
   rintro e w4 ⟨v4,S,rfl,hown4,hp4,hr4,hb4⟩
   have htx4:TxS w4 v4 S:=txs_own rfl hown4
   have HTX4:Hid (TxS w4 v4 S):=htx4
   have HG4:Hid (w.grownBy w4 none):=gb_trans HG.out (bel_gb hb4)
   have HS4:Hid (S.Perm (L.map (·.nm))/\RiseT S):=⟨hp4,hr4⟩
   have HSL:Hid (S.length<=1048576):=by show _<=_;rw [hp4.length_eq];simpa using hL
   obtain ⟨o4,c4,rfl⟩:=txs_slice htx4
   have hsl:=HSL.out
   clear hown4 hp4 hr4 hb4 htx4
   go_wp2
   go_loopw [5,6] (fun vm vk wk=>∃k:Nat,vk=.int .i64 k/\k<=S.length/\QRow (((S.take k).map (entOf L)).map riseE) wk w4.heap.size vm/\w4.grownBy wk none) (fun _ vk _=>S.length - (intOf vk).toNat)
   case atStart=>exact ⟨0,rfl,Nat.zero_le _,⟨[],rfl,World.ownsRow_nil _ _ _ _,fun j hj=>by simp at hj⟩,gb_refl _ _⟩
   case round =>
    obtain ⟨k,rfl,hk,hq,hgk⟩:=hrel
    have HQ:Hid (QRow (((S.take k).map (entOf L)).map riseE) wr w4.heap.size u5):=hq
    have HGK:Hid (w4.grownBy wr none):=hgk
    have HGW:Hid (w.grownBy wr none):=gb_trans HG4.out hgk
    by_cases hlt:k < S.length
    ·obtain ⟨b,rfl,hcv,hat⟩:=txs_at (HTX4.out.grow hgk) hlt
     have g0:=hat k hlt
     obtain ⟨y,hy⟩:∃y,S[k]=y:=⟨_,rfl⟩
     rw [hy] at g0
     have HY:Hid (S[k]=y):=hy
     have HYM:Hid (y ∈ L.map (·.nm)):=HS4.out.1.subset (by rw [<-hy];exact List.getElem_mem _)
     clear hq hgk hat hy
     go_wp2_with (first | (go_at_call 29;refine (CE.out _ _ HGW.out).mono ?_))
     rintro e w5 ⟨c,rfl,hc,hg5⟩
     obtain ⟨jx,hjx,rfl,hjn,hjf⟩:∃j,∃hj:j < L.length,c=(j:Int)/\L[j].nm=y/\hasNm (L.take j) y=false:=by
      rcases hc with ⟨_,h2⟩ | h
      ·obtain ⟨x,hx,hxn⟩:=List.mem_map.1 HYM.out
       unfold hasNm at h2
       rw [List.any_eq_false] at h2
       have:=h2 x hx
       simp [hxn] at this
      ·exact h
     obtain ⟨x,hx⟩:∃x,L[jx]=x:=⟨_,rfl⟩
     have HXE:Hid (entOf L y=x):=by
      show _=_
      rw [entOf_at L y jx hjx hjn hjf,hx]
     have HXL:Hid (x.nd.length<=1048576):=HNL.out x (by rw [<-hx];exact List.getElem_mem _)
     obtain ⟨e0,e1,e2,sv,e3,hsv⟩:EnAt w5 (a.add (jx * 4)) x:=by rw [<-hx];exact (HA.out jx hjx).grow (gb_trans HGW.out hg5)
     have HSV:Hid (TxS w5 sv x.nd):=hsv
     obtain ⟨so,sc,rfl⟩:=txs_slice hsv
     have HGW5:Hid (wr.grownBy w5 none):=hg5
     have hjI:(jx:Int) < (L.length:Int):=by omega
     have hjN:jx < cap:=by omega
     obtain ⟨A,hA⟩:∃A,w5.heap.size=A:=⟨_,rfl⟩
     clear hc hg5 hjn hjf hx hsv g0
     go_wp2_with (first | (go_at_call 30;refine (CS.out _ x.nd _ (HSV.out.grow (gb_alloc (gb_refl w5 none) _)) HXL.out).mono ?_))
     rintro e w6 ⟨v6,T,rfl,hown6,hp6,hr6,hb6⟩
     obtain ⟨c0,c1,c2,c3⟩:=en_block ((hb6.block w5.heap.size (by simp)).trans (heap_alloc_new w5 _))
     have htx6:TxS w6 v6 T:=txs_own rfl hown6
     have hT:T=sortT x.nd:=sortT_one hp6 hr6
     have hf6:∀a n k,v6=.slice (some a) n k->0 < n->w5.heap.size<=a.block/\a.block < w6.heap.size:=fun a n k e hn=>by
      rw [e] at hown6
      have:=hown6.lt a.block rfl
      simp at this
      omega
     have hg56:w5.grownBy w6 none:=gb_trans (gb_alloc (gb_refl w5 none) _) (bel_gb hb6)
     have hg6:wr.grownBy w6 none:=gb_trans HGW5.out hg56
     have HTX6:Hid (TxS w6 v6 (riseE x).nd):=by
      show TxS _ _ _
      rw [show (riseE x).nd=T from hT.symm]
      exact htx6
     have HF6:Hid (∀a n k,v6=.slice (some a) n k->0 < n->wr.heap.size<=a.block/\a.block < w6.heap.size):=fun a n k e hn=>by
      have:=hf6 a n k e hn
      have:=HGW5.out.size
      omega
     have HG6:Hid (wr.grownBy w6 none):=hg6
     obtain ⟨o6,c6,rfl⟩:=txs_slice htx6
     obtain ⟨t6,ht6⟩:∃t,T.length=t:=⟨_,rfl⟩
     rw [ht6] at HTX6 HF6
     try rw [ht6]
     try rw [hA]
     rw [hA] at c0 c1 c2 c3
     obtain ⟨M,hM⟩:∃M,((S.take k).map (entOf L)).map riseE=M:=⟨_,rfl⟩
     have hq2:=HQ.out
     rw [hM] at hq2
     obtain ⟨vs,hvl,hownq,hinq⟩:=hq2
     have HML:Hid ((((S.take k).map (entOf L)).map riseE).length=k):=by show _=_;rw [List.length_map,List.length_map,List.length_take];omega
     have hml:=HML.out
     rw [hM] at hml
     rw [hml] at hownq
     have hownq6:=own_stay hownq hg6
     have HOQ:Hid (wr.ownsRow w4.heap.size 42 4 u5 k (enCs M vs)):=hownq
     have HVL:Hid (vs.length=M.length/\M.length=k):=⟨hvl,hml⟩
     have HIN:Hid (∀j (hj:j < M.length),TxS wr (vs[j]'(by omega)) M[j].nd/\TxFar (vs[j]'(by omega)) u5.ownBlock):=hinq
     have HMM:Hid (((S.take k).map (entOf L)).map riseE=M):=hM
     have hb46:w4.heap.size<=w6.heap.size:=Nat.le_trans HGK.out.size hg6.size
     have HOB:Hid (∀q,u5.ownBlock=some q->w4.heap.size<=q):=fun q hq=>(hownq.lt q hq).1
     clear hown6 hp6 hr6 hb6 htx6 hT hf6 hg56 hg6 hinq hA ht6 e0 e1 e2 e3 hM hml hownq
     go_wp2_with (first | (at_builtin;refine wpList_append_lies _ rfl _ _ 22 rfl w4.heap.size 42 i0 _ 4 72 Tryz.underlying22 hi0 hz0 hz1 hzb rfl (by decide) _ _ _ rfl (hownq6.alloc _) _ 1 1 (enC (riseE x) (.slice o6 t6 c6)) rfl rfl (World.news_of_block (heap_alloc_new _ _)) (enc_one _ _ rfl) (by decide) (by unfold maxLen;omega) (by omega) (by simp;omega) _ rfl ?_;intro g cap1 w7 hown7 hgrow7 hat7 hlt7))
     have HGW7:Hid (w4.grownBy w7 none):=by
      refine gb_row0b (gb_trans HGK.out (gb_alloc HG6.out _)) hgrow7 HOB.out
     have HQ7:Hid (QRow (((S.take (k+1)).map (entOf L)).map riseE) w7 w4.heap.size (.slice (some ⟨g,0,none⟩) (k+1) cap1)):=by
      have e1:((S.take (k+1)).map (entOf L)).map riseE=((S.take k).map (entOf L)).map riseE++[riseE x]:=by
       rw [List.take_succ_eq_append_getElem hlt,List.map_append,List.map_append,HY.out,List.map_singleton,HXE.out];rfl
      rw [e1,HMM.out]
      exact qrow_snoc (w1:=w6.alloc (.cells #[.string x.nm,.string x.ve,.string x.dg,.slice o6 t6 c6] 42)) HVL.out.2 HVL.out.1 HOQ.out HIN.out (gb_alloc HG6.out _) hown7 hgrow7 hat7 (HTX6.out.grow (gb_alloc (gb_refl w6 none) _)) (fun a n k e hn=>by have:=HF6.out a n k e hn;simp;omega)
     clear hown7 hgrow7 hat7 hlt7 hownq6 c0 c1 c2 c3
     go_wp2
     go_roundw
     case rel=>exact ⟨k+1,by go_num,by omega,HQ7.out,HGW7.out⟩
     case measure=>simp [intOf];omega
    ·have hke:k=S.length:=by omega
     have HF:Hid (EnS wr u5 ((sortE L).map riseE)):=by
      rw [hke,List.take_length,ents_sort HND.out HS4.out.1 HS4.out.2] at hq
      exact qrow_ens hq
     clear hq hgk hke hk
     go_wp2
     refine bodyPost_ret (results_tmp (t:=2) rfl _ _ _) rfl ⟨_,rfl,HF.out,HGW.out⟩
end Go.Proofs.YtpeghomkaphdcaaGreatDoor
