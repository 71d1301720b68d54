import Derived.Test.YtpeghomkaphdcaaGreatDoorM21
import Derived.Test.YtpeghomkaphdcaaGreatDoorM15
import Derived.Deep.Cut
import Derived.Test.YtpeghomkaphdcaaGreatDoorM22
namespace Go.Proofs.YtpeghomkaphdcaaGreatDoor
set_option linter.unusedVariables false
def is10 (b:UInt8):Bool:=decide (b=10)
theorem rows_count (s:ByteArray):∀k,k<=s.size->rowsN s k=(s.data.toList.take k).countP is10
 | 0,_=>by simp [rowsN]
 | k+1,h=>by
  have ih:=rows_count s k (by omega)
  have hk:k < s.data.toList.length:=by
   have h2:s.data.toList.length=s.size:=by simp
   omega
  rw [rowsN,ih,List.take_succ_eq_append_getElem hk,List.countP_append,List.getElem?_eq_getElem hk]
  simp only [List.countP_cons,List.countP_nil,Nat.zero_add,is10,decide_eq_true_eq]
theorem rows_all (s:ByteArray):rowsN s s.size=s.data.toList.countP is10:=by
 rw [rows_count s s.size (Nat.le_refl _),List.take_of_length_le (by simp)]
theorem count_zero {l:List UInt8} (h:(10:UInt8) ∉ l):l.countP is10=0:=by
 rw [List.countP_eq_zero]
 intro b hb
 simp only [is10,decide_eq_true_eq]
 intro e
 exact h (e ▸ hb)
theorem count_flat {α:Type} (f:α->List UInt8):∀(S:List α),(∀n ∈ S,(f n).countP is10=1)->(S.flatMap f).countP is10=S.length
 | [],_=>rfl
 | n :: S,h=>by
  rw [List.flatMap_cons,List.countP_append,h n List.mem_cons_self,count_flat f S (fun m hm=>h m (List.mem_cons_of_mem _ hm)),List.length_cons]
  omega
theorem plan_drop {L:List En} (hn:(L.map (·.nm)).Nodup) (hf:∀x ∈ L,(10:UInt8) ∉ x.nm.data.toList/\(10:UInt8) ∉ x.ve.data.toList):(planB L []).countP is10=L.length:=by
 have hnm:namesN L []=L.map (·.nm):=by unfold namesN;simp [othN]
 unfold planB
 rw [hnm,count_flat,(sortT_perm _).length_eq,List.length_map]
 intro n hm
 obtain ⟨x,hx,rfl⟩:=List.mem_map.1 ((sortT_perm _).subset hm)
 have h2:fnd [] x.nm=none:=rfl
 rw [fnd_one hn hx,h2]
 obtain ⟨h3,h4⟩:=hf x hx
 simp only [lineT,List.countP_append,count_zero h3,count_zero h4]
 rfl
theorem plan_add {L:List En} (hn:(L.map (·.nm)).Nodup) (hf:∀x ∈ L,(10:UInt8) ∉ x.nm.data.toList/\(10:UInt8) ∉ x.ve.data.toList):(planB [] L).countP is10=L.length:=by
 have ho:∀j,j<=L.length->othN [] L j=(L.take j).map (·.nm):=by
  intro j
  induction j with
  | zero=>intro _;simp [othN]
  | succ j ih =>
   intro h
   rw [oth_step [] L j (by omega),ih (by omega),List.take_succ_eq_append_getElem (by omega:j < L.length)]
   rw [List.map_append]
   rfl
 have hnm:namesN [] L=L.map (·.nm):=by
  unfold namesN
  rw [ho L.length (Nat.le_refl _),List.take_length];rfl
 unfold planB
 rw [hnm,count_flat,(sortT_perm _).length_eq,List.length_map]
 intro n hm
 obtain ⟨x,hx,rfl⟩:=List.mem_map.1 ((sortT_perm _).subset hm)
 have h2:fnd [] x.nm=none:=rfl
 rw [fnd_one hn hx,h2]
 obtain ⟨h3,h4⟩:=hf x hx
 simp only [lineT,List.countP_append,count_zero h3,count_zero h4]
 rfl
set_option linter.unusedVariables false
def No10 (l:List UInt8) (i j:Nat):Prop:=∀k,i<=k->k < j->l[k]? ≠ some 10
theorem No10.join {l:List UInt8} {i j k:Nat} (h:No10 l i j) (h':No10 l j k):No10 l i k:=fun q h1 h2=>by
 by_cases hq:q < j
 ·exact h q h1 hq
 ·exact h' q (by omega) h2
theorem no10_one {l:List UInt8} {i:Nat} {c:UInt8} (h:l[i]?=some c) (hc:c ≠ 10):No10 l i (i+1):=fun q h1 h2 e=>by
 have:q=i:=by omega
 rw [this,h] at e
 injection e with e
 exact hc e
theorem no10_run (p:UInt8->Bool) (hp:p 10=false) (l:List UInt8) (i:Nat):No10 l i (i+runN p l i):=fun q h1 h2 e=>by
 obtain ⟨h3,h4⟩:=runN_at p l i (q - i) (by omega)
 have h5:i+(q - i)=q:=by omega
 obtain ⟨h6,h7⟩:=List.getElem?_eq_some_iff.1 e
 have h8:l[i+(q - i)]=l[q]:=by congr 1
 rw [h8,h7,hp] at h4
 cases h4
theorem no10_num {l:List UInt8} {i:Nat} (h:(rdNum l i).1=0):No10 l i (rdNum l i).2.2:=by
 unfold rdNum at *
 split at h
 ·cases h
 ·split at h
  ·cases h
  ·split at h
   ·cases h
   ·rename_i h1 h2 h3
    rw [if_neg h1,if_neg h2,if_neg h3]
    exact no10_run isD rfl l i
theorem no10_parts (s:Bool) (l:List UInt8):∀n i,l.length - i=n->(rdParts s l i).1=0->No10 l i (rdParts s l i).2:=by
 intro n
 induction n using Nat.strongRecOn with
 | _ n ih =>
  intro i hn h
  rw [rdParts_eq] at h ⊢
  split at h
  ·cases h
  ·rename_i h1
   rw [if_neg h1]
   split at h
   ·cases h
   ·rename_i h2
    rw [if_neg h2]
    split at h
    ·rename_i h3
     rw [if_pos h3]
     have hlt:=(List.getElem?_eq_some_iff.1 h3).1
     exact (no10_run isP rfl l i).join ((no10_one h3 (by decide)).join (ih (l.length - (i+runN isP l i+1)) (by omega) _ rfl h))
    ·rename_i h3
     rw [if_neg h3]
     exact no10_run isP rfl l i
theorem no10_opt {c:UInt8} (hc:c ≠ 10) (s:Bool) {l:List UInt8} {i:Nat} (h:(optP c s l i).1=0):No10 l i (optP c s l i).2.1:=by
 unfold optP at *
 split at h
 ·rename_i h1
  split at h
  ·rename_i h2
   rw [if_pos h1,if_pos h2]
   exact (no10_one h1 hc).join (no10_parts s l _ (i+1) rfl h2)
  ·rename_i h2
   exact absurd h h2
 ·rename_i h1
  rw [if_neg h1]
  intro q h2 h3
  simp only [] at h3
  omega
theorem no10_nums {l:List UInt8} (h:(rdNums l).1=0):No10 l 0 (rdNums l).2.1:=by
 unfold rdNums at *
 split at h
 ·rename_i h1
  split at h
  ·rename_i h2
   split at h
   ·rename_i h3
    split at h
    ·rename_i h4
     split at h
     ·rename_i h5
      rw [if_pos h1,if_pos h2,if_pos h3,if_pos h4,if_pos h5]
      exact (no10_num h1).join ((no10_one h2 (by decide)).join ((no10_num h3).join ((no10_one h4 (by decide)).join (no10_num h5))))
     ·rename_i h5;exact absurd h h5
    ·cases h
   ·rename_i h3;exact absurd h h3
  ·cases h
 ·rename_i h1;exact absurd h h1
theorem okV_no10 {s:ByteArray} (h:okV s=true):(10:UInt8) ∉ s.data.toList:=by
 have h0:(parseV s.data.toList).1=0:=of_decide_eq_true h
 generalize s.data.toList=l at h0
 have hall:No10 l 0 l.length:=by
  unfold parseV at h0
  split at h0
  ·cases h0
  ·unfold rdVer at h0
   split at h0
   ·rename_i h1
    split at h0
    ·rename_i h2
     split at h0
     ·rename_i h3
      split at h0
      ·cases h0
      ·rename_i h4
       intro q h5 h6
       exact ((no10_nums h1).join ((no10_opt (by decide) true h2).join (no10_opt (by decide) false h3))) q h5 (by omega)
     ·rename_i h3;exact absurd h0 h3
    ·rename_i h2;exact absurd h0 h2
   ·rename_i h1;exact absurd h0 h1
 intro hm
 obtain ⟨q,hq,e⟩:=List.getElem_of_mem hm
 exact hall q (Nat.zero_le _) hq (by rw [List.getElem?_eq_getElem hq,e])
theorem nameB_no10 {s:ByteArray} (h:nameB s=true):(10:UInt8) ∉ s.data.toList:=by
 have hp:NameP s:=Classical.byContradiction fun hn=>by rw [nameB_f hn] at h;cases h
 obtain ⟨h1,-,h3,h4⟩:=hp
 intro hm
 obtain ⟨q,hq,e⟩:=List.getElem_of_mem hm
 have hq2:q < s.size:=by simpa using hq
 have e2:s[q]=10:=by rw [<-e];simp;rfl
 by_cases h0:q=0
 ·subst h0
  have:=h3 hq2
  rw [e2] at this
  cases this
 ·have:=h4 q hq2 (by omega)
  rw [e2] at this
  cases this
open Go.RowKit
set_option linter.unusedVariables false
def downE (L:List En) (m:Nat):List En:=((L.drop m).map backE).reverse
theorem downE_step (L:List En) (m:Nat) (h:m < L.length):downE L m=downE L (m+1)++[backE L[m]]:=by
 unfold downE
 rw [List.drop_eq_getElem_cons h,List.map_cons,List.reverse_cons]
theorem downE_len (L:List En) (m:Nat) (h:m<=L.length):(downE L m).length=L.length - m:=by
 unfold downE;simp
theorem downT_step (N:List ByteArray) (q:Nat) (h:q < N.length):((N.drop q).reverse).map Value.string=((N.drop (q+1)).reverse).map Value.string++[.string N[q]]:=by
 rw [List.drop_eq_getElem_cons h,List.reverse_cons,List.map_append];rfl
set_option maxRecDepth 100000 in
set_option maxHeartbeats 3200000 in
theorem turned_at (a:Addr) (cap:Nat) (L:List En) (w:World) (hL:L.length<=1048576) (hcap:L.length<=cap) (hN:∀x ∈ L,x.nd.length<=1048576) (h:∀i (hi:i < L.length),EnAt w (a.add (i * 4)) L[i]) :
  Calls Tryz.prog 12 #[.slice (some a) L.length cap] w fun e w'=>∃v,e=.returned v/\EnS w' v (turnE L)/\w.grownBy w' none:=by
 have HA:Hid (∀i (hi:i < L.length),EnAt w (a.add (i * 4)) L[i]):=h
 have HNL:Hid (∀x ∈ L,x.nd.length<=1048576):=hN
 clear h hN
 have hinfo:=infoRn
 obtain ⟨i0,hi0,hii⟩:=Option.map_eq_some_iff.1 hinfo
 simp only [Prod.mk.injEq] at hii
 obtain ⟨hz0,hz1,hzb⟩:=hii
 have hinfo2:=infoTx
 obtain ⟨j0,hj0,hjj⟩:=Option.map_eq_some_iff.1 hinfo2
 simp only [Prod.mk.injEq] at hjj
 obtain ⟨hy0,hy1,hyb⟩:=hjj
 clear hinfo hinfo2
 go_enter Tryz.func12,Tryz.ntmps12
 go_wp2
 go_loopw [3,4] (fun vm vi wr=>∃m:Nat,vi=.int .i64 ((m:Int) - 1)/\m<=L.length/\QRow (downE L m) wr w.heap.size vm/\w.grownBy wr none) (fun _ vi _=>(intOf vi+1).toNat)
 case atStart=>exact ⟨L.length,by go_num,Nat.le_refl _,by
  have:downE L L.length=[]:=by unfold downE;simp
  rw [this]
  exact ⟨[],rfl,World.ownsRow_nil _ _ _ _,fun j hj=>by simp at hj⟩,gb_refl _ _⟩
 case round =>
  obtain ⟨m,rfl,hm,hq,hg⟩:=hrel
  obtain ⟨wo,hwo⟩:∃wo,wo=wr:=⟨_,rfl⟩
  subst hwo
  have HQ:Hid (QRow (downE L m) wo w.heap.size u3):=hq
  have HG:Hid (w.grownBy wo none):=hg
  cases m with
  | zero =>
   have HF:Hid (EnS wo u3 (turnE L)):=by
    have e:downE L 0=turnE L:=by unfold downE turnE;simp
    rw [e] at hq
    exact qrow_ens hq
   clear hq hg
   go_wp2
   refine bodyPost_ret (results_tmp (t:=2) rfl _ _ _) rfl ⟨_,rfl,HF.out,HG.out⟩
  | succ m =>
   have em:((m+1:Nat):Int) - 1=(m:Int):=by omega
   rw [em]
   have hml:m < L.length:=by omega
   obtain ⟨x,hx⟩:∃x,L[m]=x:=⟨_,rfl⟩
   have HX:Hid (L[m]=x):=hx
   have HXL:Hid (x.nd.length<=1048576):=HNL.out x (by rw [<-hx];exact List.getElem_mem _)
   have hxl:x.nd.length<=1048576:=HXL.out
   obtain ⟨e0,e1,e2,sv,e3,hsv⟩:EnAt wo (a.add (m * 4)) x:=by rw [<-hx];exact (HA.out m hml).grow hg
   have HSV:Hid (TxS wo sv x.nd):=hsv
   obtain ⟨so,sc,rfl⟩:=txs_slice hsv
   obtain ⟨W1,hW1⟩:∃W,wo.alloc (.cells #[.string x.nm,.string x.ve,.string x.dg,.slice so x.nd.length sc] 42)=W:=⟨_,rfl⟩
   have HWE:Hid (wo.alloc (.cells #[.string x.nm,.string x.ve,.string x.dg,.slice so x.nd.length sc] 42)=W1):=hW1
   obtain ⟨A,hA⟩:∃A,wo.heap.size=A:=⟨_,rfl⟩
   have HAE:Hid (wo.heap.size=A):=hA
   have HW1:Hid (wo.grownBy W1 none/\W1.heap[A]?=some (.cells #[.string x.nm,.string x.ve,.string x.dg,.slice so x.nd.length sc] 42 (0,0))/\A < W1.heap.size):=by
    rw [<-hW1,<-hA]
    exact ⟨gb_alloc (gb_refl wo none) _,heap_alloc_new wo _,by rw [World.size_alloc];omega⟩
   obtain ⟨N,hN⟩:∃N,x.nd=N:=⟨_,rfl⟩
   have HNE:Hid (x.nd=N):=hN
   rw [hN] at hxl e3 HWE HW1 HSV
   have HL1:Hid (W1.cell? ⟨A,3,none⟩=some (.slice so N.length sc)):=(en_block HW1.out.2.1).2.2.2
   have hmI:(m:Int) < (L.length:Int):=by omega
   have hmc:m < cap:=by omega
   clear hq hg hx hsv hW1 hA
   try rw [hN]
   clear hN
   go_wp2
   try rw [HAE.out]
   try rw [HWE.out]
   go_loopw [6,7] (fun vm vj wk=>∃q:Nat,vj=.int .i64 ((q:Int) - 1)/\q<=N.length/\wk.ownsRow W1.heap.size 9 1 vm (N.length - q) (((N.drop q).reverse).map Value.string)/\Below W1.heap.size W1 wk) (fun _ vj _=>(intOf vj+1).toNat)
   case atStart=>exact ⟨N.length,by go_num,Nat.le_refl _,by
    rw [List.drop_length,Nat.sub_self]
    exact World.ownsRow_nil _ _ _ _,Below.refl _ _⟩
   case round =>
    obtain ⟨q,rfl,hq,hown,hb⟩:=hrel
    have HGB:Hid (W1.grownBy wr none):=bel_gb hb
    cases q with
    | zero =>
     rw [List.drop_zero,Nat.sub_zero] at hown
     obtain ⟨c0,c1,c2,c3⟩:=en_block ((hb.block A HW1.out.2.2).trans HW1.out.2.1)
     have htx6:TxS wr u6 N.reverse:=txs_own (by simp) hown
     have HTX6:Hid (TxS wr u6 (backE x).nd):=by
      show TxS _ _ _
      have:(backE x).nd=N.reverse:=by rw [<-HNE.out];rfl
      rw [this];exact htx6
     obtain ⟨o6,c6,rfl⟩:=txs_slice htx6
     have HF6:Hid (∀a n k,(Value.slice o6 N.reverse.length c6)=.slice (some a) n k->0 < n->wo.heap.size<=a.block/\a.block < wr.heap.size):=fun a n k e hn=>by
      rw [e] at hown
      have h1:=hown.lt a.block rfl
      have h2:=HW1.out.1.size
      omega
     have HG6:Hid (wo.grownBy wr none):=gb_trans HW1.out.1 HGB.out
     obtain ⟨t6,ht6⟩:∃t,N.reverse.length=t:=⟨_,rfl⟩
     rw [ht6] at HTX6 HF6
     try rw [ht6]
     obtain ⟨M,hM⟩:∃M,downE L (m+1)=M:=⟨_,rfl⟩
     have hq2:=HQ.out
     rw [hM] at hq2
     obtain ⟨vs,hvl,hownq,hinq⟩:=hq2
     have HIN:Hid (∀j (hj:j < M.length),TxS wo (vs[j]'(by rw [hvl];exact hj)) M[j].nd/\TxFar (vs[j]'(by rw [hvl];exact hj)) u3.ownBlock):=hinq
     have hml2:M.length=L.length - (m+1):=by rw [<-hM];exact downE_len L _ (by omega)
     obtain ⟨k,hk⟩:∃k,M.length=k:=⟨_,rfl⟩
     rw [hk] at hownq
     have hk2:k<=1048576:=by omega
     have hownq6:=own_stay hownq HG6.out
     have HOQ:Hid (wo.ownsRow w.heap.size 42 4 u3 k (enCs M vs)):=hownq
     have HVL:Hid (vs.length=M.length/\M.length=k):=⟨hvl,hk⟩
     have HMM:Hid (downE L (m+1)=M):=hM
     have hb46:w.heap.size<=wr.heap.size:=Nat.le_trans HG.out.size HG6.out.size
     have HOB:Hid (∀q,u3.ownBlock=some q->w.heap.size<=q):=fun q hq=>(hownq.lt q hq).1
     clear hown hb htx6 hinq ht6 hM hownq hml2 hk
     go_wp2_with (first | (at_builtin;refine wpList_append_lies _ rfl _ _ 22 rfl w.heap.size 42 i0 _ 4 72 Tryz.underlying22 hi0 hz0 hz1 hzb rfl (by decide) _ _ _ rfl (hownq6.alloc _) _ 1 1 (enC (backE x) (.slice o6 t6 c6)) rfl rfl (World.news_of_block (heap_alloc_new _ _)) (enc_one _ _ rfl) (by decide) (by unfold maxLen;omega) (by omega) (by simp;omega) _ rfl ?_;intro g cap1 w7 hown7 hgrow7 hat7 hlt7))
     have HGW7:Hid (w.grownBy w7 none):=by
      refine gb_row0b (gb_trans HG.out (gb_alloc HG6.out _)) hgrow7 HOB.out
     have HQ7:Hid (QRow (downE L m) w7 w.heap.size (.slice (some ⟨g,0,none⟩) (k+1) cap1)):=by
      rw [downE_step L m hml,HMM.out,HX.out]
      exact qrow_snoc (w1:=wr.alloc (.cells #[.string x.nm,.string x.ve,.string x.dg,.slice o6 t6 c6] 42)) HVL.out.2 HVL.out.1 HOQ.out HIN.out (gb_alloc HG6.out _) hown7 hgrow7 hat7 (HTX6.out.grow (gb_alloc (gb_refl wr none) _)) (fun a n k e hn=>by have:=HF6.out a n k e hn;simp;omega)
     clear hown7 hgrow7 hat7 hlt7 hownq6 c0 c1 c2 c3
     go_wp2
     go_roundw
     case rel=>exact ⟨m,by go_num,by omega,HQ7.out,HGW7.out⟩
     case measure=>first | (simp [intOf];done) | (simp [intOf];omega)
    | succ q =>
     have eq:((q+1:Nat):Int) - 1=(q:Int):=by omega
     rw [eq]
     have hql:q < N.length:=by omega
     have f3:=(en_block ((hb.block A HW1.out.2.2).trans HW1.out.2.1)).2.2.2
     obtain ⟨d,rfl,hdc,hdat⟩:=txs_at (HSV.out.grow (gb_trans HW1.out.1 HGB.out)) hql
     have g0:=hdat q hql
     obtain ⟨y,hy⟩:∃y,N[q]=y:=⟨_,rfl⟩
     rw [hy] at g0
     have HTK:Hid (((N.drop q).reverse).map Value.string=((N.drop (q+1)).reverse).map Value.string++[.string y]):=by
      show _=_
      rw [downT_step N q hql,hy]
     have hzz:=hb.size
     have hqI:(q:Int) < (N.length:Int):=by omega
     have hqc:q < sc:=by omega
     obtain ⟨r,hr⟩:∃r,N.length - (q+1)=r:=⟨_,rfl⟩
     have HR:Hid (N.length - q=r+1):=by show _=_;omega
     rw [hr] at hown
     have hr2:r<=1048576:=by omega
     clear hy hdat
     go_wp2_with (first | (at_builtin;refine wpList_append_lies _ rfl _ _ 40 rfl W1.heap.size 9 j0 _ 1 16 Tryz.underlying40 hj0 hy0 hy1 hyb rfl (by decide) _ _ _ rfl (hown.alloc _) _ 1 1 [.string y] rfl rfl (World.news_of_block (heap_alloc_new _ _)) (str_one y) (by decide) (by unfold maxLen;omega) (by omega) (by simp;omega) _ rfl ?_;intro g cap1 w3 hown3 hgrow hat3 hlt3))
     have HB3:Hid (Below W1.heap.size W1 w3):=(hb.alloc hb.size _).grown hgrow (by simp;omega) (fun q hq=>(hown.lt q hq).1)
     have HO3:Hid (w3.ownsRow W1.heap.size 9 1 (.slice (some ⟨g,0,none⟩) (r+1) cap1) (r+1) (((N.drop q).reverse).map Value.string)):=by show World.ownsRow _ _ _ _ _ _ _;rw [HTK.out];exact hown3
     clear hown3 hgrow hat3 hlt3 hown hb f3 g0
     go_wp2
     go_roundw
     case rel=>exact ⟨q,by go_num,by omega,by rw [HR.out];exact HO3.out,HB3.out⟩
     case measure=>first | (simp [intOf];done) | (simp [intOf];omega)
open Go.RowKit
set_option linter.unusedVariables false
set_option maxRecDepth 100000 in
set_option maxHeartbeats 800000 in
theorem turned_nil (w:World) :
  Calls Tryz.prog 12 #[.slice none 0 0] w fun e w'=>∃v,e=.returned v/\EnS w' v []/\w.grownBy w' none:=by
 go_enter Tryz.func12,Tryz.ntmps12
 go_wp2
 go_loopw [3,4] (fun vm vi wr=>vm=.slice none 0 0/\vi=.int .i64 (-1)/\w.grownBy wr none) (fun _ vi _=>0)
 case atStart=>exact ⟨rfl,rfl,gb_refl w none⟩
 case round =>
  obtain ⟨rfl,rfl,hb⟩:=hrel
  have HB:Hid (w.grownBy wr none):=hb
  clear hb
  go_wp2
  refine bodyPost_ret (results_tmp (t:=2) rfl _ _ _) rfl ⟨_,rfl,Or.inl ⟨rfl,rfl⟩,HB.out⟩
theorem turned_any (v:Value) (L:List En) (w:World) (h:EnS w v L) (hL:L.length<=1048576) (hN:∀x ∈ L,x.nd.length<=1048576) :
  Calls Tryz.prog 12 #[v] w fun e w'=>∃o c,e=.returned (.slice o (turnE L).length c)/\EnS w' (.slice o (turnE L).length c) (turnE L)/\w.grownBy w' none:=by
 have key:Calls Tryz.prog 12 #[v] w fun e w'=>∃v,e=.returned v/\EnS w' v (turnE L)/\w.grownBy w' none:=by
  rcases h with ⟨rfl,rfl⟩ | ⟨a,cap,rfl,h2,h3⟩
  ·exact turned_nil w
  ·exact turned_at a cap L w hL h2 hN h3
 refine key.mono fun e w' ⟨v,h1,h2,h3⟩=>?_
 obtain ⟨o,c,rfl⟩:=ens_slice h2
 exact ⟨o,c,h1,h2,h3⟩
open Go.RowKit
set_option linter.unusedVariables false
theorem ok_no10 {L:List En} (h:okE L):∀x ∈ L,(10:UInt8) ∉ x.nm.data.toList/\(10:UInt8) ∉ x.ve.data.toList:=fun x hx=>by
 have hg:=(h.2.2 x hx).2.1
 unfold goodE at hg
 simp only [Bool.and_eq_true] at hg
 exact ⟨nameB_no10 hg.1.1.1,okV_no10 hg.1.1.2⟩
theorem flat_len {α:Type} (f:α->List UInt8) (q:Nat):∀(S:List α),(∀n ∈ S,(f n).length<=q)->(S.flatMap f).length<=S.length * q
 | [],_=>by simp
 | n :: S,h=>by
  rw [List.flatMap_cons,List.length_append,List.length_cons,Nat.succ_mul]
  have h1:=h n List.mem_cons_self
  have h2:=flat_len f q S (fun m hm=>h m (List.mem_cons_of_mem _ hm))
  omega
theorem plan_len (L M:List En) (hL:L.length<=50) (hM:M.length<=50) (hV:∀x ∈ L,x.nm.size<=1048576/\x.ve.size<=1048576/\x.dg.size<=1048576) (hV':∀x ∈ M,x.nm.size<=1048576/\x.ve.size<=1048576/\x.dg.size<=1048576):(planB L M).length<=419430400:=by
 unfold planB
 have h1:=flat_len (fun n=>lineT (fnd L n) (fnd M n) n) 4194304 (sortT (namesN L M)) (fun n hn=>line_len _ _ n (fun x hx=>(hV x (fnd_mem hx)).2.1) (fun x hx=>(hV' x (fnd_mem hx)).2.1) (names_small L M (fun x hx=>(hV x hx).1) (fun x hx=>(hV' x hx).1) n ((sortT_perm _).subset hn)))
 have h2:(sortT (namesN L M)).length<=100:=by
  rw [(sortT_perm _).length_eq]
  unfold namesN
  have:=oth_len L M M.length
  simp;omega
 omega
theorem plan_three (L:List En) (hV:∀x ∈ L,x.nm.size<=1048576/\x.ve.size<=1048576/\x.dg.size<=1048576) :
  ((planR L (turnE L)).1=⟨#[]⟩/\(planR L (turnE L)).2.1=(lockFrom L L.length).1/\(planR L []).2.1=(lockFrom L L.length).1/\(planR [] L).2.1=(lockFrom L L.length).1)
  ∧ (¬ (lockFrom L L.length).1=0->(planR L []).1=⟨#[]⟩/\(planR [] L).1=⟨#[]⟩)
  ∧ ((lockFrom L L.length).1=0->(rowsN (planR L []).1 (planR L []).1.size=L.length/\(planR L []).1.size < 2 ^ 60)/\rowsN (planR [] L).1 (planR [] L).1.size=L.length/\(planR [] L).1.size < 2 ^ 60):=by
 have e0:lockFrom [] ([]:List En).length=(0,0):=rfl
 by_cases hz:(lockFrom L L.length).1=0
 ·have hok:=(lock_iff L).1 hz
  have ht:(lockFrom (turnE L) (turnE L).length).1=0:=(lock_turn L).2 hz
  have r1:planR L (turnE L)=(⟨#[]⟩,0,0):=by
   unfold planR
   rw [if_pos hz,if_pos ht,plan_turn hok.2.1]
  have r2:planR L []=(⟨(planB L []).toArray⟩,0,0):=by
   unfold planR
   rw [if_pos hz,e0,if_pos rfl]
  have r3:planR [] L=(⟨(planB [] L).toArray⟩,0,0):=by
   unfold planR
   rw [e0,if_pos rfl,if_pos hz]
  rw [r1,r2,r3,hz]
  refine ⟨⟨rfl,rfl,rfl,rfl⟩,fun h=>absurd rfl h,fun _=>⟨⟨?_,?_⟩,?_,?_⟩⟩
  ·rw [rows_all]
   exact plan_drop hok.2.1 (ok_no10 hok)
  ·have:=plan_len L [] hok.1 (by simp) hV (by simp)
   show (planB L []).toArray.size < _
   simp;omega
  ·rw [rows_all]
   exact plan_add hok.2.1 (ok_no10 hok)
  ·have:=plan_len [] L (by simp) hok.1 (by simp) hV
   show (planB [] L).toArray.size < _
   simp;omega
 ·have r1:planR L (turnE L)=(⟨#[]⟩,(lockFrom L L.length).1,((lockFrom L L.length).2:Int)):=by
   unfold planR
   rw [if_neg hz]
  have r2:planR L []=(⟨#[]⟩,(lockFrom L L.length).1,((lockFrom L L.length).2:Int)):=by
   unfold planR
   rw [if_neg hz]
  have r3:planR [] L=(⟨#[]⟩,(lockFrom L L.length).1,((lockFrom L L.length).2:Int)+1000):=by
   unfold planR
   rw [e0,if_pos rfl,if_neg hz]
  rw [r1,r2,r3]
  exact ⟨⟨rfl,rfl,rfl,rfl⟩,fun _=>⟨rfl,rfl⟩,fun h=>absurd h hz⟩
set_option maxRecDepth 100000 in
set_option maxHeartbeats 3200000 in
theorem planNoneLaw (sl:Value) (L:List En) (w:World) (h:EnS w sl L) (hL:L.length<=1048576) (hV:∀x ∈ L,x.nm.size<=1048576/\x.ve.size<=1048576/\x.dg.size<=1048576) (hN:∀x ∈ L,x.nd.length<=1048576) (hS:∀x ∈ L,∀y ∈ x.nd,y.size<=1048576) :
  Calls Tryz.prog 6 #[sl] w fun e w'=>e=.returned (.bool true)/\w.grownBy w' none:=by
 have hLt:(turnE L).length<=1048576:=by unfold turnE;simpa using hL
 have hVt:∀x ∈ turnE L,x.nm.size<=1048576/\x.ve.size<=1048576/\x.dg.size<=1048576:=fun x hx=>by
  obtain ⟨y,hy,rfl⟩:=mem_turn hx
  exact hV y hy
 have hNt:∀x ∈ turnE L,x.nd.length<=1048576:=fun x hx=>by
  obtain ⟨y,hy,rfl⟩:=mem_turn hx
  show y.nd.reverse.length<=_
  rw [List.length_reverse];exact hN y hy
 have hSt:∀x ∈ turnE L,∀y ∈ x.nd,y.size<=1048576:=fun x hx z hz=>by
  obtain ⟨y,hy,rfl⟩:=mem_turn hx
  exact hS y hy z (List.mem_reverse.1 hz)
 have n0:∀x ∈ ([]:List En),x.nm.size<=1048576/\x.ve.size<=1048576/\x.dg.size<=1048576:=by simp
 have n1:∀x ∈ ([]:List En),x.nd.length<=1048576:=by simp
 have n2:∀x ∈ ([]:List En),∀y ∈ x.nd,y.size<=1048576:=by simp
 have hnil:∀w',EnS w' (.slice none 0 0) []:=fun w'=>Or.inl ⟨rfl,rfl⟩
 have CE:Hid (∀w',w.grownBy w' none->Calls Tryz.prog 7 #[sl] w' fun e w''=>∃o c,e=.returned (.slice o L.length c)/\(EnS w'' (.slice o L.length c) L/\Flat (.slice o L.length c))/\w'.grownBy w'' none):=fun w' hg=>cEntriesF sl L w' (h.grow hg) hL hN
 have CT:Hid (∀w',w.grownBy w' none->Calls Tryz.prog 12 #[sl] w' fun e w''=>∃o c,e=.returned (.slice o (turnE L).length c)/\EnS w'' (.slice o (turnE L).length c) (turnE L)/\w'.grownBy w'' none):=fun w' hg=>turned_any sl L w' (h.grow hg) hL hN
 have CEt:Hid (∀v w',EnS w' v (turnE L)->Calls Tryz.prog 7 #[v] w' fun e w''=>∃o c,e=.returned (.slice o (turnE L).length c)/\(EnS w'' (.slice o (turnE L).length c) (turnE L)/\Flat (.slice o (turnE L).length c))/\w'.grownBy w'' none):=fun v w' h=>cEntriesF v _ w' h hLt hNt
 have CP1:Hid (∀v v' w',(EnS w' v L/\Flat v)->(EnS w' v' (turnE L)/\Flat v')->Calls Tryz.prog 14 #[v,v'] w' fun e w''=>e=.returned (.tuple #[.string (planR L (turnE L)).1,.int .i64 (planR L (turnE L)).2.1,.int .i64 (planR L (turnE L)).2.2])/\w'.grownBy w'' none):=fun v v' w' h1 h2=>plan_any v v' L _ w' h1.1 h2.1 h1.2 h2.2 hL hLt hV hVt hN hNt hS hSt
 have CP2:Hid (∀v w',(EnS w' v L/\Flat v)->Calls Tryz.prog 14 #[v,.slice none 0 0] w' fun e w''=>e=.returned (.tuple #[.string (planR L []).1,.int .i64 (planR L []).2.1,.int .i64 (planR L []).2.2])/\w'.grownBy w'' none):=fun v w' h1=>plan_any v _ L [] w' h1.1 (hnil _) h1.2 flat_nil hL (by simp) hV n0 hN n1 hS n2
 have CP3:Hid (∀v w',(EnS w' v L/\Flat v)->Calls Tryz.prog 14 #[.slice none 0 0,v] w' fun e w''=>e=.returned (.tuple #[.string (planR [] L).1,.int .i64 (planR [] L).2.1,.int .i64 (planR [] L).2.2])/\w'.grownBy w'' none):=fun v w' h1=>plan_any _ v [] L w' (hnil _) h1.1 flat_nil h1.2 (by simp) hL n0 hV n1 hN n2 hS
 have CD:Hid (∀w',w.grownBy w' none->Calls Tryz.prog 9 #[sl] w' fun e w''=>e=.returned (.tuple #[.string (lockR L),.int .i64 (lockFrom L L.length).1,.int .i64 ((lockFrom L L.length).2:Int)])/\w'.grownBy w'' none):=fun w' hg=>cPrintLock sl L w' (h.grow hg) hL hV hN hS
 have CM:Hid (∀n w,Calls Tryz.prog 11 #[.int .i64 n] w fun e w'=>e=.returned (.int .i64 n)/\w'=w):=fun n w=>lnum_any n w
 have CL:Hid (∀(s:ByteArray) w',s.size < 2 ^ 60->Calls Tryz.prog 16 #[.string s] w' fun e w''=>e=.returned (.int .i64 (rowsN s s.size:Nat))/\w'.grownBy w'' none):=fun s w' hs=>lines_any s w' hs
 obtain ⟨⟨q1,q2,q3,q4⟩,q5,q6⟩:=plan_three L hV
 obtain ⟨o0,c0,rfl⟩:=ens_slice h
 obtain ⟨Lt,hLt'⟩:∃M,turnE L=M:=⟨_,rfl⟩
 rw [hLt'] at CT CEt CP1 q1 q2
 obtain ⟨nt,hnt⟩:∃n,Lt.length=n:=⟨_,rfl⟩
 rw [hnt] at CT CEt
 obtain ⟨E,hE⟩:∃E,(lockFrom L L.length).1=E:=⟨_,rfl⟩
 obtain ⟨K,hK⟩:∃K:Int,((lockFrom L L.length).2:Int)=K:=⟨_,rfl⟩
 obtain ⟨T0,hT0⟩:∃T,lockR L=T:=⟨_,rfl⟩
 rw [hE] at q2 q3 q4 q5 q6
 rw [hE,hK,hT0] at CD
 rw [q1,q2] at CP1
 rw [q3] at CP2
 rw [q4] at CP3
 obtain ⟨T2,hT2⟩:∃T,(planR L []).1=T:=⟨_,rfl⟩
 obtain ⟨T3,hT3⟩:∃T,(planR [] L).1=T:=⟨_,rfl⟩
 obtain ⟨K1,hK1⟩:∃K,(planR L Lt).2.2=K:=⟨_,rfl⟩
 obtain ⟨K2,hK2⟩:∃K,(planR L []).2.2=K:=⟨_,rfl⟩
 obtain ⟨K3,hK3⟩:∃K,(planR [] L).2.2=K:=⟨_,rfl⟩
 rw [hT2,hT3] at q5 q6
 rw [hK1] at CP1
 rw [hT2,hK2] at CP2
 rw [hT3,hK3] at CP3
 have Q5:Hid (¬ E=0->T2=⟨#[]⟩/\T3=⟨#[]⟩):=q5
 have Q6:Hid (E=0->(rowsN T2 T2.size=L.length/\T2.size < 2 ^ 60)/\rowsN T3 T3.size=L.length/\T3.size < 2 ^ 60):=q6
 clear q1 q2 q3 q4 q5 q6 hLt hVt hNt hSt n0 n1 n2 hnil h hV hN hS hLt' hnt hE hK hT0 hT2 hT3 hK1 hK2 hK3
 have HG:Hid (w.grownBy w none):=gb_refl _ _
 have heq:(E != E)=false:=by simp
 go_enter Tryz.func6,Tryz.ntmps6
 go_wp2_with (first | (go_at_call 7;refine (CE.out _ HG.out).mono ?_))
 rintro e w1 ⟨o1,c1,rfl,hr,hg⟩
 replace HG:Hid (w.grownBy w1 none):=gb_trans HG.out hg
 have HR1:Hid (EnS w1 (.slice o1 L.length c1) L/\Flat (.slice o1 L.length c1)):=hr
 clear hg hr
 go_wp2_with (first | (go_at_call 12;refine (CT.out _ HG.out).mono ?_))
 rintro e w2 ⟨o2,c2,rfl,hr,hg⟩
 replace HG:Hid (w.grownBy w2 none):=gb_trans HG.out hg
 replace HR1:Hid (EnS w2 (.slice o1 L.length c1) L/\Flat (.slice o1 L.length c1)):=⟨HR1.out.1.grow hg,HR1.out.2⟩
 have HR2:Hid (EnS w2 (.slice o2 nt c2) Lt):=hr
 clear hg hr
 go_wp2_with (first | (go_at_call 7;refine (CEt.out _ _ HR2.out).mono ?_))
 rintro e w3 ⟨o3,c3,rfl,hr,hg⟩
 replace HG:Hid (w.grownBy w3 none):=gb_trans HG.out hg
 replace HR1:Hid (EnS w3 (.slice o1 L.length c1) L/\Flat (.slice o1 L.length c1)):=⟨HR1.out.1.grow hg,HR1.out.2⟩
 replace HR2:Hid (EnS w3 (.slice o3 nt c3) Lt/\Flat (.slice o3 nt c3)):=hr
 clear hg hr
 go_wp2_with (first | (go_at_call 14;refine (CP1.out _ _ _ HR1.out HR2.out).mono ?_))
 rintro e w4 ⟨rfl,hg⟩
 replace HG:Hid (w.grownBy w4 none):=gb_trans HG.out hg
 clear hg HR1 HR2
 go_wp2_with (first | (go_at_call 7;refine (CE.out _ HG.out).mono ?_))
 rintro e w5 ⟨o5,c5,rfl,hr,hg⟩
 replace HG:Hid (w.grownBy w5 none):=gb_trans HG.out hg
 have HR1:Hid (EnS w5 (.slice o5 L.length c5) L/\Flat (.slice o5 L.length c5)):=hr
 clear hg hr
 go_wp2_with (first | (go_at_call 14;refine (CP2.out _ _ HR1.out).mono ?_))
 rintro e w6 ⟨rfl,hg⟩
 replace HG:Hid (w.grownBy w6 none):=gb_trans HG.out hg
 clear hg HR1
 go_wp2_with (first | (go_at_call 7;refine (CE.out _ HG.out).mono ?_))
 rintro e w7 ⟨o7,c7,rfl,hr,hg⟩
 replace HG:Hid (w.grownBy w7 none):=gb_trans HG.out hg
 have HR1:Hid (EnS w7 (.slice o7 L.length c7) L/\Flat (.slice o7 L.length c7)):=hr
 clear hg hr
 go_wp2_with (first | (go_at_call 14;refine (CP3.out _ _ HR1.out).mono ?_))
 rintro e w8 ⟨rfl,hg⟩
 replace HG:Hid (w.grownBy w8 none):=gb_trans HG.out hg
 clear hg HR1
 go_wp2_with (first | (go_at_call 9;refine (CD.out _ HG.out).mono ?_))
 rintro e w9 ⟨rfl,hg⟩
 replace HG:Hid (w.grownBy w9 none):=gb_trans HG.out hg
 clear hg
 by_cases hz:E=0
 ·obtain ⟨⟨a1,a2⟩,a3,a4⟩:=Q6.out hz
  have CL2:Hid (∀w',Calls Tryz.prog 16 #[.string T2] w' fun e w''=>e=.returned (.int .i64 (L.length:Nat))/\w'.grownBy w'' none):=fun w'=>by
   have:=CL.out T2 w' a2
   rw [a1] at this
   exact this
  have CL3:Hid (∀w',Calls Tryz.prog 16 #[.string T3] w' fun e w''=>e=.returned (.int .i64 (L.length:Nat))/\w'.grownBy w'' none):=fun w'=>by
   have:=CL.out T3 w' a4
   rw [a3] at this
   exact this
  have hll:((L.length:Int) == (L.length:Int))=true:=by simp
  subst hz
  clear a1 a2 a3 a4 heq
  go_wp2_with (first | (go_at_call 11;refine (CM.out _ _).mono ?_;rintro e w' ⟨rfl,rfl⟩) | (go_at_call 16;refine (CL2.out _).mono ?_))
  rintro e wa ⟨rfl,hg⟩
  replace HG:Hid (w.grownBy wa none):=gb_trans HG.out hg
  clear hg
  go_wp2_with (first | (go_at_call 16;refine (CL3.out _).mono ?_))
  rintro e wb ⟨rfl,hg⟩
  replace HG:Hid (w.grownBy wb none):=gb_trans HG.out hg
  clear hg
  go_wp2
  refine bodyPost_ret (results_tmp (t:=2) rfl _ _ _) rfl ⟨rfl,HG.out⟩
 ·obtain ⟨a1,a2⟩:=Q5.out hz
  subst a1 a2
  have hz1:(E != 0)=true:=by simp [hz]
  clear hz
  go_wp2_with (first | (go_at_call 11;refine (CM.out _ _).mono ?_;rintro e w' ⟨rfl,rfl⟩))
  refine bodyPost_ret (results_tmp (t:=2) rfl _ _ _) rfl ⟨rfl,HG.out⟩
end Go.Proofs.YtpeghomkaphdcaaGreatDoor
