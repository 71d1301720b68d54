import Derived.Test.YtbbmbnpebiakbaaGreatDoorM12
import Derived.WalkLawsBesides
import Derived.Test.YtbbmbnpebiakbaaGreatDoorM11
namespace Go.Proofs.YtbbmbnpebiakbaaGreatDoor
open Go.RowKit
set_option linter.unusedVariables false
theorem snoc_map (L:List En) (i:Nat) (hi:i < L.length):((L.take (i+1)).map (·.nm)).map Value.string=((L.take i).map (·.nm)).map Value.string++[.string L[i].nm]:=by
 rw [List.take_succ_eq_append_getElem hi,List.map_append,List.map_append];rfl
theorem gb_row0b {w wa wb:World} {row:Option Nat} (h:w.grownBy wa none) (hg:wa.grownBy wb row) (hr:∀q,row=some q->w.heap.size<=q):w.grownBy wb none :=
 ⟨hg.os.trans h.os,hg.tape.trans h.tape,hg.output.trans h.output,Nat.le_trans h.size hg.size,fun k hk hn=>(hg.block k (Nat.lt_of_lt_of_le hk h.size) (fun e=>by have:=hr k e.symm;omega)).trans (h.block k hk hn)⟩
theorem str_one (s:ByteArray):∀u ∈ [Value.string s],u.oneCell'=true:=by
 intro u hu
 rw [List.mem_singleton.1 hu]
 rfl
set_option maxRecDepth 100000 in
set_option maxHeartbeats 6400000 in
theorem rising_at (a:Addr) (cap:Nat) (L:List En) (w:World) (hL:L.length<=1048576) (hcap:L.length<=cap) (hN:∀x ∈ L,x.nd.length<=1048576) (hnd:(L.map (·.nm)).Nodup) (h:∀i (hi:i < L.length),EnAt w (a.add (i * 4)) L[i]) :
  Calls Tryz.prog 21 #[.slice (some a) L.length cap] w fun e w'=>∃v,e=.returned v/\EnS w' v ((sortE L).map riseE)/\w.grownBy w' none:=by
 have HEN:Hid (∀w',w.grownBy w' none->EnS w' (.slice (some a) L.length cap) L):=fun w' hg=>Or.inr ⟨a,cap,rfl,hcap,fun j hj=>(h j hj).grow hg⟩
 have HA:Hid (∀i (hi:i < L.length),EnAt w (a.add (i * 4)) L[i]):=h
 have CE:Hid (∀n w',w.grownBy w' none->Calls Tryz.prog 29 #[.slice (some a) L.length cap,.string n] w' fun e w''=>∃c:Int,e=.returned (.int .i64 c)/\EntI L n c/\w'.grownBy w'' none):=fun n w' hg=>entryOf_any _ L n w' (HEN.out w' hg) hL
 have CS:Hid (∀(v:Value) (K:List ByteArray) (w:World),TxS w v K->K.length<=1048576->Calls Tryz.prog 30 #[v] w (SrtPost K w)):=fun v K w h1 h2=>cSorted v K w h1 h2
 have HND:Hid (L.map (·.nm)).Nodup:=hnd
 have HNL:Hid (∀x ∈ L,x.nd.length<=1048576):=hN
 clear h hN hnd
 have hinfo:=infoRn
 obtain ⟨i0,hi0,hii⟩:=Option.map_eq_some_iff.1 hinfo
 simp only [Prod.mk.injEq] at hii
 obtain ⟨hz0,hz1,hzb⟩:=hii
 have hinfo2:=infoTx
 obtain ⟨j0,hj0,hjj⟩:=Option.map_eq_some_iff.1 hinfo2
 simp only [Prod.mk.injEq] at hjj
 obtain ⟨hy0,hy1,hyb⟩:=hjj
 clear hinfo hinfo2
 go_enter Tryz.func21,Tryz.ntmps21
 go_wp2
 go_loopw [3,4] (fun vm vi wr=>∃i:Nat,vi=.int .i64 i/\i<=L.length/\wr.ownsRow w.heap.size 9 1 vm i (((L.take i).map (·.nm)).map Value.string)/\Below w.heap.size w wr) (fun _ vi _=>L.length - (intOf vi).toNat)
 case atStart=>exact ⟨0,rfl,Nat.zero_le _,World.ownsRow_nil _ _ _ _,Below.refl _ _⟩
 case round =>
  obtain ⟨i,rfl,hi,hown,hb⟩:=hrel
  by_cases hlt:i < L.length
  ·obtain ⟨e0,-,-,-⟩:=(HA.out i hlt).grow (bel_gb hb)
   obtain ⟨s,hs⟩:∃s,L[i].nm=s:=⟨_,rfl⟩
   rw [hs] at e0
   have HTK:Hid (((L.take (i+1)).map (·.nm)).map Value.string=((L.take i).map (·.nm)).map Value.string++[.string s]):=by
    show _=_
    rw [snoc_map L i hlt,hs]
   have hzz:=hb.size
   clear hs
   go_wp2_with (first | (at_builtin;refine wpList_append_lies _ rfl _ _ 40 rfl w.heap.size 9 j0 _ 1 16 Tryz.underlying40 hj0 hy0 hy1 hyb rfl (by decide) _ _ _ rfl (hown.alloc _) _ 1 1 [.string s] rfl rfl (World.news_of_block (heap_alloc_new _ _)) (str_one s) (by decide) (by unfold maxLen;omega) (by omega) (by simp;omega) _ rfl ?_;intro g cap1 w3 hown3 hgrow hat3 hlt3))
   have HB3:Hid (Below w.heap.size w w3):=(hb.alloc hb.size _).grown hgrow (by simp;omega) (fun q hq=>(hown.lt q hq).1)
   have HO3:Hid (w3.ownsRow w.heap.size 9 1 (.slice (some ⟨g,0,none⟩) (i+1) cap1) (i+1) (((L.take (i+1)).map (·.nm)).map Value.string)):=by show World.ownsRow _ _ _ _ _ _ _;rw [HTK.out];exact hown3
   clear hown3 hgrow hat3 hlt3 hown hb e0
   go_wp2
   go_roundw
   case rel=>exact ⟨i+1,by go_num,by omega,HO3.out,HB3.out⟩
   case measure=>simp [intOf];omega
  ·have hil:i=L.length:=by omega
   have htx:TxS wr u3 (L.map (·.nm)):=by
    rw [hil,List.take_length] at hown
    exact txs_own (by simp) hown
   have HG:Hid (w.grownBy wr none):=bel_gb hb
   obtain ⟨ou,cu,rfl⟩:=txs_slice htx
   obtain ⟨nl,hnl⟩:∃n,(L.map (·.nm)).length=n:=⟨_,rfl⟩
   have HNM:Hid ((L.map (·.nm)).length<=1048576):=by rw [List.length_map];exact hL
   rw [hnl] at htx
   try rw [hnl]
   have HTX:Hid (TxS wr (.slice ou nl cu) (L.map (·.nm))):=htx
   clear hown hb hil hi htx hnl
   go_wp2_with (first | (go_at_call 30;refine (CS.out _ (L.map (·.nm)) _ HTX.out HNM.out).mono ?_))
   rintro e w4 ⟨v4,S,rfl,hown4,hp4,hr4,hb4⟩
   have htx4:TxS w4 v4 S:=txs_own rfl hown4
   have HTX4:Hid (TxS w4 v4 S):=htx4
   have HG4:Hid (w.grownBy w4 none):=gb_trans HG.out (bel_gb hb4)
   have HS4:Hid (S.Perm (L.map (·.nm))/\RiseT S):=⟨hp4,hr4⟩
   have HSL:Hid (S.length<=1048576):=by show _<=_;rw [hp4.length_eq];simpa using hL
   obtain ⟨o4,c4,rfl⟩:=txs_slice htx4
   have hsl:=HSL.out
   clear hown4 hp4 hr4 hb4 htx4
   go_wp2
   go_loopw [5,6] (fun vm vk wk=>∃k:Nat,vk=.int .i64 k/\k<=S.length/\QRow (((S.take k).map (entOf L)).map riseE) wk w4.heap.size vm/\w4.grownBy wk none) (fun _ vk _=>S.length - (intOf vk).toNat)
   case atStart=>exact ⟨0,rfl,Nat.zero_le _,⟨[],rfl,World.ownsRow_nil _ _ _ _,fun j hj=>by simp at hj⟩,gb_refl _ _⟩
   case round =>
    obtain ⟨k,rfl,hk,hq,hgk⟩:=hrel
    have HQ:Hid (QRow (((S.take k).map (entOf L)).map riseE) wr w4.heap.size u5):=hq
    have HGK:Hid (w4.grownBy wr none):=hgk
    have HGW:Hid (w.grownBy wr none):=gb_trans HG4.out hgk
    by_cases hlt:k < S.length
    ·obtain ⟨b,rfl,hcv,hat⟩:=txs_at (HTX4.out.grow hgk) hlt
     have g0:=hat k hlt
     obtain ⟨y,hy⟩:∃y,S[k]=y:=⟨_,rfl⟩
     rw [hy] at g0
     have HY:Hid (S[k]=y):=hy
     have HYM:Hid (y ∈ L.map (·.nm)):=HS4.out.1.subset (by rw [<-hy];exact List.getElem_mem _)
     clear hq hgk hat hy
     go_wp2_with (first | (go_at_call 29;refine (CE.out _ _ HGW.out).mono ?_))
     rintro e w5 ⟨c,rfl,hc,hg5⟩
     obtain ⟨jx,hjx,rfl,hjn,hjf⟩:∃j,∃hj:j < L.length,c=(j:Int)/\L[j].nm=y/\hasNm (L.take j) y=false:=by
      rcases hc with ⟨_,h2⟩ | h
      ·obtain ⟨x,hx,hxn⟩:=List.mem_map.1 HYM.out
       unfold hasNm at h2
       rw [List.any_eq_false] at h2
       have:=h2 x hx
       simp [hxn] at this
      ·exact h
     obtain ⟨x,hx⟩:∃x,L[jx]=x:=⟨_,rfl⟩
     have HXE:Hid (entOf L y=x):=by
      show _=_
      rw [entOf_at L y jx hjx hjn hjf,hx]
     have HXL:Hid (x.nd.length<=1048576):=HNL.out x (by rw [<-hx];exact List.getElem_mem _)
     obtain ⟨e0,e1,e2,sv,e3,hsv⟩:EnAt w5 (a.add (jx * 4)) x:=by rw [<-hx];exact (HA.out jx hjx).grow (gb_trans HGW.out hg5)
     have HSV:Hid (TxS w5 sv x.nd):=hsv
     obtain ⟨so,sc,rfl⟩:=txs_slice hsv
     have HGW5:Hid (wr.grownBy w5 none):=hg5
     have hjI:(jx:Int) < (L.length:Int):=by omega
     have hjN:jx < cap:=by omega
     obtain ⟨A,hA⟩:∃A,w5.heap.size=A:=⟨_,rfl⟩
     clear hc hg5 hjn hjf hx hsv g0
     go_wp2_with (first | (go_at_call 30;refine (CS.out _ x.nd _ (HSV.out.grow (gb_alloc (gb_refl w5 none) _)) HXL.out).mono ?_))
     rintro e w6 ⟨v6,T,rfl,hown6,hp6,hr6,hb6⟩
     obtain ⟨c0,c1,c2,c3⟩:=en_block ((hb6.block w5.heap.size (by simp)).trans (heap_alloc_new w5 _))
     have htx6:TxS w6 v6 T:=txs_own rfl hown6
     have hT:T=sortT x.nd:=sortT_one hp6 hr6
     have hf6:∀a n k,v6=.slice (some a) n k->0 < n->w5.heap.size<=a.block/\a.block < w6.heap.size:=fun a n k e hn=>by
      rw [e] at hown6
      have:=hown6.lt a.block rfl
      simp at this
      omega
     have hg56:w5.grownBy w6 none:=gb_trans (gb_alloc (gb_refl w5 none) _) (bel_gb hb6)
     have hg6:wr.grownBy w6 none:=gb_trans HGW5.out hg56
     have HTX6:Hid (TxS w6 v6 (riseE x).nd):=by
      show TxS _ _ _
      rw [show (riseE x).nd=T from hT.symm]
      exact htx6
     have HF6:Hid (∀a n k,v6=.slice (some a) n k->0 < n->wr.heap.size<=a.block/\a.block < w6.heap.size):=fun a n k e hn=>by
      have:=hf6 a n k e hn
      have:=HGW5.out.size
      omega
     have HG6:Hid (wr.grownBy w6 none):=hg6
     obtain ⟨o6,c6,rfl⟩:=txs_slice htx6
     obtain ⟨t6,ht6⟩:∃t,T.length=t:=⟨_,rfl⟩
     rw [ht6] at HTX6 HF6
     try rw [ht6]
     try rw [hA]
     rw [hA] at c0 c1 c2 c3
     obtain ⟨M,hM⟩:∃M,((S.take k).map (entOf L)).map riseE=M:=⟨_,rfl⟩
     have hq2:=HQ.out
     rw [hM] at hq2
     obtain ⟨vs,hvl,hownq,hinq⟩:=hq2
     have HML:Hid ((((S.take k).map (entOf L)).map riseE).length=k):=by show _=_;rw [List.length_map,List.length_map,List.length_take];omega
     have hml:=HML.out
     rw [hM] at hml
     rw [hml] at hownq
     have hownq6:=own_stay hownq hg6
     have HOQ:Hid (wr.ownsRow w4.heap.size 42 4 u5 k (enCs M vs)):=hownq
     have HVL:Hid (vs.length=M.length/\M.length=k):=⟨hvl,hml⟩
     have HIN:Hid (∀j (hj:j < M.length),TxS wr (vs[j]'(by omega)) M[j].nd/\TxFar (vs[j]'(by omega)) u5.ownBlock):=hinq
     have HMM:Hid (((S.take k).map (entOf L)).map riseE=M):=hM
     have hb46:w4.heap.size<=w6.heap.size:=Nat.le_trans HGK.out.size hg6.size
     have HOB:Hid (∀q,u5.ownBlock=some q->w4.heap.size<=q):=fun q hq=>(hownq.lt q hq).1
     clear hown6 hp6 hr6 hb6 htx6 hT hf6 hg56 hg6 hinq hA ht6 e0 e1 e2 e3 hM hml hownq
     go_wp2_with (first | (at_builtin;refine wpList_append_lies _ rfl _ _ 22 rfl w4.heap.size 42 i0 _ 4 72 Tryz.underlying22 hi0 hz0 hz1 hzb rfl (by decide) _ _ _ rfl (hownq6.alloc _) _ 1 1 (enC (riseE x) (.slice o6 t6 c6)) rfl rfl (World.news_of_block (heap_alloc_new _ _)) (enc_one _ _ rfl) (by decide) (by unfold maxLen;omega) (by omega) (by simp;omega) _ rfl ?_;intro g cap1 w7 hown7 hgrow7 hat7 hlt7))
     have HGW7:Hid (w4.grownBy w7 none):=by
      refine gb_row0b (gb_trans HGK.out (gb_alloc HG6.out _)) hgrow7 HOB.out
     have HQ7:Hid (QRow (((S.take (k+1)).map (entOf L)).map riseE) w7 w4.heap.size (.slice (some ⟨g,0,none⟩) (k+1) cap1)):=by
      have e1:((S.take (k+1)).map (entOf L)).map riseE=((S.take k).map (entOf L)).map riseE++[riseE x]:=by
       rw [List.take_succ_eq_append_getElem hlt,List.map_append,List.map_append,HY.out,List.map_singleton,HXE.out];rfl
      rw [e1,HMM.out]
      exact qrow_snoc (w1:=w6.alloc (.cells #[.string x.nm,.string x.ve,.string x.dg,.slice o6 t6 c6] 42)) HVL.out.2 HVL.out.1 HOQ.out HIN.out (gb_alloc HG6.out _) hown7 hgrow7 hat7 (HTX6.out.grow (gb_alloc (gb_refl w6 none) _)) (fun a n k e hn=>by have:=HF6.out a n k e hn;simp;omega)
     clear hown7 hgrow7 hat7 hlt7 hownq6 c0 c1 c2 c3
     go_wp2
     go_roundw
     case rel=>exact ⟨k+1,by go_num,by omega,HQ7.out,HGW7.out⟩
     case measure=>simp [intOf];omega
    ·have hke:k=S.length:=by omega
     have HF:Hid (EnS wr u5 ((sortE L).map riseE)):=by
      rw [hke,List.take_length,ents_sort HND.out HS4.out.1 HS4.out.2] at hq
      exact qrow_ens hq
     clear hq hgk hke hk
     go_wp2
     refine bodyPost_ret (results_tmp (t:=2) rfl _ _ _) rfl ⟨_,rfl,HF.out,HGW.out⟩
open Go.RowKit
set_option linter.unusedVariables false
def cat (x y:ByteArray):ByteArray:=x++y
theorem cat_list (x y:ByteArray):(cat x y).data.toList=x.data.toList++y.data.toList:=by simp [cat]
theorem cat_size (x y:ByteArray):(cat x y).size=x.size+y.size:=by simp [cat]
theorem add_cat (x y:ByteArray) (wx:World) (h:x.size+y.size<=140737488355328):(Op.stringOp .add x y).run Tryz.prog wx=.ok (.string (cat x y)) wx :=
 run_string_add_sum wx _ _ (by omega)
theorem txt_ext {x:ByteArray} {l:List UInt8} (h:x.data.toList=l):x=⟨l.toArray⟩:=ByteArray.ext (Array.ext' (by simpa using h))
def ndK (N:List ByteArray):Nat->List UInt8
 | 0=>[]
 | k+1=>ndK N k++((if 0 < k then [44,32] else [])++(match N[k]? with | some y=>34 :: (y.data.toList++[34]) | none=>[]))
theorem ndk_step (N:List ByteArray) (k:Nat) (hk:k < N.length):ndK N (k+1)=ndK N k++((if 0 < k then [44,32] else [])++34 :: (N[k].data.toList++[34])):=by
 simp [ndK,List.getElem?_eq_getElem hk]
def entB (x:En):List UInt8:=[10,91,91,112,97,99,107,97,103,101,93,93,10,100,105,103,101,115,116,32,61,32,34]++(x.dg.data.toList++([34,10,110,97,109,101,32,61,32,34]++(x.nm.data.toList++([34,10,110,101,101,100,115,32,61,32,91]++(ndK x.nd x.nd.length++([93,10,118,101,114,115,105,111,110,32,61,32,34]++(x.ve.data.toList++[34,10])))))))
def lockB (M:List En):List UInt8:=[102,111,114,109,97,116,32,61,32,49,10]++M.flatMap entB
def Short (x:En):Prop:=x.nm.size<=1048576/\x.ve.size<=1048576/\x.dg.size<=1048576/\x.nd.length<=20/\∀y ∈ x.nd,y.size<=1048576
theorem ndk_len (N:List ByteArray) (h:∀y ∈ N,y.size<=1048576):∀k,k<=N.length->(ndK N k).length<=k * 1048580
 | 0,_=>by simp [ndK]
 | k+1,hk=>by
  have h1:=ndk_len N h k (by omega)
  have h2:=h N[k] (List.getElem_mem _)
  have e:N[k].data.toList.length=N[k].size:=by simp
  rw [ndk_step N k (by omega)]
  split
  ·simp only [List.length_append,List.length_cons,List.length_nil,e];omega
  ·simp only [List.length_append,List.length_cons,List.length_nil,e];omega
theorem fe_zero {L:List En} {i:Nat} {x:En} (h:faultE L i x=0):i < 50/\x.nd.length<=20/\hasNm (L.take i) x.nm=false:=by
 unfold faultE at h
 split at h
 ·cases h
 ·rename_i h1
  split at h
  ·cases h
  ·split at h
   ·cases h
   ·rename_i h3
    refine ⟨by omega,by omega,?_⟩
    cases hh:hasNm (L.take i) x.nm with
    | false=>rfl
    | true=>exact absurd (Or.inl hh) h3
theorem lock_small (L:List En) (h:(lockFrom L L.length).1=0):L.length<=50/\(∀x ∈ L,x.nd.length<=20)/\(L.map (·.nm)).Nodup:=by
 have h0:=lock_ok L h
 have h1:∀i (hi:i < L.length),i < 50/\L[i].nd.length<=20/\hasNm (L.take i) L[i].nm=false:=fun i hi=>by
  have:=h0 i hi
  rw [errE_at L i hi] at this
  exact fe_zero this
 refine ⟨?_,fun x hx=>?_,?_⟩
 ·apply Classical.byContradiction
  intro hn
  have:=(h1 50 (by omega)).1
  omega
 ·obtain ⟨i,hi,rfl⟩:=List.getElem_of_mem hx
  exact (h1 i hi).2.1
 ·unfold List.Nodup
  rw [List.pairwise_iff_getElem]
  intro i j hi hj hij e
  rw [List.length_map] at hi hj
  rw [List.getElem_map,List.getElem_map] at e
  have:=(h1 j hj).2.2
  rw [nm_at L _ j i hi hij e] at this
  cases this
def lockT (L:List En):ByteArray:=⟨(lockB ((sortE L).map riseE)).toArray⟩
noncomputable def lockR (L:List En):ByteArray:=if (lockFrom L L.length).1=0 then lockT L else ⟨#[]⟩
theorem short_rise {x:En} (h:Short x):Short (riseE x):=⟨h.1,h.2.1,h.2.2.1,by show (sortT x.nd).length<=20;rw [(sortT_perm x.nd).length_eq];exact h.2.2.2.1,fun y hy=>h.2.2.2.2 y ((sortT_perm x.nd).subset hy)⟩
theorem flat_snoc (M:List En) (i:Nat) (hi:i < M.length):(M.take (i+1)).flatMap entB=(M.take i).flatMap entB++entB M[i]:=by
 rw [List.take_succ_eq_append_getElem hi,List.flatMap_append];simp
set_option maxRecDepth 100000 in
set_option maxHeartbeats 6400000 in
theorem refPrint_at (a:Addr) (cap:Nat) (L:List En) (w:World) (hcap:L.length<=cap) (h:∀j (hj:j < L.length),EnAt w (a.add (j * 4)) L[j]) (hL:L.length<=1048576) (hV:∀x ∈ L,x.nm.size<=1048576/\x.ve.size<=1048576/\x.dg.size<=1048576) (hN:∀x ∈ L,x.nd.length<=1048576) (hS:∀x ∈ L,∀y ∈ x.nd,y.size<=1048576) :
  Calls Tryz.prog 9 #[.slice (some a) L.length cap] w fun e w'=>e=.returned (.tuple #[.string (lockR L),.int .i64 (lockFrom L L.length).1,.int .i64 ((lockFrom L L.length).2:Int)])/\w.grownBy w' none:=by
 have CW:Hid (∀i w',i < L.length->w.grownBy w' none->Calls Tryz.prog 20 #[.slice (some a) L.length cap,.int .i64 i] w' fun e w''=>e=.returned (.int .i64 (errE L i))/\w'.grownBy w'' none):=fun i w' hi hg=>wrongEntry_at a cap L i w' hi hcap (fun j hj=>(h j hj).grow hg) hL (fun x hx=>by have:=hV x hx;exact ⟨by omega,by omega,by omega⟩) hN (fun x hx y hy=>by have:=hS x hx y hy;omega)
 have CR:Hid (∀w',w.grownBy w' none->(L.map (·.nm)).Nodup->Calls Tryz.prog 21 #[.slice (some a) L.length cap] w' fun e w''=>∃o c,e=.returned (.slice o ((sortE L).map riseE).length c)/\EnS w'' (.slice o ((sortE L).map riseE).length c) ((sortE L).map riseE)/\w'.grownBy w'' none):=fun w' hg hn=>(rising_at a cap L w' hL hcap hN hn (fun j hj=>(h j hj).grow hg)).mono fun e w'' ⟨v,h1,h2,h3⟩=>by
  obtain ⟨o,c,rfl⟩:=ens_slice h2
  exact ⟨o,c,h1,h2,h3⟩
 have HSH:Hid ((lockFrom L L.length).1=0->L.length<=50/\(L.map (·.nm)).Nodup/\∀x ∈ (sortE L).map riseE,Short x):=fun h0=>by
  obtain ⟨h1,h2,h3⟩:=lock_small L h0
  refine ⟨h1,h3,fun x hx=>?_⟩
  obtain ⟨y,hy,rfl⟩:=List.mem_map.1 hx
  have hy2:=(sortE_perm L).subset hy
  exact short_rise ⟨(hV y hy2).1,(hV y hy2).2.1,(hV y hy2).2.2,h2 y hy2,hS y hy2⟩
 have HML:Hid (((sortE L).map riseE).length=L.length):=by show _=_;rw [List.length_map,(sortE_perm L).length_eq]
 have HH:Hid (∀i,i < L.length->¬ errE L i=0->lockFrom L (L.length - i)=(errE L i,i)):=lock_hit L
 have HM:Hid (∀i,i < L.length->errE L i=0->lockFrom L (L.length - i)=lockFrom L (L.length - (i+1))):=lock_miss L
 have HLR:Hid ((lockFrom L L.length).1=0->lockR L=⟨(lockB ((sortE L).map riseE)).toArray⟩):=fun h0=>by
  show lockR L=_
  unfold lockR;rw [if_pos h0];rfl
 have HLE:Hid (¬ (lockFrom L L.length).1=0->lockR L=⟨#[]⟩):=fun h0=>by
  show lockR L=_
  unfold lockR;rw [if_neg h0]
 obtain ⟨T,hT⟩:∃T,lockR L=T:=⟨_,rfl⟩
 rw [hT] at HLR HLE ⊢
 obtain ⟨R,hR⟩:∃R,lockFrom L L.length=R:=⟨_,rfl⟩
 have HS0:Hid (lockFrom L (L.length - 0)=R):=hR
 rw [hR] at HSH HLR HLE ⊢
 obtain ⟨M,hM⟩:∃M,(sortE L).map riseE=M:=⟨_,rfl⟩
 rw [hM] at HSH HLR CR HML
 clear h hV hN hS hR hT hM
 go_enter Tryz.func9,Tryz.ntmps9
 go_wp2
 go_loopw [5] (fun vi wr=>∃i:Nat,vi=.int .i64 i/\i<=L.length/\lockFrom L (L.length - i)=R/\w.grownBy wr none) (fun vi _=>L.length - (intOf vi).toNat)
 case atStart=>exact ⟨0,rfl,Nat.zero_le _,HS0.out,gb_refl _ _⟩
 case round =>
  obtain ⟨i,rfl,hi,hc,hg⟩:=hrel
  have HG:Hid (w.grownBy wr none):=hg
  have HC:Hid (lockFrom L (L.length - i)=R):=hc
  by_cases hlt:i < L.length
  ·have CWW:Hid (Calls Tryz.prog 20 #[.slice (some a) L.length cap,.int .i64 i] wr fun e w'=>e=.returned (.int .i64 (errE L i))/\wr.grownBy w' none):=CW.out i wr hlt hg
   have HH':Hid (¬ errE L i=0->R=(errE L i,i)):=fun h=>HC.out.symm.trans (HH.out i hlt h)
   have HM':Hid (errE L i=0->lockFrom L (L.length - (i+1))=R):=fun h=>(HM.out i hlt h).symm.trans HC.out
   obtain ⟨F,hF⟩:∃F,errE L i=F:=⟨_,rfl⟩
   rw [hF] at CWW HH' HM'
   clear hF hc hg
   by_cases hz:F=0
   ·subst hz
    go_wp2_with (first | (go_at_call 20;refine CWW.out.mono ?_;rintro e w3 ⟨rfl,hg3⟩))
    go_roundw
    case rel=>exact ⟨i+1,by go_num,by omega,HM'.out (by trivial),gb_trans HG.out hg3⟩
    case measure=>simp [intOf];omega
   ·have hz1:(F != 0)=true:=by simp [hz]
    have HR:Hid (R=(F,i)):=HH'.out hz
    have HTE:Hid (T=⟨#[]⟩):=HLE.out (by rw [HR.out];exact hz)
    clear hz
    go_wp2_with (first | (go_at_call 20;refine CWW.out.mono ?_;rintro e w3 ⟨rfl,hg3⟩))
    refine bodyPost_ret (results_tmp3 (t:=2) (u:=3) (v:=4) rfl _ _ _) rfl ⟨?_,gb_trans HG.out hg3⟩
    rw [HR.out,HTE.out];rfl
  ·have hil:i=L.length:=by omega
   have HR:Hid (R=(0,0)):=by
    show R=_
    rw [<-hc,hil,Nat.sub_self];rfl
   obtain ⟨hL50,hnd,hsh⟩:=HSH.out (by rw [HR.out])
   have HSHM:Hid (∀x ∈ M,Short x):=hsh
   have HTT:Hid (T=⟨(lockB M).toArray⟩):=HLR.out (by rw [HR.out])
   have CRR:Hid (Calls Tryz.prog 21 #[.slice (some a) L.length cap] wr fun e w''=>∃o c,e=.returned (.slice o M.length c)/\EnS w'' (.slice o M.length c) M/\wr.grownBy w'' none):=CR.out wr hg hnd
   have hml:M.length<=50:=by rw [HML.out];exact hL50
   clear hc hg hil hi hnd hsh
   go_wp2_with (first | (go_at_call 21;refine CRR.out.mono ?_))
   rintro e w4 ⟨o4,c4,rfl,hens,hg4⟩
   have HENS:Hid (EnS w4 (.slice o4 M.length c4) M):=hens
   have HG4:Hid (w.grownBy w4 none):=gb_trans HG.out hg4
   clear hens hg4
   go_wp2
   go_loopw [7,9] (fun vo vi wi=>∃(i:Nat) (O:ByteArray),vi=.int .i64 i/\vo=.string O/\i<=M.length/\O.data.toList=[102,111,114,109,97,116,32,61,32,49,10]++(M.take i).flatMap entB/\O.size<=11+i * 67108864/\w4.grownBy wi none) (fun _ vi _=>M.length - (intOf vi).toNat)
   case atStart=>exact ⟨0,_,rfl,rfl,Nat.zero_le _,by simp,by decide,gb_refl _ _⟩
   case round =>
    obtain ⟨i,O,rfl,rfl,hi,hO,hOs,hgi⟩:=hrel
    have HO:Hid (O.data.toList=[102,111,114,109,97,116,32,61,32,49,10]++(M.take i).flatMap entB):=hO
    have HGI:Hid (w4.grownBy wr none):=hgi
    have HGW:Hid (w.grownBy wr none):=gb_trans HG4.out hgi
    by_cases hlt:i < M.length
    ·obtain ⟨b,rfl,hcv,hat⟩:=ens_at (HENS.out.grow hgi) hlt
     obtain ⟨x,hx⟩:∃x,M[i]=x:=⟨_,rfl⟩
     obtain ⟨e0,e1,e2,sv,e3,hsv⟩:EnAt wr (b.add (i * 4)) x:=by rw [<-hx];exact hat i hlt
     have H1:Hid (TxS wr sv x.nd):=hsv
     obtain ⟨so,sc,rfl⟩:=txs_slice hsv
     obtain ⟨s1,s2,s3,s4,s5⟩:=HSHM.out x (by rw [<-hx];exact List.getElem_mem _)
     have HS5:Hid (∀y ∈ x.nd,y.size<=1048576):=s5
     have HNX:Hid ((M.take (i+1)).flatMap entB=(M.take i).flatMap entB++entB x):=by
      show _=_
      rw [flat_snoc M i hlt,hx]
     have HEB:Hid (entB x=entB ⟨x.nm,x.ve,x.dg,x.nd⟩):=rfl
     obtain ⟨xn,xv,xd,N⟩:=x
     simp only [] at H1 HS5 s1 s2 s3 s4 e0 e1 e2 e3 HNX
     clear hO hgi hat hx hsv s5 HEB
     have c1:∀wx,(Op.stringOp .add O ⟨#[10,91,91,112,97,99,107,97,103,101,93,93,10,100,105,103,101,115,116,32,61,32,34]⟩).run Tryz.prog wx=.ok (.string (cat O ⟨#[10,91,91,112,97,99,107,97,103,101,93,93,10,100,105,103,101,115,116,32,61,32,34]⟩)) wx:=fun wx=>add_cat _ _ wx (by show _+23<=_;omega)
     have z1:(cat O ⟨#[10,91,91,112,97,99,107,97,103,101,93,93,10,100,105,103,101,115,116,32,61,32,34]⟩).size=O.size+23:=cat_size _ _
     have l1:=cat_list O ⟨#[10,91,91,112,97,99,107,97,103,101,93,93,10,100,105,103,101,115,116,32,61,32,34]⟩
     generalize cat O ⟨#[10,91,91,112,97,99,107,97,103,101,93,93,10,100,105,103,101,115,116,32,61,32,34]⟩=O1 at c1 z1 l1
     have c2:∀wx,(Op.stringOp .add O1 xd).run Tryz.prog wx=.ok (.string (cat O1 xd)) wx:=fun wx=>add_cat _ _ wx (by omega)
     have z2:=cat_size O1 xd
     have l2:=cat_list O1 xd
     generalize cat O1 xd=O2 at c2 z2 l2
     have c3:∀wx,(Op.stringOp .add O2 ⟨#[34,10,110,97,109,101,32,61,32,34]⟩).run Tryz.prog wx=.ok (.string (cat O2 ⟨#[34,10,110,97,109,101,32,61,32,34]⟩)) wx:=fun wx=>add_cat _ _ wx (by show _+10<=_;omega)
     have z3:(cat O2 ⟨#[34,10,110,97,109,101,32,61,32,34]⟩).size=O2.size+10:=cat_size _ _
     have l3:=cat_list O2 ⟨#[34,10,110,97,109,101,32,61,32,34]⟩
     generalize cat O2 ⟨#[34,10,110,97,109,101,32,61,32,34]⟩=O3 at c3 z3 l3
     have c4:∀wx,(Op.stringOp .add O3 xn).run Tryz.prog wx=.ok (.string (cat O3 xn)) wx:=fun wx=>add_cat _ _ wx (by omega)
     have z4:=cat_size O3 xn
     have l4:=cat_list O3 xn
     generalize cat O3 xn=O4 at c4 z4 l4
     have c5:∀wx,(Op.stringOp .add O4 ⟨#[34,10,110,101,101,100,115,32,61,32,91]⟩).run Tryz.prog wx=.ok (.string (cat O4 ⟨#[34,10,110,101,101,100,115,32,61,32,91]⟩)) wx:=fun wx=>add_cat _ _ wx (by show _+11<=_;omega)
     have z5:(cat O4 ⟨#[34,10,110,101,101,100,115,32,61,32,91]⟩).size=O4.size+11:=cat_size _ _
     have l5:=cat_list O4 ⟨#[34,10,110,101,101,100,115,32,61,32,91]⟩
     generalize cat O4 ⟨#[34,10,110,101,101,100,115,32,61,32,91]⟩=O5 at c5 z5 l5
     have HL5:Hid (O5.data.toList=[102,111,114,109,97,116,32,61,32,49,10]++((M.take i).flatMap entB++([10,91,91,112,97,99,107,97,103,101,93,93,10,100,105,103,101,115,116,32,61,32,34]++(xd.data.toList++([34,10,110,97,109,101,32,61,32,34]++(xn.data.toList++[34,10,110,101,101,100,115,32,61,32,91])))))):=by
      show _=_
      rw [l5,l4,l3,l2,l1,HO.out]
      simp only [List.append_assoc]
     have hz5:O5.size<=11+i * 67108864+2097200:=by omega
     clear l1 l2 l3 l4 l5 z1 z2 z3 z4 z5
     obtain ⟨W1,hW1⟩:∃W,wr.alloc (.cells #[.string xn,.string xv,.string xd,.slice so N.length sc] 42)=W:=⟨_,rfl⟩
     have HWE:Hid (wr.alloc (.cells #[.string xn,.string xv,.string xd,.slice so N.length sc] 42)=W1):=hW1
     have HW1:Hid (w4.grownBy W1 none/\W1.cell? ⟨wr.heap.size,1,none⟩=some (.string xv)/\W1.cell? ⟨wr.heap.size,3,none⟩=some (.slice so N.length sc)/\TxS W1 (.slice so N.length sc) N):=by
      rw [<-hW1]
      obtain ⟨k0,k1,k2,k3⟩:=en_block (heap_alloc_new wr (.cells #[.string xn,.string xv,.string xd,.slice so N.length sc] 42))
      exact ⟨gb_alloc HGI.out _,k1,k3,H1.out.grow (gb_alloc (gb_refl wr none) _)⟩
     obtain ⟨A,hA⟩:∃A,wr.heap.size=A:=⟨_,rfl⟩
     have HAE:Hid (wr.heap.size=A):=hA
     rw [hA] at HW1
     clear hW1 hA
     go_wp2
     clear c1 c2 c3 c4 c5 e0 e1 e2 e3
     try rw [HAE.out]
     go_loopw [7,11] (fun vo vk wk=>∃(k:Nat) (Q:ByteArray),vk=.int .i64 k/\vo=.string Q/\k<=N.length/\Q.data.toList=O5.data.toList++ndK N k/\Q.size<=O5.size+k * 1048580/\W1.grownBy wk none) (fun _ vk _=>N.length - (intOf vk).toNat)
     case atStart=>exact ⟨0,O5,rfl,rfl,Nat.zero_le _,by simp [ndK],by omega,by rw [HWE.out];exact gb_refl _ _⟩
     case round =>
      obtain ⟨k,Q,rfl,rfl,hk,hQ,hQs,hgk⟩:=hrel
      have HQL:Hid (Q.data.toList=O5.data.toList++ndK N k):=hQ
      have HGK:Hid (W1.grownBy wr none):=hgk
      have f1:=hgk.cell HW1.out.2.1 (by simp)
      have f3:=hgk.cell HW1.out.2.2.1 (by simp)
      by_cases hkl:k < N.length
      ·obtain ⟨d,rfl,hdc,hdat⟩:=txs_at (HW1.out.2.2.2.grow hgk) hkl
       have g0:=hdat k hkl
       obtain ⟨y,hy⟩:∃y,N[k]=y:=⟨_,rfl⟩
       rw [hy] at g0
       have hys:=HS5.out y (by rw [<-hy];exact List.getElem_mem _)
       have HST:Hid (ndK N (k+1)=ndK N k++((if 0 < k then [44,32] else [])++34 :: (y.data.toList++[34]))):=by
        show _=_
        rw [ndk_step N k hkl,hy]
       clear hQ hgk hdat hy
       by_cases hk0:0 < k
       ·have d1:∀wx,(Op.stringOp .add Q ⟨#[44,32]⟩).run Tryz.prog wx=.ok (.string (cat Q ⟨#[44,32]⟩)) wx:=fun wx=>add_cat _ _ wx (by show _+2<=_;omega)
        have y1:(cat Q ⟨#[44,32]⟩).size=Q.size+2:=cat_size _ _
        have m1:=cat_list Q ⟨#[44,32]⟩
        generalize cat Q ⟨#[44,32]⟩=Q1 at d1 y1 m1
        have d2:∀wx,(Op.stringOp .add Q1 ⟨#[34]⟩).run Tryz.prog wx=.ok (.string (cat Q1 ⟨#[34]⟩)) wx:=fun wx=>add_cat _ _ wx (by show _+1<=_;omega)
        have y2:(cat Q1 ⟨#[34]⟩).size=Q1.size+1:=cat_size _ _
        have m2:=cat_list Q1 ⟨#[34]⟩
        generalize cat Q1 ⟨#[34]⟩=Q2 at d2 y2 m2
        have d3:∀wx,(Op.stringOp .add Q2 y).run Tryz.prog wx=.ok (.string (cat Q2 y)) wx:=fun wx=>add_cat _ _ wx (by omega)
        have y3:=cat_size Q2 y
        have m3:=cat_list Q2 y
        generalize cat Q2 y=Q3 at d3 y3 m3
        have d4:∀wx,(Op.stringOp .add Q3 ⟨#[34]⟩).run Tryz.prog wx=.ok (.string (cat Q3 ⟨#[34]⟩)) wx:=fun wx=>add_cat _ _ wx (by show _+1<=_;omega)
        have y4:(cat Q3 ⟨#[34]⟩).size=Q3.size+1:=cat_size _ _
        have m4:=cat_list Q3 ⟨#[34]⟩
        generalize cat Q3 ⟨#[34]⟩=Q4 at d4 y4 m4
        have HQ4:Hid (Q4.data.toList=O5.data.toList++ndK N (k+1)):=by
         show _=_
         rw [m4,m3,m2,m1,HQL.out,HST.out,if_pos hk0]
         simp
        have hq4:Q4.size<=O5.size+(k+1) * 1048580:=by omega
        clear m1 m2 m3 m4 y1 y2 y3 y4
        go_wp2
        go_roundw
        case rel=>exact ⟨k+1,Q4,by go_num,rfl,by omega,HQ4.out,hq4,HGK.out⟩
        case measure=>simp [intOf];omega
       ·have d2:∀wx,(Op.stringOp .add Q ⟨#[34]⟩).run Tryz.prog wx=.ok (.string (cat Q ⟨#[34]⟩)) wx:=fun wx=>add_cat _ _ wx (by show _+1<=_;omega)
        have y2:(cat Q ⟨#[34]⟩).size=Q.size+1:=cat_size _ _
        have m2:=cat_list Q ⟨#[34]⟩
        generalize cat Q ⟨#[34]⟩=Q2 at d2 y2 m2
        have d3:∀wx,(Op.stringOp .add Q2 y).run Tryz.prog wx=.ok (.string (cat Q2 y)) wx:=fun wx=>add_cat _ _ wx (by omega)
        have y3:=cat_size Q2 y
        have m3:=cat_list Q2 y
        generalize cat Q2 y=Q3 at d3 y3 m3
        have d4:∀wx,(Op.stringOp .add Q3 ⟨#[34]⟩).run Tryz.prog wx=.ok (.string (cat Q3 ⟨#[34]⟩)) wx:=fun wx=>add_cat _ _ wx (by show _+1<=_;omega)
        have y4:(cat Q3 ⟨#[34]⟩).size=Q3.size+1:=cat_size _ _
        have m4:=cat_list Q3 ⟨#[34]⟩
        generalize cat Q3 ⟨#[34]⟩=Q4 at d4 y4 m4
        have HQ4:Hid (Q4.data.toList=O5.data.toList++ndK N (k+1)):=by
         show _=_
         rw [m4,m3,m2,HQL.out,HST.out,if_neg hk0]
         simp
        have hq4:Q4.size<=O5.size+(k+1) * 1048580:=by omega
        clear m2 m3 m4 y2 y3 y4
        go_wp2
        go_roundw
        case rel=>exact ⟨k+1,Q4,by go_num,rfl,by omega,HQ4.out,hq4,HGK.out⟩
        case measure=>simp [intOf];omega
      ·have hke:k=N.length:=by omega
       have d1:∀wx,(Op.stringOp .add Q ⟨#[93,10,118,101,114,115,105,111,110,32,61,32,34]⟩).run Tryz.prog wx=.ok (.string (cat Q ⟨#[93,10,118,101,114,115,105,111,110,32,61,32,34]⟩)) wx:=fun wx=>add_cat _ _ wx (by show _+13<=_;omega)
       have y1:(cat Q ⟨#[93,10,118,101,114,115,105,111,110,32,61,32,34]⟩).size=Q.size+13:=cat_size _ _
       have m1:=cat_list Q ⟨#[93,10,118,101,114,115,105,111,110,32,61,32,34]⟩
       generalize cat Q ⟨#[93,10,118,101,114,115,105,111,110,32,61,32,34]⟩=Q1 at d1 y1 m1
       have d2:∀wx,(Op.stringOp .add Q1 xv).run Tryz.prog wx=.ok (.string (cat Q1 xv)) wx:=fun wx=>add_cat _ _ wx (by omega)
       have y2:=cat_size Q1 xv
       have m2:=cat_list Q1 xv
       generalize cat Q1 xv=Q2 at d2 y2 m2
       have d3:∀wx,(Op.stringOp .add Q2 ⟨#[34,10]⟩).run Tryz.prog wx=.ok (.string (cat Q2 ⟨#[34,10]⟩)) wx:=fun wx=>add_cat _ _ wx (by show _+2<=_;omega)
       have y3:(cat Q2 ⟨#[34,10]⟩).size=Q2.size+2:=cat_size _ _
       have m3:=cat_list Q2 ⟨#[34,10]⟩
       generalize cat Q2 ⟨#[34,10]⟩=Q3 at d3 y3 m3
       have HQ3:Hid (Q3.data.toList=[102,111,114,109,97,116,32,61,32,49,10]++(M.take (i+1)).flatMap entB):=by
        show _=_
        rw [m3,m2,m1,HQL.out,HL5.out,HNX.out,hke]
        unfold entB
        simp only [List.append_assoc]
       have hq3:Q3.size<=11+(i+1) * 67108864:=by omega
       have HGE:Hid (w4.grownBy wr none):=gb_trans HW1.out.1 hgk
       clear m1 m2 m3 y1 y2 y3 hQ hgk hke hk
       go_wp2
       go_roundw
       case rel=>exact ⟨i+1,Q3,by go_num,rfl,by omega,HQ3.out,hq3,HGE.out⟩
       case measure=>simp [intOf];omega
    ·have hie:i=M.length:=by omega
     have HTO:Hid (O=T):=by
      show _=_
      rw [HTT.out]
      apply txt_ext
      rw [HO.out,hie,List.take_length];rfl
     clear hO hOs hgi hie hi
     go_wp2
     refine bodyPost_ret (results_tmp3 (t:=2) (u:=3) (v:=4) rfl _ _ _) rfl ⟨?_,HGW.out⟩
     rw [HR.out,<-HTO.out];rfl
end Go.Proofs.YtbbmbnpebiakbaaGreatDoor
namespace Go.Proofs.YtbbmbnpebiakbaaGreatDoor
open Go.RowKit Go.Maps Go.Sort Go.Shelf
set_option linter.unusedVariables false
attribute [local go_sem] Oper.semAt_some
structure Ec where
 nm:ByteArray
 ve:ByteArray
 dg:ByteArray
 o:Option Addr
 n:Nat
 c:Nat
def ecA (x:Ec):Value:=.agg #[.string x.nm,.string x.ve,.string x.dg,.slice x.o x.n x.c]
def ecC (x:Ec):List Value:=[.string x.nm,.string x.ve,.string x.dg,.slice x.o x.n x.c]
def EcAt (w:World) (p:Addr) (x:Ec):Prop:=w.cell? p=some (.string x.nm)/\w.cell? ⟨p.block,p.off+1,none⟩=some (.string x.ve)/\w.cell? ⟨p.block,p.off+2,none⟩=some (.string x.dg)/\w.cell? ⟨p.block,p.off+3,none⟩=some (.slice x.o x.n x.c)
theorem EcAt.grow {w w':World} {p:Addr} {x:Ec} (h:EcAt w p x) (hg:w.grownBy w' none):EcAt w' p x:=⟨hg.cell h.1 (by simp),hg.cell h.2.1 (by simp),hg.cell h.2.2.1 (by simp),hg.cell h.2.2.2 (by simp)⟩
def EcS (w:World) (v:Value) (L:List Ec):Prop:=(v=.slice none 0 0/\L=[])\/∃a cap,v=.slice (some a) L.length cap/\L.length<=cap/\∀i (hi:i < L.length),EcAt w (a.add (i * 4)) L[i]
theorem EcS.grow {w w':World} {v:Value} {L:List Ec} (h:EcS w v L) (hg:w.grownBy w' none):EcS w' v L:=by
 rcases h with h | ⟨a,cap,h1,h2,h3⟩
 ·exact Or.inl h
 ·exact Or.inr ⟨a,cap,h1,h2,fun i hi=>(h3 i hi).grow hg⟩
theorem ecs_at {w:World} {o:Option Addr} {c:Nat} {L:List Ec} (h:EcS w (.slice o L.length c) L) {i:Nat} (hi:i < L.length):∃a,o=some a/\L.length<=c/\∀j (hj:j < L.length),EcAt w (a.add (j * 4)) L[j]:=by
 rcases h with ⟨h1,h2⟩ | ⟨a,cap,h1,h2,h3⟩
 ·rw [h2] at hi;simp at hi
 ·cases h1
  exact ⟨a,rfl,h2,h3⟩
theorem ecc_one (s:Ec):∀u ∈ ecC s,u.oneCell'=true:=by
 intro u hu
 simp only [ecC,List.mem_cons,List.not_mem_nil,or_false] at hu
 rcases hu with rfl | rfl | rfl | rfl <;> rfl
def EcIs (w:World) (x:Ec) (y:En):Prop:=x.nm=y.nm/\x.ve=y.ve/\x.dg=y.dg/\TxS w (.slice x.o x.n x.c) y.nd
theorem EcIs.grow {w w':World} {x:Ec} {y:En} (h:EcIs w x y) (hg:w.grownBy w' none):EcIs w' x y:=⟨h.1,h.2.1,h.2.2.1,h.2.2.2.grow hg⟩
theorem ens_ecs {w:World} {v:Value} {L:List En} (h:EnS w v L):∃E:List Ec,EcS w v E/\E.length=L.length/\∀i (hi:i < E.length) (hj:i < L.length),EcIs w E[i] L[i]:=by
 rcases h with ⟨rfl,rfl⟩ | ⟨a,cap,rfl,h2,h3⟩
 ·exact ⟨[],Or.inl ⟨rfl,rfl⟩,rfl,fun i hi=>by simp at hi⟩
 ·have hS:∀i,i < L.length->∃x:Ec,EcAt w (a.add (i * 4)) x/\∀hj:i < L.length,EcIs w x L[i]:=fun i hi=>by
   obtain ⟨e0,e1,e2,sv,e3,hsv⟩:=h3 i hi
   obtain ⟨so,sc,rfl⟩:=txs_slice hsv
   exact ⟨⟨L[i].nm,L[i].ve,L[i].dg,so,L[i].nd.length,sc⟩,⟨e0,e1,e2,e3⟩,fun _=>⟨rfl,rfl,rfl,hsv⟩⟩
  have:Nonempty Ec:=⟨⟨⟨#[]⟩,⟨#[]⟩,⟨#[]⟩,none,0,0⟩⟩
  obtain ⟨S,hS⟩:∃S:Nat->Ec,∀i,i < L.length->EcAt w (a.add (i * 4)) (S i)/\∀hj:i < L.length,EcIs w (S i) L[i]:=by
   refine ⟨fun i=>if h:i < L.length then Classical.choose (hS i h) else ⟨⟨#[]⟩,⟨#[]⟩,⟨#[]⟩,none,0,0⟩,fun i hi=>?_⟩
   simp only [dif_pos hi]
   exact Classical.choose_spec (hS i hi)
  have hlen:((List.range L.length).map S).length=L.length:=by simp
  refine ⟨(List.range L.length).map S,Or.inr ⟨a,cap,by rw [hlen],by rw [hlen];exact h2,fun i hi=>?_⟩,hlen,fun i hi hj=>?_⟩
  ·rw [List.getElem_map,List.getElem_range]
   exact (hS i (by rw [hlen] at hi;exact hi)).1
  ·rw [List.getElem_map,List.getElem_range]
   exact (hS i hj).2 hj
theorem valE_any (o:Option Addr) (n c:Nat) (w:World):Calls Tryz.prog 35 #[.slice o n c] w fun e w'=>e=.returned (.func (.func 57) #[] #[.pointer (some ⟨w.heap.size,0,none⟩)])/\w'=w.alloc (.cells #[.slice o n c] 23):=by
 go_enter Tryz.func35,Tryz.ntmps35
 go_wp2
 go_ret
 exact ⟨rfl,rfl⟩
set_option maxRecDepth 100000 in
set_option maxHeartbeats 3200000 in
theorem iterE (n l bm:Nat) (hn:1<=n) (o:Option Addr) (c:Nat) (L:List Ec) (hL:L.length<=1048576) (J:List Ec->World->Prop)
  (hA:∀pre W ob,J pre W->J pre (W.alloc ob))
  (hc:∀pre W,J pre W->W.cell? ⟨bm,0,none⟩=some (.slice o L.length c)/\EcS W (.slice o L.length c) L)
  (hY:∀pre x W,J pre W->pre.length < L.length->YieldAt Fence.wide (n - 1) Tryz.prog l #[ecA x] W fun e W'=>e=.returned (.bool true)/\J (pre++[x]) W') (W:World) (h0:J [] W) :
  CallsIn Fence.wide n Tryz.prog 57 #[.func (.yield l) #[] #[],.pointer (some ⟨bm,0,none⟩)] W fun e W'=>(∃v,e=.returned v)/\J L W':=by
 refine callsIn_of_wp Tryz.func57 rfl trivial ?_ rfl
 simp only [Tryz.ntmps57,List.size_toArray,List.length_cons,List.length_nil,Nat.reduceAdd,Nat.reduceSub,Array.replicate_succ,Array.replicate_zero,List.push_toArray,List.append_toArray,List.nil_append,List.cons_append]
 obtain ⟨m0,-⟩:=hc [] W h0
 gi_wp2
 clear m0
 gi_loopw [7] (fun vi wr=>∃i:Nat,vi=.int .i64 i/\i<=L.length/\J (L.take i) wr) (fun vi _=>L.length - (intOf vi).toNat)
 case atStart=>exact ⟨0,rfl,Nat.zero_le _,h0⟩
 case round =>
  obtain ⟨i,rfl,hi,hJ⟩:=hrel
  by_cases hlt:i < L.length
  ·obtain ⟨m1,m2⟩:=hc _ _ hJ
   obtain ⟨a,rfl,hcv,hat⟩:=ecs_at m2 hlt
   obtain ⟨x,hx⟩:∃x,L[i]=x:=⟨_,rfl⟩
   obtain ⟨e0,e1,e2,e3⟩:=hat i hlt
   rw [hx] at e0 e1 e2 e3
   obtain ⟨fn,tmps,assign,body,hy,hR⟩:=hY (L.take i) x (wr.alloc (.cells #[.string x.nm,.string x.ve,.string x.dg,.slice x.o x.n x.c] 43)) (hA _ _ _ hJ) (by simp;omega)
   have HTK:Hid (L.take i++[x]=L.take (i+1)):=by
    show _=_
    rw [List.take_succ_eq_append_getElem hlt,hx]
   unfold ecA at hy
   clear m1 m2 hat hx hJ
   gi_wp2
   refine hR.mono ?_
   rintro e W3 ⟨rfl,hJ3⟩
   have HJ3:Hid (J (L.take (i+1)) W3):=by show J _ _;rw [<-HTK.out];exact hJ3
   clear hJ3
   gi_wp2
   exact ⟨⟨i+1,by go_num,by omega,HJ3.out⟩,by simp [intOf];omega⟩
  ·have hil:i=L.length:=by omega
   have HJ3:Hid (J L wr):=by
    rw [hil,List.take_length] at hJ
    exact hJ
   clear hJ hil hi
   gi_wp2
   go_end0
   exact ⟨⟨_,rfl⟩,HJ3.out⟩
end Go.Proofs.YtbbmbnpebiakbaaGreatDoor
