import Derived.Test.YtbbmbnpebiakbaaGreatDoorB11
import Derived.Test.YtbbmbnpebiakbaaGreatDoorB12
import Derived.WalkLawsBesides
namespace Go.Proofs.YtbbmbnpebiakbaaGreatDoor
open Go.RowKit
set_option linter.unusedVariables false
def cat (x y:ByteArray):ByteArray:=x++y
theorem cat_list (x y:ByteArray):(cat x y).data.toList=x.data.toList++y.data.toList:=by simp [cat]
theorem cat_size (x y:ByteArray):(cat x y).size=x.size+y.size:=by simp [cat]
theorem add_cat (x y:ByteArray) (wx:World) (h:x.size+y.size<=140737488355328):(Op.stringOp .add x y).run Tryz.prog wx=.ok (.string (cat x y)) wx :=
 run_string_add_sum wx _ _ (by omega)
theorem txt_ext {x:ByteArray} {l:List UInt8} (h:x.data.toList=l):x=⟨l.toArray⟩:=ByteArray.ext (Array.ext' (by simpa using h))
def ndK (N:List ByteArray):Nat->List UInt8
 | 0=>[]
 | k+1=>ndK N k++((if 0 < k then [44,32] else [])++(match N[k]? with | some y=>34 :: (y.data.toList++[34]) | none=>[]))
theorem ndk_step (N:List ByteArray) (k:Nat) (hk:k < N.length):ndK N (k+1)=ndK N k++((if 0 < k then [44,32] else [])++34 :: (N[k].data.toList++[34])):=by
 simp [ndK,List.getElem?_eq_getElem hk]
def entB (x:En):List UInt8:=[10,91,91,112,97,99,107,97,103,101,93,93,10,100,105,103,101,115,116,32,61,32,34]++(x.dg.data.toList++([34,10,110,97,109,101,32,61,32,34]++(x.nm.data.toList++([34,10,110,101,101,100,115,32,61,32,91]++(ndK x.nd x.nd.length++([93,10,118,101,114,115,105,111,110,32,61,32,34]++(x.ve.data.toList++[34,10])))))))
def lockB (M:List En):List UInt8:=[102,111,114,109,97,116,32,61,32,49,10]++M.flatMap entB
def Short (x:En):Prop:=x.nm.size<=1048576/\x.ve.size<=1048576/\x.dg.size<=1048576/\x.nd.length<=20/\∀y ∈ x.nd,y.size<=1048576
theorem ndk_len (N:List ByteArray) (h:∀y ∈ N,y.size<=1048576):∀k,k<=N.length->(ndK N k).length<=k * 1048580
 | 0,_=>by simp [ndK]
 | k+1,hk=>by
  have h1:=ndk_len N h k (by omega)
  have h2:=h N[k] (List.getElem_mem _)
  have e:N[k].data.toList.length=N[k].size:=by simp
  rw [ndk_step N k (by omega)]
  split
  ·simp only [List.length_append,List.length_cons,List.length_nil,e];omega
  ·simp only [List.length_append,List.length_cons,List.length_nil,e];omega
theorem fe_zero {L:List En} {i:Nat} {x:En} (h:faultE L i x=0):i < 50/\x.nd.length<=20/\hasNm (L.take i) x.nm=false:=by
 unfold faultE at h
 split at h
 ·cases h
 ·rename_i h1
  split at h
  ·cases h
  ·split at h
   ·cases h
   ·rename_i h3
    refine ⟨by omega,by omega,?_⟩
    cases hh:hasNm (L.take i) x.nm with
    | false=>rfl
    | true=>exact absurd (Or.inl hh) h3
theorem lock_small (L:List En) (h:(lockFrom L L.length).1=0):L.length<=50/\(∀x ∈ L,x.nd.length<=20)/\(L.map (·.nm)).Nodup:=by
 have h0:=lock_ok L h
 have h1:∀i (hi:i < L.length),i < 50/\L[i].nd.length<=20/\hasNm (L.take i) L[i].nm=false:=fun i hi=>by
  have:=h0 i hi
  rw [errE_at L i hi] at this
  exact fe_zero this
 refine ⟨?_,fun x hx=>?_,?_⟩
 ·apply Classical.byContradiction
  intro hn
  have:=(h1 50 (by omega)).1
  omega
 ·obtain ⟨i,hi,rfl⟩:=List.getElem_of_mem hx
  exact (h1 i hi).2.1
 ·unfold List.Nodup
  rw [List.pairwise_iff_getElem]
  intro i j hi hj hij e
  rw [List.length_map] at hi hj
  rw [List.getElem_map,List.getElem_map] at e
  have:=(h1 j hj).2.2
  rw [nm_at L _ j i hi hij e] at this
  cases this
def lockT (L:List En):ByteArray:=⟨(lockB ((sortE L).map riseE)).toArray⟩
noncomputable def lockR (L:List En):ByteArray:=if (lockFrom L L.length).1=0 then lockT L else ⟨#[]⟩
theorem short_rise {x:En} (h:Short x):Short (riseE x):=⟨h.1,h.2.1,h.2.2.1,by show (sortT x.nd).length<=20;rw [(sortT_perm x.nd).length_eq];exact h.2.2.2.1,fun y hy=>h.2.2.2.2 y ((sortT_perm x.nd).subset hy)⟩
theorem flat_snoc (M:List En) (i:Nat) (hi:i < M.length):(M.take (i+1)).flatMap entB=(M.take i).flatMap entB++entB M[i]:=by
 rw [List.take_succ_eq_append_getElem hi,List.flatMap_append];simp
set_option maxRecDepth 100000 in
set_option maxHeartbeats 6400000 in
theorem refPrint_at (a:Addr) (cap:Nat) (L:List En) (w:World) (hcap:L.length<=cap) (h:∀j (hj:j < L.length),EnAt w (a.add (j * 4)) L[j]) (hL:L.length<=1048576) (hV:∀x ∈ L,x.nm.size<=1048576/\x.ve.size<=1048576/\x.dg.size<=1048576) (hN:∀x ∈ L,x.nd.length<=1048576) (hS:∀x ∈ L,∀y ∈ x.nd,y.size<=1048576) :
  Calls Tryz.prog 9 #[.slice (some a) L.length cap] w fun e w'=>e=.returned (.tuple #[.string (lockR L),.int .i64 (lockFrom L L.length).1,.int .i64 ((lockFrom L L.length).2:Int)])/\w.grownBy w' none:=by
 have CW:Hid (∀i w',i < L.length->w.grownBy w' none->Calls Tryz.prog 20 #[.slice (some a) L.length cap,.int .i64 i] w' fun e w''=>e=.returned (.int .i64 (errE L i))/\w'.grownBy w'' none):=fun i w' hi hg=>wrongEntry_at a cap L i w' hi hcap (fun j hj=>(h j hj).grow hg) hL (fun x hx=>by have:=hV x hx;exact ⟨by omega,by omega,by omega⟩) hN (fun x hx y hy=>by have:=hS x hx y hy;omega)
 have CR:Hid (∀w',w.grownBy w' none->(L.map (·.nm)).Nodup->Calls Tryz.prog 21 #[.slice (some a) L.length cap] w' fun e w''=>∃o c,e=.returned (.slice o ((sortE L).map riseE).length c)/\EnS w'' (.slice o ((sortE L).map riseE).length c) ((sortE L).map riseE)/\w'.grownBy w'' none):=fun w' hg hn=>(rising_at a cap L w' hL hcap hN hn (fun j hj=>(h j hj).grow hg)).mono fun e w'' ⟨v,h1,h2,h3⟩=>by
  obtain ⟨o,c,rfl⟩:=ens_slice h2
  exact ⟨o,c,h1,h2,h3⟩
 have HSH:Hid ((lockFrom L L.length).1=0->L.length<=50/\(L.map (·.nm)).Nodup/\∀x ∈ (sortE L).map riseE,Short x):=fun h0=>by
  obtain ⟨h1,h2,h3⟩:=lock_small L h0
  refine ⟨h1,h3,fun x hx=>?_⟩
  obtain ⟨y,hy,rfl⟩:=List.mem_map.1 hx
  have hy2:=(sortE_perm L).subset hy
  exact short_rise ⟨(hV y hy2).1,(hV y hy2).2.1,(hV y hy2).2.2,h2 y hy2,hS y hy2⟩
 have HML:Hid (((sortE L).map riseE).length=L.length):=by show _=_;rw [List.length_map,(sortE_perm L).length_eq]
 have HH:Hid (∀i,i < L.length->¬ errE L i=0->lockFrom L (L.length - i)=(errE L i,i)):=lock_hit L
 have HM:Hid (∀i,i < L.length->errE L i=0->lockFrom L (L.length - i)=lockFrom L (L.length - (i+1))):=lock_miss L
 have HLR:Hid ((lockFrom L L.length).1=0->lockR L=⟨(lockB ((sortE L).map riseE)).toArray⟩):=fun h0=>by
  show lockR L=_
  unfold lockR;rw [if_pos h0];rfl
 have HLE:Hid (¬ (lockFrom L L.length).1=0->lockR L=⟨#[]⟩):=fun h0=>by
  show lockR L=_
  unfold lockR;rw [if_neg h0]
 obtain ⟨T,hT⟩:∃T,lockR L=T:=⟨_,rfl⟩
 rw [hT] at HLR HLE ⊢
 obtain ⟨R,hR⟩:∃R,lockFrom L L.length=R:=⟨_,rfl⟩
 have HS0:Hid (lockFrom L (L.length - 0)=R):=hR
 rw [hR] at HSH HLR HLE ⊢
 obtain ⟨M,hM⟩:∃M,(sortE L).map riseE=M:=⟨_,rfl⟩
 rw [hM] at HSH HLR CR HML
 clear h hV hN hS hR hT hM
 go_enter Tryz.func9,Tryz.ntmps9
 go_wp2
 go_loopw [5] (fun vi wr=>∃i:Nat,vi=.int .i64 i/\i<=L.length/\lockFrom L (L.length - i)=R/\w.grownBy wr none) (fun vi _=>L.length - (intOf vi).toNat)
 case atStart=>exact ⟨0,rfl,Nat.zero_le _,HS0.out,gb_refl _ _⟩
 case round =>
  obtain ⟨i,rfl,hi,hc,hg⟩:=hrel
  have HG:Hid (w.grownBy wr none):=hg
  have HC:Hid (lockFrom L (L.length - i)=R):=hc
  by_cases hlt:i < L.length
  ·have CWW:Hid (Calls Tryz.prog 20 #[.slice (some a) L.length cap,.int .i64 i] wr fun e w'=>e=.returned (.int .i64 (errE L i))/\wr.grownBy w' none):=CW.out i wr hlt hg
   have HH':Hid (¬ errE L i=0->R=(errE L i,i)):=fun h=>HC.out.symm.trans (HH.out i hlt h)
   have HM':Hid (errE L i=0->lockFrom L (L.length - (i+1))=R):=fun h=>(HM.out i hlt h).symm.trans HC.out
   obtain ⟨F,hF⟩:∃F,errE L i=F:=⟨_,rfl⟩
   rw [hF] at CWW HH' HM'
   clear hF hc hg
   by_cases hz:F=0
   ·subst hz
    go_wp2_with (first | (go_at_call 20;refine CWW.out.mono ?_;rintro e w3 ⟨rfl,hg3⟩))
    go_roundw
    case rel=>exact ⟨i+1,by go_num,by omega,HM'.out (by trivial),gb_trans HG.out hg3⟩
    case measure=>simp [intOf];omega
   ·have hz1:(F != 0)=true:=by simp [hz]
    have HR:Hid (R=(F,i)):=HH'.out hz
    have HTE:Hid (T=⟨#[]⟩):=HLE.out (by rw [HR.out];exact hz)
    clear hz
    go_wp2_with (first | (go_at_call 20;refine CWW.out.mono ?_;rintro e w3 ⟨rfl,hg3⟩))
    refine bodyPost_ret (results_tmp3 (t:=2) (u:=3) (v:=4) rfl _ _ _) rfl ⟨?_,gb_trans HG.out hg3⟩
    rw [HR.out,HTE.out];rfl
  ·have hil:i=L.length:=by omega
   have HR:Hid (R=(0,0)):=by
    show R=_
    rw [<-hc,hil,Nat.sub_self];rfl
   obtain ⟨hL50,hnd,hsh⟩:=HSH.out (by rw [HR.out])
   have HSHM:Hid (∀x ∈ M,Short x):=hsh
   have HTT:Hid (T=⟨(lockB M).toArray⟩):=HLR.out (by rw [HR.out])
   have CRR:Hid (Calls Tryz.prog 21 #[.slice (some a) L.length cap] wr fun e w''=>∃o c,e=.returned (.slice o M.length c)/\EnS w'' (.slice o M.length c) M/\wr.grownBy w'' none):=CR.out wr hg hnd
   have hml:M.length<=50:=by rw [HML.out];exact hL50
   clear hc hg hil hi hnd hsh
   go_wp2_with (first | (go_at_call 21;refine CRR.out.mono ?_))
   rintro e w4 ⟨o4,c4,rfl,hens,hg4⟩
   have HENS:Hid (EnS w4 (.slice o4 M.length c4) M):=hens
   have HG4:Hid (w.grownBy w4 none):=gb_trans HG.out hg4
   clear hens hg4
   go_wp2
   go_loopw [7,9] (fun vo vi wi=>∃(i:Nat) (O:ByteArray),vi=.int .i64 i/\vo=.string O/\i<=M.length/\O.data.toList=[102,111,114,109,97,116,32,61,32,49,10]++(M.take i).flatMap entB/\O.size<=11+i * 67108864/\w4.grownBy wi none) (fun _ vi _=>M.length - (intOf vi).toNat)
   case atStart=>exact ⟨0,_,rfl,rfl,Nat.zero_le _,by simp,by decide,gb_refl _ _⟩
   case round =>
    obtain ⟨i,O,rfl,rfl,hi,hO,hOs,hgi⟩:=hrel
    have HO:Hid (O.data.toList=[102,111,114,109,97,116,32,61,32,49,10]++(M.take i).flatMap entB):=hO
    have HGI:Hid (w4.grownBy wr none):=hgi
    have HGW:Hid (w.grownBy wr none):=gb_trans HG4.out hgi
    by_cases hlt:i < M.length
    ·obtain ⟨b,rfl,hcv,hat⟩:=ens_at (HENS.out.grow hgi) hlt
     obtain ⟨x,hx⟩:∃x,M[i]=x:=⟨_,rfl⟩
     obtain ⟨e0,e1,e2,sv,e3,hsv⟩:EnAt wr (b.add (i * 4)) x:=by rw [<-hx];exact hat i hlt
     have H1:Hid (TxS wr sv x.nd):=hsv
     obtain ⟨so,sc,rfl⟩:=txs_slice hsv
     obtain ⟨s1,s2,s3,s4,s5⟩:=HSHM.out x (by rw [<-hx];exact List.getElem_mem _)
     have HS5:Hid (∀y ∈ x.nd,y.size<=1048576):=s5
     have HNX:Hid ((M.take (i+1)).flatMap entB=(M.take i).flatMap entB++entB x):=by
      show _=_
      rw [flat_snoc M i hlt,hx]
     have HEB:Hid (entB x=entB ⟨x.nm,x.ve,x.dg,x.nd⟩):=rfl
     obtain ⟨xn,xv,xd,N⟩:=x
     simp only [] at H1 HS5 s1 s2 s3 s4 e0 e1 e2 e3 HNX
     clear hO hgi hat hx hsv s5 HEB
     have c1:∀wx,(Op.stringOp .add O ⟨#[10,91,91,112,97,99,107,97,103,101,93,93,10,100,105,103,101,115,116,32,61,32,34]⟩).run Tryz.prog wx=.ok (.string (cat O ⟨#[10,91,91,112,97,99,107,97,103,101,93,93,10,100,105,103,101,115,116,32,61,32,34]⟩)) wx:=fun wx=>add_cat _ _ wx (by show _+23<=_;omega)
     have z1:(cat O ⟨#[10,91,91,112,97,99,107,97,103,101,93,93,10,100,105,103,101,115,116,32,61,32,34]⟩).size=O.size+23:=cat_size _ _
     have l1:=cat_list O ⟨#[10,91,91,112,97,99,107,97,103,101,93,93,10,100,105,103,101,115,116,32,61,32,34]⟩
     generalize cat O ⟨#[10,91,91,112,97,99,107,97,103,101,93,93,10,100,105,103,101,115,116,32,61,32,34]⟩=O1 at c1 z1 l1
     have c2:∀wx,(Op.stringOp .add O1 xd).run Tryz.prog wx=.ok (.string (cat O1 xd)) wx:=fun wx=>add_cat _ _ wx (by omega)
     have z2:=cat_size O1 xd
     have l2:=cat_list O1 xd
     generalize cat O1 xd=O2 at c2 z2 l2
     have c3:∀wx,(Op.stringOp .add O2 ⟨#[34,10,110,97,109,101,32,61,32,34]⟩).run Tryz.prog wx=.ok (.string (cat O2 ⟨#[34,10,110,97,109,101,32,61,32,34]⟩)) wx:=fun wx=>add_cat _ _ wx (by show _+10<=_;omega)
     have z3:(cat O2 ⟨#[34,10,110,97,109,101,32,61,32,34]⟩).size=O2.size+10:=cat_size _ _
     have l3:=cat_list O2 ⟨#[34,10,110,97,109,101,32,61,32,34]⟩
     generalize cat O2 ⟨#[34,10,110,97,109,101,32,61,32,34]⟩=O3 at c3 z3 l3
     have c4:∀wx,(Op.stringOp .add O3 xn).run Tryz.prog wx=.ok (.string (cat O3 xn)) wx:=fun wx=>add_cat _ _ wx (by omega)
     have z4:=cat_size O3 xn
     have l4:=cat_list O3 xn
     generalize cat O3 xn=O4 at c4 z4 l4
     have c5:∀wx,(Op.stringOp .add O4 ⟨#[34,10,110,101,101,100,115,32,61,32,91]⟩).run Tryz.prog wx=.ok (.string (cat O4 ⟨#[34,10,110,101,101,100,115,32,61,32,91]⟩)) wx:=fun wx=>add_cat _ _ wx (by show _+11<=_;omega)
     have z5:(cat O4 ⟨#[34,10,110,101,101,100,115,32,61,32,91]⟩).size=O4.size+11:=cat_size _ _
     have l5:=cat_list O4 ⟨#[34,10,110,101,101,100,115,32,61,32,91]⟩
     generalize cat O4 ⟨#[34,10,110,101,101,100,115,32,61,32,91]⟩=O5 at c5 z5 l5
     have HL5:Hid (O5.data.toList=[102,111,114,109,97,116,32,61,32,49,10]++((M.take i).flatMap entB++([10,91,91,112,97,99,107,97,103,101,93,93,10,100,105,103,101,115,116,32,61,32,34]++(xd.data.toList++([34,10,110,97,109,101,32,61,32,34]++(xn.data.toList++[34,10,110,101,101,100,115,32,61,32,91])))))):=by
      show _=_
      rw [l5,l4,l3,l2,l1,HO.out]
      simp only [List.append_assoc]
     have hz5:O5.size<=11+i * 67108864+2097200:=by omega
     clear l1 l2 l3 l4 l5 z1 z2 z3 z4 z5
     obtain ⟨W1,hW1⟩:∃W,wr.alloc (.cells #[.string xn,.string xv,.string xd,.slice so N.length sc] 42)=W:=⟨_,rfl⟩
     have HWE:Hid (wr.alloc (.cells #[.string xn,.string xv,.string xd,.slice so N.length sc] 42)=W1):=hW1
     have HW1:Hid (w4.grownBy W1 none/\W1.cell? ⟨wr.heap.size,1,none⟩=some (.string xv)/\W1.cell? ⟨wr.heap.size,3,none⟩=some (.slice so N.length sc)/\TxS W1 (.slice so N.length sc) N):=by
      rw [<-hW1]
      obtain ⟨k0,k1,k2,k3⟩:=en_block (heap_alloc_new wr (.cells #[.string xn,.string xv,.string xd,.slice so N.length sc] 42))
      exact ⟨gb_alloc HGI.out _,k1,k3,H1.out.grow (gb_alloc (gb_refl wr none) _)⟩
     obtain ⟨A,hA⟩:∃A,wr.heap.size=A:=⟨_,rfl⟩
     have HAE:Hid (wr.heap.size=A):=hA
     rw [hA] at HW1
     clear hW1 hA
     go_wp2
     clear c1 c2 c3 c4 c5 e0 e1 e2 e3
     try rw [HAE.out]
     go_loopw [7,11] (fun vo vk wk=>∃(k:Nat) (Q:ByteArray),vk=.int .i64 k/\vo=.string Q/\k<=N.length/\Q.data.toList=O5.data.toList++ndK N k/\Q.size<=O5.size+k * 1048580/\W1.grownBy wk none) (fun _ vk _=>N.length - (intOf vk).toNat)
     case atStart=>exact ⟨0,O5,rfl,rfl,Nat.zero_le _,by simp [ndK],by omega,by rw [HWE.out];exact gb_refl _ _⟩
     case round =>
      obtain ⟨k,Q,rfl,rfl,hk,hQ,hQs,hgk⟩:=hrel
      have HQL:Hid (Q.data.toList=O5.data.toList++ndK N k):=hQ
      have HGK:Hid (W1.grownBy wr none):=hgk
      have f1:=hgk.cell HW1.out.2.1 (by simp)
      have f3:=hgk.cell HW1.out.2.2.1 (by simp)
      by_cases hkl:k < N.length
      ·obtain ⟨d,rfl,hdc,hdat⟩:=txs_at (HW1.out.2.2.2.grow hgk) hkl
       have g0:=hdat k hkl
       obtain ⟨y,hy⟩:∃y,N[k]=y:=⟨_,rfl⟩
       rw [hy] at g0
       have hys:=HS5.out y (by rw [<-hy];exact List.getElem_mem _)
       have HST:Hid (ndK N (k+1)=ndK N k++((if 0 < k then [44,32] else [])++34 :: (y.data.toList++[34]))):=by
        show _=_
        rw [ndk_step N k hkl,hy]
       clear hQ hgk hdat hy
       by_cases hk0:0 < k
       ·have d1:∀wx,(Op.stringOp .add Q ⟨#[44,32]⟩).run Tryz.prog wx=.ok (.string (cat Q ⟨#[44,32]⟩)) wx:=fun wx=>add_cat _ _ wx (by show _+2<=_;omega)
        have y1:(cat Q ⟨#[44,32]⟩).size=Q.size+2:=cat_size _ _
        have m1:=cat_list Q ⟨#[44,32]⟩
        generalize cat Q ⟨#[44,32]⟩=Q1 at d1 y1 m1
        have d2:∀wx,(Op.stringOp .add Q1 ⟨#[34]⟩).run Tryz.prog wx=.ok (.string (cat Q1 ⟨#[34]⟩)) wx:=fun wx=>add_cat _ _ wx (by show _+1<=_;omega)
        have y2:(cat Q1 ⟨#[34]⟩).size=Q1.size+1:=cat_size _ _
        have m2:=cat_list Q1 ⟨#[34]⟩
        generalize cat Q1 ⟨#[34]⟩=Q2 at d2 y2 m2
        have d3:∀wx,(Op.stringOp .add Q2 y).run Tryz.prog wx=.ok (.string (cat Q2 y)) wx:=fun wx=>add_cat _ _ wx (by omega)
        have y3:=cat_size Q2 y
        have m3:=cat_list Q2 y
        generalize cat Q2 y=Q3 at d3 y3 m3
        have d4:∀wx,(Op.stringOp .add Q3 ⟨#[34]⟩).run Tryz.prog wx=.ok (.string (cat Q3 ⟨#[34]⟩)) wx:=fun wx=>add_cat _ _ wx (by show _+1<=_;omega)
        have y4:(cat Q3 ⟨#[34]⟩).size=Q3.size+1:=cat_size _ _
        have m4:=cat_list Q3 ⟨#[34]⟩
        generalize cat Q3 ⟨#[34]⟩=Q4 at d4 y4 m4
        have HQ4:Hid (Q4.data.toList=O5.data.toList++ndK N (k+1)):=by
         show _=_
         rw [m4,m3,m2,m1,HQL.out,HST.out,if_pos hk0]
         simp
        have hq4:Q4.size<=O5.size+(k+1) * 1048580:=by omega
        clear m1 m2 m3 m4 y1 y2 y3 y4
        go_wp2
        go_roundw
        case rel=>exact ⟨k+1,Q4,by go_num,rfl,by omega,HQ4.out,hq4,HGK.out⟩
        case measure=>simp [intOf];omega
       ·have d2:∀wx,(Op.stringOp .add Q ⟨#[34]⟩).run Tryz.prog wx=.ok (.string (cat Q ⟨#[34]⟩)) wx:=fun wx=>add_cat _ _ wx (by show _+1<=_;omega)
        have y2:(cat Q ⟨#[34]⟩).size=Q.size+1:=cat_size _ _
        have m2:=cat_list Q ⟨#[34]⟩
        generalize cat Q ⟨#[34]⟩=Q2 at d2 y2 m2
        have d3:∀wx,(Op.stringOp .add Q2 y).run Tryz.prog wx=.ok (.string (cat Q2 y)) wx:=fun wx=>add_cat _ _ wx (by omega)
        have y3:=cat_size Q2 y
        have m3:=cat_list Q2 y
        generalize cat Q2 y=Q3 at d3 y3 m3
        have d4:∀wx,(Op.stringOp .add Q3 ⟨#[34]⟩).run Tryz.prog wx=.ok (.string (cat Q3 ⟨#[34]⟩)) wx:=fun wx=>add_cat _ _ wx (by show _+1<=_;omega)
        have y4:(cat Q3 ⟨#[34]⟩).size=Q3.size+1:=cat_size _ _
        have m4:=cat_list Q3 ⟨#[34]⟩
        generalize cat Q3 ⟨#[34]⟩=Q4 at d4 y4 m4
        have HQ4:Hid (Q4.data.toList=O5.data.toList++ndK N (k+1)):=by
         show _=_
         rw [m4,m3,m2,HQL.out,HST.out,if_neg hk0]
         simp
        have hq4:Q4.size<=O5.size+(k+1) * 1048580:=by omega
        clear m2 m3 m4 y2 y3 y4
        go_wp2
        go_roundw
        case rel=>exact ⟨k+1,Q4,by go_num,rfl,by omega,HQ4.out,hq4,HGK.out⟩
        case measure=>simp [intOf];omega
      ·have hke:k=N.length:=by omega
       have d1:∀wx,(Op.stringOp .add Q ⟨#[93,10,118,101,114,115,105,111,110,32,61,32,34]⟩).run Tryz.prog wx=.ok (.string (cat Q ⟨#[93,10,118,101,114,115,105,111,110,32,61,32,34]⟩)) wx:=fun wx=>add_cat _ _ wx (by show _+13<=_;omega)
       have y1:(cat Q ⟨#[93,10,118,101,114,115,105,111,110,32,61,32,34]⟩).size=Q.size+13:=cat_size _ _
       have m1:=cat_list Q ⟨#[93,10,118,101,114,115,105,111,110,32,61,32,34]⟩
       generalize cat Q ⟨#[93,10,118,101,114,115,105,111,110,32,61,32,34]⟩=Q1 at d1 y1 m1
       have d2:∀wx,(Op.stringOp .add Q1 xv).run Tryz.prog wx=.ok (.string (cat Q1 xv)) wx:=fun wx=>add_cat _ _ wx (by omega)
       have y2:=cat_size Q1 xv
       have m2:=cat_list Q1 xv
       generalize cat Q1 xv=Q2 at d2 y2 m2
       have d3:∀wx,(Op.stringOp .add Q2 ⟨#[34,10]⟩).run Tryz.prog wx=.ok (.string (cat Q2 ⟨#[34,10]⟩)) wx:=fun wx=>add_cat _ _ wx (by show _+2<=_;omega)
       have y3:(cat Q2 ⟨#[34,10]⟩).size=Q2.size+2:=cat_size _ _
       have m3:=cat_list Q2 ⟨#[34,10]⟩
       generalize cat Q2 ⟨#[34,10]⟩=Q3 at d3 y3 m3
       have HQ3:Hid (Q3.data.toList=[102,111,114,109,97,116,32,61,32,49,10]++(M.take (i+1)).flatMap entB):=by
        show _=_
        rw [m3,m2,m1,HQL.out,HL5.out,HNX.out,hke]
        unfold entB
        simp only [List.append_assoc]
       have hq3:Q3.size<=11+(i+1) * 67108864:=by omega
       have HGE:Hid (w4.grownBy wr none):=gb_trans HW1.out.1 hgk
       clear m1 m2 m3 y1 y2 y3 hQ hgk hke hk
       go_wp2
       go_roundw
       case rel=>exact ⟨i+1,Q3,by go_num,rfl,by omega,HQ3.out,hq3,HGE.out⟩
       case measure=>simp [intOf];omega
    ·have hie:i=M.length:=by omega
     have HTO:Hid (O=T):=by
      show _=_
      rw [HTT.out]
      apply txt_ext
      rw [HO.out,hie,List.take_length];rfl
     clear hO hOs hgi hie hi
     go_wp2
     refine bodyPost_ret (results_tmp3 (t:=2) (u:=3) (v:=4) rfl _ _ _) rfl ⟨?_,HGW.out⟩
     rw [HR.out,<-HTO.out];rfl
set_option linter.unusedVariables false
theorem tws_at (N:List ByteArray):∀i,i<=N.length->(twS N i=false ↔ (N.take i).Nodup)
 | 0,_=>by simp [twS]
 | i+1,h=>by
  have ih:=tws_at N i (by omega)
  have hi:i < N.length:=by omega
  rw [tws_step N i hi,Bool.or_eq_false_iff,ih,List.take_succ_eq_append_getElem hi,List.nodup_append]
  have e1:(N.take i).any (fun y=>decide (y=N[i]))=false ↔ ∀a ∈ N.take i,a ≠ N[i]:=by
   rw [List.any_eq_false]
   constructor
   ·intro h a ha e;exact h a ha (by simpa using e)
   ·intro h a ha e;exact h a ha (by simpa using e)
  rw [e1]
  constructor
  ·rintro ⟨h1,h2⟩
   exact ⟨h1,by simp,fun a ha b hb=>by rw [List.mem_singleton.1 hb];exact h2 a ha⟩
  ·rintro ⟨h1,-,h3⟩
   exact ⟨h1,fun a ha=>h3 a ha _ (List.mem_singleton.2 rfl)⟩
theorem tws_nodup (N:List ByteArray):twS N N.length=false ↔ N.Nodup:=by
 have:=tws_at N N.length (Nat.le_refl _)
 rwa [List.take_length] at this
theorem hasnm_iff (L:List En) (n:ByteArray):hasNm L n=true ↔ n ∈ L.map (·.nm):=by
 unfold hasNm
 rw [List.any_eq_true,List.mem_map]
 simp
theorem fe_iff (L:List En) (i:Nat) (x:En):faultE L i x=0 ↔ i < 50/\x.nd.length<=20/\goodE x=true/\hasNm (L.take i) x.nm=false/\twS x.nd x.nd.length=false/\x.nd.all (hasNm L)=true:=by
 unfold faultE
 by_cases h1:50<=i\/20 < x.nd.length
 ·rw [if_pos h1]
  exact ⟨fun h=>absurd h (by decide),fun h=>by omega⟩
 ·rw [if_neg h1]
  by_cases h2:goodE x=false
  ·rw [if_pos h2]
   exact ⟨fun h=>absurd h (by decide),fun h=>by rw [h.2.2.1] at h2;cases h2⟩
  ·rw [if_neg h2]
   by_cases h3:hasNm (L.take i) x.nm=true\/twS x.nd x.nd.length=true
   ·rw [if_pos h3]
    refine ⟨fun h=>absurd h (by decide),fun h=>?_⟩
    rcases h3 with h3 | h3
    ·rw [h.2.2.2.1] at h3;cases h3
    ·rw [h.2.2.2.2.1] at h3;cases h3
   ·rw [if_neg h3]
    by_cases h4:x.nd.all (hasNm L)=true
    ·rw [if_pos h4]
     exact ⟨fun _=>⟨by omega,by omega,by simpa using h2,by simpa using fun e=>h3 (Or.inl e),by simpa using fun e=>h3 (Or.inr e),h4⟩,fun _=>rfl⟩
    ·rw [if_neg h4]
     exact ⟨fun h=>absurd h (by decide),fun h=>absurd h.2.2.2.2.2 h4⟩
def okE (L:List En):Prop:=L.length<=50/\(L.map (·.nm)).Nodup/\∀x ∈ L,x.nd.length<=20/\goodE x=true/\x.nd.Nodup/\∀y ∈ x.nd,y ∈ L.map (·.nm)
theorem lock_iff (L:List En):(lockFrom L L.length).1=0 ↔ okE L:=by
 constructor
 ·intro h
  obtain ⟨s1,s2,s3⟩:=lock_small L h
  refine ⟨s1,s3,fun x hx=>?_⟩
  obtain ⟨i,hi,rfl⟩:=List.getElem_of_mem hx
  have:=lock_ok L h i hi
  rw [errE_at L i hi] at this
  obtain ⟨-,k2,k3,-,k5,k6⟩:=(fe_iff L i _).1 this
  exact ⟨k2,k3,(tws_nodup _).1 k5,fun y hy=>(hasnm_iff L y).1 (List.all_eq_true.1 k6 y hy)⟩
 ·rintro ⟨h1,h2,h3⟩
  have h0:∀i,i < L.length->errE L i=0:=fun i hi=>by
   rw [errE_at L i hi]
   obtain ⟨k1,k2,k3,k4⟩:=h3 L[i] (List.getElem_mem _)
   refine (fe_iff L i _).2 ⟨by omega,k1,k2,?_,(tws_nodup _).2 k3,List.all_eq_true.2 fun y hy=>(hasnm_iff L y).2 (k4 y hy)⟩
   unfold hasNm
   rw [List.any_eq_false]
   intro x hx e
   obtain ⟨j,hj,rfl⟩:=List.mem_take_iff_getElem.1 hx
   have:=List.pairwise_iff_getElem.1 h2 j i (by simp;omega) (by simp;omega) (by omega)
   simp only [List.getElem_map] at this
   exact this (by simpa using e)
  have key:∀n,n<=L.length->lockFrom L n=(0,0):=by
   intro n
   induction n with
   | zero=>intro _;rfl
   | succ n ih=>intro hn;rw [lockFrom,if_pos (h0 _ (by omega))];exact ih (by omega)
  rw [key _ (Nat.le_refl _)]
theorem okE_perm {L L':List En} (hp:L'.Perm L) (h:okE L):okE L':=by
 obtain ⟨h1,h2,h3⟩:=h
 refine ⟨by rw [hp.length_eq];exact h1,((hp.map (·.nm)).nodup_iff).2 h2,fun x hx=>?_⟩
 obtain ⟨k1,k2,k3,k4⟩:=h3 x (hp.subset hx)
 exact ⟨k1,k2,k3,fun y hy=>(hp.map (·.nm)).symm.subset (k4 y hy)⟩
def backE (x:En):En:=⟨x.nm,x.ve,x.dg,x.nd.reverse⟩
theorem backE_two (L:List En):(L.map backE).map backE=L:=by
 rw [List.map_map]
 conv=>rhs;rw [<-List.map_id L]
 refine List.map_congr_left fun x _=>?_
 simp [backE]
theorem backE_nm (L:List En):(L.map backE).map (·.nm)=L.map (·.nm):=by
 rw [List.map_map];rfl
theorem okE_back {L:List En} (h:okE L):okE (L.map backE):=by
 obtain ⟨h1,h2,h3⟩:=h
 refine ⟨by rw [List.length_map];exact h1,by rw [backE_nm];exact h2,fun x hx=>?_⟩
 obtain ⟨y,hy,rfl⟩:=List.mem_map.1 hx
 obtain ⟨k1,k2,k3,k4⟩:=h3 y hy
 rw [backE_nm]
 refine ⟨by show y.nd.reverse.length<=20;rw [List.length_reverse];exact k1,?_,?_,fun z hz=>k4 z (List.mem_reverse.1 hz)⟩
 ·unfold goodE backE at *
  simp only [List.all_reverse]
  exact k2
 ·exact (List.reverse_perm y.nd).nodup_iff.2 k3
def turnE (L:List En):List En:=(L.map backE).reverse
theorem okE_turn (L:List En):okE (turnE L) ↔ okE L:=by
 constructor
 ·intro h
  have h1:okE (L.map backE):=okE_perm (List.reverse_perm _).symm h
  have:=okE_back h1
  rwa [backE_two] at this
 ·intro h
  exact okE_perm (List.reverse_perm _) (okE_back h)
theorem lockT_perm {L L':List En} (hn:(L.map (·.nm)).Nodup) (hp:L'.Perm L):lockT L'=lockT L:=by
 unfold lockT
 rw [sortE_one hn ((sortE_perm L').trans hp) (sortE_rise L')]
theorem rise_back (x:En):riseE (backE x)=riseE x:=by
 unfold riseE backE
 rw [<-sortT_one ((sortT_perm x.nd.reverse).trans (List.reverse_perm _)) (sortT_rise _)]
theorem lockT_back {L:List En} (hn:(L.map (·.nm)).Nodup):lockT (L.map backE)=lockT L:=by
 have h1:(sortE L).map backE=sortE (L.map backE):=by
  refine sortE_one (by rw [backE_nm];exact hn) ((sortE_perm L).map backE) ?_
  unfold RiseE
  rw [List.pairwise_map]
  exact sortE_rise L
 unfold lockT
 rw [<-h1,List.map_map]
 have h2:(sortE L).map (riseE ∘ backE)=(sortE L).map riseE:=List.map_congr_left fun x _=>rise_back x
 rw [h2]
theorem lockT_turn {L:List En} (hn:(L.map (·.nm)).Nodup):lockT (turnE L)=lockT L:=by
 unfold turnE
 rw [lockT_perm (by rw [backE_nm];exact hn) (List.reverse_perm _),lockT_back hn]
def swapE (L:List En) (i j:Int):List En:=if h:(0<=i/\i < L.length)/\0<=j/\j < L.length then (L.set i.toNat (L[j.toNat]'(by omega))).set j.toNat (L[i.toNat]'(by omega)) else L
theorem swapE_perm (L:List En) (i j:Int):(swapE L i j).Perm L:=by
 unfold swapE
 split
 ·rename_i h
  exact List.set_set_perm (by omega) (by omega)
 ·exact List.Perm.refl _
theorem lock_turn (L:List En):(lockFrom (turnE L) (turnE L).length).1=0 ↔ (lockFrom L L.length).1=0:=by
 rw [lock_iff,lock_iff,okE_turn]
theorem lock_swap (L:List En) (i j:Int):(lockFrom (swapE L i j) (swapE L i j).length).1=0 ↔ (lockFrom L L.length).1=0:=by
 rw [lock_iff,lock_iff]
 exact ⟨fun h=>okE_perm (swapE_perm L i j).symm h,fun h=>okE_perm (swapE_perm L i j) h⟩
theorem lockR_ok {L:List En} (h:(lockFrom L L.length).1=0):lockR L=lockT L:=by unfold lockR;rw [if_pos h]
theorem lockR_turn {L:List En} (h:(lockFrom L L.length).1=0):lockR (turnE L)=lockR L:=by
 rw [lockR_ok h,lockR_ok ((lock_turn L).2 h),lockT_turn ((lock_iff L).1 h).2.1]
theorem lockR_swap {L:List En} (i j:Int) (h:(lockFrom L L.length).1=0):lockR (swapE L i j)=lockR L:=by
 rw [lockR_ok h,lockR_ok ((lock_swap L i j).2 h),lockT_perm ((lock_iff L).1 h).2.1 (swapE_perm L i j)]
theorem mem_turn {L:List En} {x:En} (h:x ∈ turnE L):∃y ∈ L,x=backE y:=by
 unfold turnE at h
 obtain ⟨y,hy,rfl⟩:=List.mem_map.1 (List.mem_reverse.1 h)
 exact ⟨y,hy,rfl⟩
open Go.RowKit
set_option linter.unusedVariables false
def downE (L:List En) (m:Nat):List En:=((L.drop m).map backE).reverse
theorem downE_step (L:List En) (m:Nat) (h:m < L.length):downE L m=downE L (m+1)++[backE L[m]]:=by
 unfold downE
 rw [List.drop_eq_getElem_cons h,List.map_cons,List.reverse_cons]
theorem downE_len (L:List En) (m:Nat) (h:m<=L.length):(downE L m).length=L.length - m:=by
 unfold downE;simp
theorem downT_step (N:List ByteArray) (q:Nat) (h:q < N.length):((N.drop q).reverse).map Value.string=((N.drop (q+1)).reverse).map Value.string++[.string N[q]]:=by
 rw [List.drop_eq_getElem_cons h,List.reverse_cons,List.map_append];rfl
set_option maxRecDepth 100000 in
set_option maxHeartbeats 3200000 in
theorem turned_at (a:Addr) (cap:Nat) (L:List En) (w:World) (hL:L.length<=1048576) (hcap:L.length<=cap) (hN:∀x ∈ L,x.nd.length<=1048576) (h:∀i (hi:i < L.length),EnAt w (a.add (i * 4)) L[i]) :
  Calls Tryz.prog 12 #[.slice (some a) L.length cap] w fun e w'=>∃v,e=.returned v/\EnS w' v (turnE L)/\w.grownBy w' none:=by
 have HA:Hid (∀i (hi:i < L.length),EnAt w (a.add (i * 4)) L[i]):=h
 have HNL:Hid (∀x ∈ L,x.nd.length<=1048576):=hN
 clear h hN
 have hinfo:=infoRn
 obtain ⟨i0,hi0,hii⟩:=Option.map_eq_some_iff.1 hinfo
 simp only [Prod.mk.injEq] at hii
 obtain ⟨hz0,hz1,hzb⟩:=hii
 have hinfo2:=infoTx
 obtain ⟨j0,hj0,hjj⟩:=Option.map_eq_some_iff.1 hinfo2
 simp only [Prod.mk.injEq] at hjj
 obtain ⟨hy0,hy1,hyb⟩:=hjj
 clear hinfo hinfo2
 go_enter Tryz.func12,Tryz.ntmps12
 go_wp2
 go_loopw [3,4] (fun vm vi wr=>∃m:Nat,vi=.int .i64 ((m:Int) - 1)/\m<=L.length/\QRow (downE L m) wr w.heap.size vm/\w.grownBy wr none) (fun _ vi _=>(intOf vi+1).toNat)
 case atStart=>exact ⟨L.length,by go_num,Nat.le_refl _,by
  have:downE L L.length=[]:=by unfold downE;simp
  rw [this]
  exact ⟨[],rfl,World.ownsRow_nil _ _ _ _,fun j hj=>by simp at hj⟩,gb_refl _ _⟩
 case round =>
  obtain ⟨m,rfl,hm,hq,hg⟩:=hrel
  obtain ⟨wo,hwo⟩:∃wo,wo=wr:=⟨_,rfl⟩
  subst hwo
  have HQ:Hid (QRow (downE L m) wo w.heap.size u3):=hq
  have HG:Hid (w.grownBy wo none):=hg
  cases m with
  | zero =>
   have HF:Hid (EnS wo u3 (turnE L)):=by
    have e:downE L 0=turnE L:=by unfold downE turnE;simp
    rw [e] at hq
    exact qrow_ens hq
   clear hq hg
   go_wp2
   refine bodyPost_ret (results_tmp (t:=2) rfl _ _ _) rfl ⟨_,rfl,HF.out,HG.out⟩
  | succ m =>
   have em:((m+1:Nat):Int) - 1=(m:Int):=by omega
   rw [em]
   have hml:m < L.length:=by omega
   obtain ⟨x,hx⟩:∃x,L[m]=x:=⟨_,rfl⟩
   have HX:Hid (L[m]=x):=hx
   have HXL:Hid (x.nd.length<=1048576):=HNL.out x (by rw [<-hx];exact List.getElem_mem _)
   have hxl:x.nd.length<=1048576:=HXL.out
   obtain ⟨e0,e1,e2,sv,e3,hsv⟩:EnAt wo (a.add (m * 4)) x:=by rw [<-hx];exact (HA.out m hml).grow hg
   have HSV:Hid (TxS wo sv x.nd):=hsv
   obtain ⟨so,sc,rfl⟩:=txs_slice hsv
   obtain ⟨W1,hW1⟩:∃W,wo.alloc (.cells #[.string x.nm,.string x.ve,.string x.dg,.slice so x.nd.length sc] 42)=W:=⟨_,rfl⟩
   have HWE:Hid (wo.alloc (.cells #[.string x.nm,.string x.ve,.string x.dg,.slice so x.nd.length sc] 42)=W1):=hW1
   obtain ⟨A,hA⟩:∃A,wo.heap.size=A:=⟨_,rfl⟩
   have HAE:Hid (wo.heap.size=A):=hA
   have HW1:Hid (wo.grownBy W1 none/\W1.heap[A]?=some (.cells #[.string x.nm,.string x.ve,.string x.dg,.slice so x.nd.length sc] 42 (0,0))/\A < W1.heap.size):=by
    rw [<-hW1,<-hA]
    exact ⟨gb_alloc (gb_refl wo none) _,heap_alloc_new wo _,by rw [World.size_alloc];omega⟩
   obtain ⟨N,hN⟩:∃N,x.nd=N:=⟨_,rfl⟩
   have HNE:Hid (x.nd=N):=hN
   rw [hN] at hxl e3 HWE HW1 HSV
   have HL1:Hid (W1.cell? ⟨A,3,none⟩=some (.slice so N.length sc)):=(en_block HW1.out.2.1).2.2.2
   have hmI:(m:Int) < (L.length:Int):=by omega
   have hmc:m < cap:=by omega
   clear hq hg hx hsv hW1 hA
   try rw [hN]
   clear hN
   go_wp2
   try rw [HAE.out]
   try rw [HWE.out]
   go_loopw [6,7] (fun vm vj wk=>∃q:Nat,vj=.int .i64 ((q:Int) - 1)/\q<=N.length/\wk.ownsRow W1.heap.size 9 1 vm (N.length - q) (((N.drop q).reverse).map Value.string)/\Below W1.heap.size W1 wk) (fun _ vj _=>(intOf vj+1).toNat)
   case atStart=>exact ⟨N.length,by go_num,Nat.le_refl _,by
    rw [List.drop_length,Nat.sub_self]
    exact World.ownsRow_nil _ _ _ _,Below.refl _ _⟩
   case round =>
    obtain ⟨q,rfl,hq,hown,hb⟩:=hrel
    have HGB:Hid (W1.grownBy wr none):=bel_gb hb
    cases q with
    | zero =>
     rw [List.drop_zero,Nat.sub_zero] at hown
     obtain ⟨c0,c1,c2,c3⟩:=en_block ((hb.block A HW1.out.2.2).trans HW1.out.2.1)
     have htx6:TxS wr u6 N.reverse:=txs_own (by simp) hown
     have HTX6:Hid (TxS wr u6 (backE x).nd):=by
      show TxS _ _ _
      have:(backE x).nd=N.reverse:=by rw [<-HNE.out];rfl
      rw [this];exact htx6
     obtain ⟨o6,c6,rfl⟩:=txs_slice htx6
     have HF6:Hid (∀a n k,(Value.slice o6 N.reverse.length c6)=.slice (some a) n k->0 < n->wo.heap.size<=a.block/\a.block < wr.heap.size):=fun a n k e hn=>by
      rw [e] at hown
      have h1:=hown.lt a.block rfl
      have h2:=HW1.out.1.size
      omega
     have HG6:Hid (wo.grownBy wr none):=gb_trans HW1.out.1 HGB.out
     obtain ⟨t6,ht6⟩:∃t,N.reverse.length=t:=⟨_,rfl⟩
     rw [ht6] at HTX6 HF6
     try rw [ht6]
     obtain ⟨M,hM⟩:∃M,downE L (m+1)=M:=⟨_,rfl⟩
     have hq2:=HQ.out
     rw [hM] at hq2
     obtain ⟨vs,hvl,hownq,hinq⟩:=hq2
     have HIN:Hid (∀j (hj:j < M.length),TxS wo (vs[j]'(by rw [hvl];exact hj)) M[j].nd/\TxFar (vs[j]'(by rw [hvl];exact hj)) u3.ownBlock):=hinq
     have hml2:M.length=L.length - (m+1):=by rw [<-hM];exact downE_len L _ (by omega)
     obtain ⟨k,hk⟩:∃k,M.length=k:=⟨_,rfl⟩
     rw [hk] at hownq
     have hk2:k<=1048576:=by omega
     have hownq6:=own_stay hownq HG6.out
     have HOQ:Hid (wo.ownsRow w.heap.size 42 4 u3 k (enCs M vs)):=hownq
     have HVL:Hid (vs.length=M.length/\M.length=k):=⟨hvl,hk⟩
     have HMM:Hid (downE L (m+1)=M):=hM
     have hb46:w.heap.size<=wr.heap.size:=Nat.le_trans HG.out.size HG6.out.size
     have HOB:Hid (∀q,u3.ownBlock=some q->w.heap.size<=q):=fun q hq=>(hownq.lt q hq).1
     clear hown hb htx6 hinq ht6 hM hownq hml2 hk
     go_wp2_with (first | (at_builtin;refine wpList_append_lies _ rfl _ _ 22 rfl w.heap.size 42 i0 _ 4 72 Tryz.underlying22 hi0 hz0 hz1 hzb rfl (by decide) _ _ _ rfl (hownq6.alloc _) _ 1 1 (enC (backE x) (.slice o6 t6 c6)) rfl rfl (World.news_of_block (heap_alloc_new _ _)) (enc_one _ _ rfl) (by decide) (by unfold maxLen;omega) (by omega) (by simp;omega) _ rfl ?_;intro g cap1 w7 hown7 hgrow7 hat7 hlt7))
     have HGW7:Hid (w.grownBy w7 none):=by
      refine gb_row0b (gb_trans HG.out (gb_alloc HG6.out _)) hgrow7 HOB.out
     have HQ7:Hid (QRow (downE L m) w7 w.heap.size (.slice (some ⟨g,0,none⟩) (k+1) cap1)):=by
      rw [downE_step L m hml,HMM.out,HX.out]
      exact qrow_snoc (w1:=wr.alloc (.cells #[.string x.nm,.string x.ve,.string x.dg,.slice o6 t6 c6] 42)) HVL.out.2 HVL.out.1 HOQ.out HIN.out (gb_alloc HG6.out _) hown7 hgrow7 hat7 (HTX6.out.grow (gb_alloc (gb_refl wr none) _)) (fun a n k e hn=>by have:=HF6.out a n k e hn;simp;omega)
     clear hown7 hgrow7 hat7 hlt7 hownq6 c0 c1 c2 c3
     go_wp2
     go_roundw
     case rel=>exact ⟨m,by go_num,by omega,HQ7.out,HGW7.out⟩
     case measure=>first | (simp [intOf];done) | (simp [intOf];omega)
    | succ q =>
     have eq:((q+1:Nat):Int) - 1=(q:Int):=by omega
     rw [eq]
     have hql:q < N.length:=by omega
     have f3:=(en_block ((hb.block A HW1.out.2.2).trans HW1.out.2.1)).2.2.2
     obtain ⟨d,rfl,hdc,hdat⟩:=txs_at (HSV.out.grow (gb_trans HW1.out.1 HGB.out)) hql
     have g0:=hdat q hql
     obtain ⟨y,hy⟩:∃y,N[q]=y:=⟨_,rfl⟩
     rw [hy] at g0
     have HTK:Hid (((N.drop q).reverse).map Value.string=((N.drop (q+1)).reverse).map Value.string++[.string y]):=by
      show _=_
      rw [downT_step N q hql,hy]
     have hzz:=hb.size
     have hqI:(q:Int) < (N.length:Int):=by omega
     have hqc:q < sc:=by omega
     obtain ⟨r,hr⟩:∃r,N.length - (q+1)=r:=⟨_,rfl⟩
     have HR:Hid (N.length - q=r+1):=by show _=_;omega
     rw [hr] at hown
     have hr2:r<=1048576:=by omega
     clear hy hdat
     go_wp2_with (first | (at_builtin;refine wpList_append_lies _ rfl _ _ 40 rfl W1.heap.size 9 j0 _ 1 16 Tryz.underlying40 hj0 hy0 hy1 hyb rfl (by decide) _ _ _ rfl (hown.alloc _) _ 1 1 [.string y] rfl rfl (World.news_of_block (heap_alloc_new _ _)) (str_one y) (by decide) (by unfold maxLen;omega) (by omega) (by simp;omega) _ rfl ?_;intro g cap1 w3 hown3 hgrow hat3 hlt3))
     have HB3:Hid (Below W1.heap.size W1 w3):=(hb.alloc hb.size _).grown hgrow (by simp;omega) (fun q hq=>(hown.lt q hq).1)
     have HO3:Hid (w3.ownsRow W1.heap.size 9 1 (.slice (some ⟨g,0,none⟩) (r+1) cap1) (r+1) (((N.drop q).reverse).map Value.string)):=by show World.ownsRow _ _ _ _ _ _ _;rw [HTK.out];exact hown3
     clear hown3 hgrow hat3 hlt3 hown hb f3 g0
     go_wp2
     go_roundw
     case rel=>exact ⟨q,by go_num,by omega,by rw [HR.out];exact HO3.out,HB3.out⟩
     case measure=>first | (simp [intOf];done) | (simp [intOf];omega)
end Go.Proofs.YtbbmbnpebiakbaaGreatDoor
