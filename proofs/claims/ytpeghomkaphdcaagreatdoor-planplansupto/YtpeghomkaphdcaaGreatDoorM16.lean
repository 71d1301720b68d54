import Derived.Test.YtpeghomkaphdcaaGreatDoorM14
import Derived.Test.YtpeghomkaphdcaaGreatDoorM15
import Derived.WalkLawsBesides
import Derived.Shelf.SlSortCmp.NoneTotal
import Derived.Test.YtpeghomkaphdcaaGreatDoorProg
namespace Go.Proofs.YtpeghomkaphdcaaGreatDoor
open Go.RowKit
set_option linter.unusedVariables false
def cat (x y:ByteArray):ByteArray:=x++y
theorem cat_list (x y:ByteArray):(cat x y).data.toList=x.data.toList++y.data.toList:=by simp [cat]
theorem cat_size (x y:ByteArray):(cat x y).size=x.size+y.size:=by simp [cat]
theorem add_cat (x y:ByteArray) (wx:World) (h:x.size+y.size<=140737488355328):(Op.stringOp .add x y).run Tryz.prog wx=.ok (.string (cat x y)) wx :=
 run_string_add_sum wx _ _ (by omega)
theorem txt_ext {x:ByteArray} {l:List UInt8} (h:x.data.toList=l):x=⟨l.toArray⟩:=ByteArray.ext (Array.ext' (by simpa using h))
def ndK (N:List ByteArray):Nat->List UInt8
 | 0=>[]
 | k+1=>ndK N k++((if 0 < k then [44,32] else [])++(match N[k]? with | some y=>34 :: (y.data.toList++[34]) | none=>[]))
theorem ndk_step (N:List ByteArray) (k:Nat) (hk:k < N.length):ndK N (k+1)=ndK N k++((if 0 < k then [44,32] else [])++34 :: (N[k].data.toList++[34])):=by
 simp [ndK,List.getElem?_eq_getElem hk]
def entB (x:En):List UInt8:=[10,91,91,112,97,99,107,97,103,101,93,93,10,100,105,103,101,115,116,32,61,32,34]++(x.dg.data.toList++([34,10,110,97,109,101,32,61,32,34]++(x.nm.data.toList++([34,10,110,101,101,100,115,32,61,32,91]++(ndK x.nd x.nd.length++([93,10,118,101,114,115,105,111,110,32,61,32,34]++(x.ve.data.toList++[34,10])))))))
def lockB (M:List En):List UInt8:=[102,111,114,109,97,116,32,61,32,49,10]++M.flatMap entB
def Short (x:En):Prop:=x.nm.size<=1048576/\x.ve.size<=1048576/\x.dg.size<=1048576/\x.nd.length<=20/\∀y ∈ x.nd,y.size<=1048576
theorem ndk_len (N:List ByteArray) (h:∀y ∈ N,y.size<=1048576):∀k,k<=N.length->(ndK N k).length<=k * 1048580
 | 0,_=>by simp [ndK]
 | k+1,hk=>by
  have h1:=ndk_len N h k (by omega)
  have h2:=h N[k] (List.getElem_mem _)
  have e:N[k].data.toList.length=N[k].size:=by simp
  rw [ndk_step N k (by omega)]
  split
  ·simp only [List.length_append,List.length_cons,List.length_nil,e];omega
  ·simp only [List.length_append,List.length_cons,List.length_nil,e];omega
theorem fe_zero {L:List En} {i:Nat} {x:En} (h:faultE L i x=0):i < 50/\x.nd.length<=20/\hasNm (L.take i) x.nm=false:=by
 unfold faultE at h
 split at h
 ·cases h
 ·rename_i h1
  split at h
  ·cases h
  ·split at h
   ·cases h
   ·rename_i h3
    refine ⟨by omega,by omega,?_⟩
    cases hh:hasNm (L.take i) x.nm with
    | false=>rfl
    | true=>exact absurd (Or.inl hh) h3
theorem lock_small (L:List En) (h:(lockFrom L L.length).1=0):L.length<=50/\(∀x ∈ L,x.nd.length<=20)/\(L.map (·.nm)).Nodup:=by
 have h0:=lock_ok L h
 have h1:∀i (hi:i < L.length),i < 50/\L[i].nd.length<=20/\hasNm (L.take i) L[i].nm=false:=fun i hi=>by
  have:=h0 i hi
  rw [errE_at L i hi] at this
  exact fe_zero this
 refine ⟨?_,fun x hx=>?_,?_⟩
 ·apply Classical.byContradiction
  intro hn
  have:=(h1 50 (by omega)).1
  omega
 ·obtain ⟨i,hi,rfl⟩:=List.getElem_of_mem hx
  exact (h1 i hi).2.1
 ·unfold List.Nodup
  rw [List.pairwise_iff_getElem]
  intro i j hi hj hij e
  rw [List.length_map] at hi hj
  rw [List.getElem_map,List.getElem_map] at e
  have:=(h1 j hj).2.2
  rw [nm_at L _ j i hi hij e] at this
  cases this
def lockT (L:List En):ByteArray:=⟨(lockB ((sortE L).map riseE)).toArray⟩
noncomputable def lockR (L:List En):ByteArray:=if (lockFrom L L.length).1=0 then lockT L else ⟨#[]⟩
theorem short_rise {x:En} (h:Short x):Short (riseE x):=⟨h.1,h.2.1,h.2.2.1,by show (sortT x.nd).length<=20;rw [(sortT_perm x.nd).length_eq];exact h.2.2.2.1,fun y hy=>h.2.2.2.2 y ((sortT_perm x.nd).subset hy)⟩
theorem flat_snoc (M:List En) (i:Nat) (hi:i < M.length):(M.take (i+1)).flatMap entB=(M.take i).flatMap entB++entB M[i]:=by
 rw [List.take_succ_eq_append_getElem hi,List.flatMap_append];simp
set_option maxRecDepth 100000 in
set_option maxHeartbeats 6400000 in
theorem refPrint_at (a:Addr) (cap:Nat) (L:List En) (w:World) (hcap:L.length<=cap) (h:∀j (hj:j < L.length),EnAt w (a.add (j * 4)) L[j]) (hL:L.length<=1048576) (hV:∀x ∈ L,x.nm.size<=1048576/\x.ve.size<=1048576/\x.dg.size<=1048576) (hN:∀x ∈ L,x.nd.length<=1048576) (hS:∀x ∈ L,∀y ∈ x.nd,y.size<=1048576) :
  Calls Tryz.prog 9 #[.slice (some a) L.length cap] w fun e w'=>e=.returned (.tuple #[.string (lockR L),.int .i64 (lockFrom L L.length).1,.int .i64 ((lockFrom L L.length).2:Int)])/\w.grownBy w' none:=by
 have CW:Hid (∀i w',i < L.length->w.grownBy w' none->Calls Tryz.prog 20 #[.slice (some a) L.length cap,.int .i64 i] w' fun e w''=>e=.returned (.int .i64 (errE L i))/\w'.grownBy w'' none):=fun i w' hi hg=>wrongEntry_at a cap L i w' hi hcap (fun j hj=>(h j hj).grow hg) hL (fun x hx=>by have:=hV x hx;exact ⟨by omega,by omega,by omega⟩) hN (fun x hx y hy=>by have:=hS x hx y hy;omega)
 have CR:Hid (∀w',w.grownBy w' none->(L.map (·.nm)).Nodup->Calls Tryz.prog 21 #[.slice (some a) L.length cap] w' fun e w''=>∃o c,e=.returned (.slice o ((sortE L).map riseE).length c)/\EnS w'' (.slice o ((sortE L).map riseE).length c) ((sortE L).map riseE)/\w'.grownBy w'' none):=fun w' hg hn=>(rising_at a cap L w' hL hcap hN hn (fun j hj=>(h j hj).grow hg)).mono fun e w'' ⟨v,h1,h2,h3⟩=>by
  obtain ⟨o,c,rfl⟩:=ens_slice h2
  exact ⟨o,c,h1,h2,h3⟩
 have HSH:Hid ((lockFrom L L.length).1=0->L.length<=50/\(L.map (·.nm)).Nodup/\∀x ∈ (sortE L).map riseE,Short x):=fun h0=>by
  obtain ⟨h1,h2,h3⟩:=lock_small L h0
  refine ⟨h1,h3,fun x hx=>?_⟩
  obtain ⟨y,hy,rfl⟩:=List.mem_map.1 hx
  have hy2:=(sortE_perm L).subset hy
  exact short_rise ⟨(hV y hy2).1,(hV y hy2).2.1,(hV y hy2).2.2,h2 y hy2,hS y hy2⟩
 have HML:Hid (((sortE L).map riseE).length=L.length):=by show _=_;rw [List.length_map,(sortE_perm L).length_eq]
 have HH:Hid (∀i,i < L.length->¬ errE L i=0->lockFrom L (L.length - i)=(errE L i,i)):=lock_hit L
 have HM:Hid (∀i,i < L.length->errE L i=0->lockFrom L (L.length - i)=lockFrom L (L.length - (i+1))):=lock_miss L
 have HLR:Hid ((lockFrom L L.length).1=0->lockR L=⟨(lockB ((sortE L).map riseE)).toArray⟩):=fun h0=>by
  show lockR L=_
  unfold lockR;rw [if_pos h0];rfl
 have HLE:Hid (¬ (lockFrom L L.length).1=0->lockR L=⟨#[]⟩):=fun h0=>by
  show lockR L=_
  unfold lockR;rw [if_neg h0]
 obtain ⟨T,hT⟩:∃T,lockR L=T:=⟨_,rfl⟩
 rw [hT] at HLR HLE ⊢
 obtain ⟨R,hR⟩:∃R,lockFrom L L.length=R:=⟨_,rfl⟩
 have HS0:Hid (lockFrom L (L.length - 0)=R):=hR
 rw [hR] at HSH HLR HLE ⊢
 obtain ⟨M,hM⟩:∃M,(sortE L).map riseE=M:=⟨_,rfl⟩
 rw [hM] at HSH HLR CR HML
 clear h hV hN hS hR hT hM
 go_enter Tryz.func9,Tryz.ntmps9
 go_wp2
 go_loopw [5] (fun vi wr=>∃i:Nat,vi=.int .i64 i/\i<=L.length/\lockFrom L (L.length - i)=R/\w.grownBy wr none) (fun vi _=>L.length - (intOf vi).toNat)
 case atStart=>exact ⟨0,rfl,Nat.zero_le _,HS0.out,gb_refl _ _⟩
 case round =>
  obtain ⟨i,rfl,hi,hc,hg⟩:=hrel
  have HG:Hid (w.grownBy wr none):=hg
  have HC:Hid (lockFrom L (L.length - i)=R):=hc
  by_cases hlt:i < L.length
  ·have CWW:Hid (Calls Tryz.prog 20 #[.slice (some a) L.length cap,.int .i64 i] wr fun e w'=>e=.returned (.int .i64 (errE L i))/\wr.grownBy w' none):=CW.out i wr hlt hg
   have HH':Hid (¬ errE L i=0->R=(errE L i,i)):=fun h=>HC.out.symm.trans (HH.out i hlt h)
   have HM':Hid (errE L i=0->lockFrom L (L.length - (i+1))=R):=fun h=>(HM.out i hlt h).symm.trans HC.out
   obtain ⟨F,hF⟩:∃F,errE L i=F:=⟨_,rfl⟩
   rw [hF] at CWW HH' HM'
   clear hF hc hg
   by_cases hz:F=0
   ·subst hz
    go_wp2_with (first | (go_at_call 20;refine CWW.out.mono ?_;rintro e w3 ⟨rfl,hg3⟩))
    go_roundw
    case rel=>exact ⟨i+1,by go_num,by omega,HM'.out (by trivial),gb_trans HG.out hg3⟩
    case measure=>simp [intOf];omega
   ·have hz1:(F != 0)=true:=by simp [hz]
    have HR:Hid (R=(F,i)):=HH'.out hz
    have HTE:Hid (T=⟨#[]⟩):=HLE.out (by rw [HR.out];exact hz)
    clear hz
    go_wp2_with (first | (go_at_call 20;refine CWW.out.mono ?_;rintro e w3 ⟨rfl,hg3⟩))
    refine bodyPost_ret (results_tmp3 (t:=2) (u:=3) (v:=4) rfl _ _ _) rfl ⟨?_,gb_trans HG.out hg3⟩
    rw [HR.out,HTE.out];rfl
  ·have hil:i=L.length:=by omega
   have HR:Hid (R=(0,0)):=by
    show R=_
    rw [<-hc,hil,Nat.sub_self];rfl
   obtain ⟨hL50,hnd,hsh⟩:=HSH.out (by rw [HR.out])
   have HSHM:Hid (∀x ∈ M,Short x):=hsh
   have HTT:Hid (T=⟨(lockB M).toArray⟩):=HLR.out (by rw [HR.out])
   have CRR:Hid (Calls Tryz.prog 21 #[.slice (some a) L.length cap] wr fun e w''=>∃o c,e=.returned (.slice o M.length c)/\EnS w'' (.slice o M.length c) M/\wr.grownBy w'' none):=CR.out wr hg hnd
   have hml:M.length<=50:=by rw [HML.out];exact hL50
   clear hc hg hil hi hnd hsh
   go_wp2_with (first | (go_at_call 21;refine CRR.out.mono ?_))
   rintro e w4 ⟨o4,c4,rfl,hens,hg4⟩
   have HENS:Hid (EnS w4 (.slice o4 M.length c4) M):=hens
   have HG4:Hid (w.grownBy w4 none):=gb_trans HG.out hg4
   clear hens hg4
   go_wp2
   go_loopw [7,9] (fun vo vi wi=>∃(i:Nat) (O:ByteArray),vi=.int .i64 i/\vo=.string O/\i<=M.length/\O.data.toList=[102,111,114,109,97,116,32,61,32,49,10]++(M.take i).flatMap entB/\O.size<=11+i * 67108864/\w4.grownBy wi none) (fun _ vi _=>M.length - (intOf vi).toNat)
   case atStart=>exact ⟨0,_,rfl,rfl,Nat.zero_le _,by simp,by decide,gb_refl _ _⟩
   case round =>
    obtain ⟨i,O,rfl,rfl,hi,hO,hOs,hgi⟩:=hrel
    have HO:Hid (O.data.toList=[102,111,114,109,97,116,32,61,32,49,10]++(M.take i).flatMap entB):=hO
    have HGI:Hid (w4.grownBy wr none):=hgi
    have HGW:Hid (w.grownBy wr none):=gb_trans HG4.out hgi
    by_cases hlt:i < M.length
    ·obtain ⟨b,rfl,hcv,hat⟩:=ens_at (HENS.out.grow hgi) hlt
     obtain ⟨x,hx⟩:∃x,M[i]=x:=⟨_,rfl⟩
     obtain ⟨e0,e1,e2,sv,e3,hsv⟩:EnAt wr (b.add (i * 4)) x:=by rw [<-hx];exact hat i hlt
     have H1:Hid (TxS wr sv x.nd):=hsv
     obtain ⟨so,sc,rfl⟩:=txs_slice hsv
     obtain ⟨s1,s2,s3,s4,s5⟩:=HSHM.out x (by rw [<-hx];exact List.getElem_mem _)
     have HS5:Hid (∀y ∈ x.nd,y.size<=1048576):=s5
     have HNX:Hid ((M.take (i+1)).flatMap entB=(M.take i).flatMap entB++entB x):=by
      show _=_
      rw [flat_snoc M i hlt,hx]
     have HEB:Hid (entB x=entB ⟨x.nm,x.ve,x.dg,x.nd⟩):=rfl
     obtain ⟨xn,xv,xd,N⟩:=x
     simp only [] at H1 HS5 s1 s2 s3 s4 e0 e1 e2 e3 HNX
     clear hO hgi hat hx hsv s5 HEB
     have c1:∀wx,(Op.stringOp .add O ⟨#[10,91,91,112,97,99,107,97,103,101,93,93,10,100,105,103,101,115,116,32,61,32,34]⟩).run Tryz.prog wx=.ok (.string (cat O ⟨#[10,91,91,112,97,99,107,97,103,101,93,93,10,100,105,103,101,115,116,32,61,32,34]⟩)) wx:=fun wx=>add_cat _ _ wx (by show _+23<=_;omega)
     have z1:(cat O ⟨#[10,91,91,112,97,99,107,97,103,101,93,93,10,100,105,103,101,115,116,32,61,32,34]⟩).size=O.size+23:=cat_size _ _
     have l1:=cat_list O ⟨#[10,91,91,112,97,99,107,97,103,101,93,93,10,100,105,103,101,115,116,32,61,32,34]⟩
     generalize cat O ⟨#[10,91,91,112,97,99,107,97,103,101,93,93,10,100,105,103,101,115,116,32,61,32,34]⟩=O1 at c1 z1 l1
     have c2:∀wx,(Op.stringOp .add O1 xd).run Tryz.prog wx=.ok (.string (cat O1 xd)) wx:=fun wx=>add_cat _ _ wx (by omega)
     have z2:=cat_size O1 xd
     have l2:=cat_list O1 xd
     generalize cat O1 xd=O2 at c2 z2 l2
     have c3:∀wx,(Op.stringOp .add O2 ⟨#[34,10,110,97,109,101,32,61,32,34]⟩).run Tryz.prog wx=.ok (.string (cat O2 ⟨#[34,10,110,97,109,101,32,61,32,34]⟩)) wx:=fun wx=>add_cat _ _ wx (by show _+10<=_;omega)
     have z3:(cat O2 ⟨#[34,10,110,97,109,101,32,61,32,34]⟩).size=O2.size+10:=cat_size _ _
     have l3:=cat_list O2 ⟨#[34,10,110,97,109,101,32,61,32,34]⟩
     generalize cat O2 ⟨#[34,10,110,97,109,101,32,61,32,34]⟩=O3 at c3 z3 l3
     have c4:∀wx,(Op.stringOp .add O3 xn).run Tryz.prog wx=.ok (.string (cat O3 xn)) wx:=fun wx=>add_cat _ _ wx (by omega)
     have z4:=cat_size O3 xn
     have l4:=cat_list O3 xn
     generalize cat O3 xn=O4 at c4 z4 l4
     have c5:∀wx,(Op.stringOp .add O4 ⟨#[34,10,110,101,101,100,115,32,61,32,91]⟩).run Tryz.prog wx=.ok (.string (cat O4 ⟨#[34,10,110,101,101,100,115,32,61,32,91]⟩)) wx:=fun wx=>add_cat _ _ wx (by show _+11<=_;omega)
     have z5:(cat O4 ⟨#[34,10,110,101,101,100,115,32,61,32,91]⟩).size=O4.size+11:=cat_size _ _
     have l5:=cat_list O4 ⟨#[34,10,110,101,101,100,115,32,61,32,91]⟩
     generalize cat O4 ⟨#[34,10,110,101,101,100,115,32,61,32,91]⟩=O5 at c5 z5 l5
     have HL5:Hid (O5.data.toList=[102,111,114,109,97,116,32,61,32,49,10]++((M.take i).flatMap entB++([10,91,91,112,97,99,107,97,103,101,93,93,10,100,105,103,101,115,116,32,61,32,34]++(xd.data.toList++([34,10,110,97,109,101,32,61,32,34]++(xn.data.toList++[34,10,110,101,101,100,115,32,61,32,91])))))):=by
      show _=_
      rw [l5,l4,l3,l2,l1,HO.out]
      simp only [List.append_assoc]
     have hz5:O5.size<=11+i * 67108864+2097200:=by omega
     clear l1 l2 l3 l4 l5 z1 z2 z3 z4 z5
     obtain ⟨W1,hW1⟩:∃W,wr.alloc (.cells #[.string xn,.string xv,.string xd,.slice so N.length sc] 42)=W:=⟨_,rfl⟩
     have HWE:Hid (wr.alloc (.cells #[.string xn,.string xv,.string xd,.slice so N.length sc] 42)=W1):=hW1
     have HW1:Hid (w4.grownBy W1 none/\W1.cell? ⟨wr.heap.size,1,none⟩=some (.string xv)/\W1.cell? ⟨wr.heap.size,3,none⟩=some (.slice so N.length sc)/\TxS W1 (.slice so N.length sc) N):=by
      rw [<-hW1]
      obtain ⟨k0,k1,k2,k3⟩:=en_block (heap_alloc_new wr (.cells #[.string xn,.string xv,.string xd,.slice so N.length sc] 42))
      exact ⟨gb_alloc HGI.out _,k1,k3,H1.out.grow (gb_alloc (gb_refl wr none) _)⟩
     obtain ⟨A,hA⟩:∃A,wr.heap.size=A:=⟨_,rfl⟩
     have HAE:Hid (wr.heap.size=A):=hA
     rw [hA] at HW1
     clear hW1 hA
     go_wp2
     clear c1 c2 c3 c4 c5 e0 e1 e2 e3
     try rw [HAE.out]
     go_loopw [7,11] (fun vo vk wk=>∃(k:Nat) (Q:ByteArray),vk=.int .i64 k/\vo=.string Q/\k<=N.length/\Q.data.toList=O5.data.toList++ndK N k/\Q.size<=O5.size+k * 1048580/\W1.grownBy wk none) (fun _ vk _=>N.length - (intOf vk).toNat)
     case atStart=>exact ⟨0,O5,rfl,rfl,Nat.zero_le _,by simp [ndK],by omega,by rw [HWE.out];exact gb_refl _ _⟩
     case round =>
      obtain ⟨k,Q,rfl,rfl,hk,hQ,hQs,hgk⟩:=hrel
      have HQL:Hid (Q.data.toList=O5.data.toList++ndK N k):=hQ
      have HGK:Hid (W1.grownBy wr none):=hgk
      have f1:=hgk.cell HW1.out.2.1 (by simp)
      have f3:=hgk.cell HW1.out.2.2.1 (by simp)
      by_cases hkl:k < N.length
      ·obtain ⟨d,rfl,hdc,hdat⟩:=txs_at (HW1.out.2.2.2.grow hgk) hkl
       have g0:=hdat k hkl
       obtain ⟨y,hy⟩:∃y,N[k]=y:=⟨_,rfl⟩
       rw [hy] at g0
       have hys:=HS5.out y (by rw [<-hy];exact List.getElem_mem _)
       have HST:Hid (ndK N (k+1)=ndK N k++((if 0 < k then [44,32] else [])++34 :: (y.data.toList++[34]))):=by
        show _=_
        rw [ndk_step N k hkl,hy]
       clear hQ hgk hdat hy
       by_cases hk0:0 < k
       ·have d1:∀wx,(Op.stringOp .add Q ⟨#[44,32]⟩).run Tryz.prog wx=.ok (.string (cat Q ⟨#[44,32]⟩)) wx:=fun wx=>add_cat _ _ wx (by show _+2<=_;omega)
        have y1:(cat Q ⟨#[44,32]⟩).size=Q.size+2:=cat_size _ _
        have m1:=cat_list Q ⟨#[44,32]⟩
        generalize cat Q ⟨#[44,32]⟩=Q1 at d1 y1 m1
        have d2:∀wx,(Op.stringOp .add Q1 ⟨#[34]⟩).run Tryz.prog wx=.ok (.string (cat Q1 ⟨#[34]⟩)) wx:=fun wx=>add_cat _ _ wx (by show _+1<=_;omega)
        have y2:(cat Q1 ⟨#[34]⟩).size=Q1.size+1:=cat_size _ _
        have m2:=cat_list Q1 ⟨#[34]⟩
        generalize cat Q1 ⟨#[34]⟩=Q2 at d2 y2 m2
        have d3:∀wx,(Op.stringOp .add Q2 y).run Tryz.prog wx=.ok (.string (cat Q2 y)) wx:=fun wx=>add_cat _ _ wx (by omega)
        have y3:=cat_size Q2 y
        have m3:=cat_list Q2 y
        generalize cat Q2 y=Q3 at d3 y3 m3
        have d4:∀wx,(Op.stringOp .add Q3 ⟨#[34]⟩).run Tryz.prog wx=.ok (.string (cat Q3 ⟨#[34]⟩)) wx:=fun wx=>add_cat _ _ wx (by show _+1<=_;omega)
        have y4:(cat Q3 ⟨#[34]⟩).size=Q3.size+1:=cat_size _ _
        have m4:=cat_list Q3 ⟨#[34]⟩
        generalize cat Q3 ⟨#[34]⟩=Q4 at d4 y4 m4
        have HQ4:Hid (Q4.data.toList=O5.data.toList++ndK N (k+1)):=by
         show _=_
         rw [m4,m3,m2,m1,HQL.out,HST.out,if_pos hk0]
         simp
        have hq4:Q4.size<=O5.size+(k+1) * 1048580:=by omega
        clear m1 m2 m3 m4 y1 y2 y3 y4
        go_wp2
        go_roundw
        case rel=>exact ⟨k+1,Q4,by go_num,rfl,by omega,HQ4.out,hq4,HGK.out⟩
        case measure=>simp [intOf];omega
       ·have d2:∀wx,(Op.stringOp .add Q ⟨#[34]⟩).run Tryz.prog wx=.ok (.string (cat Q ⟨#[34]⟩)) wx:=fun wx=>add_cat _ _ wx (by show _+1<=_;omega)
        have y2:(cat Q ⟨#[34]⟩).size=Q.size+1:=cat_size _ _
        have m2:=cat_list Q ⟨#[34]⟩
        generalize cat Q ⟨#[34]⟩=Q2 at d2 y2 m2
        have d3:∀wx,(Op.stringOp .add Q2 y).run Tryz.prog wx=.ok (.string (cat Q2 y)) wx:=fun wx=>add_cat _ _ wx (by omega)
        have y3:=cat_size Q2 y
        have m3:=cat_list Q2 y
        generalize cat Q2 y=Q3 at d3 y3 m3
        have d4:∀wx,(Op.stringOp .add Q3 ⟨#[34]⟩).run Tryz.prog wx=.ok (.string (cat Q3 ⟨#[34]⟩)) wx:=fun wx=>add_cat _ _ wx (by show _+1<=_;omega)
        have y4:(cat Q3 ⟨#[34]⟩).size=Q3.size+1:=cat_size _ _
        have m4:=cat_list Q3 ⟨#[34]⟩
        generalize cat Q3 ⟨#[34]⟩=Q4 at d4 y4 m4
        have HQ4:Hid (Q4.data.toList=O5.data.toList++ndK N (k+1)):=by
         show _=_
         rw [m4,m3,m2,HQL.out,HST.out,if_neg hk0]
         simp
        have hq4:Q4.size<=O5.size+(k+1) * 1048580:=by omega
        clear m2 m3 m4 y2 y3 y4
        go_wp2
        go_roundw
        case rel=>exact ⟨k+1,Q4,by go_num,rfl,by omega,HQ4.out,hq4,HGK.out⟩
        case measure=>simp [intOf];omega
      ·have hke:k=N.length:=by omega
       have d1:∀wx,(Op.stringOp .add Q ⟨#[93,10,118,101,114,115,105,111,110,32,61,32,34]⟩).run Tryz.prog wx=.ok (.string (cat Q ⟨#[93,10,118,101,114,115,105,111,110,32,61,32,34]⟩)) wx:=fun wx=>add_cat _ _ wx (by show _+13<=_;omega)
       have y1:(cat Q ⟨#[93,10,118,101,114,115,105,111,110,32,61,32,34]⟩).size=Q.size+13:=cat_size _ _
       have m1:=cat_list Q ⟨#[93,10,118,101,114,115,105,111,110,32,61,32,34]⟩
       generalize cat Q ⟨#[93,10,118,101,114,115,105,111,110,32,61,32,34]⟩=Q1 at d1 y1 m1
       have d2:∀wx,(Op.stringOp .add Q1 xv).run Tryz.prog wx=.ok (.string (cat Q1 xv)) wx:=fun wx=>add_cat _ _ wx (by omega)
       have y2:=cat_size Q1 xv
       have m2:=cat_list Q1 xv
       generalize cat Q1 xv=Q2 at d2 y2 m2
       have d3:∀wx,(Op.stringOp .add Q2 ⟨#[34,10]⟩).run Tryz.prog wx=.ok (.string (cat Q2 ⟨#[34,10]⟩)) wx:=fun wx=>add_cat _ _ wx (by show _+2<=_;omega)
       have y3:(cat Q2 ⟨#[34,10]⟩).size=Q2.size+2:=cat_size _ _
       have m3:=cat_list Q2 ⟨#[34,10]⟩
       generalize cat Q2 ⟨#[34,10]⟩=Q3 at d3 y3 m3
       have HQ3:Hid (Q3.data.toList=[102,111,114,109,97,116,32,61,32,49,10]++(M.take (i+1)).flatMap entB):=by
        show _=_
        rw [m3,m2,m1,HQL.out,HL5.out,HNX.out,hke]
        unfold entB
        simp only [List.append_assoc]
       have hq3:Q3.size<=11+(i+1) * 67108864:=by omega
       have HGE:Hid (w4.grownBy wr none):=gb_trans HW1.out.1 hgk
       clear m1 m2 m3 y1 y2 y3 hQ hgk hke hk
       go_wp2
       go_roundw
       case rel=>exact ⟨i+1,Q3,by go_num,rfl,by omega,HQ3.out,hq3,HGE.out⟩
       case measure=>simp [intOf];omega
    ·have hie:i=M.length:=by omega
     have HTO:Hid (O=T):=by
      show _=_
      rw [HTT.out]
      apply txt_ext
      rw [HO.out,hie,List.take_length];rfl
     clear hO hOs hgi hie hi
     go_wp2
     refine bodyPost_ret (results_tmp3 (t:=2) (u:=3) (v:=4) rfl _ _ _) rfl ⟨?_,HGW.out⟩
     rw [HR.out,<-HTO.out];rfl
end Go.Proofs.YtpeghomkaphdcaaGreatDoor
namespace Go.Proofs.YtpeghomkaphdcaaGreatDoor
open Go.RowKit Go.Maps Go.Sort Go.Shelf
set_option linter.unusedVariables false
attribute [local go_sem] Oper.semAt_some
structure Ec where
 nm:ByteArray
 ve:ByteArray
 dg:ByteArray
 o:Option Addr
 n:Nat
 c:Nat
def ecA (x:Ec):Value:=.agg #[.string x.nm,.string x.ve,.string x.dg,.slice x.o x.n x.c]
def ecC (x:Ec):List Value:=[.string x.nm,.string x.ve,.string x.dg,.slice x.o x.n x.c]
def EcAt (w:World) (p:Addr) (x:Ec):Prop:=w.cell? p=some (.string x.nm)/\w.cell? ⟨p.block,p.off+1,none⟩=some (.string x.ve)/\w.cell? ⟨p.block,p.off+2,none⟩=some (.string x.dg)/\w.cell? ⟨p.block,p.off+3,none⟩=some (.slice x.o x.n x.c)
theorem EcAt.grow {w w':World} {p:Addr} {x:Ec} (h:EcAt w p x) (hg:w.grownBy w' none):EcAt w' p x:=⟨hg.cell h.1 (by simp),hg.cell h.2.1 (by simp),hg.cell h.2.2.1 (by simp),hg.cell h.2.2.2 (by simp)⟩
def EcS (w:World) (v:Value) (L:List Ec):Prop:=(v=.slice none 0 0/\L=[])\/∃a cap,v=.slice (some a) L.length cap/\L.length<=cap/\∀i (hi:i < L.length),EcAt w (a.add (i * 4)) L[i]
theorem EcS.grow {w w':World} {v:Value} {L:List Ec} (h:EcS w v L) (hg:w.grownBy w' none):EcS w' v L:=by
 rcases h with h | ⟨a,cap,h1,h2,h3⟩
 ·exact Or.inl h
 ·exact Or.inr ⟨a,cap,h1,h2,fun i hi=>(h3 i hi).grow hg⟩
theorem ecs_at {w:World} {o:Option Addr} {c:Nat} {L:List Ec} (h:EcS w (.slice o L.length c) L) {i:Nat} (hi:i < L.length):∃a,o=some a/\L.length<=c/\∀j (hj:j < L.length),EcAt w (a.add (j * 4)) L[j]:=by
 rcases h with ⟨h1,h2⟩ | ⟨a,cap,h1,h2,h3⟩
 ·rw [h2] at hi;simp at hi
 ·cases h1
  exact ⟨a,rfl,h2,h3⟩
theorem ecc_one (s:Ec):∀u ∈ ecC s,u.oneCell'=true:=by
 intro u hu
 simp only [ecC,List.mem_cons,List.not_mem_nil,or_false] at hu
 rcases hu with rfl | rfl | rfl | rfl <;> rfl
def EcIs (w:World) (x:Ec) (y:En):Prop:=x.nm=y.nm/\x.ve=y.ve/\x.dg=y.dg/\TxS w (.slice x.o x.n x.c) y.nd
theorem EcIs.grow {w w':World} {x:Ec} {y:En} (h:EcIs w x y) (hg:w.grownBy w' none):EcIs w' x y:=⟨h.1,h.2.1,h.2.2.1,h.2.2.2.grow hg⟩
theorem ens_ecs {w:World} {v:Value} {L:List En} (h:EnS w v L):∃E:List Ec,EcS w v E/\E.length=L.length/\∀i (hi:i < E.length) (hj:i < L.length),EcIs w E[i] L[i]:=by
 rcases h with ⟨rfl,rfl⟩ | ⟨a,cap,rfl,h2,h3⟩
 ·exact ⟨[],Or.inl ⟨rfl,rfl⟩,rfl,fun i hi=>by simp at hi⟩
 ·have hS:∀i,i < L.length->∃x:Ec,EcAt w (a.add (i * 4)) x/\∀hj:i < L.length,EcIs w x L[i]:=fun i hi=>by
   obtain ⟨e0,e1,e2,sv,e3,hsv⟩:=h3 i hi
   obtain ⟨so,sc,rfl⟩:=txs_slice hsv
   exact ⟨⟨L[i].nm,L[i].ve,L[i].dg,so,L[i].nd.length,sc⟩,⟨e0,e1,e2,e3⟩,fun _=>⟨rfl,rfl,rfl,hsv⟩⟩
  have:Nonempty Ec:=⟨⟨⟨#[]⟩,⟨#[]⟩,⟨#[]⟩,none,0,0⟩⟩
  obtain ⟨S,hS⟩:∃S:Nat->Ec,∀i,i < L.length->EcAt w (a.add (i * 4)) (S i)/\∀hj:i < L.length,EcIs w (S i) L[i]:=by
   refine ⟨fun i=>if h:i < L.length then Classical.choose (hS i h) else ⟨⟨#[]⟩,⟨#[]⟩,⟨#[]⟩,none,0,0⟩,fun i hi=>?_⟩
   simp only [dif_pos hi]
   exact Classical.choose_spec (hS i hi)
  have hlen:((List.range L.length).map S).length=L.length:=by simp
  refine ⟨(List.range L.length).map S,Or.inr ⟨a,cap,by rw [hlen],by rw [hlen];exact h2,fun i hi=>?_⟩,hlen,fun i hi hj=>?_⟩
  ·rw [List.getElem_map,List.getElem_range]
   exact (hS i (by rw [hlen] at hi;exact hi)).1
  ·rw [List.getElem_map,List.getElem_range]
   exact (hS i hj).2 hj
theorem valE_any (o:Option Addr) (n c:Nat) (w:World):Calls Tryz.prog 35 #[.slice o n c] w fun e w'=>e=.returned (.func (.func 57) #[] #[.pointer (some ⟨w.heap.size,0,none⟩)])/\w'=w.alloc (.cells #[.slice o n c] 23):=by
 go_enter Tryz.func35,Tryz.ntmps35
 go_wp2
 go_ret
 exact ⟨rfl,rfl⟩
set_option maxRecDepth 100000 in
set_option maxHeartbeats 3200000 in
theorem iterE (n l bm:Nat) (hn:1<=n) (o:Option Addr) (c:Nat) (L:List Ec) (hL:L.length<=1048576) (J:List Ec->World->Prop)
  (hA:∀pre W ob,J pre W->J pre (W.alloc ob))
  (hc:∀pre W,J pre W->W.cell? ⟨bm,0,none⟩=some (.slice o L.length c)/\EcS W (.slice o L.length c) L)
  (hY:∀pre x W,J pre W->pre.length < L.length->YieldAt Fence.wide (n - 1) Tryz.prog l #[ecA x] W fun e W'=>e=.returned (.bool true)/\J (pre++[x]) W') (W:World) (h0:J [] W) :
  CallsIn Fence.wide n Tryz.prog 57 #[.func (.yield l) #[] #[],.pointer (some ⟨bm,0,none⟩)] W fun e W'=>(∃v,e=.returned v)/\J L W':=by
 refine callsIn_of_wp Tryz.func57 rfl trivial ?_ rfl
 simp only [Tryz.ntmps57,List.size_toArray,List.length_cons,List.length_nil,Nat.reduceAdd,Nat.reduceSub,Array.replicate_succ,Array.replicate_zero,List.push_toArray,List.append_toArray,List.nil_append,List.cons_append]
 obtain ⟨m0,-⟩:=hc [] W h0
 gi_wp2
 clear m0
 gi_loopw [7] (fun vi wr=>∃i:Nat,vi=.int .i64 i/\i<=L.length/\J (L.take i) wr) (fun vi _=>L.length - (intOf vi).toNat)
 case atStart=>exact ⟨0,rfl,Nat.zero_le _,h0⟩
 case round =>
  obtain ⟨i,rfl,hi,hJ⟩:=hrel
  by_cases hlt:i < L.length
  ·obtain ⟨m1,m2⟩:=hc _ _ hJ
   obtain ⟨a,rfl,hcv,hat⟩:=ecs_at m2 hlt
   obtain ⟨x,hx⟩:∃x,L[i]=x:=⟨_,rfl⟩
   obtain ⟨e0,e1,e2,e3⟩:=hat i hlt
   rw [hx] at e0 e1 e2 e3
   obtain ⟨fn,tmps,assign,body,hy,hR⟩:=hY (L.take i) x (wr.alloc (.cells #[.string x.nm,.string x.ve,.string x.dg,.slice x.o x.n x.c] 43)) (hA _ _ _ hJ) (by simp;omega)
   have HTK:Hid (L.take i++[x]=L.take (i+1)):=by
    show _=_
    rw [List.take_succ_eq_append_getElem hlt,hx]
   unfold ecA at hy
   clear m1 m2 hat hx hJ
   gi_wp2
   refine hR.mono ?_
   rintro e W3 ⟨rfl,hJ3⟩
   have HJ3:Hid (J (L.take (i+1)) W3):=by show J _ _;rw [<-HTK.out];exact hJ3
   clear hJ3
   gi_wp2
   exact ⟨⟨i+1,by go_num,by omega,HJ3.out⟩,by simp [intOf];omega⟩
  ·have hil:i=L.length:=by omega
   have HJ3:Hid (J L wr):=by
    rw [hil,List.take_length] at hJ
    exact hJ
   clear hJ hil hi
   gi_wp2
   go_end0
   exact ⟨⟨_,rfl⟩,HJ3.out⟩
end Go.Proofs.YtpeghomkaphdcaaGreatDoor
namespace Go.Proofs.YtpeghomkaphdcaaGreatDoor
open Go.RowKit Go.Maps Go.Sort Go.Shelf
set_option linter.unusedVariables false
attribute [local go_sem] Oper.semAt_some
set_option maxRecDepth 100000 in
set_option maxHeartbeats 6400000 in
theorem appE (bm:Nat) (o:Option Addr) (c:Nat) (L:List Ec) (hL:L.length<=1048576) (w:World) (hbm:w.heap[bm]?=some (.cells #[.slice o L.length c] 23 (0,0))) (htx:EcS w (.slice o L.length c) L) :
  CallsIn Fence.wide 4 Tryz.prog 79 #[.slice none 0 0,.func (.func 57) #[] #[.pointer (some ⟨bm,0,none⟩)]] w fun e w'=>∃v,e=.returned v/\w'.ownsRow w.heap.size 43 4 v L.length (L.flatMap ecC)/\Below w.heap.size w w':=by
 have hinfo2:=infoEn
 obtain ⟨j0,hj0,hjj⟩:=Option.map_eq_some_iff.1 hinfo2
 simp only [Prod.mk.injEq] at hjj
 obtain ⟨hy0,hy1,hyb⟩:=hjj
 clear hinfo2
 have HBM:Hid (w.heap[bm]?=some (.cells #[.slice o L.length c] 23 (0,0))/\EcS w (.slice o L.length c) L):=⟨hbm,htx⟩
 have hbl:bm < w.heap.size:=(Array.getElem?_eq_some_iff.1 hbm).1
 clear hbm htx
 refine callsIn_of_wp_marks Tryz.func79 rfl trivial ?_ rfl
 simp only [Tryz.ntmps79,List.size_toArray,List.length_cons,List.length_nil,Nat.reduceAdd,Nat.reduceSub,Array.replicate_succ,Array.replicate_zero,List.push_toArray,List.append_toArray,List.nil_append,List.cons_append]
 gi_wp2
 refine range_in (gf:=57) (lb:=#[.pointer (some ⟨bm,0,none⟩)]) rfl (enters_of Tryz.func57 (by kernel_rfl) rfl) ?_
 intro r W4 hr1 hr2 hr3 hr4 hr5 hr6 hW4
 obtain ⟨B,hB⟩:∃B,w.heap.size=B:=⟨_,rfl⟩
 have hs1:(w.alloc (.cells #[.slice none 0 0] 23)).heap.size=B+1:=by rw [World.size_alloc,hB]
 rw [hs1]
 have q0:W4.heap[B]?=some (.cells #[.slice none 0 0] 23 (0,0)):=by
  rw [<-hW4,Below.heap_alloc _ _ _ (by simp;omega),Below.heap_alloc _ _ _ (by simp;omega),<-hB]
  exact heap_alloc_new w _
 have qd:W4.heap[B+1]?=some (.deferred (some [])):=by
  rw [<-hW4,Below.heap_alloc _ _ _ (by simp;omega),<-hs1]
  exact heap_alloc_new _ _
 have ql:W4.heap[B+2]?=some (.loop r):=by
  rw [<-hW4]
  have:=heap_alloc_new ((w.alloc (.cells #[.slice none 0 0] 23)).alloc (.deferred (some []))) (.loop r)
  rw [World.size_alloc,hs1] at this
  exact this
 have b4:Below w.heap.size w W4:=by
  rw [<-hW4]
  exact (((Below.refl _ _).alloc (Nat.le_refl _) _).alloc (by simp) _).alloc (by simp;omega) _
 have HB:Hid (w.heap.size=B):=hB
 clear hW4 hs1
 have hbB:bm < B:=by omega
 have hcl:∀W,Below w.heap.size w W->W.cell? ⟨bm,0,none⟩=some (.slice o L.length c)/\EcS W (.slice o L.length c) L:=fun W hb=>by
  refine ⟨?_,HBM.out.2.grow (bel_gb hb)⟩
  rw [Lib.cell_of_heap ((hb.block bm hbl).trans HBM.out.1)]
  rfl
 refine (iterE 3 (B+2) bm (by omega) o c L hL (fun pre W=>(∃v,W.heap[B]?=some (.cells #[v] 23 (0,0))/\W.ownsRow w.heap.size 43 4 v pre.length (pre.flatMap ecC))/\W.heap[B+2]?=some (.loop r)/\W.heap[B+1]?=some (.deferred (some []))/\Below w.heap.size w W)
  ?al (fun pre W h=>hcl W h.2.2.2) ?yl W4 ⟨⟨_,q0,World.ownsRow_nil _ _ _ _⟩,ql,qd,b4⟩).mono ?fin
 case al =>
  rintro pre W ob ⟨⟨v,k1,k2⟩,k3,k4,k5⟩
  have z1:=(Array.getElem?_eq_some_iff.1 k1).1
  have z3:=(Array.getElem?_eq_some_iff.1 k3).1
  have z4:=(Array.getElem?_eq_some_iff.1 k4).1
  exact ⟨⟨v,(Below.heap_alloc _ _ _ z1).trans k1,k2.alloc _⟩,(Below.heap_alloc _ _ _ z3).trans k3,(Below.heap_alloc _ _ _ z4).trans k4,k5.alloc k5.size _⟩
 case fin =>
  rintro e W5 ⟨⟨v,rfl⟩,⟨v5,qv,qr⟩,q2,q3,q4⟩
  obtain ⟨W6,hW6⟩:∃W6,W5.putObj (B+2) (Obj.loop { r with state:=.exhausted })=W6:=⟨_,rfl⟩
  have hel:=run_endLoop (P:=Tryz.prog) q2 (by rw [hr1];simp)
  rw [hW6,hr2] at hel
  refine ⟨none,W6,hel,?_⟩
  clear hel
  have p1:W6.heap[B]?=some (.cells #[v5] 23 (0,0)):=by rw [<-hW6];exact (World.putObj_heap_other (by omega)).trans qv
  have p3:W6.heap[B+1]?=some (.deferred (some [])):=by rw [<-hW6];exact (World.putObj_heap_other (by omega)).trans q3
  have pg:W5.grownBy W6 (some (B+2)):=by rw [<-hW6];exact gb_put _ _ _
  have pr:W6.ownsRow w.heap.size 43 4 v5 L.length (L.flatMap ecC):=qr.kept pg (ownsRow_ne_a qr q2 (fun cur e=>by cases e))
  have p4:Below w.heap.size w W6:=q4.grown pg q4.size (fun k e=>by cases e;omega)
  obtain ⟨pc,pf⟩:=cell_of_box_a p1
  have HPR:Hid (W6.ownsRow w.heap.size 43 4 v5 L.length (L.flatMap ecC)):=pr
  have hpb:=HB.out
  clear hW6 qv qr q2 q3 q4 hr4 hr5 hr6 q0 qd ql b4 pg pr
  try rw [hpb]
  simp only [List.cons_append,List.nil_append]
  gi_wp2
  refine ⟨by simp,.inl ⟨_,_,rfl,run_takeDeferred p3,?_⟩⟩
  refine ⟨_,results_tmp rfl _ _ _,?_⟩
  exact ⟨v5,rfl,HPR.out.kept (gb_put _ _ _) (ownsRow_ne_a HPR.out p3 (fun cur e=>by cases e)),p4.grown (gb_put _ _ _) p4.size (fun k e=>by cases e;omega)⟩
 case yl =>
  rintro pre x W5 ⟨⟨v5,qv,qr⟩,q2,q3,q4⟩ hlen
  refine yield_in q2 (by rw [hr3];rfl) ?_
  rw [hr3,hr4,hr5,hr6]
  have z1:=(Array.getElem?_eq_some_iff.1 qv).1
  have z2:=(Array.getElem?_eq_some_iff.1 q2).1
  have z3:=(Array.getElem?_eq_some_iff.1 q3).1
  have a1:(W5.alloc (.cells #[.string x.nm,.string x.ve,.string x.dg,.slice x.o x.n x.c] 43)).heap[B]?=_:=(Below.heap_alloc _ _ _ z1).trans qv
  have a2:(W5.alloc (.cells #[.string x.nm,.string x.ve,.string x.dg,.slice x.o x.n x.c] 43)).heap[B+2]?=_:=(Below.heap_alloc _ _ _ z2).trans q2
  have a3:(W5.alloc (.cells #[.string x.nm,.string x.ve,.string x.dg,.slice x.o x.n x.c] 43)).heap[B+1]?=_:=(Below.heap_alloc _ _ _ z3).trans q3
  have a4:=q4.alloc q4.size (.cells #[.string x.nm,.string x.ve,.string x.dg,.slice x.o x.n x.c] 43)
  have ar:=qr.alloc (.cells #[.string x.nm,.string x.ve,.string x.dg,.slice x.o x.n x.c] 43)
  have a5:=heap_alloc_new W5 (.cells #[.string x.nm,.string x.ve,.string x.dg,.slice x.o x.n x.c] 43)
  obtain ⟨W6,hW6⟩:∃W6,(W5.alloc (.cells #[.string x.nm,.string x.ve,.string x.dg,.slice x.o x.n x.c] 43)).putObj (B+2) (Obj.loop { r with state:=.busy })=W6:=⟨_,rfl⟩
  have hbr:=run_beginRound (P:=Tryz.prog) a2 hr1
  rw [hW6] at hbr
  have l2:B+2 < (W5.alloc (.cells #[.string x.nm,.string x.ve,.string x.dg,.slice x.o x.n x.c] 43)).heap.size:=(Array.getElem?_eq_some_iff.1 a2).1
  have pg:(W5.alloc (.cells #[.string x.nm,.string x.ve,.string x.dg,.slice x.o x.n x.c] 43)).grownBy W6 (some (B+2)):=by rw [<-hW6];exact gb_put _ _ _
  have p1:W6.heap[B]?=some (.cells #[v5] 23 (0,0)):=by rw [<-hW6];exact (World.putObj_heap_other (by omega)).trans a1
  have p2:W6.heap[B+2]?=some (.loop { r with state:=.busy }):=by rw [<-hW6];exact World.putObj_heap_same l2
  have p3:W6.heap[B+1]?=some (.deferred (some [])):=by rw [<-hW6];exact (World.putObj_heap_other (by omega)).trans a3
  obtain ⟨g0,g1,g2,g3⟩:=en_block (show W6.heap[W5.heap.size]?=_ by rw [<-hW6];exact (World.putObj_heap_other (by omega)).trans a5)
  have pr:W6.ownsRow w.heap.size 43 4 v5 pre.length (pre.flatMap ecC):=ar.kept pg (ownsRow_ne_a ar a2 (fun cur e=>by cases e))
  have p4:Below w.heap.size w W6:=a4.grown pg a4.size (fun k e=>by cases e;omega)
  obtain ⟨pc,pf⟩:=cell_of_box_a p1
  have hz6:=p4.size
  have hB6:B < W6.heap.size:=(Array.getElem?_eq_some_iff.1 p1).1
  have hD6:B+1 < W6.heap.size:=(Array.getElem?_eq_some_iff.1 p3).1
  have hl6:B+2 < W6.heap.size:=(Array.getElem?_eq_some_iff.1 p2).1
  have ne_of:∀{j:Nat} {ob:Obj},W6.heap[j]?=some ob->(∀cur,ob ≠ .cells cur 43 (0,0))->some j ≠ v5.ownBlock:=fun hj hno=>by
   rcases ownsRow_ne_a pr hj hno with e | e
   ·rw [e];simp
   ·exact fun e'=>e e'.symm
  have nB:=ne_of p1 (fun cur e=>by simp at e)
  have nl:=ne_of p2 (fun cur e=>by cases e)
  have nD:=ne_of p3 (fun cur e=>by cases e)
  have hpb:=HB.out
  have hlen2:pre.length < 1048576:=by omega
  clear hW6 qv qr q3 q4 q0 qd ql b4 pg a1 a2 a3 a4 ar a5 z1 z2 z3 l2
  rw [hpb]
  clear q2
  unfold ecA
  gi_wp2_with (first
   | (gi_at_builtin;refine wpListIn_append_own _ rfl _ _ 23 rfl w.heap.size 43 j0 _ 4 72 Tryz.underlying23 hj0 hy0 hy1 hyb rfl (by decide) _ _ _ rfl (pr.alloc _) ⟨W6.heap.size,0,none⟩ 1 1 (ecC x) rfl rfl (World.news_of_block (heap_alloc_new _ _)) (ecc_one x) (by unfold maxLen;omega) (by omega) (by simp;omega) ?_;intro v' w3 hown' hg3 hnil3
      have hv3:w3.heap[B]?=some (.cells #[v5] 23 (0,0)):=(hg3.block B (by simp;omega) nB).trans ((Below.heap_alloc _ _ B hB6).trans p1)
      obtain ⟨hc3,hf3⟩:=cell_of_box_a hv3
      obtain ⟨g',cap',cur',rfl,hbase',hgb',hr1',hr2',hr3',hr4'⟩:∃g' cap' cur',v'=.slice (some ⟨g',0,none⟩) (pre.length+1) cap'/\w.heap.size<=g'/\w3.heap[g']?=some (.cells cur' 43 (0,0))/\pre.length+1<=cap'/\cap'<=maxLen/\cur'.size=cap' * 4/\cur'.toList.take ((pre.length+1) * 4)=pre.flatMap ecC++ecC x:=by
       rcases hown'.2 with ⟨_,h0⟩ | h'
       ·exact absurd h0 (by omega)
       ·exact h'
      go_frame)
   | gi_in)
  have hg3':(W6.alloc (.cells #[.string x.nm,.string x.ve,.string x.dg,.slice x.o x.n x.c] 43)).grownBy w3 v5.ownBlock:=hg3
  have hL3:w3.heap[B+2]?=some (.loop { r with state:=.busy }):=(hg3'.block (B+2) (by simp;omega) nl).trans ((Below.heap_alloc _ _ _ hl6).trans p2)
  have hK3:w3.heap[B+1]?=some (.deferred (some [])):=(hg3'.block (B+1) (by simp;omega) nD).trans ((Below.heap_alloc _ _ _ hD6).trans p3)
  obtain ⟨w4,hw4⟩:∃w4,w3.setCell ⟨B,0,none⟩ (.slice (some ⟨g',0,none⟩) (pre.length+1) cap')=w4:=⟨_,rfl⟩
  rw [hw4]
  have hg4:w3.grownBy w4 (some B):=by rw [<-hw4];exact grownBy_setCell0_a _ _ _
  have hv4:w4.heap[B]?=some (.cells #[.slice (some ⟨g',0,none⟩) (pre.length+1) cap'] 23 (0,0)):=by rw [<-hw4];exact heap_setCell_box_a _ hv3
  have hL4:w4.heap[B+2]?=some (.loop { r with state:=.busy }):=(hg4.block (B+2) (Array.getElem?_eq_some_iff.1 hL3).1 (by simp)).trans hL3
  have hK4:w4.heap[B+1]?=some (.deferred (some [])):=(hg4.block (B+1) (Array.getElem?_eq_some_iff.1 hK3).1 (by simp)).trans hK3
  have hrow4:=hown'.kept hg4 (ownsRow_ne_a hown' hv3 (fun cur e=>by simp at e))
  have hl4:B+2 < w4.heap.size:=(Array.getElem?_eq_some_iff.1 hL4).1
  have hb3:Below w.heap.size w w3:=(p4.alloc p4.size _).grown hg3' (by simp;omega) (fun k e=>(pr.lt k e).1)
  have hb4:Below w.heap.size w w4:=hb3.grown hg4 hb3.size (fun k e=>by cases e;omega)
  clear hw4
  have hsz4:=hb4.size
  rw [hpb] at hb4 hrow4
  refine ⟨_,_,run_endRound none hL4,rfl,⟨_,(World.putObj_heap_other (by omega)).trans hv4,?_⟩,by rw [World.putObj_heap_same hl4,loop_back r hr1 hr2],(World.putObj_heap_other (by omega)).trans hK4,hb4.grown (gb_put _ _ _) (by omega) (fun k e=>by cases e;omega)⟩
  have:=hrow4.kept (gb_put w4 (B+2) (.loop { { r with state:=.busy } with state:=if (none:Option Code).isNone then .ready else .done,pending:=none })) (ownsRow_ne_a hrow4 hL4 (fun cur e=>by cases e))
  exact this
end Go.Proofs.YtpeghomkaphdcaaGreatDoor
namespace Go.Proofs
open Go.Shelf
def Tryz.laysSort_ren:Go.Shelf.Ren:=⟨fun | 6=>56 | 14=>80 | 15=>68 | 20=>107 | 21=>108 | 22=>109 | 23=>110 | 24=>111 | 25=>112 | 26=>113 | 27=>114 | 28=>97 | 29=>98 | 46=>136 | 47=>122 | 48=>123 | 49=>137 | 50=>138 | 57=>152 | n=>n,fun | 22=>23 | 23=>92 | 24=>43 | 25=>80 | 27=>165 | 29=>109 | 37=>114 | 38=>101 | 39=>102 | 40=>73 | 42=>166 | 44=>144 | 45=>126 | 46=>127 | 47=>145 | 48=>146 | 49=>147 | 50=>72 | 51=>148 | 52=>133 | 53=>134 | 54=>135 | 55=>136 | 66=>154 | 67=>155 | 68=>156 | 69=>173 | 70=>158 | 71=>174 | 76=>180 | 77=>181 | 78=>192 | 81=>68 | 82=>216 | 83=>217 | 84=>218 | 85=>219 | 86=>220 | 87=>120 | 88=>221 | 89=>222 | 90=>223 | 91=>85 | 92=>224 | 93=>225 | 94=>226 | 95=>227 | 96=>103 | n=>n,fun n=>n⟩
set_option maxRecDepth 100000 in
theorem Tryz.laysSort:Go.Proofs.SlLaysF0.n6 Tryz.prog Tryz.laysSort_ren:={
 mixed:=by kernel_rfl
 f6:=⟨ "slices.SortFunc[[]pantry/api.Entry,pantry/api.Entry]",by decide,Tryz.func56.trans (congrArg some (by kernel_rfl))⟩
 f14:=⟨ "slices.pdqsortCmpFunc[pantry/api.Entry]",by decide,Tryz.func80.trans (congrArg some (by kernel_rfl))⟩
 f15:=Tryz.func68.trans (congrArg some (by kernel_rfl))
 f20:=⟨ "slices.insertionSortCmpFunc[pantry/api.Entry]",by decide,Tryz.func107.trans (congrArg some (by kernel_rfl))⟩
 f21:=⟨ "slices.heapSortCmpFunc[pantry/api.Entry]",by decide,Tryz.func108.trans (congrArg some (by kernel_rfl))⟩
 f22:=⟨ "slices.breakPatternsCmpFunc[pantry/api.Entry]",by decide,Tryz.func109.trans (congrArg some (by kernel_rfl))⟩
 f23:=⟨ "slices.choosePivotCmpFunc[pantry/api.Entry]",by decide,Tryz.func110.trans (congrArg some (by kernel_rfl))⟩
 f24:=⟨ "slices.reverseRangeCmpFunc[pantry/api.Entry]",by decide,Tryz.func111.trans (congrArg some (by kernel_rfl))⟩
 f25:=⟨ "slices.partialInsertionSortCmpFunc[pantry/api.Entry]",by decide,Tryz.func112.trans (congrArg some (by kernel_rfl))⟩
 f26:=⟨ "slices.partitionEqualCmpFunc[pantry/api.Entry]",by decide,Tryz.func113.trans (congrArg some (by kernel_rfl))⟩
 f27:=⟨ "slices.partitionCmpFunc[pantry/api.Entry]",by decide,Tryz.func114.trans (congrArg some (by kernel_rfl))⟩
 f28:=Tryz.func97.trans (congrArg some (by kernel_rfl))
 f29:=Tryz.func98.trans (congrArg some (by kernel_rfl))
 f46:=⟨ "slices.siftDownCmpFunc[pantry/api.Entry]",by decide,Tryz.func136.trans (congrArg some (by kernel_rfl))⟩
 f47:=Tryz.func122.trans (congrArg some (by kernel_rfl))
 f48:=Tryz.func123.trans (congrArg some (by kernel_rfl))
 f49:=⟨ "slices.medianAdjacentCmpFunc[pantry/api.Entry]",by decide,Tryz.func137.trans (congrArg some (by kernel_rfl))⟩
 f50:=⟨ "slices.medianCmpFunc[pantry/api.Entry]",by decide,Tryz.func138.trans (congrArg some (by kernel_rfl))⟩
 f57:=⟨ "slices.order2CmpFunc[pantry/api.Entry]",by decide,Tryz.func152.trans (congrArg some (by kernel_rfl))⟩
 t0:=Tryz.underlying0
 a0:=Tryz.isAgg0
 z0:=Tryz.sizeOf0
 v0:=Tryz.zeroValue0
 t3:=Tryz.underlying3
 a3:=Tryz.isAgg3
 z3:=Tryz.sizeOf3
 v3:=Tryz.zeroValue3
 t4:=Tryz.underlying4
 a4:=Tryz.isAgg4
 z4:=Tryz.sizeOf4
 v4:=Tryz.zeroValue4
 t5:=Tryz.underlying5
 a5:=Tryz.isAgg5
 z5:=Tryz.sizeOf5
 v5:=Tryz.zeroValue5
 t9:=Tryz.underlying9
 a9:=Tryz.isAgg9
 z9:=Tryz.sizeOf9
 v9:=Tryz.zeroValue9
 t22:=Tryz.underlying23
 a22:=Tryz.isAgg23
 z22:=Tryz.sizeOf23
 v22:=Tryz.zeroValue23
 t25:=Tryz.underlying80
 a25:=Tryz.isAgg80
 z25:=Tryz.sizeOf80
 v25:=Tryz.zeroValue80
 t39:=Tryz.underlying102
 a39:=Tryz.isAgg102
 z39:=Tryz.sizeOf102
 v39:=Tryz.zeroValue102
 t45:=Tryz.underlying126
 a45:=Tryz.isAgg126
 z45:=Tryz.sizeOf126
 v45:=Tryz.zeroValue126
 t46:=Tryz.underlying127
 a46:=Tryz.isAgg127
 z46:=Tryz.sizeOf127
 v46:=Tryz.zeroValue127
 t50:=Tryz.underlying72
 a50:=Tryz.isAgg72
 z50:=Tryz.sizeOf72
 v50:=Tryz.zeroValue72
 t53:=Tryz.underlying134
 a53:=Tryz.isAgg134
 z53:=Tryz.sizeOf134
 v53:=Tryz.zeroValue134
 t55:=Tryz.underlying136
 a55:=Tryz.isAgg136
 z55:=Tryz.sizeOf136
 v55:=Tryz.zeroValue136
 t66:=Tryz.underlying154
 a66:=Tryz.isAgg154
 z66:=Tryz.sizeOf154
 v66:=Tryz.zeroValue154
 t70:=Tryz.underlying158
 a70:=Tryz.isAgg158
 z70:=Tryz.sizeOf158
 v70:=Tryz.zeroValue158
 t76:=Tryz.underlying180
 a76:=Tryz.isAgg180
 z76:=Tryz.sizeOf180
 v76:=Tryz.zeroValue180
 t77:=Tryz.underlying181
 a77:=Tryz.isAgg181
 z77:=Tryz.sizeOf181
 v77:=Tryz.zeroValue181 }
end Go.Proofs
