import Derived.Test.YtbbmbnpebiakbaaGreatDoorB10
import Derived.Test.YtbbmbnpebiakbaaGreatDoorB06
import Derived.Test.YtbbmbnpebiakbaaGreatDoorB02
import Derived.WalkLawsBesides
namespace Go.Proofs.YtbbmbnpebiakbaaGreatDoor
open Go.RowKit Go.Maps
set_option linter.unusedVariables false
theorem txt_eq {a b:ByteArray} (h:a=b):(a.toList == b.toList)=true:=by rw [h];simp
theorem txt_ne {a b:ByteArray} (h:¬ a=b):(a.toList == b.toList)=false:=by
 cases hb:(a.toList == b.toList) with
 | false=>rfl
 | true =>
  exfalso
  apply h
  have h2:a.toList=b.toList:=by simpa using hb
  rw [Lib.toList_data,Lib.toList_data] at h2
  apply ByteArray.ext
  exact Array.ext' h2
theorem txs_at {w:World} {o:Option Addr} {c:Nat} {L:List ByteArray} (h:TxS w (.slice o L.length c) L) {i:Nat} (hi:i < L.length):∃a,o=some a/\L.length<=c/\∀j (hj:j < L.length),w.cell? (a.add j)=some (.string L[j]):=by
 rcases h with ⟨h1,h2⟩ | ⟨a,cap,h1,h2,h3⟩
 ·rw [h2] at hi;simp at hi
 ·cases h1
  exact ⟨a,rfl,h2,h3⟩
set_option maxRecDepth 100000 in
set_option maxHeartbeats 800000 in
theorem txIndex_any (o:Option Addr) (n c:Nat) (x:ByteArray) (L:List ByteArray) (w:World) (hn:n=L.length) (h:TxS w (.slice o n c) L) (hL:L.length<=1048576) :
  Calls Tryz.prog 78 #[.slice o n c,.string x] w fun e w'=>∃k:Int,e=.returned (.int .i64 k)/\w.grownBy w' none/\(0<=k ↔ L.any (fun y=>decide (y=x))=true):=by
 subst hn
 have H1:Hid (TxS w (.slice o L.length c) L):=h
 have HN:Hid ((L.take L.length).any (fun y=>decide (y=x))=false->L.any (fun y=>decide (y=x))=false):=fun h=>by rwa [List.take_length] at h
 clear h
 go_enter Tryz.func78,Tryz.ntmps78
 go_wp2
 go_loopw [8] (fun vi wr=>∃i:Nat,vi=.int .i64 i/\i<=L.length/\(L.take i).any (fun y=>decide (y=x))=false/\w.grownBy wr none) (fun vi _=>L.length - (intOf vi).toNat)
 case atStart=>exact ⟨0,rfl,Nat.zero_le _,rfl,gb_refl _ _⟩
 case round =>
  obtain ⟨i,rfl,hi,hf,hg⟩:=hrel
  have HF:Hid ((L.take i).any (fun y=>decide (y=x))=false):=hf
  have HG:Hid (w.grownBy wr none):=hg
  by_cases hlt:i < L.length
  ·obtain ⟨a,rfl,hcv,hat⟩:=txs_at (H1.out.grow hg) hlt
   have e0:=hat i hlt
   obtain ⟨y,hy⟩:∃y,L[i]=y:=⟨_,rfl⟩
   rw [hy] at e0
   have HY:Hid (L[i]=y):=hy
   clear hf hg hat hy
   by_cases hxy:x=y
   ·have q:=txt_eq hxy
    have HT:Hid (L.any (fun y=>decide (y=x))=true):=by
     show _=_
     rw [List.any_eq_true]
     exact ⟨L[i],List.getElem_mem _,by rw [HY.out];simp [hxy]⟩
    clear hxy
    go_wp2
    go_ret
    exact ⟨(i:Int),rfl,HG.out,fun _=>HT.out,fun _=>by omega⟩
   ·have q:=txt_ne hxy
    have HT:Hid ((L.take (i+1)).any (fun y=>decide (y=x))=false):=by
     show _=_
     rw [List.take_succ_eq_append_getElem hlt,List.any_append,HF.out,HY.out]
     simp
     exact fun e=>hxy e.symm
    clear hxy
    go_wp2
    exact ⟨⟨i+1,by go_num,by omega,HT.out,HG.out⟩,by simp [intOf];omega⟩
  ·have hil:i=L.length:=by omega
   have HT:Hid (L.any (fun y=>decide (y=x))=false):=HN.out (by rw [<-hil];exact hf)
   clear hf hg hil hi
   go_wp2
   go_ret
   exact ⟨-1,rfl,HG.out,fun h=>by omega,fun h=>by rw [HT.out] at h;cases h⟩
set_option maxRecDepth 100000 in
set_option maxHeartbeats 1600000 in
theorem txContains_any (o:Option Addr) (n c:Nat) (x:ByteArray) (L:List ByteArray) (w:World) (hn:n=L.length) (h:TxS w (.slice o n c) L) (hL:L.length<=1048576) :
  Calls Tryz.prog 54 #[.slice o n c,.string x] w fun e w'=>e=.returned (.bool (L.any (fun y=>decide (y=x))))/\w.grownBy w' none:=by
 have CI:Hid (Calls Tryz.prog 78 #[.slice o n c,.string x] w fun e w'=>∃k:Int,e=.returned (.int .i64 k)/\w.grownBy w' none/\(0<=k ↔ L.any (fun y=>decide (y=x))=true)):=txIndex_any o n c x L w hn h hL
 obtain ⟨q,hq⟩:∃q,L.any (fun y=>decide (y=x))=q:=⟨_,rfl⟩
 rw [hq] at CI ⊢
 clear h hq hL hn
 cases q with
 | true =>
  have CJ:Hid (Calls Tryz.prog 78 #[.slice o n c,.string x] w fun e w'=>(∃k:Int,e=.returned (.int .i64 k)/\0<=k)/\w.grownBy w' none):=CI.out.mono fun e w' ⟨k,h1,h2,h3⟩=>⟨⟨k,h1,h3.2 rfl⟩,h2⟩
  clear CI
  go_enter Tryz.func54,Tryz.ntmps54
  go_wp2_with (first | (go_at_call 78;refine CJ.out.mono ?_))
  rintro e w1 ⟨⟨k,rfl,hk⟩,hg⟩
  go_wp2
  go_ret
  exact ⟨ret_bool (by first | rfl | (simp;done) | (simp;omega)),hg⟩
 | false =>
  have CJ:Hid (Calls Tryz.prog 78 #[.slice o n c,.string x] w fun e w'=>(∃k:Int,e=.returned (.int .i64 k)/\k < 0)/\w.grownBy w' none):=CI.out.mono fun e w' ⟨k,h1,h2,h3⟩=>⟨⟨k,h1,Int.not_le.1 fun h=>by have:=h3.1 h;cases this⟩,h2⟩
  clear CI
  go_enter Tryz.func54,Tryz.ntmps54
  go_wp2_with (first | (go_at_call 78;refine CJ.out.mono ?_))
  rintro e w1 ⟨⟨k,rfl,hk⟩,hg⟩
  go_wp2
  go_ret
  exact ⟨ret_bool (by first | rfl | (simp;done) | (simp;omega)),hg⟩
theorem txs_take {w:World} {a:Addr} {cap:Nat} {L:List ByteArray} (i:Nat) (hi:i<=L.length) (hc:L.length<=cap) (h:∀j (hj:j < L.length),w.cell? (a.add j)=some (.string L[j])):TxS w (.slice (some a) i cap) (L.take i):=by
 have hl:(L.take i).length=i:=by simp;omega
 refine Or.inr ⟨a,cap,by rw [hl],by omega,fun j hj=>?_⟩
 rw [List.getElem_take]
 exact h j (by omega)
set_option maxRecDepth 100000 in
set_option maxHeartbeats 1600000 in
theorem bTwice_any (v:Value) (L:List ByteArray) (w:World) (h:TxS w v L) (hL:L.length<=1048576) :
  Calls Tryz.prog 33 #[v] w fun e w'=>e=.returned (.bool (twS L L.length))/\w.grownBy w' none:=by
 have H1:Hid (TxS w v L):=h
 have CC:Hid (∀(a:Addr) (i c:Nat) (x:ByteArray) (w:World),i<=L.length->TxS w (.slice (some a) i c) (L.take i)->Calls Tryz.prog 54 #[.slice (some a) i c,.string x] w fun e w'=>e=.returned (.bool ((L.take i).any (fun y=>decide (y=x))))/\w.grownBy w' none):=fun a i c x w hi h=>txContains_any (some a) i c x (L.take i) w (by simp;omega) h (by simp;omega)
 obtain ⟨o,c,rfl⟩:=txs_slice h
 have HH:Hid (∀i (hi:i < L.length),(L.take i).any (fun y=>decide (y=L[i]))=true->twS L L.length=true):=tws_hit L
 obtain ⟨R,hR⟩:∃R,twS L L.length=R:=⟨_,rfl⟩
 have HR:Hid (twS L L.length=R):=hR
 rw [hR] at HH ⊢
 clear h hR
 go_enter Tryz.func33,Tryz.ntmps33
 go_wp2
 go_loopw [7] (fun vi wr=>∃i:Nat,vi=.int .i64 i/\i<=L.length/\twS L i=false/\w.grownBy wr none) (fun vi _=>L.length - (intOf vi).toNat)
 case atStart=>exact ⟨0,rfl,Nat.zero_le _,rfl,gb_refl _ _⟩
 case round =>
  obtain ⟨i,rfl,hi,hf,hg⟩:=hrel
  have HF:Hid (twS L i=false):=hf
  have HG:Hid (w.grownBy wr none):=hg
  by_cases hlt:i < L.length
  ·obtain ⟨a,rfl,hcv,hat⟩:=txs_at (H1.out.grow hg) hlt
   have e0:=hat i hlt
   obtain ⟨y,hy⟩:∃y,L[i]=y:=⟨_,rfl⟩
   rw [hy] at e0
   have CY:Hid (Calls Tryz.prog 54 #[.slice (some a) i c,.string y] wr fun e w'=>e=.returned (.bool ((L.take i).any (fun z=>decide (z=y))))/\wr.grownBy w' none):=CC.out a i c y wr (by omega) (txs_take i (by omega) hcv hat)
   have HT:Hid ((L.take i).any (fun z=>decide (z=y))=true->R=true):=fun h=>(HH.out i hlt (by rw [hy];exact h)).symm ▸ rfl
   have HS:Hid ((L.take i).any (fun z=>decide (z=y))=false->twS L (i+1)=false):=fun h=>tws_miss L i hlt (by rw [hy];exact h) HF.out
   obtain ⟨q,hq⟩:∃q,(L.take i).any (fun z=>decide (z=y))=q:=⟨_,rfl⟩
   rw [hq] at CY HT HS
   have hic:(i:Int)<=c:=by omega
   clear hf hg hat hy hq
   cases q with
   | true =>
    go_wp2_with (first | (go_at_call 54;refine CY.out.mono ?_;rintro e w3 ⟨rfl,hg3⟩))
    go_ret
    exact ⟨ret_bool (HT.out (by trivial)).symm,gb_trans HG.out hg3⟩
   | false =>
    go_wp2_with (first | (go_at_call 54;refine CY.out.mono ?_;rintro e w3 ⟨rfl,hg3⟩))
    exact ⟨⟨i+1,by go_num,by omega,HS.out (by trivial),gb_trans HG.out hg3⟩,by simp [intOf];omega⟩
  ·have hil:i=L.length:=by omega
   have HT:Hid (R=false):=HR.out.symm.trans (by rw [<-hil];exact hf)
   clear hf hg hil hi
   go_wp2
   go_ret
   exact ⟨ret_bool HT.out.symm,HG.out⟩
theorem bIsVersion_any (s:ByteArray) (w:World) (hs:s.size < 2 ^ 62):Calls Tryz.prog 52 #[.string s] w fun e w'=>e=.returned (.bool (okV s))/\w.grownBy w' none:=by
 have CR:Hid (∀w,Calls Tryz.prog 70 #[.string s] w fun e w'=>(∃(x1 x2 x3:Int) (x4 x5:ByteArray) (k:Int),e=.returned (.tuple #[.agg #[.int .i64 x1,.int .i64 x2,.int .i64 x3,.string x4,.string x5],.int .i64 (parseV s.data.toList).1,.int .i64 k]))/\w.grownBy w' none):=fun w=>(parse_any s w hs).mono fun e w' ⟨h1,h2⟩=>⟨⟨_,_,_,_,_,_,h1⟩,h2⟩
 unfold okV
 obtain ⟨E,hE⟩:∃E,(parseV s.data.toList).1=E:=⟨_,rfl⟩
 rw [hE] at CR ⊢
 clear hE
 have hd:decide (E=0)=(E == 0):=by rw [Bool.eq_iff_iff];simp
 rw [hd]
 clear hd
 go_enter Tryz.func52,Tryz.ntmps52
 go_wp2_with (first | (go_at_call 70;refine (CR.out _).mono ?_))
 rintro e w1 ⟨⟨x1,x2,x3,x4,x5,k,rfl⟩,hg⟩
 cases hz:(E == 0) with
 | true =>
  go_wp2
  go_ret
  exact ⟨ret_bool hz.symm,gb_alloc hg _⟩
 | false =>
  go_wp2
  go_ret
  exact ⟨ret_bool hz.symm,gb_alloc hg _⟩
theorem en_block {w:World} {N:Nat} {n v d:ByteArray} {sv:Value} {t:TypeId} (h:w.heap[N]?=some (.cells #[.string n,.string v,.string d,sv] t (0,0))):w.cell? ⟨N,0,none⟩=some (.string n)/\w.cell? ⟨N,1,none⟩=some (.string v)/\w.cell? ⟨N,2,none⟩=some (.string d)/\w.cell? ⟨N,3,none⟩=some sv :=
 ⟨by rw [Lib.cell_of_heap h];rfl,by rw [Lib.cell_of_heap h];rfl,by rw [Lib.cell_of_heap h];rfl,by rw [Lib.cell_of_heap h];rfl⟩
set_option maxRecDepth 100000 in
set_option maxHeartbeats 3200000 in
theorem isEntry_any (x:En) (sv:Value) (w:World) (h:TxS w sv x.nd) (hL:x.nd.length<=1048576) (hS:x.nm.size < 2 ^ 60/\x.ve.size < 2 ^ 60/\x.dg.size < 2 ^ 60) (hN:∀y ∈ x.nd,y.size < 2 ^ 60) :
  Calls Tryz.prog 32 #[.agg #[.string x.nm,.string x.ve,.string x.dg,sv]] w fun e w'=>e=.returned (.bool (goodE x))/\w.grownBy w' none:=by
 have H1:Hid (TxS w sv x.nd):=h
 have CN:Hid (∀y ∈ x.nd,∀w,Calls Tryz.prog 51 #[.string y] w fun e w'=>e=.returned (.bool (nameB y))/\w'=w):=fun y hy w=>name_any y w (by have:=hN y hy;omega)
 have CM:Hid (∀w,Calls Tryz.prog 51 #[.string x.nm] w fun e w'=>e=.returned (.bool (nameB x.nm))/\w'=w):=fun w=>name_any x.nm w (by omega)
 have CV:Hid (∀w,Calls Tryz.prog 52 #[.string x.ve] w fun e w'=>e=.returned (.bool (okV x.ve))/\w.grownBy w' none):=fun w=>bIsVersion_any x.ve w (by omega)
 have CD:Hid (∀w,Calls Tryz.prog 53 #[.string x.dg] w fun e w'=>e=.returned (.bool (digB x.dg))/\w'=w):=fun w=>by
  have:=dgCheck_any x.dg w
  rw [chk_isDig] at this
  exact this
 obtain ⟨so,sc,rfl⟩:=txs_slice h
 have HG0:Hid (∀i (hi:i < x.nd.length),nameB x.nd[i]=false->goodE x=false):=fun i hi h=>by
  show goodE x=false
  unfold goodE
  rw [Bool.and_eq_false_iff]
  right
  rw [List.all_eq_false]
  exact ⟨x.nd[i],List.getElem_mem _,by rw [h];simp⟩
 have HG1:Hid (x.nd.all nameB=true->goodE x=(nameB x.nm && okV x.ve && digB x.dg)):=fun h=>by
  show goodE x=_
  unfold goodE
  rw [h,Bool.and_true]
 obtain ⟨R,hR⟩:∃R,goodE x=R:=⟨_,rfl⟩
 rw [hR] at HG0 HG1 ⊢
 obtain ⟨q1,hq1⟩:∃q,nameB x.nm=q:=⟨_,rfl⟩
 obtain ⟨q2,hq2⟩:∃q,okV x.ve=q:=⟨_,rfl⟩
 obtain ⟨q3,hq3⟩:∃q,digB x.dg=q:=⟨_,rfl⟩
 rw [hq1] at CM HG1
 rw [hq2] at CV HG1
 rw [hq3] at CD HG1
 obtain ⟨xn,xv,xd,N⟩:=x
 simp only [] at CM CV CD CN H1 HG0 HG1 hL ⊢
 clear h hS hN hR hq1 hq2 hq3
 obtain ⟨W0,hW0⟩:∃W,w.alloc (.cells #[.string xn,.string xv,.string xd,.slice so N.length sc] 43)=W:=⟨_,rfl⟩
 have HWE:Hid (w.alloc (.cells #[.string xn,.string xv,.string xd,.slice so N.length sc] 43)=W0):=hW0
 have HW0:Hid (w.grownBy W0 none/\W0.cell? ⟨w.heap.size,0,none⟩=some (.string xn)/\W0.cell? ⟨w.heap.size,1,none⟩=some (.string xv)/\W0.cell? ⟨w.heap.size,2,none⟩=some (.string xd)/\W0.cell? ⟨w.heap.size,3,none⟩=some (.slice so N.length sc)):=by
  rw [<-hW0]
  exact ⟨gb_alloc (gb_refl w none) _,en_block (heap_alloc_new w _)⟩
 go_enter Tryz.func32,Tryz.ntmps32
 clear hW0
 go_wp2
 go_loopw [8] (fun vi wr=>∃i:Nat,vi=.int .i64 i/\i<=N.length/\(N.take i).all nameB=true/\W0.grownBy wr none) (fun vi _=>N.length - (intOf vi).toNat)
 case atStart=>exact ⟨0,rfl,Nat.zero_le _,rfl,by rw [HWE.out];exact gb_refl _ _⟩
 case round =>
  obtain ⟨i,rfl,hi,hall,hg⟩:=hrel
  have HALL:Hid ((N.take i).all nameB=true):=hall
  have HGW:Hid (W0.grownBy wr none):=hg
  have HG:Hid (w.grownBy wr none):=gb_trans HW0.out.1 hg
  by_cases hlt:i < N.length
  ·obtain ⟨a,rfl,hcv,hat⟩:=txs_at (H1.out.grow HG.out) hlt
   have e0:=hat i hlt
   obtain ⟨y,hy⟩:∃y,N[i]=y:=⟨_,rfl⟩
   rw [hy] at e0
   have CY:Hid (∀w,Calls Tryz.prog 51 #[.string y] w fun e w'=>e=.returned (.bool (nameB y))/\w'=w):=fun w=>CN.out y (by rw [<-hy];exact List.getElem_mem _) w
   have HF:Hid (nameB y=false->R=false):=fun h=>HG0.out i hlt (by rw [hy];exact h)
   have HN:Hid (nameB y=true->(N.take (i+1)).all nameB=true):=fun h=>by
    rw [List.take_succ_eq_append_getElem hlt,List.all_append,HALL.out,hy]
    simp [h]
   obtain ⟨q,hq⟩:∃q,nameB y=q:=⟨_,rfl⟩
   rw [hq] at CY HF HN
   clear hall hg hat hy hq
   cases q with
   | false =>
    go_wp2_with (first | (go_at_call 51;refine (CY.out _).mono ?_;rintro e w' ⟨rfl,rfl⟩))
    go_ret
    exact ⟨ret_bool (HF.out (by trivial)).symm,HG.out⟩
   | true =>
    go_wp2_with (first | (go_at_call 51;refine (CY.out _).mono ?_;rintro e w' ⟨rfl,rfl⟩))
    exact ⟨⟨i+1,by go_num,by omega,HN.out (by trivial),HGW.out⟩,by simp [intOf];omega⟩
  ·have hil:i=N.length:=by omega
   have HR:Hid (R=(q1 && q2 && q3)):=HG1.out (by rw [hil,List.take_length] at hall;exact hall)
   have f0:=hg.cell HW0.out.2.1 (by simp)
   have f1:=hg.cell HW0.out.2.2.1 (by simp)
   have f2:=hg.cell HW0.out.2.2.2.1 (by simp)
   clear hall hg hil hi
   cases q1 with
   | false =>
    go_wp2_with (first | (go_at_call 51;refine (CM.out _).mono ?_;rintro e w' ⟨rfl,rfl⟩))
    go_ret
    exact ⟨ret_bool HR.out.symm,HG.out⟩
   | true =>
    go_wp2_with (first | (go_at_call 51;refine (CM.out _).mono ?_;rintro e w' ⟨rfl,rfl⟩) | (go_at_call 52;refine (CV.out _).mono ?_))
    rintro e w3 ⟨rfl,hg3⟩
    have HG3:Hid (w.grownBy w3 none):=gb_trans HG.out hg3
    have F2:=hg3.cell f2 (by simp)
    clear hg3 f0 f1 f2
    cases q2 with
    | false =>
     go_wp2
     go_ret
     exact ⟨ret_bool HR.out.symm,HG3.out⟩
    | true =>
     go_wp2_with (first | (go_at_call 53;refine (CD.out _).mono ?_;rintro e w' ⟨rfl,rfl⟩))
     go_ret
     exact ⟨ret_bool (by rw [HR.out];cases q3 <;> rfl),HG3.out⟩
open Go.RowKit
set_option linter.unusedVariables false
def EntI (L:List En) (n:ByteArray) (c:Int):Prop:=(c=-1/\hasNm L n=false)\/∃j,∃hj:j < L.length,c=(j:Int)/\L[j].nm=n/\hasNm (L.take j) n=false
theorem EntI.neg {L:List En} {n:ByteArray} {c:Int} (h:EntI L n c):c < 0 ↔ hasNm L n=false:=by
 rcases h with ⟨rfl,h⟩ | ⟨j,hj,rfl,h1,h2⟩
 ·exact ⟨fun _=>h,fun _=>by omega⟩
 ·refine ⟨fun h=>by omega,fun h=>?_⟩
  have:=nm_at L n L.length j hj hj h1
  rw [List.take_length,h] at this
  cases this
theorem EntI.lt {L:List En} {i:Nat} (hi:i < L.length) {c:Int} (h:EntI L L[i].nm c):c < (i:Int) ↔ hasNm (L.take i) L[i].nm=true:=by
 rcases h with ⟨rfl,h⟩ | ⟨j,hj,rfl,h1,h2⟩
 ·have:=nm_at L L[i].nm L.length i hi hi rfl
  rw [List.take_length,h] at this
  cases this
 ·refine ⟨fun h=>nm_at L _ i j hj (by omega) h1,fun h=>?_⟩
  apply Classical.byContradiction
  intro hn
  rw [nm_up L _ i j (by omega) h] at h2
  cases h2
theorem ens_at {w:World} {o:Option Addr} {c:Nat} {L:List En} (h:EnS w (.slice o L.length c) L) {i:Nat} (hi:i < L.length):∃a,o=some a/\L.length<=c/\∀j (hj:j < L.length),EnAt w (a.add (j * 4)) L[j]:=by
 rcases h with ⟨h1,h2⟩ | ⟨a,cap,h1,h2,h3⟩
 ·rw [h2] at hi;simp at hi
 ·cases h1
  exact ⟨a,rfl,h2,h3⟩
set_option maxRecDepth 100000 in
set_option maxHeartbeats 800000 in
theorem entryOf_any (v:Value) (L:List En) (n:ByteArray) (w:World) (h:EnS w v L) (hL:L.length<=1048576) :
  Calls Tryz.prog 29 #[v,.string n] w fun e w'=>∃c:Int,e=.returned (.int .i64 c)/\EntI L n c/\w.grownBy w' none:=by
 have H1:Hid (EnS w v L):=h
 obtain ⟨o,c,rfl⟩:=ens_slice h
 clear h
 go_enter Tryz.func29,Tryz.ntmps29
 go_wp2
 go_loopw [5] (fun vi wr=>∃i:Nat,vi=.int .i64 i/\i<=L.length/\hasNm (L.take i) n=false/\w.grownBy wr none) (fun vi _=>L.length - (intOf vi).toNat)
 case atStart=>exact ⟨0,rfl,Nat.zero_le _,rfl,gb_refl _ _⟩
 case round =>
  obtain ⟨i,rfl,hi,hf,hg⟩:=hrel
  have HF:Hid (hasNm (L.take i) n=false):=hf
  have HG:Hid (w.grownBy wr none):=hg
  by_cases hlt:i < L.length
  ·obtain ⟨a,rfl,hcv,hat⟩:=ens_at (H1.out.grow hg) hlt
   have e0:=(hat i hlt).1
   obtain ⟨y,hy⟩:∃y,L[i].nm=y:=⟨_,rfl⟩
   rw [hy] at e0
   have HY:Hid (L[i].nm=y):=hy
   clear hf hg hat hy
   by_cases hxy:y=n
   ·have q:=txt_eq hxy
    have HT:Hid (EntI L n (i:Int)):=Or.inr ⟨i,hlt,rfl,HY.out.trans hxy,HF.out⟩
    clear hxy
    go_wp2
    go_ret
    exact ⟨(i:Int),rfl,HT.out,HG.out⟩
   ·have q:=txt_ne hxy
    have HT:Hid (hasNm (L.take (i+1)) n=false):=by
     show _=_
     rw [nm_next L n i hlt,HF.out,HY.out]
     simp [hxy]
    clear hxy
    go_wp2
    exact ⟨⟨i+1,by go_num,by omega,HT.out,HG.out⟩,by simp [intOf];omega⟩
  ·have hil:i=L.length:=by omega
   have HT:Hid (EntI L n (-1)):=Or.inl ⟨rfl,by rw [hil,List.take_length] at hf;exact hf⟩
   clear hf hg hil hi
   go_wp2
   go_ret
   exact ⟨-1,rfl,HT.out,HG.out⟩
theorem fe_many {L:List En} {i:Nat} {x:En} (h:50<=i\/20 < x.nd.length):faultE L i x=4:=by unfold faultE;rw [if_pos h]
theorem fe_text {L:List En} {i:Nat} {x:En} (h:¬ (50<=i\/20 < x.nd.length)) (h2:goodE x=false):faultE L i x=2:=by unfold faultE;rw [if_neg h,if_pos h2]
theorem fe_rest {L:List En} {i:Nat} {x:En} (h:¬ (50<=i\/20 < x.nd.length)) (h2:goodE x=true):faultE L i x=if hasNm (L.take i) x.nm=true\/twS x.nd x.nd.length=true then 5 else if x.nd.all (hasNm L)=true then 0 else 6:=by
 unfold faultE;rw [if_neg h,if_neg (by rw [h2];simp)]
def ErrSo (L:List En) (N:List ByteArray) (k:Nat) (d:Bool) (e:Int):Prop:=(e=0\/e=5\/e=6)/\(twS N k=false->d=false->e=if (N.take k).all (hasNm L)=true then 0 else 6)
theorem all_snoc (L:List En) (N:List ByteArray) (k:Nat) (hk:k < N.length):(N.take (k+1)).all (hasNm L)=((N.take k).all (hasNm L) && hasNm L N[k]):=by
 rw [List.take_succ_eq_append_getElem hk,List.all_append];simp
theorem any_snocT (N:List ByteArray) (y:ByteArray) (k:Nat) (hk:k < N.length):(N.take (k+1)).any (fun z=>decide (z=y))=((N.take k).any (fun z=>decide (z=y)) || decide (N[k]=y)):=by
 rw [List.take_succ_eq_append_getElem hk,List.any_append];simp
theorem ErrSo.next0 {L:List En} {N:List ByteArray} {k:Nat} (hk:k < N.length) {c:Int} (h:ErrSo L N k ((N.take k).any (fun z=>decide (z=N[k]))) 0) (hc:EntI L N[k] c):ErrSo L N (k+1) false (if c < 0 then 6 else 0):=by
 refine ⟨by split <;> simp,fun ht _=>?_⟩
 rw [tws_step N k hk] at ht
 obtain ⟨h1,h2⟩:=Bool.or_eq_false_iff.1 ht
 have h3:=h.2 h1 h2
 have h4:(N.take k).all (hasNm L)=true:=by
  apply Classical.byContradiction
  intro hn
  rw [if_neg hn] at h3
  cases h3
 rw [all_snoc L N k hk,h4,Bool.true_and]
 by_cases hn:c < 0
 ·rw [if_pos hn,if_neg (by rw [hc.neg.1 hn];simp)]
 ·rw [if_neg hn,if_pos]
  cases hh:hasNm L N[k] with
  | true=>rfl
  | false=>exact absurd (hc.neg.2 hh) hn
theorem ErrSo.next1 {L:List En} {N:List ByteArray} {k:Nat} (hk:k < N.length) {e:Int} (he:¬ e=0) (h:ErrSo L N k ((N.take k).any (fun z=>decide (z=N[k]))) e):ErrSo L N (k+1) false e:=by
 refine ⟨h.1,fun ht _=>?_⟩
 rw [tws_step N k hk] at ht
 obtain ⟨h1,h2⟩:=Bool.or_eq_false_iff.1 ht
 have h3:=h.2 h1 h2
 have h4:(N.take k).all (hasNm L)=false:=by
  cases hh:(N.take k).all (hasNm L) with
  | false=>rfl
  | true=>rw [hh,if_pos rfl] at h3;exact absurd h3 he
 rw [all_snoc L N k hk,h4]
 rw [h4] at h3
 exact h3
open Go.RowKit
set_option linter.unusedVariables false
set_option maxRecDepth 100000 in
set_option maxHeartbeats 12800000 in
theorem wrongEntry_at (a:Addr) (cap:Nat) (L:List En) (i:Nat) (w:World) (hi:i < L.length) (hcap:L.length<=cap) (h:∀j (hj:j < L.length),EnAt w (a.add (j * 4)) L[j]) (hL:L.length<=1048576) (hV:∀x ∈ L,x.nm.size < 2 ^ 60/\x.ve.size < 2 ^ 60/\x.dg.size < 2 ^ 46) (hN:∀x ∈ L,x.nd.length<=1048576) (hS:∀x ∈ L,∀y ∈ x.nd,y.size < 2 ^ 60) :
  Calls Tryz.prog 20 #[.slice (some a) L.length cap,.int .i64 i] w fun e w'=>e=.returned (.int .i64 (errE L i))/\w.grownBy w' none:=by
 rw [errE_at L i hi]
 have HEN:Hid (∀w',w.grownBy w' none->EnS w' (.slice (some a) L.length cap) L):=fun w' hg=>Or.inr ⟨a,cap,rfl,hcap,fun j hj=>(h j hj).grow hg⟩
 have CE:Hid (∀n w',w.grownBy w' none->Calls Tryz.prog 29 #[.slice (some a) L.length cap,.string n] w' fun e w''=>∃c:Int,e=.returned (.int .i64 c)/\EntI L n c/\w'.grownBy w'' none):=fun n w' hg=>entryOf_any _ L n w' (HEN.out w' hg) hL
 obtain ⟨x,hx⟩:∃x,L[i]=x:=⟨_,rfl⟩
 have hmem:x ∈ L:=by rw [<-hx];exact List.getElem_mem _
 obtain ⟨e0,e1,e2,sv,e3,hsv⟩:EnAt w (a.add (i * 4)) x:=by rw [<-hx];exact h i hi
 have HLT:Hid (∀c,EntI L x.nm c->(c < (i:Int) ↔ hasNm (L.take i) x.nm=true)):=fun c hc=>by
  rw [<-hx] at hc ⊢
  exact EntI.lt hi hc
 rw [hx]
 have H1:Hid (TxS w sv x.nd):=hsv
 obtain ⟨so,sc,rfl⟩:=txs_slice hsv
 have CM:Hid (∀w,Calls Tryz.prog 41 #[.string x.nm] w fun e w'=>e=.returned (.bool (nameB x.nm))/\w'=w):=fun w=>rname_any x.nm w (by have:=(hV x hmem).1;omega)
 have CV:Hid (∀w,Calls Tryz.prog 42 #[.string x.ve] w fun e w'=>e=.returned (.bool (okV x.ve))/\w.grownBy w' none):=fun w=>isVersion_any x.ve w (by have:=(hV x hmem).2.1;omega)
 have CD:Hid (∀w,Calls Tryz.prog 43 #[.string x.dg] w fun e w'=>e=.returned (.bool (digB x.dg))/\w'=w):=fun w=>isDigest_any x.dg w (by have:=(hV x hmem).2.2;unfold maxLen;omega)
 have CN:Hid (∀y ∈ x.nd,∀w,Calls Tryz.prog 41 #[.string y] w fun e w'=>e=.returned (.bool (nameB y))/\w'=w):=fun y hy w=>rname_any y w (by have:=hS x hmem y hy;omega)
 have hnl:=hN x hmem
 have hil:i<=1048576:=by omega
 have HG0:Hid (∀k (hk:k < x.nd.length),nameB x.nd[k]=false->goodE x=false):=fun k hk h=>by
  show goodE x=false
  unfold goodE
  rw [Bool.and_eq_false_iff]
  right
  rw [List.all_eq_false]
  exact ⟨x.nd[k],List.getElem_mem _,by rw [h];simp⟩
 have HG1:Hid (x.nd.all nameB=true->goodE x=(nameB x.nm && okV x.ve && digB x.dg)):=fun h=>by
  show goodE x=_
  unfold goodE
  rw [h,Bool.and_true]
 have HG2:Hid ((nameB x.nm && okV x.ve && digB x.dg)=false->goodE x=false):=fun h=>by
  show goodE x=false
  unfold goodE
  rw [h,Bool.false_and]
 clear h hV hN hS hmem hx hsv
 obtain ⟨R,hR⟩:∃R,faultE L i x=R:=⟨_,rfl⟩
 rw [hR]
 by_cases hm:50<=i
 ·have HR:Hid (R=4):=hR.symm.trans (fe_many (Or.inl hm))
  clear hR
  go_enter Tryz.func20,Tryz.ntmps20
  go_wp2
  go_ret
  exact ⟨ret_int HR.out.symm,gb_alloc (gb_refl w none) _⟩
 by_cases hn:20 < x.nd.length
 ·have HR:Hid (R=4):=hR.symm.trans (fe_many (Or.inr hn))
  clear hR
  go_enter Tryz.func20,Tryz.ntmps20
  go_wp2
  go_ret
  exact ⟨ret_int HR.out.symm,gb_alloc (gb_refl w none) _⟩
 have hmany:¬ (50<=i\/20 < x.nd.length):=by omega
 have HT:Hid (goodE x=false->R=2):=fun h=>hR.symm.trans (fe_text hmany h)
 have HQ:Hid (goodE x=true->R=if hasNm (L.take i) x.nm=true\/twS x.nd x.nd.length=true then 5 else if x.nd.all (hasNm L)=true then 0 else 6):=fun h=>hR.symm.trans (fe_rest hmany h)
 obtain ⟨gd,hgd⟩:∃g,goodE x=g:=⟨_,rfl⟩
 rw [hgd] at HT HQ HG0 HG1 HG2
 obtain ⟨q1,hq1⟩:∃q,nameB x.nm=q:=⟨_,rfl⟩
 obtain ⟨q2,hq2⟩:∃q,okV x.ve=q:=⟨_,rfl⟩
 obtain ⟨q3,hq3⟩:∃q,digB x.dg=q:=⟨_,rfl⟩
 rw [hq1] at CM HG1 HG2
 rw [hq2] at CV HG1 HG2
 rw [hq3] at CD HG1 HG2
 obtain ⟨xn,xv,xd,N⟩:=x
 simp only [] at CM CV CD CN H1 HG0 HG1 HG2 HQ HLT e0 e1 e2 e3 hn hnl
 clear hR hmany hgd hq1 hq2 hq3
 obtain ⟨A,hA⟩:∃A,w.heap.size=A:=⟨_,rfl⟩
 go_enter Tryz.func20,Tryz.ntmps20
 go_wp2_with (first | (go_at_call 41;refine (CM.out _).mono ?_;rintro e w' ⟨rfl,rfl⟩) | (go_at_call 42;refine (CV.out _).mono ?_))
 rintro e w1 ⟨rfl,hg1⟩
 obtain ⟨c0,c1,c2,c3⟩:=en_block ((hg1.block w.heap.size (by simp) (by simp)).trans (heap_alloc_new w _))
 have HG:Hid (w.grownBy w1 none):=gb_trans (gb_alloc (gb_refl w none) _) hg1
 try rw [hA]
 rw [hA] at c0 c1 c2 c3
 clear hg1 e0 e1 e2 e3 hA
 have HC:Hid (w1.cell? ⟨A,0,none⟩=some (.string xn)/\w1.cell? ⟨A,3,none⟩=some (.slice so N.length sc)):=⟨c0,c3⟩
 go_wp2_with (first | (go_at_call 43;refine (CD.out _).mono ?_))
 rintro e w' ⟨rfl,rfl⟩
 clear c0 c1 c2 c3
 cases q1 with
 | false =>
  go_wp2
  go_ret
  exact ⟨ret_int (HT.out (HG2.out (by trivial))).symm,HG.out⟩
 | true =>
 cases q2 with
 | false =>
  go_wp2
  go_ret
  exact ⟨ret_int (HT.out (HG2.out (by trivial))).symm,HG.out⟩
 | true =>
 cases q3 with
 | false =>
  go_wp2
  go_ret
  exact ⟨ret_int (HT.out (HG2.out (by trivial))).symm,HG.out⟩
 | true =>
 go_wp2
 go_loopw [9,10] (fun ve vk wr=>∃(k:Nat) (e:Int),vk=.int .i64 k/\ve=.int .i64 e/\k<=N.length/\ErrSo L N k false e/\(N.take k).all nameB=true/\w'.grownBy wr none) (fun _ vk _=>N.length - (intOf vk).toNat)
 case atStart=>exact ⟨0,0,rfl,rfl,Nat.zero_le _,⟨Or.inl rfl,fun _ _=>by simp⟩,rfl,gb_refl _ _⟩
 case round =>
  obtain ⟨k,e,rfl,rfl,hk,herr,hall,hg⟩:=hrel
  have HERR:Hid (ErrSo L N k false e):=herr
  have HALL:Hid ((N.take k).all nameB=true):=hall
  have HGW:Hid (w'.grownBy wr none):=hg
  have HG1':Hid (w.grownBy wr none):=gb_trans HG.out hg
  have f0:=hg.cell HC.out.1 (by simp)
  have f3:=hg.cell HC.out.2 (by simp)
  by_cases hlt:k < N.length
  ·obtain ⟨b,rfl,hcv,hat⟩:=txs_at (H1.out.grow HG.out) hlt
   have g0:=hg.cell (hat k hlt) (by simp)
   obtain ⟨y,hy⟩:∃y,N[k]=y:=⟨_,rfl⟩
   rw [hy] at g0
   have HY:Hid (N[k]=y):=hy
   have CY:Hid (∀w,Calls Tryz.prog 41 #[.string y] w fun e w'=>e=.returned (.bool (nameB y))/\w'=w):=fun w=>CN.out y (by rw [<-hy];exact List.getElem_mem _) w
   have HF:Hid (nameB y=false->R=2):=fun h=>HT.out (HG0.out k hlt (by rw [hy];exact h))
   have HNX:Hid (nameB y=true->(N.take (k+1)).all nameB=true):=fun h=>by
    rw [List.take_succ_eq_append_getElem hlt,List.all_append,HALL.out,hy]
    simp [h]
   obtain ⟨q,hq⟩:∃q,nameB y=q:=⟨_,rfl⟩
   rw [hq] at CY HF HNX
   have HCELL:Hid (∀wz,w'.grownBy wz none->wz.cell? ⟨A,3,none⟩=some (.slice (some b) N.length sc)/\∀j (hj:j < N.length),wz.cell? (b.add j)=some (.string N[j])):=fun wz hz=>⟨hz.cell HC.out.2 (by simp),fun j hj=>hz.cell (hat j hj) (by simp)⟩
   clear herr hall hg hat hy hq
   cases q with
   | false =>
    go_wp2_with (first | (go_at_call 41;refine (CY.out _).mono ?_;rintro e w' ⟨rfl,rfl⟩))
    go_ret
    exact ⟨ret_int (HF.out (by trivial)).symm,HG1'.out⟩
   | true =>
    go_wp2_with (first | (go_at_call 41;refine (CY.out _).mono ?_;rintro e w'' ⟨rfl,rfl⟩))
    clear f0 f3 g0
    go_loopw [9,12] (fun ve vj wj=>∃(j:Nat) (e:Int),vj=.int .i64 j/\ve=.int .i64 e/\j<=k/\ErrSo L N k ((N.take j).any (fun z=>decide (z=y))) e/\w'.grownBy wj none) (fun _ vj _=>k - (intOf vj).toNat)
    case atStart=>exact ⟨0,e,rfl,rfl,Nat.zero_le _,HERR.out,HGW.out⟩
    case round =>
     obtain ⟨j,e2,rfl,rfl,hj,herr2,hgj⟩:=hrel
     have HE2:Hid (ErrSo L N k ((N.take j).any (fun z=>decide (z=y))) e2):=herr2
     have HGJ:Hid (w'.grownBy wr none):=hgj
     have HGJ2:Hid (w.grownBy wr none):=gb_trans HG.out hgj
     obtain ⟨p3,pall⟩:=HCELL.out wr hgj
     have p1:=pall k hlt
     rw [HY.out] at p1
     by_cases hjk:j < k
     ·have hjl:j < N.length:=by omega
      obtain ⟨z,hz⟩:∃z,N[j]=z:=⟨_,rfl⟩
      have p0:=pall j hjl
      rw [hz] at p0
      have HAN:Hid ((N.take (j+1)).any (fun z=>decide (z=y))=((N.take j).any (fun z=>decide (z=y)) || decide (z=y))):=by
       show _=_
       rw [any_snocT N y j hjl,hz]
      clear herr2 hgj pall hz
      by_cases hzy:z=y
      ·have q:=txt_eq hzy
       have HV:Hid (ErrSo L N k ((N.take (j+1)).any (fun z=>decide (z=y))) 5):=⟨Or.inr (Or.inl rfl),fun _ h=>by rw [HAN.out] at h;simp [hzy] at h⟩
       clear hzy
       go_wp2
       go_quiet (fail)
       go_wp2
       go_roundw
       case rel=>exact ⟨j+1,5,by go_num,rfl,by omega,HV.out,gb_drew HGJ.out _⟩
       case measure=>simp [intOf];omega
      ·have q:=txt_ne hzy
       have HV:Hid (ErrSo L N k ((N.take (j+1)).any (fun z=>decide (z=y))) e2):=by
        show ErrSo _ _ _ _ _
        rw [HAN.out,decide_eq_false hzy,Bool.or_false]
        exact HE2.out
       clear hzy
       go_wp2
       go_quiet (fail)
       go_wp2
       go_roundw
       case rel=>exact ⟨j+1,e2,by go_num,rfl,by omega,HV.out,gb_drew HGJ.out _⟩
       case measure=>simp [intOf];omega
     ·have hje:j=k:=by omega
      subst hje
      have HE3:Hid (ErrSo L N j ((N.take j).any (fun z=>decide (z=N[j]))) e2):=by
       show ErrSo _ _ _ _ _
       rw [HY.out]
       exact HE2.out
      clear herr2 hgj hj pall
      by_cases he:e2=0
      ·subst he
       go_wp2_with (first | (go_at_call 29;refine (CE.out _ _ HGJ2.out).mono ?_))
       rintro e w4 ⟨c,rfl,hc,hg4⟩
       have HV:Hid (ErrSo L N (j+1) false (if c < 0 then 6 else 0)):=ErrSo.next0 hlt HE3.out (by rw [HY.out];exact hc)
       have HG4:Hid (w'.grownBy w4 none):=gb_trans HGJ.out hg4
       clear hc hg4
       by_cases hc0:c < 0
       ·have HV2:Hid (ErrSo L N (j+1) false 6):=by have:=HV.out;rwa [if_pos hc0] at this
        go_wp2
        go_roundw
        case rel=>exact ⟨j+1,6,by go_num,rfl,by omega,HV2.out,HNX.out (by trivial),HG4.out⟩
        case measure=>simp [intOf];omega
       ·have HV2:Hid (ErrSo L N (j+1) false 0):=by have:=HV.out;rwa [if_neg hc0] at this
        go_wp2
        go_roundw
        case rel=>exact ⟨j+1,0,by go_num,rfl,by omega,HV2.out,HNX.out (by trivial),HG4.out⟩
        case measure=>simp [intOf];omega
      ·have he1:(e2 == 0)=false:=by simp [he]
       have HV:Hid (ErrSo L N (j+1) false e2):=ErrSo.next1 hlt he HE3.out
       clear he
       go_wp2
       go_roundw
       case rel=>exact ⟨j+1,e2,by go_num,rfl,by omega,HV.out,HNX.out (by trivial),HGJ.out⟩
       case measure=>simp [intOf];omega
  ·have hke:k=N.length:=by omega
   have HRR:Hid (R=if hasNm (L.take i) xn=true\/twS N N.length=true then 5 else if N.all (hasNm L)=true then 0 else 6):=HQ.out (by
    rw [hke,List.take_length] at hall
    rw [HG1.out hall];rfl)
   have HER:Hid (twS N N.length=false->e=if N.all (hasNm L)=true then 0 else 6):=fun h=>by
    have:=herr.2
    rw [hke,List.take_length] at this
    exact this h rfl
   have HEC:Hid (e=0\/e=5\/e=6):=herr.1
   clear herr hall hg hke hk
   go_wp2_with (first | (go_at_call 29;refine (CE.out _ _ HG1'.out).mono ?_))
   rintro e' w4 ⟨c,rfl,hc,hg4⟩
   have HG4:Hid (w'.grownBy w4 none):=gb_trans HGW.out hg4
   obtain ⟨t0,ht0⟩:∃t,decide (c < (i:Int))=t:=⟨_,rfl⟩
   have HT0:Hid (hasNm (L.take i) xn=t0):=by
    show _=_
    rw [<-ht0,Bool.eq_iff_iff,<-HLT.out c hc]
    simp
   clear hc hg4 f0 f3
   go_wp2
   try rw [ht0]
   go_loopw [13,14] (fun vt vk wr=>∃k:Nat,vk=.int .i64 k/\vt=.bool (t0 || twS N k)/\k<=N.length/\w'.grownBy wr none) (fun _ vk _=>N.length - (intOf vk).toNat)
   case atStart=>exact ⟨0,rfl,by simp [twS],Nat.zero_le _,HG4.out⟩
   case round =>
    obtain ⟨k,rfl,rfl,hk,hg⟩:=hrel
    have HGW2:Hid (w'.grownBy wr none):=hg
    have HGW3:Hid (w.grownBy wr none):=gb_trans HG.out hg
    have f3:=hg.cell HC.out.2 (by simp)
    clear ht0
    by_cases hlt:k < N.length
    ·obtain ⟨b,rfl,hcv,hat⟩:=txs_at (H1.out.grow HG.out) hlt
     obtain ⟨y,hy⟩:∃y,N[k]=y:=⟨_,rfl⟩
     have HY:Hid (N[k]=y):=hy
     have HCELL:Hid (∀wz,w'.grownBy wz none->wz.cell? ⟨A,3,none⟩=some (.slice (some b) N.length sc)/\∀j (hj:j < N.length),wz.cell? (b.add j)=some (.string N[j])):=fun wz hz=>⟨hz.cell HC.out.2 (by simp),fun j hj=>hz.cell (hat j hj) (by simp)⟩
     obtain ⟨t1,ht1⟩:∃t,(t0 || twS N k)=t:=⟨_,rfl⟩
     have HTS:Hid ((t0 || twS N (k+1))=(t1 || (N.take k).any (fun z=>decide (z=y)))):=by
      show _=_
      rw [tws_step N k hlt,<-Bool.or_assoc,ht1,hy]
     try rw [ht1]
     clear hg hat hy ht1
     go_wp2
     clear f3
     go_loopw [13,15] (fun vt vj wj=>∃j:Nat,vj=.int .i64 j/\vt=.bool (t1 || (N.take j).any (fun z=>decide (z=y)))/\j<=k/\w'.grownBy wj none) (fun _ vj _=>k - (intOf vj).toNat)
     case atStart=>exact ⟨0,rfl,by simp,Nat.zero_le _,HGW2.out⟩
     case round =>
      obtain ⟨j,rfl,rfl,hj,hgj⟩:=hrel
      have HGJ:Hid (w'.grownBy wr none):=hgj
      obtain ⟨p3,pall⟩:=HCELL.out wr hgj
      have p1:=pall k hlt
      rw [HY.out] at p1
      by_cases hjk:j < k
      ·have hjl:j < N.length:=by omega
       obtain ⟨z,hz⟩:∃z,N[j]=z:=⟨_,rfl⟩
       have p0:=pall j hjl
       rw [hz] at p0
       obtain ⟨t2,ht2⟩:∃t,(t1 || (N.take j).any (fun z=>decide (z=y)))=t:=⟨_,rfl⟩
       have HNX2:Hid ((t1 || (N.take (j+1)).any (fun z=>decide (z=y)))=(t2 || decide (z=y))):=by
        show _=_
        rw [any_snocT N y j hjl,<-Bool.or_assoc,ht2,hz]
       try rw [ht2]
       clear hgj pall hz ht2
       cases t2 with
       | true =>
        go_wp2
        go_quiet (fail)
        go_wp2
        go_roundw
        case rel=>exact ⟨j+1,by go_num,by rw [HNX2.out];rfl,by omega,gb_drew HGJ.out _⟩
        case measure=>simp [intOf];omega
       | false =>
        by_cases hzy:z=y
        ·have q:=txt_eq hzy
         have HV:Hid ((t1 || (N.take (j+1)).any (fun z=>decide (z=y)))=true):=by
          show _=_
          rw [HNX2.out];simp [hzy]
         clear hzy
         go_wp2
         go_quiet (fail)
         go_wp2
         go_roundw
         case rel=>exact ⟨j+1,by go_num,by rw [HV.out],by omega,gb_drew HGJ.out _⟩
         case measure=>simp [intOf];omega
        ·have q:=txt_ne hzy
         have HV:Hid ((t1 || (N.take (j+1)).any (fun z=>decide (z=y)))=false):=by
          show _=_
          rw [HNX2.out];simp [hzy]
         clear hzy
         go_wp2
         go_quiet (fail)
         go_wp2
         go_roundw
         case rel=>exact ⟨j+1,by go_num,by rw [HV.out],by omega,gb_drew HGJ.out _⟩
         case measure=>simp [intOf];omega
      ·have hje:j=k:=by omega
       subst hje
       clear hgj hj pall
       go_wp2
       go_roundw
       case rel=>exact ⟨j+1,by go_num,by rw [HTS.out],by omega,HGJ.out⟩
       case measure=>simp [intOf];omega
    ·have hke:k=N.length:=by omega
     subst hke
     have HT0':=HT0.out
     rw [HT0'] at HRR
     obtain ⟨t3,ht3⟩:∃t,(t0 || twS N N.length)=t:=⟨_,rfl⟩
     have HTW:Hid ((t0 || twS N N.length)=t3):=ht3
     try rw [ht3]
     clear hg hk HT0' ht3
     cases t3 with
     | true =>
      have HR:Hid (R=5):=HRR.out.trans (if_pos (by
       rcases Bool.or_eq_true_iff.1 HTW.out with h | h
       ·exact Or.inl h
       ·exact Or.inr h))
      go_wp2
      go_ret
      exact ⟨ret_int HR.out.symm,HGW3.out⟩
     | false =>
      have HR:Hid (R=e):=by
       obtain ⟨h1,h2⟩:=Bool.or_eq_false_iff.1 HTW.out
       show R=e
       rw [HRR.out,HER.out h2,if_neg (by rw [h1,h2];simp)]
      go_wp2
      go_ret
      exact ⟨ret_int HR.out.symm,HGW3.out⟩
open Go.RowKit
set_option linter.unusedVariables false
def cT (a b:ByteArray):Int:=Lib.compareBytes a.data.toList b.data.toList
theorem good_T:Good cT:=good_pull good_bytes (fun a:ByteArray=>a.data.toList)
theorem cT_eq {a b:ByteArray} (h:cT a b=0):a=b:=by
 unfold cT at h
 cases h1:Op.bytesLess a.data.toList b.data.toList with
 | true=>rw [(less_cmp _ _).1 h1] at h;cases h
 | false =>
  cases h2:(a.data.toList == b.data.toList) with
  | true=>exact ByteArray.ext (Array.ext' (by simpa using h2))
  | false=>rw [(less_cmp _ _).2.1 h1 h2] at h;cases h
theorem cT_less {a b:ByteArray} (h:cT a b < 0):Op.bytesLess a.toList b.toList=true:=by
 rw [Lib.toList_data,Lib.toList_data]
 cases h1:Op.bytesLess a.data.toList b.data.toList with
 | true=>rfl
 | false =>
  exfalso
  unfold cT at h
  cases h2:(a.data.toList == b.data.toList) with
  | true=>rw [(less_cmp _ _).2.2 h2] at h;cases h
  | false=>rw [(less_cmp _ _).2.1 h1 h2] at h;cases h
theorem cT_not {a b:ByteArray} (h:¬ cT a b < 0):Op.bytesLess a.toList b.toList=false:=by
 cases h1:Op.bytesLess a.toList b.toList with
 | false=>rfl
 | true=>exact absurd (show cT a b < 0 by unfold cT;rw [less_m1 h1];decide) h
theorem cT_flip {a b:ByteArray} (h:¬ cT a b < 0):cT b a<=0:=by
 have:=good_T.anti a b
 omega
theorem cT_trans {a b c:ByteArray} (h1:cT a b<=0) (h2:cT b c<=0):cT a c<=0:=(good_T.trans a b c h1 h2).1
def RiseT (S:List ByteArray):Prop:=S.Pairwise (fun a b=>cT a b<=0)
theorem perm_one {α:Type} (r:α->α->Prop):∀(A B:List α),A.Perm B->A.Pairwise r->B.Pairwise r->(∀a ∈ A,∀b ∈ A,r a b->r b a->a=b)->A=B
 | [],B,hp,_,_,_=>(List.Perm.nil_eq hp)
 | a :: A,[],hp,_,_,_=>by have:=hp.length_eq;simp at this
 | a :: A,b :: B,hp,hA,hB,hu=>by
  have hab:a=b:=by
   have h1:a ∈ b :: B:=hp.subset (by simp)
   have h2:b ∈ a :: A:=hp.symm.subset (by simp)
   rcases List.mem_cons.1 h1 with e | h1
   ·exact e
   ·rcases List.mem_cons.1 h2 with e | h2
    ·exact e.symm
    ·exact hu a (by simp) b (by simp [h2]) ((List.pairwise_cons.1 hA).1 b h2) ((List.pairwise_cons.1 hB).1 a h1)
  subst hab
  have hp':A.Perm B:=(List.perm_cons a).1 hp
  rw [perm_one r A B hp' (List.pairwise_cons.1 hA).2 (List.pairwise_cons.1 hB).2 (fun x hx y hy=>hu x (by simp [hx]) y (by simp [hy]))]
theorem rise_one {S T:List ByteArray} (hp:S.Perm T) (h1:RiseT S) (h2:RiseT T):S=T :=
 perm_one _ S T hp h1 h2 (fun a _ b _ r1 r2=>cT_eq (by have:=good_T.anti a b;omega))
theorem rise_mid {A B:List ByteArray} {x:ByteArray} (h:RiseT (A++B)) (hb:∀b ∈ B,cT x b < 0) (hl:∀A0 y,A=A0++[y]->cT y x<=0):RiseT (A++x :: B):=by
 unfold RiseT at *
 rw [List.pairwise_append] at h ⊢
 obtain ⟨h1,h2,h3⟩:=h
 have hax:∀a ∈ A,cT a x<=0:=by
  rcases List.eq_nil_or_concat A with rfl | ⟨A0,y,rfl⟩
  ·intro a ha;cases ha
  ·rw [List.concat_eq_append] at *
   have hy:=hl A0 y rfl
   intro a ha
   rcases List.mem_append.1 ha with ha | ha
   ·rw [List.pairwise_append] at h1
    exact cT_trans (h1.2.2 a ha y (by simp)) hy
   ·simp at ha;rw [ha];exact hy
 refine ⟨h1,List.pairwise_cons.2 ⟨fun b hb2=>Int.le_of_lt (hb b hb2),h2⟩,fun a ha b hb2=>?_⟩
 rcases List.mem_cons.1 hb2 with rfl | hb2
 ·exact hax a ha
 ·exact h3 a ha b hb2
def SrtPost (L:List ByteArray) (w:World) (e:Ending) (w':World):Prop:=∃(v:Value) (S:List ByteArray),e=.returned v/\w'.ownsRow w.heap.size 9 1 v S.length (S.map Value.string)/\S.Perm L/\RiseT S/\Below w.heap.size w w'
end Go.Proofs.YtbbmbnpebiakbaaGreatDoor
