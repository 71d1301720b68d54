import Derived.Test.YtbbmbnpebiakbaaGreatDoorM10
import Derived.Test.YtbbmbnpebiakbaaGreatDoorM06
import Derived.RangeFuncKeeps
import Derived.Shelf.SlIter.Collect
namespace Go.Proofs.YtbbmbnpebiakbaaGreatDoor
open Go.RowKit Go.Maps
set_option linter.unusedVariables false
theorem txt_eq {a b:ByteArray} (h:a=b):(a.toList == b.toList)=true:=by rw [h];simp
theorem txt_ne {a b:ByteArray} (h:¬ a=b):(a.toList == b.toList)=false:=by
 cases hb:(a.toList == b.toList) with
 | false=>rfl
 | true =>
  exfalso
  apply h
  have h2:a.toList=b.toList:=by simpa using hb
  rw [Lib.toList_data,Lib.toList_data] at h2
  apply ByteArray.ext
  exact Array.ext' h2
theorem txs_at {w:World} {o:Option Addr} {c:Nat} {L:List ByteArray} (h:TxS w (.slice o L.length c) L) {i:Nat} (hi:i < L.length):∃a,o=some a/\L.length<=c/\∀j (hj:j < L.length),w.cell? (a.add j)=some (.string L[j]):=by
 rcases h with ⟨h1,h2⟩ | ⟨a,cap,h1,h2,h3⟩
 ·rw [h2] at hi;simp at hi
 ·cases h1
  exact ⟨a,rfl,h2,h3⟩
set_option maxRecDepth 100000 in
set_option maxHeartbeats 800000 in
theorem txIndex_any (o:Option Addr) (n c:Nat) (x:ByteArray) (L:List ByteArray) (w:World) (hn:n=L.length) (h:TxS w (.slice o n c) L) (hL:L.length<=1048576) :
  Calls Tryz.prog 78 #[.slice o n c,.string x] w fun e w'=>∃k:Int,e=.returned (.int .i64 k)/\w.grownBy w' none/\(0<=k ↔ L.any (fun y=>decide (y=x))=true):=by
 subst hn
 have H1:Hid (TxS w (.slice o L.length c) L):=h
 have HN:Hid ((L.take L.length).any (fun y=>decide (y=x))=false->L.any (fun y=>decide (y=x))=false):=fun h=>by rwa [List.take_length] at h
 clear h
 go_enter Tryz.func78,Tryz.ntmps78
 go_wp2
 go_loopw [8] (fun vi wr=>∃i:Nat,vi=.int .i64 i/\i<=L.length/\(L.take i).any (fun y=>decide (y=x))=false/\w.grownBy wr none) (fun vi _=>L.length - (intOf vi).toNat)
 case atStart=>exact ⟨0,rfl,Nat.zero_le _,rfl,gb_refl _ _⟩
 case round =>
  obtain ⟨i,rfl,hi,hf,hg⟩:=hrel
  have HF:Hid ((L.take i).any (fun y=>decide (y=x))=false):=hf
  have HG:Hid (w.grownBy wr none):=hg
  by_cases hlt:i < L.length
  ·obtain ⟨a,rfl,hcv,hat⟩:=txs_at (H1.out.grow hg) hlt
   have e0:=hat i hlt
   obtain ⟨y,hy⟩:∃y,L[i]=y:=⟨_,rfl⟩
   rw [hy] at e0
   have HY:Hid (L[i]=y):=hy
   clear hf hg hat hy
   by_cases hxy:x=y
   ·have q:=txt_eq hxy
    have HT:Hid (L.any (fun y=>decide (y=x))=true):=by
     show _=_
     rw [List.any_eq_true]
     exact ⟨L[i],List.getElem_mem _,by rw [HY.out];simp [hxy]⟩
    clear hxy
    go_wp2
    go_ret
    exact ⟨(i:Int),rfl,HG.out,fun _=>HT.out,fun _=>by omega⟩
   ·have q:=txt_ne hxy
    have HT:Hid ((L.take (i+1)).any (fun y=>decide (y=x))=false):=by
     show _=_
     rw [List.take_succ_eq_append_getElem hlt,List.any_append,HF.out,HY.out]
     simp
     exact fun e=>hxy e.symm
    clear hxy
    go_wp2
    exact ⟨⟨i+1,by go_num,by omega,HT.out,HG.out⟩,by simp [intOf];omega⟩
  ·have hil:i=L.length:=by omega
   have HT:Hid (L.any (fun y=>decide (y=x))=false):=HN.out (by rw [<-hil];exact hf)
   clear hf hg hil hi
   go_wp2
   go_ret
   exact ⟨-1,rfl,HG.out,fun h=>by omega,fun h=>by rw [HT.out] at h;cases h⟩
set_option maxRecDepth 100000 in
set_option maxHeartbeats 1600000 in
theorem txContains_any (o:Option Addr) (n c:Nat) (x:ByteArray) (L:List ByteArray) (w:World) (hn:n=L.length) (h:TxS w (.slice o n c) L) (hL:L.length<=1048576) :
  Calls Tryz.prog 54 #[.slice o n c,.string x] w fun e w'=>e=.returned (.bool (L.any (fun y=>decide (y=x))))/\w.grownBy w' none:=by
 have CI:Hid (Calls Tryz.prog 78 #[.slice o n c,.string x] w fun e w'=>∃k:Int,e=.returned (.int .i64 k)/\w.grownBy w' none/\(0<=k ↔ L.any (fun y=>decide (y=x))=true)):=txIndex_any o n c x L w hn h hL
 obtain ⟨q,hq⟩:∃q,L.any (fun y=>decide (y=x))=q:=⟨_,rfl⟩
 rw [hq] at CI ⊢
 clear h hq hL hn
 cases q with
 | true =>
  have CJ:Hid (Calls Tryz.prog 78 #[.slice o n c,.string x] w fun e w'=>(∃k:Int,e=.returned (.int .i64 k)/\0<=k)/\w.grownBy w' none):=CI.out.mono fun e w' ⟨k,h1,h2,h3⟩=>⟨⟨k,h1,h3.2 rfl⟩,h2⟩
  clear CI
  go_enter Tryz.func54,Tryz.ntmps54
  go_wp2_with (first | (go_at_call 78;refine CJ.out.mono ?_))
  rintro e w1 ⟨⟨k,rfl,hk⟩,hg⟩
  go_wp2
  go_ret
  exact ⟨ret_bool (by first | rfl | (simp;done) | (simp;omega)),hg⟩
 | false =>
  have CJ:Hid (Calls Tryz.prog 78 #[.slice o n c,.string x] w fun e w'=>(∃k:Int,e=.returned (.int .i64 k)/\k < 0)/\w.grownBy w' none):=CI.out.mono fun e w' ⟨k,h1,h2,h3⟩=>⟨⟨k,h1,Int.not_le.1 fun h=>by have:=h3.1 h;cases this⟩,h2⟩
  clear CI
  go_enter Tryz.func54,Tryz.ntmps54
  go_wp2_with (first | (go_at_call 78;refine CJ.out.mono ?_))
  rintro e w1 ⟨⟨k,rfl,hk⟩,hg⟩
  go_wp2
  go_ret
  exact ⟨ret_bool (by first | rfl | (simp;done) | (simp;omega)),hg⟩
theorem txs_take {w:World} {a:Addr} {cap:Nat} {L:List ByteArray} (i:Nat) (hi:i<=L.length) (hc:L.length<=cap) (h:∀j (hj:j < L.length),w.cell? (a.add j)=some (.string L[j])):TxS w (.slice (some a) i cap) (L.take i):=by
 have hl:(L.take i).length=i:=by simp;omega
 refine Or.inr ⟨a,cap,by rw [hl],by omega,fun j hj=>?_⟩
 rw [List.getElem_take]
 exact h j (by omega)
set_option maxRecDepth 100000 in
set_option maxHeartbeats 1600000 in
theorem bTwice_any (v:Value) (L:List ByteArray) (w:World) (h:TxS w v L) (hL:L.length<=1048576) :
  Calls Tryz.prog 33 #[v] w fun e w'=>e=.returned (.bool (twS L L.length))/\w.grownBy w' none:=by
 have H1:Hid (TxS w v L):=h
 have CC:Hid (∀(a:Addr) (i c:Nat) (x:ByteArray) (w:World),i<=L.length->TxS w (.slice (some a) i c) (L.take i)->Calls Tryz.prog 54 #[.slice (some a) i c,.string x] w fun e w'=>e=.returned (.bool ((L.take i).any (fun y=>decide (y=x))))/\w.grownBy w' none):=fun a i c x w hi h=>txContains_any (some a) i c x (L.take i) w (by simp;omega) h (by simp;omega)
 obtain ⟨o,c,rfl⟩:=txs_slice h
 have HH:Hid (∀i (hi:i < L.length),(L.take i).any (fun y=>decide (y=L[i]))=true->twS L L.length=true):=tws_hit L
 obtain ⟨R,hR⟩:∃R,twS L L.length=R:=⟨_,rfl⟩
 have HR:Hid (twS L L.length=R):=hR
 rw [hR] at HH ⊢
 clear h hR
 go_enter Tryz.func33,Tryz.ntmps33
 go_wp2
 go_loopw [7] (fun vi wr=>∃i:Nat,vi=.int .i64 i/\i<=L.length/\twS L i=false/\w.grownBy wr none) (fun vi _=>L.length - (intOf vi).toNat)
 case atStart=>exact ⟨0,rfl,Nat.zero_le _,rfl,gb_refl _ _⟩
 case round =>
  obtain ⟨i,rfl,hi,hf,hg⟩:=hrel
  have HF:Hid (twS L i=false):=hf
  have HG:Hid (w.grownBy wr none):=hg
  by_cases hlt:i < L.length
  ·obtain ⟨a,rfl,hcv,hat⟩:=txs_at (H1.out.grow hg) hlt
   have e0:=hat i hlt
   obtain ⟨y,hy⟩:∃y,L[i]=y:=⟨_,rfl⟩
   rw [hy] at e0
   have CY:Hid (Calls Tryz.prog 54 #[.slice (some a) i c,.string y] wr fun e w'=>e=.returned (.bool ((L.take i).any (fun z=>decide (z=y))))/\wr.grownBy w' none):=CC.out a i c y wr (by omega) (txs_take i (by omega) hcv hat)
   have HT:Hid ((L.take i).any (fun z=>decide (z=y))=true->R=true):=fun h=>(HH.out i hlt (by rw [hy];exact h)).symm ▸ rfl
   have HS:Hid ((L.take i).any (fun z=>decide (z=y))=false->twS L (i+1)=false):=fun h=>tws_miss L i hlt (by rw [hy];exact h) HF.out
   obtain ⟨q,hq⟩:∃q,(L.take i).any (fun z=>decide (z=y))=q:=⟨_,rfl⟩
   rw [hq] at CY HT HS
   have hic:(i:Int)<=c:=by omega
   clear hf hg hat hy hq
   cases q with
   | true =>
    go_wp2_with (first | (go_at_call 54;refine CY.out.mono ?_;rintro e w3 ⟨rfl,hg3⟩))
    go_ret
    exact ⟨ret_bool (HT.out (by trivial)).symm,gb_trans HG.out hg3⟩
   | false =>
    go_wp2_with (first | (go_at_call 54;refine CY.out.mono ?_;rintro e w3 ⟨rfl,hg3⟩))
    exact ⟨⟨i+1,by go_num,by omega,HS.out (by trivial),gb_trans HG.out hg3⟩,by simp [intOf];omega⟩
  ·have hil:i=L.length:=by omega
   have HT:Hid (R=false):=HR.out.symm.trans (by rw [<-hil];exact hf)
   clear hf hg hil hi
   go_wp2
   go_ret
   exact ⟨ret_bool HT.out.symm,HG.out⟩
theorem bIsVersion_any (s:ByteArray) (w:World) (hs:s.size < 2 ^ 62):Calls Tryz.prog 52 #[.string s] w fun e w'=>e=.returned (.bool (okV s))/\w.grownBy w' none:=by
 have CR:Hid (∀w,Calls Tryz.prog 70 #[.string s] w fun e w'=>(∃(x1 x2 x3:Int) (x4 x5:ByteArray) (k:Int),e=.returned (.tuple #[.agg #[.int .i64 x1,.int .i64 x2,.int .i64 x3,.string x4,.string x5],.int .i64 (parseV s.data.toList).1,.int .i64 k]))/\w.grownBy w' none):=fun w=>(parse_any s w hs).mono fun e w' ⟨h1,h2⟩=>⟨⟨_,_,_,_,_,_,h1⟩,h2⟩
 unfold okV
 obtain ⟨E,hE⟩:∃E,(parseV s.data.toList).1=E:=⟨_,rfl⟩
 rw [hE] at CR ⊢
 clear hE
 have hd:decide (E=0)=(E == 0):=by rw [Bool.eq_iff_iff];simp
 rw [hd]
 clear hd
 go_enter Tryz.func52,Tryz.ntmps52
 go_wp2_with (first | (go_at_call 70;refine (CR.out _).mono ?_))
 rintro e w1 ⟨⟨x1,x2,x3,x4,x5,k,rfl⟩,hg⟩
 cases hz:(E == 0) with
 | true =>
  go_wp2
  go_ret
  exact ⟨ret_bool hz.symm,gb_alloc hg _⟩
 | false =>
  go_wp2
  go_ret
  exact ⟨ret_bool hz.symm,gb_alloc hg _⟩
theorem en_block {w:World} {N:Nat} {n v d:ByteArray} {sv:Value} {t:TypeId} (h:w.heap[N]?=some (.cells #[.string n,.string v,.string d,sv] t (0,0))):w.cell? ⟨N,0,none⟩=some (.string n)/\w.cell? ⟨N,1,none⟩=some (.string v)/\w.cell? ⟨N,2,none⟩=some (.string d)/\w.cell? ⟨N,3,none⟩=some sv :=
 ⟨by rw [Lib.cell_of_heap h];rfl,by rw [Lib.cell_of_heap h];rfl,by rw [Lib.cell_of_heap h];rfl,by rw [Lib.cell_of_heap h];rfl⟩
set_option maxRecDepth 100000 in
set_option maxHeartbeats 3200000 in
theorem isEntry_any (x:En) (sv:Value) (w:World) (h:TxS w sv x.nd) (hL:x.nd.length<=1048576) (hS:x.nm.size < 2 ^ 60/\x.ve.size < 2 ^ 60/\x.dg.size < 2 ^ 60) (hN:∀y ∈ x.nd,y.size < 2 ^ 60) :
  Calls Tryz.prog 32 #[.agg #[.string x.nm,.string x.ve,.string x.dg,sv]] w fun e w'=>e=.returned (.bool (goodE x))/\w.grownBy w' none:=by
 have H1:Hid (TxS w sv x.nd):=h
 have CN:Hid (∀y ∈ x.nd,∀w,Calls Tryz.prog 51 #[.string y] w fun e w'=>e=.returned (.bool (nameB y))/\w'=w):=fun y hy w=>name_any y w (by have:=hN y hy;omega)
 have CM:Hid (∀w,Calls Tryz.prog 51 #[.string x.nm] w fun e w'=>e=.returned (.bool (nameB x.nm))/\w'=w):=fun w=>name_any x.nm w (by omega)
 have CV:Hid (∀w,Calls Tryz.prog 52 #[.string x.ve] w fun e w'=>e=.returned (.bool (okV x.ve))/\w.grownBy w' none):=fun w=>bIsVersion_any x.ve w (by omega)
 have CD:Hid (∀w,Calls Tryz.prog 53 #[.string x.dg] w fun e w'=>e=.returned (.bool (digB x.dg))/\w'=w):=fun w=>by
  have:=dgCheck_any x.dg w
  rw [chk_isDig] at this
  exact this
 obtain ⟨so,sc,rfl⟩:=txs_slice h
 have HG0:Hid (∀i (hi:i < x.nd.length),nameB x.nd[i]=false->goodE x=false):=fun i hi h=>by
  show goodE x=false
  unfold goodE
  rw [Bool.and_eq_false_iff]
  right
  rw [List.all_eq_false]
  exact ⟨x.nd[i],List.getElem_mem _,by rw [h];simp⟩
 have HG1:Hid (x.nd.all nameB=true->goodE x=(nameB x.nm && okV x.ve && digB x.dg)):=fun h=>by
  show goodE x=_
  unfold goodE
  rw [h,Bool.and_true]
 obtain ⟨R,hR⟩:∃R,goodE x=R:=⟨_,rfl⟩
 rw [hR] at HG0 HG1 ⊢
 obtain ⟨q1,hq1⟩:∃q,nameB x.nm=q:=⟨_,rfl⟩
 obtain ⟨q2,hq2⟩:∃q,okV x.ve=q:=⟨_,rfl⟩
 obtain ⟨q3,hq3⟩:∃q,digB x.dg=q:=⟨_,rfl⟩
 rw [hq1] at CM HG1
 rw [hq2] at CV HG1
 rw [hq3] at CD HG1
 obtain ⟨xn,xv,xd,N⟩:=x
 simp only [] at CM CV CD CN H1 HG0 HG1 hL ⊢
 clear h hS hN hR hq1 hq2 hq3
 obtain ⟨W0,hW0⟩:∃W,w.alloc (.cells #[.string xn,.string xv,.string xd,.slice so N.length sc] 43)=W:=⟨_,rfl⟩
 have HWE:Hid (w.alloc (.cells #[.string xn,.string xv,.string xd,.slice so N.length sc] 43)=W0):=hW0
 have HW0:Hid (w.grownBy W0 none/\W0.cell? ⟨w.heap.size,0,none⟩=some (.string xn)/\W0.cell? ⟨w.heap.size,1,none⟩=some (.string xv)/\W0.cell? ⟨w.heap.size,2,none⟩=some (.string xd)/\W0.cell? ⟨w.heap.size,3,none⟩=some (.slice so N.length sc)):=by
  rw [<-hW0]
  exact ⟨gb_alloc (gb_refl w none) _,en_block (heap_alloc_new w _)⟩
 go_enter Tryz.func32,Tryz.ntmps32
 clear hW0
 go_wp2
 go_loopw [8] (fun vi wr=>∃i:Nat,vi=.int .i64 i/\i<=N.length/\(N.take i).all nameB=true/\W0.grownBy wr none) (fun vi _=>N.length - (intOf vi).toNat)
 case atStart=>exact ⟨0,rfl,Nat.zero_le _,rfl,by rw [HWE.out];exact gb_refl _ _⟩
 case round =>
  obtain ⟨i,rfl,hi,hall,hg⟩:=hrel
  have HALL:Hid ((N.take i).all nameB=true):=hall
  have HGW:Hid (W0.grownBy wr none):=hg
  have HG:Hid (w.grownBy wr none):=gb_trans HW0.out.1 hg
  by_cases hlt:i < N.length
  ·obtain ⟨a,rfl,hcv,hat⟩:=txs_at (H1.out.grow HG.out) hlt
   have e0:=hat i hlt
   obtain ⟨y,hy⟩:∃y,N[i]=y:=⟨_,rfl⟩
   rw [hy] at e0
   have CY:Hid (∀w,Calls Tryz.prog 51 #[.string y] w fun e w'=>e=.returned (.bool (nameB y))/\w'=w):=fun w=>CN.out y (by rw [<-hy];exact List.getElem_mem _) w
   have HF:Hid (nameB y=false->R=false):=fun h=>HG0.out i hlt (by rw [hy];exact h)
   have HN:Hid (nameB y=true->(N.take (i+1)).all nameB=true):=fun h=>by
    rw [List.take_succ_eq_append_getElem hlt,List.all_append,HALL.out,hy]
    simp [h]
   obtain ⟨q,hq⟩:∃q,nameB y=q:=⟨_,rfl⟩
   rw [hq] at CY HF HN
   clear hall hg hat hy hq
   cases q with
   | false =>
    go_wp2_with (first | (go_at_call 51;refine (CY.out _).mono ?_;rintro e w' ⟨rfl,rfl⟩))
    go_ret
    exact ⟨ret_bool (HF.out (by trivial)).symm,HG.out⟩
   | true =>
    go_wp2_with (first | (go_at_call 51;refine (CY.out _).mono ?_;rintro e w' ⟨rfl,rfl⟩))
    exact ⟨⟨i+1,by go_num,by omega,HN.out (by trivial),HGW.out⟩,by simp [intOf];omega⟩
  ·have hil:i=N.length:=by omega
   have HR:Hid (R=(q1 && q2 && q3)):=HG1.out (by rw [hil,List.take_length] at hall;exact hall)
   have f0:=hg.cell HW0.out.2.1 (by simp)
   have f1:=hg.cell HW0.out.2.2.1 (by simp)
   have f2:=hg.cell HW0.out.2.2.2.1 (by simp)
   clear hall hg hil hi
   cases q1 with
   | false =>
    go_wp2_with (first | (go_at_call 51;refine (CM.out _).mono ?_;rintro e w' ⟨rfl,rfl⟩))
    go_ret
    exact ⟨ret_bool HR.out.symm,HG.out⟩
   | true =>
    go_wp2_with (first | (go_at_call 51;refine (CM.out _).mono ?_;rintro e w' ⟨rfl,rfl⟩) | (go_at_call 52;refine (CV.out _).mono ?_))
    rintro e w3 ⟨rfl,hg3⟩
    have HG3:Hid (w.grownBy w3 none):=gb_trans HG.out hg3
    have F2:=hg3.cell f2 (by simp)
    clear hg3 f0 f1 f2
    cases q2 with
    | false =>
     go_wp2
     go_ret
     exact ⟨ret_bool HR.out.symm,HG3.out⟩
    | true =>
     go_wp2_with (first | (go_at_call 53;refine (CD.out _).mono ?_;rintro e w' ⟨rfl,rfl⟩))
     go_ret
     exact ⟨ret_bool (by rw [HR.out];cases q3 <;> rfl),HG3.out⟩
end Go.Proofs.YtbbmbnpebiakbaaGreatDoor
namespace Go.Proofs.YtbbmbnpebiakbaaGreatDoor
open Go.RowKit Go.Maps Go.Sort Go.Shelf
set_option linter.unusedVariables false
attribute [local go_sem] Oper.semAt_some
theorem range_in {P:Program} {n:Nat} {g:Operand} {ps:Array Tmp} {assign body:Code} {Q:Exit->Act->World->Prop} {a:Act} {w:World} {gf:Nat} {lb:Array Value}
  (hg:a.eval g=.func (.func gf) #[] lb) (eg:∀args w,(callFunc gf args).run P w=.ok (.enter gf args) w)
  (h:∀(r:Loop) (W4:World),r.state=.ready->r.pending=none->r.params=ps->r.assign=assign->r.body=body->r.tmps=a.tmps->(w.alloc (.deferred (some []))).alloc (.loop r)=W4 →
   CallsIn Fence.wide (n - 1) P gf (#[.func (.yield (w.heap.size+1)) #[] #[]]++lb) W4 (rangePost Fence.wide n P (w.heap.size+1) Q { a with defers:=[{ target:=.collected w.heap.size,args:=#[] }]++a.defers })) :
  (Code.rangeFunc g ps assign body).wpIn Fence.wide n P Q a w:=by
 refine wpIn_rangeFunc ?_
 intro fn hfn
 obtain ⟨r,hr⟩:∃r:Loop,r={ state:=.ready,pending:=none,fn:=fn,tmps:=a.tmps,params:=ps,assign:=assign,body:=body,defers:=w.heap.size }:=⟨_,rfl⟩
 obtain ⟨W1,hW1⟩:∃W1,(w.alloc (.deferred (some []))).alloc (.loop r)=W1:=⟨_,rfl⟩
 have hc:=h r W1 (by rw [hr]) (by rw [hr]) (by rw [hr]) (by rw [hr]) (by rw [hr]) (by rw [hr]) hW1
 have e1:(Instr.enterLoop fn a.tmps ps assign body Fence.wide.round).run P w=.ok (w.heap.size+1,[{ target:=.collected w.heap.size,args:=#[] }]) W1:=by
  rw [<-hW1,hr,show Fence.wide.round=none from rfl]
  exact run_enterLoop_outer _ _ _ _ _
 have e2:(resolve a.eval (rangeCall g (w.heap.size+1)) 0).run P W1=.ok { target:=.fn (.func gf) lb,args:=#[.func (.yield (w.heap.size+1)) #[] #[]] } W1:=by
  simp only [resolve,hg]
  simp [go_sem]
 have e3:(invoke (.fn (.func gf) lb) #[.func (.yield (w.heap.size+1)) #[] #[]]).run P W1=.ok (.enter gf (#[.func (.yield (w.heap.size+1)) #[] #[]]++lb)) W1:=by
  simp [invoke,go_sem,eg]
 have e4:Fence.wide.depth.isSome=true->1<=n:=by
  intro hd
  simp [Fence.wide] at hd
 clear h hr
 refine ⟨w.heap.size+1,[{ target:=.collected w.heap.size,args:=#[] }],W1,{ target:=.fn (.func gf) lb,args:=#[.func (.yield (w.heap.size+1)) #[] #[]] },W1,gf,#[.func (.yield (w.heap.size+1)) #[] #[]]++lb,W1,e1,?_⟩
 refine ⟨e2,?_⟩
 refine ⟨fun _ _=>trivial,?_⟩
 refine ⟨e3,?_⟩
 refine ⟨e4,?_⟩
 exact hc
theorem loop_back (r:Loop) (h1:r.state=.ready) (h2:r.pending=none):({ ({ r with state:=.busy }:Loop) with state:=if (none:Option Code).isNone then .ready else .done,pending:=none }:Loop)=r:=by
 cases r
 simp at h1 h2
 simp [h1,h2]
theorem yield_in {P:Program} {n l:Nat} {r:Loop} {args:Array Value} {W1:World} {R:Ending->World->Prop} (hl:W1.heap[l]?=some (.loop r)) (hps:args.size=r.params.size)
  (h:r.assign.wpIn (Fence.wide.inRound l) n P (Exit.then (fun a₁ w₁=>∃w₂,(Instr.beginRound l).run P w₁=.ok () w₂/\r.body.wpIn (Fence.wide.inRound l) n P (roundPost P l R) a₁ w₂) (fun _ _ _=>False))
   { tmps:=(r.params.zip args).foldl (fun tmps (t,a)=>tmps.setIfInBounds t a) r.tmps,defers:=[] } W1) :
  YieldAt Fence.wide n P l args W1 R:=⟨_,_,_,_,run_yield hl hps,roundIn_of_wpIn trivial h⟩
theorem valS_any (o:Option Addr) (n c:Nat) (w:World):Calls Tryz.prog 60 #[.slice o n c] w fun e w'=>e=.returned (.func (.func 82) #[] #[.pointer (some ⟨w.heap.size,0,none⟩)])/\w'=w.alloc (.cells #[.slice o n c] 40):=by
 go_enter Tryz.func60,Tryz.ntmps60
 go_wp2
 go_ret
 exact ⟨rfl,rfl⟩
set_option maxRecDepth 100000 in
set_option maxHeartbeats 3200000 in
theorem iterS (n l bm:Nat) (hn:1<=n) (o:Option Addr) (c:Nat) (L:List ByteArray) (hL:L.length<=1048576) (J:List ByteArray->World->Prop)
  (hc:∀pre W,J pre W->W.cell? ⟨bm,0,none⟩=some (.slice o L.length c)/\TxS W (.slice o L.length c) L)
  (hY:∀pre x W,J pre W->pre.length < L.length->YieldAt Fence.wide (n - 1) Tryz.prog l #[.string x] W fun e W'=>e=.returned (.bool true)/\J (pre++[x]) W') (W:World) (h0:J [] W) :
  CallsIn Fence.wide n Tryz.prog 82 #[.func (.yield l) #[] #[],.pointer (some ⟨bm,0,none⟩)] W fun e W'=>(∃v,e=.returned v)/\J L W':=by
 refine callsIn_of_wp Tryz.func82 rfl trivial ?_ rfl
 simp only [Tryz.ntmps82,List.size_toArray,List.length_cons,List.length_nil,Nat.reduceAdd,Nat.reduceSub,Array.replicate_succ,Array.replicate_zero,List.push_toArray,List.append_toArray,List.nil_append,List.cons_append]
 obtain ⟨m0,-⟩:=hc [] W h0
 gi_wp2
 clear m0
 gi_loopw [7] (fun vi wr=>∃i:Nat,vi=.int .i64 i/\i<=L.length/\J (L.take i) wr) (fun vi _=>L.length - (intOf vi).toNat)
 case atStart=>exact ⟨0,rfl,Nat.zero_le _,h0⟩
 case round =>
  obtain ⟨i,rfl,hi,hJ⟩:=hrel
  have HJ:Hid (J (L.take i) wr):=hJ
  by_cases hlt:i < L.length
  ·obtain ⟨m1,m2⟩:=hc _ _ hJ
   obtain ⟨a,rfl,hcv,hat⟩:=txs_at m2 hlt
   have e0:=hat i hlt
   obtain ⟨x,hx⟩:∃x,L[i]=x:=⟨_,rfl⟩
   rw [hx] at e0
   obtain ⟨fn,tmps,assign,body,hy,hR⟩:=hY (L.take i) x wr hJ (by simp;omega)
   have HTK:Hid (L.take i++[x]=L.take (i+1)):=by
    show _=_
    rw [List.take_succ_eq_append_getElem hlt,hx]
   clear m1 m2 hat hx hJ
   gi_wp2
   refine hR.mono ?_
   rintro e W3 ⟨rfl,hJ3⟩
   have HJ3:Hid (J (L.take (i+1)) W3):=by show J _ _;rw [<-HTK.out];exact hJ3
   clear hJ3
   gi_wp2
   exact ⟨⟨i+1,by go_num,by omega,HJ3.out⟩,by simp [intOf];omega⟩
  ·have hil:i=L.length:=by omega
   have HJ3:Hid (J L wr):=by
    rw [hil,List.take_length] at hJ
    exact hJ
   clear hJ hil hi
   gi_wp2
   go_end0
   exact ⟨⟨_,rfl⟩,HJ3.out⟩
theorem gb_put (W:World) (l:Nat) (o:Obj):W.grownBy (W.putObj l o) (some l) :=
 ⟨rfl,rfl,rfl,by simp,fun k _ hk=>World.putObj_heap_other (fun e=>hk (by rw [e]))⟩
set_option maxRecDepth 100000 in
set_option maxHeartbeats 6400000 in
theorem appS (bm:Nat) (o:Option Addr) (c:Nat) (L:List ByteArray) (hL:L.length<=1048576) (w:World) (hbm:w.heap[bm]?=some (.cells #[.slice o L.length c] 40 (0,0))) (htx:TxS w (.slice o L.length c) L) :
  CallsIn Fence.wide 4 Tryz.prog 66 #[.slice none 0 0,.func (.func 82) #[] #[.pointer (some ⟨bm,0,none⟩)]] w fun e w'=>∃v,e=.returned v/\w'.ownsRow w.heap.size 9 1 v L.length (L.map Value.string)/\Below w.heap.size w w':=by
 have hinfo2:=infoTx
 obtain ⟨j0,hj0,hjj⟩:=Option.map_eq_some_iff.1 hinfo2
 simp only [Prod.mk.injEq] at hjj
 obtain ⟨hy0,hy1,hyb⟩:=hjj
 clear hinfo2
 have HBM:Hid (w.heap[bm]?=some (.cells #[.slice o L.length c] 40 (0,0))/\TxS w (.slice o L.length c) L):=⟨hbm,htx⟩
 have hbl:bm < w.heap.size:=(Array.getElem?_eq_some_iff.1 hbm).1
 clear hbm htx
 refine callsIn_of_wp_marks Tryz.func66 rfl trivial ?_ rfl
 simp only [Tryz.ntmps66,List.size_toArray,List.length_cons,List.length_nil,Nat.reduceAdd,Nat.reduceSub,Array.replicate_succ,Array.replicate_zero,List.push_toArray,List.append_toArray,List.nil_append,List.cons_append]
 gi_wp2
 refine range_in (gf:=82) (lb:=#[.pointer (some ⟨bm,0,none⟩)]) rfl (enters_of Tryz.func82 (by kernel_rfl) rfl) ?_
 intro r W4 hr1 hr2 hr3 hr4 hr5 hr6 hW4
 obtain ⟨B,hB⟩:∃B,w.heap.size=B:=⟨_,rfl⟩
 have hs1:(w.alloc (.cells #[.slice none 0 0] 40)).heap.size=B+1:=by rw [World.size_alloc,hB]
 rw [hs1]
 have q0:W4.heap[B]?=some (.cells #[.slice none 0 0] 40 (0,0)):=by
  rw [<-hW4,Below.heap_alloc _ _ _ (by simp;omega),Below.heap_alloc _ _ _ (by simp;omega),<-hB]
  exact heap_alloc_new w _
 have qd:W4.heap[B+1]?=some (.deferred (some [])):=by
  rw [<-hW4,Below.heap_alloc _ _ _ (by simp;omega),<-hs1]
  exact heap_alloc_new _ _
 have ql:W4.heap[B+2]?=some (.loop r):=by
  rw [<-hW4]
  have:=heap_alloc_new ((w.alloc (.cells #[.slice none 0 0] 40)).alloc (.deferred (some []))) (.loop r)
  rw [World.size_alloc,hs1] at this
  exact this
 have b4:Below w.heap.size w W4:=by
  rw [<-hW4]
  exact (((Below.refl _ _).alloc (Nat.le_refl _) _).alloc (by simp) _).alloc (by simp;omega) _
 have HB:Hid (w.heap.size=B):=hB
 clear hW4 hs1
 have hbB:bm < B:=by omega
 have hcl:∀W,Below w.heap.size w W->W.cell? ⟨bm,0,none⟩=some (.slice o L.length c)/\TxS W (.slice o L.length c) L:=fun W hb=>by
  refine ⟨?_,HBM.out.2.grow (bel_gb hb)⟩
  rw [Lib.cell_of_heap ((hb.block bm hbl).trans HBM.out.1)]
  rfl
 refine (iterS 3 (B+2) bm (by omega) o c L hL (fun pre W=>(∃v,W.heap[B]?=some (.cells #[v] 40 (0,0))/\W.ownsRow w.heap.size 9 1 v pre.length (pre.map Value.string))/\W.heap[B+2]?=some (.loop r)/\W.heap[B+1]?=some (.deferred (some []))/\Below w.heap.size w W)
  (fun pre W h=>hcl W h.2.2.2) ?yl W4 ⟨⟨_,q0,World.ownsRow_nil _ _ _ _⟩,ql,qd,b4⟩).mono ?fin
 case fin =>
  rintro e W5 ⟨⟨v,rfl⟩,⟨v5,qv,qr⟩,q2,q3,q4⟩
  obtain ⟨W6,hW6⟩:∃W6,W5.putObj (B+2) (Obj.loop { r with state:=.exhausted })=W6:=⟨_,rfl⟩
  have hel:=run_endLoop (P:=Tryz.prog) q2 (by rw [hr1];simp)
  rw [hW6,hr2] at hel
  refine ⟨none,W6,hel,?_⟩
  clear hel
  have p1:W6.heap[B]?=some (.cells #[v5] 40 (0,0)):=by rw [<-hW6];exact (World.putObj_heap_other (by omega)).trans qv
  have p3:W6.heap[B+1]?=some (.deferred (some [])):=by rw [<-hW6];exact (World.putObj_heap_other (by omega)).trans q3
  have pg:W5.grownBy W6 (some (B+2)):=by rw [<-hW6];exact gb_put _ _ _
  have pr:W6.ownsRow w.heap.size 9 1 v5 L.length (L.map Value.string):=qr.kept pg (ownsRow_ne_a qr q2 (fun cur e=>by cases e))
  have p4:Below w.heap.size w W6:=q4.grown pg q4.size (fun k e=>by cases e;omega)
  obtain ⟨pc,pf⟩:=cell_of_box_a p1
  have HPR:Hid (W6.ownsRow w.heap.size 9 1 v5 L.length (L.map Value.string)):=pr
  have hpb:=HB.out
  clear hW6 qv qr q2 q3 q4 hr4 hr5 hr6 q0 qd ql b4 pg pr
  try rw [hpb]
  simp only [List.cons_append,List.nil_append]
  gi_wp2
  refine ⟨by simp,.inl ⟨_,_,rfl,run_takeDeferred p3,?_⟩⟩
  refine ⟨_,results_tmp rfl _ _ _,?_⟩
  exact ⟨v5,rfl,HPR.out.kept (gb_put _ _ _) (ownsRow_ne_a HPR.out p3 (fun cur e=>by cases e)),p4.grown (gb_put _ _ _) p4.size (fun k e=>by cases e;omega)⟩
 case yl =>
  rintro pre x W5 ⟨⟨v5,qv,qr⟩,q2,q3,q4⟩ hlen
  refine yield_in q2 (by rw [hr3];rfl) ?_
  rw [hr3,hr4,hr5,hr6]
  obtain ⟨W6,hW6⟩:∃W6,W5.putObj (B+2) (Obj.loop { r with state:=.busy })=W6:=⟨_,rfl⟩
  have hbr:=run_beginRound (P:=Tryz.prog) q2 hr1
  rw [hW6] at hbr
  have l2:B+2 < W5.heap.size:=(Array.getElem?_eq_some_iff.1 q2).1
  have pg:W5.grownBy W6 (some (B+2)):=by rw [<-hW6];exact gb_put _ _ _
  have p1:W6.heap[B]?=some (.cells #[v5] 40 (0,0)):=by rw [<-hW6];exact (World.putObj_heap_other (by omega)).trans qv
  have p2:W6.heap[B+2]?=some (.loop { r with state:=.busy }):=by rw [<-hW6];exact World.putObj_heap_same l2
  have p3:W6.heap[B+1]?=some (.deferred (some [])):=by rw [<-hW6];exact (World.putObj_heap_other (by omega)).trans q3
  have pr:W6.ownsRow w.heap.size 9 1 v5 pre.length (pre.map Value.string):=qr.kept pg (ownsRow_ne_a qr q2 (fun cur e=>by cases e))
  have p4:Below w.heap.size w W6:=q4.grown pg q4.size (fun k e=>by cases e;omega)
  obtain ⟨pc,pf⟩:=cell_of_box_a p1
  have hz6:=p4.size
  have hB6:B < W6.heap.size:=(Array.getElem?_eq_some_iff.1 p1).1
  have hD6:B+1 < W6.heap.size:=(Array.getElem?_eq_some_iff.1 p3).1
  have hl6:B+2 < W6.heap.size:=(Array.getElem?_eq_some_iff.1 p2).1
  have ne_of:∀{j:Nat} {ob:Obj},W6.heap[j]?=some ob->(∀cur,ob ≠ .cells cur 9 (0,0))->some j ≠ v5.ownBlock:=fun hj hno=>by
   rcases ownsRow_ne_a pr hj hno with e | e
   ·rw [e];simp
   ·exact fun e'=>e e'.symm
  have nB:=ne_of p1 (fun cur e=>by simp at e)
  have nl:=ne_of p2 (fun cur e=>by cases e)
  have nD:=ne_of p3 (fun cur e=>by cases e)
  have hpb:=HB.out
  rw [hpb] at hr6
  clear hW6 qv qr q3 q4 q0 qd ql b4 pg
  rw [hpb]
  clear q2
  gi_wp2_with (first
   | (gi_at_builtin;refine wpListIn_append_own _ rfl _ _ 40 rfl w.heap.size 9 j0 (.string ⟨#[]⟩) 1 16 Tryz.underlying40 hj0 hy0 hy1 hyb rfl (by decide) _ _ _ rfl (pr.alloc _) ⟨W6.heap.size,0,none⟩ 1 1 [.string x] rfl rfl (cell_one_new _ _ _) (by simp [Value.oneCell']) (by unfold maxLen;omega) (by omega) (by simp;omega) ?_;intro v' w3 hown' hg3 hnil3
      have hv3:w3.heap[B]?=some (.cells #[v5] 40 (0,0)):=(hg3.block B (by simp;omega) nB).trans ((Below.heap_alloc _ _ B hB6).trans p1)
      obtain ⟨hc3,hf3⟩:=cell_of_box_a hv3
      obtain ⟨g',cap',cur',rfl,hbase',hgb',hr1',hr2',hr3',hr4'⟩:∃g' cap' cur',v'=.slice (some ⟨g',0,none⟩) (pre.length+1) cap'/\w.heap.size<=g'/\w3.heap[g']?=some (.cells cur' 9 (0,0))/\pre.length+1<=cap'/\cap'<=maxLen/\cur'.size=cap' * 1/\cur'.toList.take ((pre.length+1) * 1)=pre.map Value.string++[.string x]:=by
       rcases hown'.2 with ⟨_,h0⟩ | h'
       ·exact absurd h0 (by omega)
       ·exact h'
      go_frame)
   | gi_in)
  have hg3':(W6.alloc (.cells #[.string x] 9)).grownBy w3 v5.ownBlock:=hg3
  have hL3:w3.heap[B+2]?=some (.loop { r with state:=.busy }):=(hg3'.block (B+2) (by simp;omega) nl).trans ((Below.heap_alloc _ _ _ hl6).trans p2)
  have hK3:w3.heap[B+1]?=some (.deferred (some [])):=(hg3'.block (B+1) (by simp;omega) nD).trans ((Below.heap_alloc _ _ _ hD6).trans p3)
  obtain ⟨w4,hw4⟩:∃w4,w3.setCell ⟨B,0,none⟩ (.slice (some ⟨g',0,none⟩) (pre.length+1) cap')=w4:=⟨_,rfl⟩
  rw [hw4]
  have hg4:w3.grownBy w4 (some B):=by rw [<-hw4];exact grownBy_setCell0_a _ _ _
  have hv4:w4.heap[B]?=some (.cells #[.slice (some ⟨g',0,none⟩) (pre.length+1) cap'] 40 (0,0)):=by rw [<-hw4];exact heap_setCell_box_a _ hv3
  have hL4:w4.heap[B+2]?=some (.loop { r with state:=.busy }):=(hg4.block (B+2) (Array.getElem?_eq_some_iff.1 hL3).1 (by simp)).trans hL3
  have hK4:w4.heap[B+1]?=some (.deferred (some [])):=(hg4.block (B+1) (Array.getElem?_eq_some_iff.1 hK3).1 (by simp)).trans hK3
  have hrow4:=hown'.kept hg4 (ownsRow_ne_a hown' hv3 (fun cur e=>by simp at e))
  have hl4:B+2 < w4.heap.size:=(Array.getElem?_eq_some_iff.1 hL4).1
  have hb3:Below w.heap.size w w3:=(p4.alloc p4.size _).grown hg3' (by simp;omega) (fun k e=>(pr.lt k e).1)
  have hb4:Below w.heap.size w w4:=hb3.grown hg4 hb3.size (fun k e=>by cases e;omega)
  clear hw4
  have hsz4:=hb4.size
  rw [hpb] at hb4 hrow4
  refine ⟨_,_,run_endRound none hL4,rfl,⟨_,(World.putObj_heap_other (by omega)).trans hv4,?_⟩,by rw [World.putObj_heap_same hl4,loop_back r hr1 hr2],(World.putObj_heap_other (by omega)).trans hK4,hb4.grown (gb_put _ _ _) (by omega) (fun k e=>by cases e;omega)⟩
  have:=hrow4.kept (gb_put w4 (B+2) (.loop { { r with state:=.busy } with state:=if (none:Option Code).isNone then .ready else .done,pending:=none })) (ownsRow_ne_a hrow4 hL4 (fun cur e=>by cases e))
  simpa using this
open Go.RowKit
set_option linter.unusedVariables false
def EntI (L:List En) (n:ByteArray) (c:Int):Prop:=(c=-1/\hasNm L n=false)\/∃j,∃hj:j < L.length,c=(j:Int)/\L[j].nm=n/\hasNm (L.take j) n=false
theorem EntI.neg {L:List En} {n:ByteArray} {c:Int} (h:EntI L n c):c < 0 ↔ hasNm L n=false:=by
 rcases h with ⟨rfl,h⟩ | ⟨j,hj,rfl,h1,h2⟩
 ·exact ⟨fun _=>h,fun _=>by omega⟩
 ·refine ⟨fun h=>by omega,fun h=>?_⟩
  have:=nm_at L n L.length j hj hj h1
  rw [List.take_length,h] at this
  cases this
theorem EntI.lt {L:List En} {i:Nat} (hi:i < L.length) {c:Int} (h:EntI L L[i].nm c):c < (i:Int) ↔ hasNm (L.take i) L[i].nm=true:=by
 rcases h with ⟨rfl,h⟩ | ⟨j,hj,rfl,h1,h2⟩
 ·have:=nm_at L L[i].nm L.length i hi hi rfl
  rw [List.take_length,h] at this
  cases this
 ·refine ⟨fun h=>nm_at L _ i j hj (by omega) h1,fun h=>?_⟩
  apply Classical.byContradiction
  intro hn
  rw [nm_up L _ i j (by omega) h] at h2
  cases h2
theorem ens_at {w:World} {o:Option Addr} {c:Nat} {L:List En} (h:EnS w (.slice o L.length c) L) {i:Nat} (hi:i < L.length):∃a,o=some a/\L.length<=c/\∀j (hj:j < L.length),EnAt w (a.add (j * 4)) L[j]:=by
 rcases h with ⟨h1,h2⟩ | ⟨a,cap,h1,h2,h3⟩
 ·rw [h2] at hi;simp at hi
 ·cases h1
  exact ⟨a,rfl,h2,h3⟩
set_option maxRecDepth 100000 in
set_option maxHeartbeats 800000 in
theorem entryOf_any (v:Value) (L:List En) (n:ByteArray) (w:World) (h:EnS w v L) (hL:L.length<=1048576) :
  Calls Tryz.prog 29 #[v,.string n] w fun e w'=>∃c:Int,e=.returned (.int .i64 c)/\EntI L n c/\w.grownBy w' none:=by
 have H1:Hid (EnS w v L):=h
 obtain ⟨o,c,rfl⟩:=ens_slice h
 clear h
 go_enter Tryz.func29,Tryz.ntmps29
 go_wp2
 go_loopw [5] (fun vi wr=>∃i:Nat,vi=.int .i64 i/\i<=L.length/\hasNm (L.take i) n=false/\w.grownBy wr none) (fun vi _=>L.length - (intOf vi).toNat)
 case atStart=>exact ⟨0,rfl,Nat.zero_le _,rfl,gb_refl _ _⟩
 case round =>
  obtain ⟨i,rfl,hi,hf,hg⟩:=hrel
  have HF:Hid (hasNm (L.take i) n=false):=hf
  have HG:Hid (w.grownBy wr none):=hg
  by_cases hlt:i < L.length
  ·obtain ⟨a,rfl,hcv,hat⟩:=ens_at (H1.out.grow hg) hlt
   have e0:=(hat i hlt).1
   obtain ⟨y,hy⟩:∃y,L[i].nm=y:=⟨_,rfl⟩
   rw [hy] at e0
   have HY:Hid (L[i].nm=y):=hy
   clear hf hg hat hy
   by_cases hxy:y=n
   ·have q:=txt_eq hxy
    have HT:Hid (EntI L n (i:Int)):=Or.inr ⟨i,hlt,rfl,HY.out.trans hxy,HF.out⟩
    clear hxy
    go_wp2
    go_ret
    exact ⟨(i:Int),rfl,HT.out,HG.out⟩
   ·have q:=txt_ne hxy
    have HT:Hid (hasNm (L.take (i+1)) n=false):=by
     show _=_
     rw [nm_next L n i hlt,HF.out,HY.out]
     simp [hxy]
    clear hxy
    go_wp2
    exact ⟨⟨i+1,by go_num,by omega,HT.out,HG.out⟩,by simp [intOf];omega⟩
  ·have hil:i=L.length:=by omega
   have HT:Hid (EntI L n (-1)):=Or.inl ⟨rfl,by rw [hil,List.take_length] at hf;exact hf⟩
   clear hf hg hil hi
   go_wp2
   go_ret
   exact ⟨-1,rfl,HT.out,HG.out⟩
theorem fe_many {L:List En} {i:Nat} {x:En} (h:50<=i\/20 < x.nd.length):faultE L i x=4:=by unfold faultE;rw [if_pos h]
theorem fe_text {L:List En} {i:Nat} {x:En} (h:¬ (50<=i\/20 < x.nd.length)) (h2:goodE x=false):faultE L i x=2:=by unfold faultE;rw [if_neg h,if_pos h2]
theorem fe_rest {L:List En} {i:Nat} {x:En} (h:¬ (50<=i\/20 < x.nd.length)) (h2:goodE x=true):faultE L i x=if hasNm (L.take i) x.nm=true\/twS x.nd x.nd.length=true then 5 else if x.nd.all (hasNm L)=true then 0 else 6:=by
 unfold faultE;rw [if_neg h,if_neg (by rw [h2];simp)]
def ErrSo (L:List En) (N:List ByteArray) (k:Nat) (d:Bool) (e:Int):Prop:=(e=0\/e=5\/e=6)/\(twS N k=false->d=false->e=if (N.take k).all (hasNm L)=true then 0 else 6)
theorem all_snoc (L:List En) (N:List ByteArray) (k:Nat) (hk:k < N.length):(N.take (k+1)).all (hasNm L)=((N.take k).all (hasNm L) && hasNm L N[k]):=by
 rw [List.take_succ_eq_append_getElem hk,List.all_append];simp
theorem any_snocT (N:List ByteArray) (y:ByteArray) (k:Nat) (hk:k < N.length):(N.take (k+1)).any (fun z=>decide (z=y))=((N.take k).any (fun z=>decide (z=y)) || decide (N[k]=y)):=by
 rw [List.take_succ_eq_append_getElem hk,List.any_append];simp
theorem ErrSo.next0 {L:List En} {N:List ByteArray} {k:Nat} (hk:k < N.length) {c:Int} (h:ErrSo L N k ((N.take k).any (fun z=>decide (z=N[k]))) 0) (hc:EntI L N[k] c):ErrSo L N (k+1) false (if c < 0 then 6 else 0):=by
 refine ⟨by split <;> simp,fun ht _=>?_⟩
 rw [tws_step N k hk] at ht
 obtain ⟨h1,h2⟩:=Bool.or_eq_false_iff.1 ht
 have h3:=h.2 h1 h2
 have h4:(N.take k).all (hasNm L)=true:=by
  apply Classical.byContradiction
  intro hn
  rw [if_neg hn] at h3
  cases h3
 rw [all_snoc L N k hk,h4,Bool.true_and]
 by_cases hn:c < 0
 ·rw [if_pos hn,if_neg (by rw [hc.neg.1 hn];simp)]
 ·rw [if_neg hn,if_pos]
  cases hh:hasNm L N[k] with
  | true=>rfl
  | false=>exact absurd (hc.neg.2 hh) hn
theorem ErrSo.next1 {L:List En} {N:List ByteArray} {k:Nat} (hk:k < N.length) {e:Int} (he:¬ e=0) (h:ErrSo L N k ((N.take k).any (fun z=>decide (z=N[k]))) e):ErrSo L N (k+1) false e:=by
 refine ⟨h.1,fun ht _=>?_⟩
 rw [tws_step N k hk] at ht
 obtain ⟨h1,h2⟩:=Bool.or_eq_false_iff.1 ht
 have h3:=h.2 h1 h2
 have h4:(N.take k).all (hasNm L)=false:=by
  cases hh:(N.take k).all (hasNm L) with
  | false=>rfl
  | true=>rw [hh,if_pos rfl] at h3;exact absurd h3 he
 rw [all_snoc L N k hk,h4]
 rw [h4] at h3
 exact h3
end Go.Proofs.YtbbmbnpebiakbaaGreatDoor
