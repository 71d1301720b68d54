import Derived.Test.YtpeghomkaphdcaaGreatDoorM12
import Derived.Deep.RegionHeld3
import Derived.Deep.Cut
import Derived.Test.YtpeghomkaphdcaaGreatDoorM06
namespace Go.Proofs.YtpeghomkaphdcaaGreatDoor
open Go.Maps
set_option linter.unusedVariables false
def prA (L:List En) (a:Addr):Nat->DataW Unit
 | 0=>.map []
 | i+1=>match L[i]? with
  | some x=>(prA L a i).put (keyT x.nm) (.agg [codeP (some (a.add (i * 4))),codeP none])
  | none=>prA L a i
theorem prA_step (L:List En) (a:Addr) (i:Nat) (hi:i < L.length):prA L a (i+1)=(prA L a i).put (keyT L[i].nm) (.agg [codeP (some (a.add (i * 4))),codeP none]):=by
 simp [prA,List.getElem?_eq_getElem hi]
theorem prA_map (L:List En) (a:Addr):∀i,i<=L.length->IsMap (prA L a i)
 | 0,_=>isMap_empty
 | i+1,h=>by
  rw [prA_step L a i (by omega)]
  exact (prA_map L a i (by omega)).put _ _
theorem prA_no (L:List En) (a:Addr) (n:ByteArray) (z:DataW Unit):∀i,i<=L.length->(∀k (hk:k < L.length),k < i->¬ L[k].nm=n)->(prA L a i).atKey (keyT n) z=z
 | 0,_,_=>rfl
 | i+1,h,hn=>by
  have hne:keyT n ≠ keyT L[i].nm:=fun e=>hn i (by omega) (by omega) (keyT_inj e).symm
  rw [prA_step L a i (by omega),atKey_put_other hne]
  exact prA_no L a n z i (by omega) (fun k hk hki=>hn k hk (by omega))
theorem prA_at (L:List En) (a:Addr) (n:ByteArray) (z:DataW Unit) (hnd:(L.map (·.nm)).Nodup):∀i,i<=L.length->∀k (hk:k < L.length),k < i->L[k].nm=n->(prA L a i).atKey (keyT n) z=.agg [codeP (some (a.add (k * 4))),codeP none]
 | 0,_,k,hk,hki,_=>by omega
 | i+1,h,k,hk,hki,e=>by
  rw [prA_step L a i (by omega)]
  by_cases hik:k=i
  ·subst hik
   rw [e]
   exact atKey_put_same (prA_map L a k (by omega)) (by trivial) _ _
  ·have hne:keyT n ≠ keyT L[i].nm:=fun e2=>by
    have h1:=(keyT_inj e2).symm
    have:=List.pairwise_iff_getElem.1 hnd k i (by simp;omega) (by simp;omega) (by omega)
    simp only [List.getElem_map] at this
    exact this (e.trans h1.symm)
   rw [atKey_put_other hne]
   exact prA_at L a n z hnd i (by omega) k hk (by omega) e
def ptr (L:List En) (a:Addr) (n:ByteArray):Option Addr:=(L.findIdx? (fun e=>decide (e.nm=n))).map fun i=>a.add (i * 4)
theorem ptr_at (L:List En) (a:Addr) (n:ByteArray) (hnd:(L.map (·.nm)).Nodup) (k:Nat) (hk:k < L.length) (e:L[k].nm=n):ptr L a n=some (a.add (k * 4)):=by
 have:L.findIdx? (fun e=>decide (e.nm=n))=some k:=by
  rw [List.findIdx?_eq_some_iff_getElem]
  refine ⟨hk,by simpa using e,fun j hj=>?_⟩
  have:=List.pairwise_iff_getElem.1 hnd j k (by simp;omega) (by simp;omega) hj
  simp only [List.getElem_map] at this
  simp only [decide_eq_true_eq]
  intro e2
  exact this (e2.trans e.symm)
 unfold ptr
 rw [this];rfl
theorem ptr_no (L:List En) (a:Addr) (n:ByteArray) (h:∀k (hk:k < L.length),¬ L[k].nm=n):ptr L a n=none:=by
 have:L.findIdx? (fun e=>decide (e.nm=n))=none:=by
  rw [List.findIdx?_eq_none_iff]
  intro x hx
  obtain ⟨k,hk,rfl⟩:=List.getElem_of_mem hx
  simpa using h k hk
 unfold ptr
 rw [this];rfl
theorem prA_all (L:List En) (a:Addr) (n:ByteArray) (hnd:(L.map (·.nm)).Nodup):(prA L a L.length).atKey (keyT n) (.agg [codeP none,codeP none])=.agg [codeP (ptr L a n),codeP none]:=by
 by_cases h:∃k,∃hk:k < L.length,L[k].nm=n
 ·obtain ⟨k,hk,e⟩:=h
  rw [prA_at L a n _ hnd L.length (Nat.le_refl _) k hk hk e,ptr_at L a n hnd k hk e]
 ·have h':∀k (hk:k < L.length),¬ L[k].nm=n:=fun k hk e=>h ⟨k,hk,e⟩
  rw [prA_no L a n _ L.length (Nat.le_refl _) (fun k hk _=>h' k hk),ptr_no L a n h']
def prB (L M:List En) (a b:Addr):Nat->DataW Unit
 | 0=>prA L a L.length
 | j+1=>match M[j]? with
  | some y=>(prB L M a b j).put (keyT y.nm) (.agg [codeP (ptr L a y.nm),codeP (some (b.add (j * 4)))])
  | none=>prB L M a b j
theorem prB_step (L M:List En) (a b:Addr) (j:Nat) (hj:j < M.length):prB L M a b (j+1)=(prB L M a b j).put (keyT M[j].nm) (.agg [codeP (ptr L a M[j].nm),codeP (some (b.add (j * 4)))]):=by
 simp [prB,List.getElem?_eq_getElem hj]
theorem prB_map (L M:List En) (a b:Addr):∀j,j<=M.length->IsMap (prB L M a b j)
 | 0,_=>prA_map L a L.length (Nat.le_refl _)
 | j+1,h=>by
  rw [prB_step L M a b j (by omega)]
  exact (prB_map L M a b j (by omega)).put _ _
theorem prB_no (L M:List En) (a b:Addr) (n:ByteArray) (hnd:(L.map (·.nm)).Nodup):∀j,j<=M.length->(∀k (hk:k < M.length),k < j->¬ M[k].nm=n)->(prB L M a b j).atKey (keyT n) (.agg [codeP none,codeP none])=.agg [codeP (ptr L a n),codeP none]
 | 0,_,_=>prA_all L a n hnd
 | j+1,h,hn=>by
  have hne:keyT n ≠ keyT M[j].nm:=fun e=>hn j (by omega) (by omega) (keyT_inj e).symm
  rw [prB_step L M a b j (by omega),atKey_put_other hne]
  exact prB_no L M a b n hnd j (by omega) (fun k hk hkj=>hn k hk (by omega))
theorem prB_at (L M:List En) (a b:Addr) (n:ByteArray) (z:DataW Unit) (hnd:(M.map (·.nm)).Nodup):∀j,j<=M.length->∀k (hk:k < M.length),k < j->M[k].nm=n->(prB L M a b j).atKey (keyT n) z=.agg [codeP (ptr L a n),codeP (some (b.add (k * 4)))]
 | 0,_,k,hk,hkj,_=>by omega
 | j+1,h,k,hk,hkj,e=>by
  rw [prB_step L M a b j (by omega)]
  by_cases hjk:k=j
  ·subst hjk
   rw [e]
   exact atKey_put_same (prB_map L M a b k (by omega)) (by trivial) _ _
  ·have hne:keyT n ≠ keyT M[j].nm:=fun e2=>by
    have h1:=(keyT_inj e2).symm
    have:=List.pairwise_iff_getElem.1 hnd k j (by simp;omega) (by simp;omega) (by omega)
    simp only [List.getElem_map] at this
    exact this (e.trans h1.symm)
   rw [atKey_put_other hne]
   exact prB_at L M a b n z hnd j (by omega) k hk (by omega) e
theorem prB_all (L M:List En) (a b:Addr) (n:ByteArray) (hnd:(L.map (·.nm)).Nodup) (hnd':(M.map (·.nm)).Nodup):(prB L M a b M.length).atKey (keyT n) (.agg [codeP none,codeP none])=.agg [codeP (ptr L a n),codeP (ptr M b n)]:=by
 by_cases h:∃k,∃hk:k < M.length,M[k].nm=n
 ·obtain ⟨k,hk,e⟩:=h
  rw [prB_at L M a b n _ hnd' M.length (Nat.le_refl _) k hk hk e,ptr_at M b n hnd' k hk e]
 ·have h':∀k (hk:k < M.length),¬ M[k].nm=n:=fun k hk e=>h ⟨k,hk,e⟩
  rw [prB_no L M a b n hnd M.length (Nat.le_refl _) (fun k hk _=>h' k hk),ptr_no M b n h']
end Go.Proofs.YtpeghomkaphdcaaGreatDoor
namespace Go.Proofs.YtpeghomkaphdcaaGreatDoor
open Go.RowKit Go.Maps
set_option linter.unusedVariables false
def Flat (v:Value):Prop:=∀a n c,v=.slice (some a) n c->a.spot=none
theorem flat_nil:Flat (.slice none 0 0):=fun a n c e=>by cases e
theorem makeP (n:Int) (w:World):(Instr.makeMap 50 (some (.int .i64 n))).run Tryz.prog w=.ok (.map (some w.heap.size)) (w.alloc (.map #[] 0)):=by kernel_rfl
theorem zeroP (w:World):(zeroValue 62).run Tryz.prog w=.ok (.agg #[.pointer none,.pointer none]) w:=by kernel_rfl
def oA (o:Option Addr):Addr:=o.getD ⟨0,0,none⟩
theorem add_spot {a:Addr} (h:a.spot=none) (n:Nat):okP (some (a.add n))=true:=by
 show (a.add n).spot.isNone=true
 unfold Addr.add
 split
 ·rw [h];rfl
 ·rfl
theorem ptr_ok {L:List En} {a:Addr} (h:a.spot=none) (n:ByteArray):okP (ptr L a n)=true:=by
 unfold ptr
 cases L.findIdx? _ with
 | none=>rfl
 | some k=>exact add_spot h _
theorem ens_row {w:World} {o:Option Addr} {c:Nat} {L:List En} (h:EnS w (.slice o L.length c) L) {i:Nat} (hi:i < L.length):o=some (oA o)/\L.length<=c/\∀j (hj:j < L.length),EnAt w ((oA o).add (j * 4)) L[j]:=by
 rcases h with ⟨h1,rfl⟩ | ⟨a,cap,h1,h2,h3⟩
 ·simp at hi
 ·injection h1 with e1 e2 e3
  subst e1 e3
  exact ⟨rfl,h2,h3⟩
theorem gb_dr (w:World):w.grownBy w.drew none:=⟨rfl,rfl,rfl,Nat.le_refl _,fun _ _ _=>rfl⟩
theorem pr_up {w:World} {B n:Nat} {D:DataW Unit} (hown:w.ownsMap Tryz.prog 9 pairR B n D) (hn:n < 4194304) (x:ByteArray) (hx:x.size<=1048576) (p q:Option Addr) (hp:okP p=true) (hq:okP q=true) :
  ∃w',(Instr.mapUpdate 50 (.map (some B)) (.string x) (.agg #[.pointer p,.pointer q])).run Tryz.prog w=.ok () w'/\w'.ownsMap Tryz.prog 9 pairR B (n+1) (D.put (keyT x) (.agg [codeP p,codeP q]))/\w.grownBy w' (some B) :=
 hown.update keyS Tryz.underlying50 (by unfold maxLen;omega) (Go.WideMaps.keyOf_string_mk Tryz.underlying9 (by unfold maxLen;omega)) (pairR_mk hp hq)
set_option maxRecDepth 100000 in
set_option maxHeartbeats 1600000 in
theorem pairsOf_any (o o':Option Addr) (c c':Nat) (L M:List En) (w:World) (h:EnS w (.slice o L.length c) L) (h':EnS w (.slice o' M.length c') M) (hf:(oA o).spot=none) (hf':(oA o').spot=none) (hL:L.length<=1048576) (hM:M.length<=1048576) (hz:∀x ∈ L,x.nm.size<=1048576) (hz':∀x ∈ M,x.nm.size<=1048576) (hnd:(L.map (·.nm)).Nodup) (hnd':(M.map (·.nm)).Nodup) :
  Calls Tryz.prog 23 #[.slice o L.length c,.slice o' M.length c'] w fun e w'=>∃B,e=.returned (.map (some B))/\w'.ownsMap Tryz.prog 9 pairR B (L.length+M.length) (prB L M (oA o) (oA o') M.length)/\w.grownBy w' none:=by
 have HE:Hid (∀w',w.grownBy w' none->∀i,i < L.length->o=some (oA o)/\L.length<=c/\∀j (hj:j < L.length),EnAt w' ((oA o).add (j * 4)) L[j]):=fun w' hg i hi=>ens_row (h.grow hg) hi
 have HE':Hid (∀w',w.grownBy w' none->∀i,i < M.length->o'=some (oA o')/\M.length<=c'/\∀j (hj:j < M.length),EnAt w' ((oA o').add (j * 4)) M[j]):=fun w' hg i hi=>ens_row (h'.grow hg) hi
 obtain ⟨A,hA⟩:∃A,oA o=A:=⟨_,rfl⟩
 obtain ⟨A',hA'⟩:∃A,oA o'=A:=⟨_,rfl⟩
 rw [hA] at HE hf ⊢
 rw [hA'] at HE' hf' ⊢
 have HOK:Hid (∀n,okP (some (A.add n))=true):=fun n=>add_spot hf n
 have HOK':Hid (∀n,okP (some (A'.add n))=true):=fun n=>add_spot hf' n
 have HPK:Hid (∀n,okP (ptr L A n)=true):=fun n=>ptr_ok hf n
 have HZ:Hid (∀x ∈ L,x.nm.size<=1048576):=hz
 have HZ':Hid (∀x ∈ M,x.nm.size<=1048576):=hz'
 have HSA:Hid (∀i (hi:i < L.length),prA L A (i+1)=(prA L A i).put (keyT L[i].nm) (.agg [codeP (some (A.add (i * 4))),codeP none])):=fun i hi=>prA_step L A i hi
 have HSB:Hid (∀j (hj:j < M.length),prB L M A A' (j+1)=(prB L M A A' j).put (keyT M[j].nm) (.agg [codeP (ptr L A M[j].nm),codeP (some (A'.add (j * 4)))])):=fun j hj=>prB_step L M A A' j hj
 have HLK:Hid (∀j (hj:j < M.length),(prB L M A A' j).atKey (keyT M[j].nm) (.agg [codeP none,codeP none])=.agg [codeP (ptr L A M[j].nm),codeP none]):=fun j hj=>prB_no L M A A' _ hnd j (by omega) (fun k hk hkj e=>by
  have:=List.pairwise_iff_getElem.1 hnd' k j (by simp;omega) (by simp;omega) hkj
  simp only [List.getElem_map] at this
  exact this e)
 obtain ⟨B,hB⟩:∃B,w.heap.size=B:=⟨_,rfl⟩
 have HB:Hid (w.heap.size=B):=hB
 have hmm:=makeP (((L.length:Int))+(M.length:Int)) w
 clear h h' hf hf' hz hz' hnd hnd' hA hA'
 go_enter Tryz.func23,Tryz.ntmps23
 go_wp2
 try rw [hB]
 clear hB hmm
 go_loopw [17] (fun vi wr=>∃i:Nat,vi=.int .i64 i/\i<=L.length/\wr.ownsMap Tryz.prog 9 pairR B i (prA L A i)/\w.grownBy wr none) (fun vi _=>L.length - (intOf vi).toNat)
 case atStart=>exact ⟨0,rfl,Nat.zero_le _,HB.out ▸ World.ownsMap_made _ _ _ _,gb_alloc (gb_refl w none) _⟩
 case round =>
  obtain ⟨i,rfl,hi,hown,hg⟩:=hrel
  have HG:Hid (w.grownBy wr none):=hg
  by_cases hlt:i < L.length
  ·obtain ⟨ho,hcp,hat⟩:=HE.out wr hg i hlt
   obtain ⟨e0,-,-,-⟩:=hat i hlt
   have HN:Hid (prA L A (i+1)=(prA L A i).put (keyT L[i].nm) (.agg [codeP (some (A.add (i * 4))),codeP none])):=HSA.out i hlt
   have hxz:=HZ.out _ (List.getElem_mem hlt)
   obtain ⟨s,hs⟩:∃s,L[i].nm=s:=⟨_,rfl⟩
   rw [hs] at e0 HN hxz
   have hic:i < c:=by omega
   obtain ⟨w1,hrun,hown1,hgrow1⟩:=pr_up hown.drew (by omega) s hxz (some (A.add (i * 4))) none (HOK.out _) rfl
   have HO1:Hid (w1.ownsMap Tryz.prog 9 pairR B (i+1) (prA L A (i+1))):=by rw [HN.out];exact hown1
   have HG1:Hid (w.grownBy w1 none):=gb_farb (gb_trans hg (gb_dr wr)) hgrow1 (Nat.le_of_eq HB.out)
   subst ho
   clear hown hown1 hgrow1 hat hs hg hxz hcp
   go_wp2
   go_region
   all_goals (go_wp2;go_roundw)
   case rel=>exact ⟨i+1,by go_num,by omega,HO1.out,HG1.out⟩
   case measure=>simp [intOf];omega
  ·have hil:i=L.length:=by omega
   have HOA:Hid (wr.ownsMap Tryz.prog 9 pairR B (L.length+0) (prB L M A A' 0)):=by
    rw [hil] at hown;exact hown
   obtain ⟨wo,hwo⟩:∃wo,wo=wr:=⟨_,rfl⟩
   subst hwo
   clear hown hil hi hg
   go_wp2
   go_loopw [33] (fun vj wr=>∃j:Nat,vj=.int .i64 j/\j<=M.length/\wr.ownsMap Tryz.prog 9 pairR B (L.length+j) (prB L M A A' j)/\w.grownBy wr none) (fun vj _=>M.length - (intOf vj).toNat)
   case atStart=>exact ⟨0,rfl,Nat.zero_le _,HOA.out,HG.out⟩
   case round =>
    obtain ⟨j,rfl,hj,hown,hg⟩:=hrel
    have HGJ:Hid (w.grownBy wr none):=hg
    by_cases hlt:j < M.length
    ·obtain ⟨ho,hcp,hat⟩:=HE'.out wr hg j hlt
     obtain ⟨e0,-,-,-⟩:=hat j hlt
     have HN:Hid (prB L M A A' (j+1)=(prB L M A A' j).put (keyT M[j].nm) (.agg [codeP (ptr L A M[j].nm),codeP (some (A'.add (j * 4)))])):=HSB.out j hlt
     have hlk:=HLK.out j hlt
     have hxz:=HZ'.out _ (List.getElem_mem hlt)
     obtain ⟨s,hs⟩:∃s,M[j].nm=s:=⟨_,rfl⟩
     rw [hs] at e0 HN hxz hlk
     have hok:=HPK.out s
     obtain ⟨P1,hP1⟩:∃P,ptr L A s=P:=⟨_,rfl⟩
     rw [hP1] at HN hlk hok
     have hkey:keyOf Tryz.prog 9 (.string s)=some (keyT s):=Go.WideMaps.keyOf_string_mk Tryz.underlying9 (by unfold maxLen;omega)
     have hjc:j < c':=by omega
     subst ho
     clear hat hs hg hcp hP1
     go_upto_region 12 with (first | (at_lookup;refine wpList_lookup_pair _ rfl _ _ 50 rfl 9 62 keyS Tryz.underlying50 (zeroP _) B _ _ rfl hown _ _ rfl hkey P1 none hok rfl hlk ?_) | go_in)
     have e1:=(gb_alloc (gb_refl wr none) (.cells #[.pointer P1,.pointer (some (A'.add (j * 4)))] 62)).cell e0 (by simp)
     obtain ⟨w1,hrun,hown1,hgrow1⟩:=pr_up (hown.alloc (.cells #[.pointer P1,.pointer (some (A'.add (j * 4)))] 62)).drew (by omega) s hxz P1 (some (A'.add (j * 4))) hok (HOK'.out _)
     have HO1:Hid (w1.ownsMap Tryz.prog 9 pairR B (L.length+(j+1)) (prB L M A A' (j+1))):=by rw [HN.out];exact hown1
     have HG1:Hid (w.grownBy w1 none):=gb_farb (gb_trans (gb_alloc HGJ.out _) (gb_dr _)) hgrow1 (Nat.le_of_eq HB.out)
     clear hown hown1 hgrow1 hxz hlk hok hkey e0
     go_region
     all_goals (go_wp2;go_roundw)
     case rel=>exact ⟨j+1,by go_num,by omega,HO1.out,HG1.out⟩
     case measure=>simp [intOf];omega
    ·have hjl:j=M.length:=by omega
     have HOB:Hid (wr.ownsMap Tryz.prog 9 pairR B (L.length+M.length) (prB L M A A' M.length)):=by
      rw [hjl] at hown;exact hown
     clear hown hjl hj hg
     go_wp2
     refine bodyPost_ret (results_tmp (t:=4) rfl _ _ _) rfl ⟨B,rfl,HOB.out,HGJ.out⟩
end Go.Proofs.YtpeghomkaphdcaaGreatDoor
namespace Go.Proofs.YtpeghomkaphdcaaGreatDoor
open Go.RowKit Go.Maps
set_option linter.unusedVariables false
theorem txt_eq {a b:ByteArray} (h:a=b):(a.toList == b.toList)=true:=by rw [h];simp
theorem txt_ne {a b:ByteArray} (h:¬ a=b):(a.toList == b.toList)=false:=by
 cases hb:(a.toList == b.toList) with
 | false=>rfl
 | true =>
  exfalso
  apply h
  have h2:a.toList=b.toList:=by simpa using hb
  rw [Lib.toList_data,Lib.toList_data] at h2
  apply ByteArray.ext
  exact Array.ext' h2
theorem txs_at {w:World} {o:Option Addr} {c:Nat} {L:List ByteArray} (h:TxS w (.slice o L.length c) L) {i:Nat} (hi:i < L.length):∃a,o=some a/\L.length<=c/\∀j (hj:j < L.length),w.cell? (a.add j)=some (.string L[j]):=by
 rcases h with ⟨h1,h2⟩ | ⟨a,cap,h1,h2,h3⟩
 ·rw [h2] at hi;simp at hi
 ·cases h1
  exact ⟨a,rfl,h2,h3⟩
set_option maxRecDepth 100000 in
set_option maxHeartbeats 800000 in
theorem txIndex_any (o:Option Addr) (n c:Nat) (x:ByteArray) (L:List ByteArray) (w:World) (hn:n=L.length) (h:TxS w (.slice o n c) L) (hL:L.length<=1048576) :
  Calls Tryz.prog 78 #[.slice o n c,.string x] w fun e w'=>∃k:Int,e=.returned (.int .i64 k)/\w.grownBy w' none/\(0<=k ↔ L.any (fun y=>decide (y=x))=true):=by
 subst hn
 have H1:Hid (TxS w (.slice o L.length c) L):=h
 have HN:Hid ((L.take L.length).any (fun y=>decide (y=x))=false->L.any (fun y=>decide (y=x))=false):=fun h=>by rwa [List.take_length] at h
 clear h
 go_enter Tryz.func78,Tryz.ntmps78
 go_wp2
 go_loopw [8] (fun vi wr=>∃i:Nat,vi=.int .i64 i/\i<=L.length/\(L.take i).any (fun y=>decide (y=x))=false/\w.grownBy wr none) (fun vi _=>L.length - (intOf vi).toNat)
 case atStart=>exact ⟨0,rfl,Nat.zero_le _,rfl,gb_refl _ _⟩
 case round =>
  obtain ⟨i,rfl,hi,hf,hg⟩:=hrel
  have HF:Hid ((L.take i).any (fun y=>decide (y=x))=false):=hf
  have HG:Hid (w.grownBy wr none):=hg
  by_cases hlt:i < L.length
  ·obtain ⟨a,rfl,hcv,hat⟩:=txs_at (H1.out.grow hg) hlt
   have e0:=hat i hlt
   obtain ⟨y,hy⟩:∃y,L[i]=y:=⟨_,rfl⟩
   rw [hy] at e0
   have HY:Hid (L[i]=y):=hy
   clear hf hg hat hy
   by_cases hxy:x=y
   ·have q:=txt_eq hxy
    have HT:Hid (L.any (fun y=>decide (y=x))=true):=by
     show _=_
     rw [List.any_eq_true]
     exact ⟨L[i],List.getElem_mem _,by rw [HY.out];simp [hxy]⟩
    clear hxy
    go_wp2
    go_ret
    exact ⟨(i:Int),rfl,HG.out,fun _=>HT.out,fun _=>by omega⟩
   ·have q:=txt_ne hxy
    have HT:Hid ((L.take (i+1)).any (fun y=>decide (y=x))=false):=by
     show _=_
     rw [List.take_succ_eq_append_getElem hlt,List.any_append,HF.out,HY.out]
     simp
     exact fun e=>hxy e.symm
    clear hxy
    go_wp2
    exact ⟨⟨i+1,by go_num,by omega,HT.out,HG.out⟩,by simp [intOf];omega⟩
  ·have hil:i=L.length:=by omega
   have HT:Hid (L.any (fun y=>decide (y=x))=false):=HN.out (by rw [<-hil];exact hf)
   clear hf hg hil hi
   go_wp2
   go_ret
   exact ⟨-1,rfl,HG.out,fun h=>by omega,fun h=>by rw [HT.out] at h;cases h⟩
set_option maxRecDepth 100000 in
set_option maxHeartbeats 1600000 in
theorem txContains_any (o:Option Addr) (n c:Nat) (x:ByteArray) (L:List ByteArray) (w:World) (hn:n=L.length) (h:TxS w (.slice o n c) L) (hL:L.length<=1048576) :
  Calls Tryz.prog 54 #[.slice o n c,.string x] w fun e w'=>e=.returned (.bool (L.any (fun y=>decide (y=x))))/\w.grownBy w' none:=by
 have CI:Hid (Calls Tryz.prog 78 #[.slice o n c,.string x] w fun e w'=>∃k:Int,e=.returned (.int .i64 k)/\w.grownBy w' none/\(0<=k ↔ L.any (fun y=>decide (y=x))=true)):=txIndex_any o n c x L w hn h hL
 obtain ⟨q,hq⟩:∃q,L.any (fun y=>decide (y=x))=q:=⟨_,rfl⟩
 rw [hq] at CI ⊢
 clear h hq hL hn
 cases q with
 | true =>
  have CJ:Hid (Calls Tryz.prog 78 #[.slice o n c,.string x] w fun e w'=>(∃k:Int,e=.returned (.int .i64 k)/\0<=k)/\w.grownBy w' none):=CI.out.mono fun e w' ⟨k,h1,h2,h3⟩=>⟨⟨k,h1,h3.2 rfl⟩,h2⟩
  clear CI
  go_enter Tryz.func54,Tryz.ntmps54
  go_wp2_with (first | (go_at_call 78;refine CJ.out.mono ?_))
  rintro e w1 ⟨⟨k,rfl,hk⟩,hg⟩
  go_wp2
  go_ret
  exact ⟨ret_bool (by first | rfl | (simp;done) | (simp;omega)),hg⟩
 | false =>
  have CJ:Hid (Calls Tryz.prog 78 #[.slice o n c,.string x] w fun e w'=>(∃k:Int,e=.returned (.int .i64 k)/\k < 0)/\w.grownBy w' none):=CI.out.mono fun e w' ⟨k,h1,h2,h3⟩=>⟨⟨k,h1,Int.not_le.1 fun h=>by have:=h3.1 h;cases this⟩,h2⟩
  clear CI
  go_enter Tryz.func54,Tryz.ntmps54
  go_wp2_with (first | (go_at_call 78;refine CJ.out.mono ?_))
  rintro e w1 ⟨⟨k,rfl,hk⟩,hg⟩
  go_wp2
  go_ret
  exact ⟨ret_bool (by first | rfl | (simp;done) | (simp;omega)),hg⟩
theorem txs_take {w:World} {a:Addr} {cap:Nat} {L:List ByteArray} (i:Nat) (hi:i<=L.length) (hc:L.length<=cap) (h:∀j (hj:j < L.length),w.cell? (a.add j)=some (.string L[j])):TxS w (.slice (some a) i cap) (L.take i):=by
 have hl:(L.take i).length=i:=by simp;omega
 refine Or.inr ⟨a,cap,by rw [hl],by omega,fun j hj=>?_⟩
 rw [List.getElem_take]
 exact h j (by omega)
set_option maxRecDepth 100000 in
set_option maxHeartbeats 1600000 in
theorem bTwice_any (v:Value) (L:List ByteArray) (w:World) (h:TxS w v L) (hL:L.length<=1048576) :
  Calls Tryz.prog 33 #[v] w fun e w'=>e=.returned (.bool (twS L L.length))/\w.grownBy w' none:=by
 have H1:Hid (TxS w v L):=h
 have CC:Hid (∀(a:Addr) (i c:Nat) (x:ByteArray) (w:World),i<=L.length->TxS w (.slice (some a) i c) (L.take i)->Calls Tryz.prog 54 #[.slice (some a) i c,.string x] w fun e w'=>e=.returned (.bool ((L.take i).any (fun y=>decide (y=x))))/\w.grownBy w' none):=fun a i c x w hi h=>txContains_any (some a) i c x (L.take i) w (by simp;omega) h (by simp;omega)
 obtain ⟨o,c,rfl⟩:=txs_slice h
 have HH:Hid (∀i (hi:i < L.length),(L.take i).any (fun y=>decide (y=L[i]))=true->twS L L.length=true):=tws_hit L
 obtain ⟨R,hR⟩:∃R,twS L L.length=R:=⟨_,rfl⟩
 have HR:Hid (twS L L.length=R):=hR
 rw [hR] at HH ⊢
 clear h hR
 go_enter Tryz.func33,Tryz.ntmps33
 go_wp2
 go_loopw [7] (fun vi wr=>∃i:Nat,vi=.int .i64 i/\i<=L.length/\twS L i=false/\w.grownBy wr none) (fun vi _=>L.length - (intOf vi).toNat)
 case atStart=>exact ⟨0,rfl,Nat.zero_le _,rfl,gb_refl _ _⟩
 case round =>
  obtain ⟨i,rfl,hi,hf,hg⟩:=hrel
  have HF:Hid (twS L i=false):=hf
  have HG:Hid (w.grownBy wr none):=hg
  by_cases hlt:i < L.length
  ·obtain ⟨a,rfl,hcv,hat⟩:=txs_at (H1.out.grow hg) hlt
   have e0:=hat i hlt
   obtain ⟨y,hy⟩:∃y,L[i]=y:=⟨_,rfl⟩
   rw [hy] at e0
   have CY:Hid (Calls Tryz.prog 54 #[.slice (some a) i c,.string y] wr fun e w'=>e=.returned (.bool ((L.take i).any (fun z=>decide (z=y))))/\wr.grownBy w' none):=CC.out a i c y wr (by omega) (txs_take i (by omega) hcv hat)
   have HT:Hid ((L.take i).any (fun z=>decide (z=y))=true->R=true):=fun h=>(HH.out i hlt (by rw [hy];exact h)).symm ▸ rfl
   have HS:Hid ((L.take i).any (fun z=>decide (z=y))=false->twS L (i+1)=false):=fun h=>tws_miss L i hlt (by rw [hy];exact h) HF.out
   obtain ⟨q,hq⟩:∃q,(L.take i).any (fun z=>decide (z=y))=q:=⟨_,rfl⟩
   rw [hq] at CY HT HS
   have hic:(i:Int)<=c:=by omega
   clear hf hg hat hy hq
   cases q with
   | true =>
    go_wp2_with (first | (go_at_call 54;refine CY.out.mono ?_;rintro e w3 ⟨rfl,hg3⟩))
    go_ret
    exact ⟨ret_bool (HT.out (by trivial)).symm,gb_trans HG.out hg3⟩
   | false =>
    go_wp2_with (first | (go_at_call 54;refine CY.out.mono ?_;rintro e w3 ⟨rfl,hg3⟩))
    exact ⟨⟨i+1,by go_num,by omega,HS.out (by trivial),gb_trans HG.out hg3⟩,by simp [intOf];omega⟩
  ·have hil:i=L.length:=by omega
   have HT:Hid (R=false):=HR.out.symm.trans (by rw [<-hil];exact hf)
   clear hf hg hil hi
   go_wp2
   go_ret
   exact ⟨ret_bool HT.out.symm,HG.out⟩
theorem bIsVersion_any (s:ByteArray) (w:World) (hs:s.size < 2 ^ 62):Calls Tryz.prog 52 #[.string s] w fun e w'=>e=.returned (.bool (okV s))/\w.grownBy w' none:=by
 have CR:Hid (∀w,Calls Tryz.prog 70 #[.string s] w fun e w'=>(∃(x1 x2 x3:Int) (x4 x5:ByteArray) (k:Int),e=.returned (.tuple #[.agg #[.int .i64 x1,.int .i64 x2,.int .i64 x3,.string x4,.string x5],.int .i64 (parseV s.data.toList).1,.int .i64 k]))/\w.grownBy w' none):=fun w=>(parse_any s w hs).mono fun e w' ⟨h1,h2⟩=>⟨⟨_,_,_,_,_,_,h1⟩,h2⟩
 unfold okV
 obtain ⟨E,hE⟩:∃E,(parseV s.data.toList).1=E:=⟨_,rfl⟩
 rw [hE] at CR ⊢
 clear hE
 have hd:decide (E=0)=(E == 0):=by rw [Bool.eq_iff_iff];simp
 rw [hd]
 clear hd
 go_enter Tryz.func52,Tryz.ntmps52
 go_wp2_with (first | (go_at_call 70;refine (CR.out _).mono ?_))
 rintro e w1 ⟨⟨x1,x2,x3,x4,x5,k,rfl⟩,hg⟩
 cases hz:(E == 0) with
 | true =>
  go_wp2
  go_ret
  exact ⟨ret_bool hz.symm,gb_alloc hg _⟩
 | false =>
  go_wp2
  go_ret
  exact ⟨ret_bool hz.symm,gb_alloc hg _⟩
theorem en_block {w:World} {N:Nat} {n v d:ByteArray} {sv:Value} {t:TypeId} (h:w.heap[N]?=some (.cells #[.string n,.string v,.string d,sv] t (0,0))):w.cell? ⟨N,0,none⟩=some (.string n)/\w.cell? ⟨N,1,none⟩=some (.string v)/\w.cell? ⟨N,2,none⟩=some (.string d)/\w.cell? ⟨N,3,none⟩=some sv :=
 ⟨by rw [Lib.cell_of_heap h];rfl,by rw [Lib.cell_of_heap h];rfl,by rw [Lib.cell_of_heap h];rfl,by rw [Lib.cell_of_heap h];rfl⟩
set_option maxRecDepth 100000 in
set_option maxHeartbeats 3200000 in
theorem isEntry_any (x:En) (sv:Value) (w:World) (h:TxS w sv x.nd) (hL:x.nd.length<=1048576) (hS:x.nm.size < 2 ^ 60/\x.ve.size < 2 ^ 60/\x.dg.size < 2 ^ 60) (hN:∀y ∈ x.nd,y.size < 2 ^ 60) :
  Calls Tryz.prog 32 #[.agg #[.string x.nm,.string x.ve,.string x.dg,sv]] w fun e w'=>e=.returned (.bool (goodE x))/\w.grownBy w' none:=by
 have H1:Hid (TxS w sv x.nd):=h
 have CN:Hid (∀y ∈ x.nd,∀w,Calls Tryz.prog 51 #[.string y] w fun e w'=>e=.returned (.bool (nameB y))/\w'=w):=fun y hy w=>name_any y w (by have:=hN y hy;omega)
 have CM:Hid (∀w,Calls Tryz.prog 51 #[.string x.nm] w fun e w'=>e=.returned (.bool (nameB x.nm))/\w'=w):=fun w=>name_any x.nm w (by omega)
 have CV:Hid (∀w,Calls Tryz.prog 52 #[.string x.ve] w fun e w'=>e=.returned (.bool (okV x.ve))/\w.grownBy w' none):=fun w=>bIsVersion_any x.ve w (by omega)
 have CD:Hid (∀w,Calls Tryz.prog 53 #[.string x.dg] w fun e w'=>e=.returned (.bool (digB x.dg))/\w'=w):=fun w=>by
  have:=dgCheck_any x.dg w
  rw [chk_isDig] at this
  exact this
 obtain ⟨so,sc,rfl⟩:=txs_slice h
 have HG0:Hid (∀i (hi:i < x.nd.length),nameB x.nd[i]=false->goodE x=false):=fun i hi h=>by
  show goodE x=false
  unfold goodE
  rw [Bool.and_eq_false_iff]
  right
  rw [List.all_eq_false]
  exact ⟨x.nd[i],List.getElem_mem _,by rw [h];simp⟩
 have HG1:Hid (x.nd.all nameB=true->goodE x=(nameB x.nm && okV x.ve && digB x.dg)):=fun h=>by
  show goodE x=_
  unfold goodE
  rw [h,Bool.and_true]
 obtain ⟨R,hR⟩:∃R,goodE x=R:=⟨_,rfl⟩
 rw [hR] at HG0 HG1 ⊢
 obtain ⟨q1,hq1⟩:∃q,nameB x.nm=q:=⟨_,rfl⟩
 obtain ⟨q2,hq2⟩:∃q,okV x.ve=q:=⟨_,rfl⟩
 obtain ⟨q3,hq3⟩:∃q,digB x.dg=q:=⟨_,rfl⟩
 rw [hq1] at CM HG1
 rw [hq2] at CV HG1
 rw [hq3] at CD HG1
 obtain ⟨xn,xv,xd,N⟩:=x
 simp only [] at CM CV CD CN H1 HG0 HG1 hL ⊢
 clear h hS hN hR hq1 hq2 hq3
 obtain ⟨W0,hW0⟩:∃W,w.alloc (.cells #[.string xn,.string xv,.string xd,.slice so N.length sc] 43)=W:=⟨_,rfl⟩
 have HWE:Hid (w.alloc (.cells #[.string xn,.string xv,.string xd,.slice so N.length sc] 43)=W0):=hW0
 have HW0:Hid (w.grownBy W0 none/\W0.cell? ⟨w.heap.size,0,none⟩=some (.string xn)/\W0.cell? ⟨w.heap.size,1,none⟩=some (.string xv)/\W0.cell? ⟨w.heap.size,2,none⟩=some (.string xd)/\W0.cell? ⟨w.heap.size,3,none⟩=some (.slice so N.length sc)):=by
  rw [<-hW0]
  exact ⟨gb_alloc (gb_refl w none) _,en_block (heap_alloc_new w _)⟩
 go_enter Tryz.func32,Tryz.ntmps32
 clear hW0
 go_wp2
 go_loopw [8] (fun vi wr=>∃i:Nat,vi=.int .i64 i/\i<=N.length/\(N.take i).all nameB=true/\W0.grownBy wr none) (fun vi _=>N.length - (intOf vi).toNat)
 case atStart=>exact ⟨0,rfl,Nat.zero_le _,rfl,by rw [HWE.out];exact gb_refl _ _⟩
 case round =>
  obtain ⟨i,rfl,hi,hall,hg⟩:=hrel
  have HALL:Hid ((N.take i).all nameB=true):=hall
  have HGW:Hid (W0.grownBy wr none):=hg
  have HG:Hid (w.grownBy wr none):=gb_trans HW0.out.1 hg
  by_cases hlt:i < N.length
  ·obtain ⟨a,rfl,hcv,hat⟩:=txs_at (H1.out.grow HG.out) hlt
   have e0:=hat i hlt
   obtain ⟨y,hy⟩:∃y,N[i]=y:=⟨_,rfl⟩
   rw [hy] at e0
   have CY:Hid (∀w,Calls Tryz.prog 51 #[.string y] w fun e w'=>e=.returned (.bool (nameB y))/\w'=w):=fun w=>CN.out y (by rw [<-hy];exact List.getElem_mem _) w
   have HF:Hid (nameB y=false->R=false):=fun h=>HG0.out i hlt (by rw [hy];exact h)
   have HN:Hid (nameB y=true->(N.take (i+1)).all nameB=true):=fun h=>by
    rw [List.take_succ_eq_append_getElem hlt,List.all_append,HALL.out,hy]
    simp [h]
   obtain ⟨q,hq⟩:∃q,nameB y=q:=⟨_,rfl⟩
   rw [hq] at CY HF HN
   clear hall hg hat hy hq
   cases q with
   | false =>
    go_wp2_with (first | (go_at_call 51;refine (CY.out _).mono ?_;rintro e w' ⟨rfl,rfl⟩))
    go_ret
    exact ⟨ret_bool (HF.out (by trivial)).symm,HG.out⟩
   | true =>
    go_wp2_with (first | (go_at_call 51;refine (CY.out _).mono ?_;rintro e w' ⟨rfl,rfl⟩))
    exact ⟨⟨i+1,by go_num,by omega,HN.out (by trivial),HGW.out⟩,by simp [intOf];omega⟩
  ·have hil:i=N.length:=by omega
   have HR:Hid (R=(q1 && q2 && q3)):=HG1.out (by rw [hil,List.take_length] at hall;exact hall)
   have f0:=hg.cell HW0.out.2.1 (by simp)
   have f1:=hg.cell HW0.out.2.2.1 (by simp)
   have f2:=hg.cell HW0.out.2.2.2.1 (by simp)
   clear hall hg hil hi
   cases q1 with
   | false =>
    go_wp2_with (first | (go_at_call 51;refine (CM.out _).mono ?_;rintro e w' ⟨rfl,rfl⟩))
    go_ret
    exact ⟨ret_bool HR.out.symm,HG.out⟩
   | true =>
    go_wp2_with (first | (go_at_call 51;refine (CM.out _).mono ?_;rintro e w' ⟨rfl,rfl⟩) | (go_at_call 52;refine (CV.out _).mono ?_))
    rintro e w3 ⟨rfl,hg3⟩
    have HG3:Hid (w.grownBy w3 none):=gb_trans HG.out hg3
    have F2:=hg3.cell f2 (by simp)
    clear hg3 f0 f1 f2
    cases q2 with
    | false =>
     go_wp2
     go_ret
     exact ⟨ret_bool HR.out.symm,HG3.out⟩
    | true =>
     go_wp2_with (first | (go_at_call 53;refine (CD.out _).mono ?_;rintro e w' ⟨rfl,rfl⟩))
     go_ret
     exact ⟨ret_bool (by rw [HR.out];cases q3 <;> rfl),HG3.out⟩
end Go.Proofs.YtpeghomkaphdcaaGreatDoor
