import Derived.Test.YtbbmbnpebiakbaaGreatDoorB17
import Derived.Test.YtbbmbnpebiakbaaGreatDoorB02
import Derived.Test.YtbbmbnpebiakbaaGreatDoorB14
import Derived.Test.YtbbmbnpebiakbaaGreatDoorRows
import Derived.Test.YtbbmbnpebiakbaaGreatDoorB01
import Derived.ProofKit
import Derived.OpenShut
import Derived.ShutString
import Derived.SizedLaws
import Derived.Lib.SmallJoins
import Derived.Deep.Slices
import Derived.Carry
import Derived.DataReads
namespace Go.Proofs.YtbbmbnpebiakbaaGreatDoor
open Go.RowKit
set_option linter.unusedVariables false
set_option maxRecDepth 100000 in
set_option maxHeartbeats 1600000 in
theorem rising_nil (w:World) :
  Calls Tryz.prog 21 #[.slice none 0 0] w fun e w'=>e=.returned (.slice none 0 0)/\w.grownBy w' none:=by
 have CS:Hid (∀w,Calls Tryz.prog 30 #[.slice none 0 0] w fun e w'=>∃o c,e=.returned (.slice o 0 c)/\w.grownBy w' none):=fun w=>(cSorted (.slice none 0 0) [] w (Or.inl ⟨rfl,rfl⟩) (by simp)).mono (by
  rintro e w4 ⟨v4,S,rfl,hown4,hp4,hr4,hb4⟩
  have hS:S=[]:=List.Perm.eq_nil hp4
  subst hS
  have htx4:TxS w4 v4 []:=txs_own rfl hown4
  obtain ⟨o,c,rfl⟩:=txs_slice htx4
  exact ⟨o,c,rfl,bel_gb hb4⟩)
 go_enter Tryz.func21,Tryz.ntmps21
 go_wp2
 go_loopw [3,4] (fun vm vi wr=>vm=.slice none 0 0/\vi=.int .i64 0/\w.grownBy wr none) (fun _ vi _=>0)
 case atStart=>exact ⟨rfl,rfl,gb_refl w none⟩
 case round =>
  obtain ⟨rfl,rfl,hb⟩:=hrel
  have HB:Hid (w.grownBy wr none):=hb
  clear hb
  go_wp2_with (first | (go_at_call 30;refine (CS.out _).mono ?_))
  rintro e w4 ⟨o,c,rfl,hg⟩
  have HB4:Hid (w.grownBy w4 none):=gb_trans HB.out hg
  clear hg
  go_wp2
  go_loopw [5,6] (fun vm vi wr=>vm=.slice none 0 0/\vi=.int .i64 0/\w.grownBy wr none) (fun _ vi _=>0)
  case atStart=>exact ⟨rfl,rfl,HB4.out⟩
  case round =>
   obtain ⟨rfl,rfl,hb⟩:=hrel
   have HB5:Hid (w.grownBy wr none):=hb
   clear hb
   go_wp2
   refine bodyPost_ret (results_tmp (t:=2) rfl _ _ _) rfl ⟨rfl,HB5.out⟩
set_option maxRecDepth 100000 in
set_option maxHeartbeats 1600000 in
theorem refPrint_nil (w:World) :
  Calls Tryz.prog 9 #[.slice none 0 0] w fun e w'=>e=.returned (.tuple #[.string ⟨#[102,111,114,109,97,116,32,61,32,49,10]⟩,.int .i64 0,.int .i64 0])/\w.grownBy w' none:=by
 have CR:Hid (∀w,Calls Tryz.prog 21 #[.slice none 0 0] w fun e w'=>e=.returned (.slice none 0 0)/\w.grownBy w' none):=rising_nil
 go_enter Tryz.func9,Tryz.ntmps9
 go_wp2
 go_loopw [5] (fun vi wr=>vi=.int .i64 0/\w.grownBy wr none) (fun vi _=>0)
 case atStart=>exact ⟨rfl,gb_refl w none⟩
 case round =>
  obtain ⟨rfl,hb⟩:=hrel
  have HB:Hid (w.grownBy wr none):=hb
  clear hb
  go_wp2_with (first | (go_at_call 21;refine (CR.out _).mono ?_))
  rintro e w4 ⟨rfl,hg⟩
  have HB4:Hid (w.grownBy w4 none):=gb_trans HB.out hg
  clear hg
  go_wp2
  go_loopw [7,9] (fun vm vi wr=>vm=.string ⟨#[102,111,114,109,97,116,32,61,32,49,10]⟩/\vi=.int .i64 0/\w.grownBy wr none) (fun _ vi _=>0)
  case atStart=>exact ⟨rfl,rfl,HB4.out⟩
  case round =>
   obtain ⟨rfl,rfl,hb⟩:=hrel
   have HB5:Hid (w.grownBy wr none):=hb
   clear hb
   go_wp2
   refine bodyPost_ret (results_tmp3 (t:=2) (u:=3) (v:=4) rfl _ _ _) rfl ⟨rfl,HB5.out⟩
theorem cPrintLock (v:Value) (L:List En) (w:World) (h:EnS w v L) (hL:L.length<=1048576) (hV:∀x ∈ L,x.nm.size<=1048576/\x.ve.size<=1048576/\x.dg.size<=1048576) (hN:∀x ∈ L,x.nd.length<=1048576) (hS:∀x ∈ L,∀y ∈ x.nd,y.size<=1048576) :
  Calls Tryz.prog 9 #[v] w fun e w'=>e=.returned (.tuple #[.string (lockR L),.int .i64 (lockFrom L L.length).1,.int .i64 ((lockFrom L L.length).2:Int)])/\w.grownBy w' none:=by
 rcases h with ⟨rfl,rfl⟩ | ⟨a,cap,rfl,h2,h3⟩
 ·have e0:lockFrom [] ([]:List En).length=(0,0):=rfl
  have e1:lockR []=⟨#[102,111,114,109,97,116,32,61,32,49,10]⟩:=by
   unfold lockR
   rw [e0,if_pos rfl]
   have:sortE []=[]:=List.Perm.eq_nil (sortE_perm [])
   unfold lockT
   rw [this];rfl
  rw [e0,e1]
  exact refPrint_nil w
 ·exact refPrint_at a cap L w h2 h3 hL hV hN hS
open Go.RowKit
set_option linter.unusedVariables false
set_option maxRecDepth 100000 in
set_option maxHeartbeats 800000 in
theorem turned_nil (w:World) :
  Calls Tryz.prog 12 #[.slice none 0 0] w fun e w'=>∃v,e=.returned v/\EnS w' v []/\w.grownBy w' none:=by
 go_enter Tryz.func12,Tryz.ntmps12
 go_wp2
 go_loopw [3,4] (fun vm vi wr=>vm=.slice none 0 0/\vi=.int .i64 (-1)/\w.grownBy wr none) (fun _ vi _=>0)
 case atStart=>exact ⟨rfl,rfl,gb_refl w none⟩
 case round =>
  obtain ⟨rfl,rfl,hb⟩:=hrel
  have HB:Hid (w.grownBy wr none):=hb
  clear hb
  go_wp2
  refine bodyPost_ret (results_tmp (t:=2) rfl _ _ _) rfl ⟨_,rfl,Or.inl ⟨rfl,rfl⟩,HB.out⟩
theorem turned_any (v:Value) (L:List En) (w:World) (h:EnS w v L) (hL:L.length<=1048576) (hN:∀x ∈ L,x.nd.length<=1048576) :
  Calls Tryz.prog 12 #[v] w fun e w'=>∃o c,e=.returned (.slice o (turnE L).length c)/\EnS w' (.slice o (turnE L).length c) (turnE L)/\w.grownBy w' none:=by
 have key:Calls Tryz.prog 12 #[v] w fun e w'=>∃v,e=.returned v/\EnS w' v (turnE L)/\w.grownBy w' none:=by
  rcases h with ⟨rfl,rfl⟩ | ⟨a,cap,rfl,h2,h3⟩
  ·exact turned_nil w
  ·exact turned_at a cap L w hL h2 hN h3
 refine key.mono fun e w' ⟨v,h1,h2,h3⟩=>?_
 obtain ⟨o,c,rfl⟩:=ens_slice h2
 exact ⟨o,c,h1,h2,h3⟩
set_option maxRecDepth 100000 in
set_option maxHeartbeats 1600000 in
theorem swapped_zero (o:Option Addr) (c:Nat) (i j:Int) (w:World) :
  Calls Tryz.prog 13 #[.slice o 0 c,.int .i64 i,.int .i64 j] w fun e w'=>∃v,e=.returned v/\EnS w' v []/\w.grownBy w' none:=by
 have hinfo:=infoRn
 obtain ⟨i0,hi0,hii⟩:=Option.map_eq_some_iff.1 hinfo
 clear hinfo hii
 by_cases h1:0<=i
 ·have h3:¬ i < 0:=by omega
  by_cases h2:0<=j
  ·go_enter Tryz.func13,Tryz.ntmps13
   go_wp2_with (first | (at_builtin;refine append_zero rfl _ _ 22 rfl 42 i0 Tryz.underlying22 hi0 rfl _ _ rfl ?_))
   refine bodyPost_ret (results_tmp (t:=6) rfl _ _ _) rfl ⟨_,rfl,Or.inl ⟨rfl,rfl⟩,gb_refl _ _⟩
  ·go_enter Tryz.func13,Tryz.ntmps13
   go_wp2_with (first | (at_builtin;refine append_zero rfl _ _ 22 rfl 42 i0 Tryz.underlying22 hi0 rfl _ _ rfl ?_))
   refine bodyPost_ret (results_tmp (t:=6) rfl _ _ _) rfl ⟨_,rfl,Or.inl ⟨rfl,rfl⟩,gb_refl _ _⟩
 ·go_enter Tryz.func13,Tryz.ntmps13
  go_wp2_with (first | (at_builtin;refine append_zero rfl _ _ 22 rfl 42 i0 Tryz.underlying22 hi0 rfl _ _ rfl ?_))
  refine bodyPost_ret (results_tmp (t:=6) rfl _ _ _) rfl ⟨_,rfl,Or.inl ⟨rfl,rfl⟩,gb_refl _ _⟩
set_option maxRecDepth 100000 in
set_option maxHeartbeats 1600000 in
theorem swapped_same (a:Addr) (cap:Nat) (L:List En) (i j:Int) (w:World) (hL:L.length<=1048576) (hcap:L.length<=cap) (hL0:0 < L.length) (h:∀i (hi:i < L.length),EnAt w (a.add (i * 4)) L[i]) (hno:¬ ((0<=i/\i < L.length)/\0<=j/\j < L.length)) :
  Calls Tryz.prog 13 #[.slice (some a) L.length cap,.int .i64 i,.int .i64 j] w fun e w'=>∃v,e=.returned v/\EnS w' v L/\w.grownBy w' none:=by
 obtain ⟨vs,hvl,hnews,htx⟩:∃vs:List Value,∃hl:vs.length=L.length,(∀q u,(enCs L vs)[q]?=some u->w.cell? (a.add q)=some u)/\∀k (hk:k < L.length),TxS w (vs[k]'(by omega)) L[k].nd:=ens_vs L h
 have HNE:Hid (∀q u,(enCs L vs)[q]?=some u->w.cell? (a.add q)=some u):=hnews
 have HTX:Hid (∀k (hk:k < L.length),TxS w (vs[k]'(by omega)) L[k].nd):=htx
 have HVL:Hid (vs.length=L.length):=hvl
 have hlen:(enCs L vs).length=L.length * 4:=enCs_len L vs hvl.symm
 have hone:∀u ∈ enCs L vs,u.oneCell'=true:=encs_one L vs hvl.symm (fun k hk=>by
  obtain ⟨o,c,e⟩:=txs_slice (htx k (by omega))
  rw [e];rfl)
 have hinfo:=infoRn
 obtain ⟨i0,hi0,hii⟩:=Option.map_eq_some_iff.1 hinfo
 simp only [Prod.mk.injEq] at hii
 obtain ⟨hz0,hz1,hzb⟩:=hii
 obtain ⟨n,hn⟩:∃n,L.length=n:=⟨_,rfl⟩
 have HN:Hid (L.length=n):=hn
 rw [hn] at hlen hL hcap hno hL0 ⊢
 have HE:Hid (∀g cap1 w1,w1.ownsRow w.heap.size 42 4 (.slice (some ⟨g,0,none⟩) (0+n) cap1) (0+n) ([]++enCs L vs)->w.grownBy w1 none->EnS w1 (.slice (some ⟨g,0,none⟩) n cap1) L):=fun g cap1 w1 h1 h2=>by
  rw [Nat.zero_add,List.nil_append] at h1
  exact own_ens HVL.out HN.out h1 (fun k hk=>(HTX.out k hk).grow h2)
 clear h hinfo hn hnews htx
 by_cases h1:0<=i
 ·by_cases h2:0<=j
  ·by_cases h3:i < n
   ·have h4:¬ j < n:=fun h=>hno ⟨⟨h1,h3⟩,h2,h⟩
    clear hno
    go_enter Tryz.func13,Tryz.ntmps13
    go_wp2_with (first | (at_builtin;refine wpList_append_lies _ rfl _ _ 22 rfl w.heap.size 42 i0 _ 4 72 Tryz.underlying22 hi0 hz0 hz1 hzb rfl (by decide) (.slice none 0 0) 0 [] rfl (World.ownsRow_nil _ _ _ _) a n cap (enCs L vs) rfl hlen HNE.out hone (by omega) (by unfold maxLen;omega) (by omega) (Nat.le_refl _) _ rfl ?_;intro g cap1 w1 hown hgrow hat hlt;have HF:Hid (EnS w1 (.slice (some ⟨g,0,none⟩) n cap1) L):=HE.out g cap1 w1 hown hgrow;have HGF:Hid (w.grownBy w1 none):=hgrow;clear hown hgrow hat hlt))
    refine bodyPost_ret (results_tmp (t:=6) rfl _ _ _) rfl ⟨_,rfl,HF.out,HGF.out⟩
   ·clear hno
    go_enter Tryz.func13,Tryz.ntmps13
    go_wp2_with (first | (at_builtin;refine wpList_append_lies _ rfl _ _ 22 rfl w.heap.size 42 i0 _ 4 72 Tryz.underlying22 hi0 hz0 hz1 hzb rfl (by decide) (.slice none 0 0) 0 [] rfl (World.ownsRow_nil _ _ _ _) a n cap (enCs L vs) rfl hlen HNE.out hone (by omega) (by unfold maxLen;omega) (by omega) (Nat.le_refl _) _ rfl ?_;intro g cap1 w1 hown hgrow hat hlt;have HF:Hid (EnS w1 (.slice (some ⟨g,0,none⟩) n cap1) L):=HE.out g cap1 w1 hown hgrow;have HGF:Hid (w.grownBy w1 none):=hgrow;clear hown hgrow hat hlt))
    refine bodyPost_ret (results_tmp (t:=6) rfl _ _ _) rfl ⟨_,rfl,HF.out,HGF.out⟩
  ·clear hno
   go_enter Tryz.func13,Tryz.ntmps13
   go_wp2_with (first | (at_builtin;refine wpList_append_lies _ rfl _ _ 22 rfl w.heap.size 42 i0 _ 4 72 Tryz.underlying22 hi0 hz0 hz1 hzb rfl (by decide) (.slice none 0 0) 0 [] rfl (World.ownsRow_nil _ _ _ _) a n cap (enCs L vs) rfl hlen HNE.out hone (by omega) (by unfold maxLen;omega) (by omega) (Nat.le_refl _) _ rfl ?_;intro g cap1 w1 hown hgrow hat hlt;have HF:Hid (EnS w1 (.slice (some ⟨g,0,none⟩) n cap1) L):=HE.out g cap1 w1 hown hgrow;have HGF:Hid (w.grownBy w1 none):=hgrow;clear hown hgrow hat hlt))
   refine bodyPost_ret (results_tmp (t:=6) rfl _ _ _) rfl ⟨_,rfl,HF.out,HGF.out⟩
 ·clear hno
  go_enter Tryz.func13,Tryz.ntmps13
  go_wp2_with (first | (at_builtin;refine wpList_append_lies _ rfl _ _ 22 rfl w.heap.size 42 i0 _ 4 72 Tryz.underlying22 hi0 hz0 hz1 hzb rfl (by decide) (.slice none 0 0) 0 [] rfl (World.ownsRow_nil _ _ _ _) a n cap (enCs L vs) rfl hlen HNE.out hone (by omega) (by unfold maxLen;omega) (by omega) (Nat.le_refl _) _ rfl ?_;intro g cap1 w1 hown hgrow hat hlt;have HF:Hid (EnS w1 (.slice (some ⟨g,0,none⟩) n cap1) L):=HE.out g cap1 w1 hown hgrow;have HGF:Hid (w.grownBy w1 none):=hgrow;clear hown hgrow hat hlt))
  refine bodyPost_ret (results_tmp (t:=6) rfl _ _ _) rfl ⟨_,rfl,HF.out,HGF.out⟩
theorem swapped_any (v:Value) (L:List En) (i j:Int) (w:World) (h:EnS w v L) (hL:L.length<=1048576) :
  Calls Tryz.prog 13 #[v,.int .i64 i,.int .i64 j] w fun e w'=>∃o c,e=.returned (.slice o (swapE L i j).length c)/\EnS w' (.slice o (swapE L i j).length c) (swapE L i j)/\w.grownBy w' none:=by
 have key:Calls Tryz.prog 13 #[v,.int .i64 i,.int .i64 j] w fun e w'=>∃v,e=.returned v/\EnS w' v (swapE L i j)/\w.grownBy w' none:=by
  rcases h with ⟨rfl,rfl⟩ | ⟨a,cap,rfl,h2,h3⟩
  ·have e:swapE [] i j=[]:=by unfold swapE;rw [dif_neg (by first | (simp;done) | (simp;omega))]
   rw [e]
   exact swapped_zero none 0 i j w
  ·by_cases hc:(0<=i/\i < L.length)/\0<=j/\j < L.length
   ·obtain ⟨i',rfl⟩:∃n:Nat,i=(n:Int):=⟨i.toNat,by omega⟩
    obtain ⟨j',rfl⟩:∃n:Nat,j=(n:Int):=⟨j.toNat,by omega⟩
    have e:swapE L i' j'=(L.set i' (L[j']'(by omega))).set j' (L[i']'(by omega)):=by unfold swapE;rw [dif_pos hc];rfl
    rw [e]
    exact swapped_at a cap L i' j' w hL h2 h3 (by omega) (by omega)
   ·have e:swapE L i j=L:=by unfold swapE;rw [dif_neg hc]
    rw [e]
    by_cases h0:L.length=0
    ·obtain rfl:=List.length_eq_zero_iff.1 h0
     exact swapped_zero (some a) cap i j w
    ·exact swapped_same a cap L i j w hL h2 (by omega) h3 hc
 refine key.mono fun e w' ⟨v,h1,h2,h3⟩=>?_
 obtain ⟨o,c,rfl⟩:=ens_slice h2
 exact ⟨o,c,h1,h2,h3⟩
open Go.RowKit
set_option linter.unusedVariables false
set_option maxRecDepth 100000 in
set_option maxHeartbeats 1600000 in
theorem bookOrderLaw (sl:Value) (i j:Int) (L:List En) (w:World) (h:EnS w sl L) (hL:L.length<=1048576) (hV:∀x ∈ L,x.nm.size<=1048576/\x.ve.size<=1048576/\x.dg.size<=1048576) (hN:∀x ∈ L,x.nd.length<=1048576) (hS:∀x ∈ L,∀y ∈ x.nd,y.size<=1048576) :
  Calls Tryz.prog 4 #[sl,.int .i64 i,.int .i64 j] w fun e w'=>e=.returned (.bool true)/\w.grownBy w' none:=by
 have hLt:(turnE L).length<=1048576:=by unfold turnE;simpa using hL
 have hVt:∀x ∈ turnE L,x.nm.size<=1048576/\x.ve.size<=1048576/\x.dg.size<=1048576:=fun x hx=>by
  obtain ⟨y,hy,rfl⟩:=mem_turn hx
  exact hV y hy
 have hNt:∀x ∈ turnE L,x.nd.length<=1048576:=fun x hx=>by
  obtain ⟨y,hy,rfl⟩:=mem_turn hx
  show y.nd.reverse.length<=_
  rw [List.length_reverse];exact hN y hy
 have hSt:∀x ∈ turnE L,∀y ∈ x.nd,y.size<=1048576:=fun x hx z hz=>by
  obtain ⟨y,hy,rfl⟩:=mem_turn hx
  exact hS y hy z (List.mem_reverse.1 hz)
 have hLs:(swapE L i j).length<=1048576:=by rw [(swapE_perm L i j).length_eq];exact hL
 have hms:∀x ∈ swapE L i j,x ∈ L:=fun x hx=>(swapE_perm L i j).subset hx
 have CE:Hid (∀v w',EnS w' v L->Calls Tryz.prog 7 #[v] w' fun e w''=>∃o c,e=.returned (.slice o L.length c)/\EnS w'' (.slice o L.length c) L/\w'.grownBy w'' none):=fun v w' h=>cEntries v L w' h hL hN
 have CEt:Hid (∀v w',EnS w' v (turnE L)->Calls Tryz.prog 7 #[v] w' fun e w''=>∃o c,e=.returned (.slice o (turnE L).length c)/\EnS w'' (.slice o (turnE L).length c) (turnE L)/\w'.grownBy w'' none):=fun v w' h=>cEntries v _ w' h hLt hNt
 have CEs:Hid (∀v w',EnS w' v (swapE L i j)->Calls Tryz.prog 7 #[v] w' fun e w''=>∃o c,e=.returned (.slice o (swapE L i j).length c)/\EnS w'' (.slice o (swapE L i j).length c) (swapE L i j)/\w'.grownBy w'' none):=fun v w' h=>cEntries v _ w' h hLs (fun x hx=>hN x (hms x hx))
 have CP:Hid (∀v w',EnS w' v L->Calls Tryz.prog 8 #[v] w' fun e w''=>e=.returned (.tuple #[.string (lockR L),.int .i64 (lockFrom L L.length).1,.int .i64 ((lockFrom L L.length).2:Int)])/\w'.grownBy w'' none):=fun v w' h=>bPrint_any v L w' h hL hV hN hS
 have CPt:Hid (∀v w',EnS w' v (turnE L)->Calls Tryz.prog 8 #[v] w' fun e w''=>e=.returned (.tuple #[.string (lockR (turnE L)),.int .i64 (lockFrom (turnE L) (turnE L).length).1,.int .i64 ((lockFrom (turnE L) (turnE L).length).2:Int)])/\w'.grownBy w'' none):=fun v w' h=>bPrint_any v _ w' h hLt hVt hNt hSt
 have CPs:Hid (∀v w',EnS w' v (swapE L i j)->Calls Tryz.prog 8 #[v] w' fun e w''=>e=.returned (.tuple #[.string (lockR (swapE L i j)),.int .i64 (lockFrom (swapE L i j) (swapE L i j).length).1,.int .i64 ((lockFrom (swapE L i j) (swapE L i j).length).2:Int)])/\w'.grownBy w'' none):=fun v w' h=>bPrint_any v _ w' h hLs (fun x hx=>hV x (hms x hx)) (fun x hx=>hN x (hms x hx)) (fun x hx=>hS x (hms x hx))
 have CD:Hid (∀w',w.grownBy w' none->Calls Tryz.prog 9 #[sl] w' fun e w''=>e=.returned (.tuple #[.string (lockR L),.int .i64 (lockFrom L L.length).1,.int .i64 ((lockFrom L L.length).2:Int)])/\w'.grownBy w'' none):=fun w' hg=>cPrintLock sl L w' (h.grow hg) hL hV hN hS
 have CT:Hid (∀w',w.grownBy w' none->Calls Tryz.prog 12 #[sl] w' fun e w''=>∃o c,e=.returned (.slice o (turnE L).length c)/\EnS w'' (.slice o (turnE L).length c) (turnE L)/\w'.grownBy w'' none):=fun w' hg=>turned_any sl L w' (h.grow hg) hL hN
 have CS:Hid (∀w',w.grownBy w' none->Calls Tryz.prog 13 #[sl,.int .i64 i,.int .i64 j] w' fun e w''=>∃o c,e=.returned (.slice o (swapE L i j).length c)/\EnS w'' (.slice o (swapE L i j).length c) (swapE L i j)/\w'.grownBy w'' none):=fun w' hg=>swapped_any sl L i j w' (h.grow hg) hL
 have CM:Hid (∀n w,Calls Tryz.prog 11 #[.int .i64 n] w fun e w'=>e=.returned (.int .i64 n)/\w'=w):=fun n w=>lnum_any n w
 have HT0:Hid (¬ (lockFrom L L.length).1=0->lockR L=⟨#[]⟩):=fun h0=>by show lockR L=_;unfold lockR;rw [if_neg h0]
 have HTT:Hid ((lockFrom L L.length).1=0->lockR (turnE L)=lockR L/\lockR (swapE L i j)=lockR L):=fun h0=>⟨lockR_turn h0,lockR_swap i j h0⟩
 have HE1:Hid ((lockFrom (turnE L) (turnE L).length).1=0 ↔ (lockFrom L L.length).1=0):=lock_turn L
 have HE2:Hid ((lockFrom (swapE L i j) (swapE L i j).length).1=0 ↔ (lockFrom L L.length).1=0):=lock_swap L i j
 have HEN:Hid (EnS w sl L):=h
 obtain ⟨o0,c0,rfl⟩:=ens_slice h
 obtain ⟨Lt,hLt'⟩:∃M,turnE L=M:=⟨_,rfl⟩
 obtain ⟨Ls,hLs'⟩:∃M,swapE L i j=M:=⟨_,rfl⟩
 rw [hLt'] at CEt CPt CT HTT HE1
 rw [hLs'] at CEs CPs CS HTT HE2
 clear hLt hVt hNt hSt hLs hms h hV hN hS hLt' hLs'
 obtain ⟨nt,hnt⟩:∃n,Lt.length=n:=⟨_,rfl⟩
 obtain ⟨ns,hns⟩:∃n,Ls.length=n:=⟨_,rfl⟩
 rw [hnt] at CEt CPt CT HE1
 rw [hns] at CEs CPs CS HE2
 obtain ⟨E0,hE0⟩:∃E,(lockFrom L L.length).1=E:=⟨_,rfl⟩
 obtain ⟨K0,hK0⟩:∃K:Int,((lockFrom L L.length).2:Int)=K:=⟨_,rfl⟩
 obtain ⟨T0,hT0⟩:∃T,lockR L=T:=⟨_,rfl⟩
 obtain ⟨E1,hE1⟩:∃E,(lockFrom Lt nt).1=E:=⟨_,rfl⟩
 obtain ⟨K1,hK1⟩:∃K:Int,((lockFrom Lt nt).2:Int)=K:=⟨_,rfl⟩
 obtain ⟨T1,hT1⟩:∃T,lockR Lt=T:=⟨_,rfl⟩
 obtain ⟨E2,hE2⟩:∃E,(lockFrom Ls ns).1=E:=⟨_,rfl⟩
 obtain ⟨K2,hK2⟩:∃K:Int,((lockFrom Ls ns).2:Int)=K:=⟨_,rfl⟩
 obtain ⟨T2,hT2⟩:∃T,lockR Ls=T:=⟨_,rfl⟩
 rw [hE0,hK0,hT0] at CP CD
 rw [hE1,hK1,hT1] at CPt
 rw [hE2,hK2,hT2] at CPs
 rw [hE0,hT0] at HT0
 rw [hE0,hT0,hT1,hT2] at HTT
 rw [hE0,hE1] at HE1
 rw [hE0,hE2] at HE2
 clear hE0 hK0 hT0 hE1 hK1 hT1 hE2 hK2 hT2 hnt hns
 have HG:Hid (w.grownBy w none):=gb_refl _ _
 have heq:(E0 != E0)=false:=by simp
 go_enter Tryz.func4,Tryz.ntmps4
 go_wp2_with (first | (go_at_call 7;refine (CE.out _ _ HEN.out).mono ?_))
 rintro e w1 ⟨o1,c1,rfl,hr,hg⟩
 replace HG:Hid (w.grownBy w1 none):=gb_trans HG.out hg
 have HR:Hid (EnS w1 (.slice o1 L.length c1) L):=hr
 clear hg hr
 go_wp2_with (first | (go_at_call 8;refine (CP.out _ _ HR.out).mono ?_))
 rintro e w2 ⟨rfl,hg⟩
 replace HG:Hid (w.grownBy w2 none):=gb_trans HG.out hg
 clear hg HR
 go_wp2_with (first | (go_at_call 12;refine (CT.out _ HG.out).mono ?_))
 rintro e w3 ⟨o3,c3,rfl,hr,hg⟩
 replace HG:Hid (w.grownBy w3 none):=gb_trans HG.out hg
 have HR:Hid (EnS w3 (.slice o3 nt c3) Lt):=hr
 clear hg hr
 go_wp2_with (first | (go_at_call 7;refine (CEt.out _ _ HR.out).mono ?_))
 rintro e w4 ⟨o4,c4,rfl,hr,hg⟩
 replace HG:Hid (w.grownBy w4 none):=gb_trans HG.out hg
 replace HR:Hid (EnS w4 (.slice o4 nt c4) Lt):=hr
 clear hg hr
 go_wp2_with (first | (go_at_call 8;refine (CPt.out _ _ HR.out).mono ?_))
 rintro e w5 ⟨rfl,hg⟩
 replace HG:Hid (w.grownBy w5 none):=gb_trans HG.out hg
 clear hg HR
 go_wp2_with (first | (go_at_call 13;refine (CS.out _ HG.out).mono ?_))
 rintro e w6 ⟨o6,c6,rfl,hr,hg⟩
 replace HG:Hid (w.grownBy w6 none):=gb_trans HG.out hg
 have HR:Hid (EnS w6 (.slice o6 ns c6) Ls):=hr
 clear hg hr
 go_wp2_with (first | (go_at_call 7;refine (CEs.out _ _ HR.out).mono ?_))
 rintro e w7 ⟨o7,c7,rfl,hr,hg⟩
 replace HG:Hid (w.grownBy w7 none):=gb_trans HG.out hg
 replace HR:Hid (EnS w7 (.slice o7 ns c7) Ls):=hr
 clear hg hr
 go_wp2_with (first | (go_at_call 8;refine (CPs.out _ _ HR.out).mono ?_))
 rintro e w8 ⟨rfl,hg⟩
 replace HG:Hid (w.grownBy w8 none):=gb_trans HG.out hg
 clear hg HR
 go_wp2_with (first | (go_at_call 9;refine (CD.out _ HG.out).mono ?_))
 rintro e w9 ⟨rfl,hg⟩
 replace HG:Hid (w.grownBy w9 none):=gb_trans HG.out hg
 clear hg
 by_cases hz:E0=0
 ·have z1:E1=0:=HE1.out.2 hz
  have z2:E2=0:=HE2.out.2 hz
  obtain ⟨t1,t2⟩:=HTT.out hz
  subst hz z1 z2 t1 t2
  have htt:(T2.toList == T2.toList)=true:=by simp
  go_wp2_with (first | (go_at_call 11;refine (CM.out _ _).mono ?_;rintro e w' ⟨rfl,rfl⟩))
  refine bodyPost_ret (results_tmp (t:=6) rfl _ _ _) rfl ⟨rfl,HG.out⟩
 ·have z1:¬ E1=0:=fun h=>hz (HE1.out.1 h)
  have z2:¬ E2=0:=fun h=>hz (HE2.out.1 h)
  have y0:(E0 != 0)=true:=by simp [hz]
  have y1:(E1 != 0)=true:=by simp [z1]
  have y2:(E2 != 0)=true:=by simp [z2]
  have t0:=HT0.out hz
  subst t0
  clear hz z1 z2
  go_wp2_with (first | (go_at_call 11;refine (CM.out _ _).mono ?_;rintro e w' ⟨rfl,rfl⟩))
  refine bodyPost_ret (results_tmp (t:=6) rfl _ _ _) rfl ⟨rfl,HG.out⟩
end Go.Proofs.YtbbmbnpebiakbaaGreatDoor
namespace Go.Proofs.YtbbmbnpebiakbaaGreatDoor
open Go.ChangeShapes Go.WideShapes Go.ChangeAt Go.RowKit Go.Joins
set_option linter.unusedVariables false
instance:Inhabited En:=⟨⟨⟨#[]⟩,⟨#[]⟩,⟨#[]⟩,[]⟩⟩
theorem cellsEn:Tryz.prog.cellsOf 42=4:=by kernel_rfl
theorem cellsTx:Tryz.prog.cellsOf 9=1:=by kernel_rfl
theorem one_bulkE {H:Type} (d:DataW H):1<=Rows.uptoBulk d:=by
 cases d with
 | lit l=>cases l <;> simp [Rows.uptoBulk]
 | _=>simp [Rows.uptoBulk]
theorem len_bulkE {H:Type} (l:List (DataW H)):l.length<=Rows.uptoBulkAll l:=by
 induction l with
 | nil=>simp
 | cons d l ih =>
  have:=one_bulkE d
  simp only [Rows.uptoBulkAll,List.length_cons]
  omega
theorem mem_bulkE {H:Type} (l:List (DataW H)) (d:DataW H) (h:d ∈ l):Rows.uptoBulk d<=Rows.uptoBulkAll l:=by
 induction l with
 | nil=>cases h
 | cons e l ih =>
  simp only [Rows.uptoBulkAll]
  rcases List.mem_cons.1 h with rfl | h
  ·omega
  ·have:=ih h
   omega
theorem list4E {α:Type} {cs:List α} (h:cs.length=4):∃c0 c1 c2 c3,cs=[c0,c1,c2,c3]:=by
 match cs,h with
 | [c0,c1,c2,c3],_=>exact ⟨c0,c1,c2,c3,rfl⟩
set_option maxRecDepth 100000 in
theorem open_texts {H:Type} {enc:TypeId × Value->H} {w:World} {base:Nat} {spare:Nat->Bool} {held:Bool} {fuel:Nat} {v:Value} {x:DataW H × List MemPlace}
  (h:DataW.trod enc Tryz.prog w base spare held fuel 40 [v]=some x):∃L:List ByteArray,TxS w v L/\L.length<=Rows.uptoBulk x.1/\∀y ∈ L,y.size<=Rows.uptoBulk x.1:=by
 have hu:=Tryz.underlying40
 rcases Deep.open_slice hu h with ⟨hcs,hx⟩ | ⟨a,len,cap,m,n,D,Pl,hcs,hb,hl,hm,hmm,hx,hel⟩
 ·simp at hcs
  exact ⟨[],Or.inl ⟨hcs,rfl⟩,by simp,by simp⟩
 ·simp at hcs
  subst hcs
  have hle:len<=m:=by rw [hmm];split <;> omega
  have hS:∀i,i < len->∃s:ByteArray,w.cell? (a.add i)=some (.string s)/\s.size<=Rows.uptoBulk (D i):=by
   intro i hi
   obtain ⟨cs',h1,h2⟩:=hel i (by omega)
   rw [cellsTx] at h1
   obtain ⟨-,h4,h3⟩:=World.cells?_some h1
   obtain ⟨a0,e0,hd,w0⟩:=DataW.trod_string Tryz.underlying9 h2
   have q0:=h3 0 (by omega)
   rw [Deep.add_add,e0] at q0
   refine ⟨a0,by simpa using q0,?_⟩
   have hd':=congrArg Prod.fst hd
   simp only [] at hd'
   rw [hd']
   simp only [Rows.uptoBulk,Array.length_toList]
   have e1:a0.data.size=a0.size:=rfl
   omega
  obtain ⟨S,hS⟩:=Deep.choose_lt hS
  have hlen:((List.range len).map S).length=len:=by simp
  refine ⟨(List.range len).map S,Or.inr ⟨a,cap,by rw [hlen],by rw [hlen];exact hl,fun i hi=>?_⟩,?_,fun y hy=>?_⟩
  ·have hi':i < len:=by rw [hlen] at hi;exact hi
   rw [List.getElem_map,List.getElem_range]
   exact (hS i hi').1
  ·rw [hx,hlen]
   simp only [Rows.uptoBulk]
   have:=len_bulkE ((List.range len).map D)
   simp only [List.length_map,List.length_range] at this
   omega
  ·obtain ⟨i,hi,rfl⟩:=List.mem_map.1 hy
   have hm:=mem_bulkE ((List.range len).map D) (D i) (List.mem_map.2 ⟨i,hi,rfl⟩)
   have:=(hS i (List.mem_range.1 hi)).2
   rw [hx];simp only [Rows.uptoBulk];omega
set_option maxRecDepth 100000 in
set_option maxHeartbeats 800000 in
theorem en_cells {H:Type} {enc:TypeId × Value->H} {w:World} {base:Nat} {spare:Nat->Bool} {held:Bool} {fuel:Nat} {cs:List Value} {x:DataW H × List MemPlace}
  (h:DataW.trod enc Tryz.prog w base spare held fuel 42 cs=some x) :
  ∃(r:En) (v:Value),cs=[.string r.nm,.string r.ve,.string r.dg,v]/\TxS w v r.nd/\r.nm.size<=Rows.uptoBulk x.1/\r.ve.size<=Rows.uptoBulk x.1/\r.dg.size<=Rows.uptoBulk x.1/\r.nd.length<=Rows.uptoBulk x.1/\∀y ∈ r.nd,y.size<=Rows.uptoBulk x.1:=by
 have hu:=Tryz.underlying42
 obtain ⟨xs,n,_,hx,hl,hlen,hfs⟩:=DataW.trod_struct hu h
 obtain ⟨c0,c1,c2,c3,rfl⟩:=list4E (hl.trans cellsEn)
 match xs,hlen with
 | [y0,y1,y2,y3],_ =>
  have k9:Tryz.prog.cellsOf 9=1:=by kernel_rfl
  have k8:Tryz.prog.cellsOf 40=1:=by kernel_rfl
  have g0:=hfs 0 _ rfl
  have g1:=hfs 1 _ rfl
  have g2:=hfs 2 _ rfl
  have g3:=hfs 3 _ rfl
  simp [k8,k9] at g0 g1 g2 g3
  obtain ⟨a0,e0,rfl,w0⟩:=DataW.trod_string Tryz.underlying9 g0
  obtain ⟨a1,e1,rfl,w1⟩:=DataW.trod_string Tryz.underlying9 g1
  obtain ⟨a2,e2,rfl,w2⟩:=DataW.trod_string Tryz.underlying9 g2
  obtain ⟨N,hN,hNl,hNy⟩:=open_texts g3
  simp at e0 e1 e2
  subst e0
  subst e1
  subst e2
  have f0:a0.data.size=a0.size:=rfl
  have f1:a1.data.size=a1.size:=rfl
  have f2:a2.data.size=a2.size:=rfl
  refine ⟨⟨a0,a1,a2,N⟩,c3,rfl,hN,?_,?_,?_,?_,fun y hy=>?_⟩
  ·rw [hx]
   simp only [List.map,Rows.uptoBulk,Rows.uptoBulkAll,Array.length_toList]
   omega
  ·rw [hx]
   simp only [List.map,Rows.uptoBulk,Rows.uptoBulkAll,Array.length_toList]
   omega
  ·rw [hx]
   simp only [List.map,Rows.uptoBulk,Rows.uptoBulkAll,Array.length_toList]
   omega
  ·rw [hx]
   simp only [List.map,Rows.uptoBulk,Rows.uptoBulkAll,Array.length_toList]
   omega
  ·have:=hNy y hy
   rw [hx]
   simp only [List.map,Rows.uptoBulk,Rows.uptoBulkAll,Array.length_toList]
   omega
set_option maxRecDepth 100000 in
theorem open_entries {H:Type} {enc:TypeId × Value->H} {w:World} {base:Nat} {spare:Nat->Bool} {held:Bool} {r:Reach} {b0:Nat} {v:Value} {d:DataW H} {p:List MemPlace}
  (hv:Value.okWide Tryz.prog w r b0 22 v) (h:DataW.Trod enc Tryz.prog w base spare held 22 v d p) :
  ∃L:List En,EnS w v L/\L.length<=Rows.uptoBulk d/\∀s ∈ L,s.nm.size<=Rows.uptoBulk d/\s.ve.size<=Rows.uptoBulk d/\s.dg.size<=Rows.uptoBulk d/\s.nd.length<=Rows.uptoBulk d/\∀y ∈ s.nd,y.size<=Rows.uptoBulk d:=by
 have hu:=Tryz.underlying22
 obtain ⟨a0,l0,c0,rfl⟩:=okWide_slice hu hv
 obtain ⟨fuel,hf⟩:=h
 rcases Deep.open_slice hu hf with ⟨hcs,hx⟩ | ⟨a,len,cap,m,n,D,Pl,hcs,hb,hl,hm,hmm,hx,hel⟩
 ·simp [Value.cells] at hcs
  obtain ⟨rfl,rfl,rfl⟩:=hcs
  exact ⟨[],Or.inl ⟨rfl,rfl⟩,by simp,by simp⟩
 ·simp [Value.cells] at hcs
  obtain ⟨rfl,rfl,rfl⟩:=hcs
  have hle:l0<=m:=by rw [hmm];split <;> omega
  have hS:∀i,i < l0->∃s:En,EnAt w (a.add (i * 4)) s/\s.nm.size<=Rows.uptoBulk (D i)/\s.ve.size<=Rows.uptoBulk (D i)/\s.dg.size<=Rows.uptoBulk (D i)/\s.nd.length<=Rows.uptoBulk (D i)/\∀y ∈ s.nd,y.size<=Rows.uptoBulk (D i):=by
   intro i hi
   obtain ⟨cs',h1,h2⟩:=hel i (by omega)
   obtain ⟨s,v,hc,hn,hv1,hv2,hv3,hv4,hv5⟩:=en_cells h2
   rw [cellsEn] at h1
   obtain ⟨-,h4,h3⟩:=World.cells?_some h1
   subst hc
   have q0:=h3 0 (by omega)
   have q1:=h3 1 (by omega)
   have q2:=h3 2 (by omega)
   have q3:=h3 3 (by omega)
   rw [Deep.add_add] at q0 q1 q2 q3
   rw [hadd_off _ _ _ (by omega)] at q1 q2 q3
   exact ⟨s,⟨by simpa using q0,by simpa using q1,by simpa using q2,v,by simpa using q3,hn⟩,hv1,hv2,hv3,hv4,hv5⟩
  obtain ⟨S,hS⟩:=Deep.choose_lt hS
  have hlen:((List.range l0).map S).length=l0:=by simp
  have hd:d=.slice ((List.range l0).map D) ((List.range (m - l0)).map fun j=>D (l0+j)):=congrArg Prod.fst hx
  have hbl:=len_bulkE ((List.range l0).map D)
  simp only [List.length_map,List.length_range] at hbl
  refine ⟨(List.range l0).map S,Or.inr ⟨a,c0,by rw [hlen],by rw [hlen];exact hl,fun i hi=>?_⟩,?_,fun s hs=>?_⟩
  ·have hi':i < l0:=by rw [hlen] at hi;exact hi
   rw [List.getElem_map,List.getElem_range]
   exact (hS i hi').1
  ·rw [hd,hlen];simp only [Rows.uptoBulk];omega
  ·obtain ⟨i,hi,rfl⟩:=List.mem_map.1 hs
   have hm:=mem_bulkE ((List.range l0).map D) (D i) (List.mem_map.2 ⟨i,hi,rfl⟩)
   obtain ⟨-,b1,b2,b3,b4,b5⟩:=hS i (List.mem_range.1 hi)
   rw [hd];simp only [Rows.uptoBulk]
   exact ⟨by omega,by omega,by omega,by omega,fun y hy=>by have:=b5 y hy;omega⟩
end Go.Proofs.YtbbmbnpebiakbaaGreatDoor
