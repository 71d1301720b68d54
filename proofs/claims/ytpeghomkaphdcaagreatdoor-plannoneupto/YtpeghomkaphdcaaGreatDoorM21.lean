import Derived.Test.YtpeghomkaphdcaaGreatDoorM20
import Derived.Test.YtpeghomkaphdcaaGreatDoorM02
import Derived.Test.YtpeghomkaphdcaaGreatDoorM16
import Derived.Test.YtpeghomkaphdcaaGreatDoorM13
import Derived.Test.YtpeghomkaphdcaaGreatDoorM17
import Derived.Sort.KeysCollected
import Derived.Maps.OwnSet
import Derived.Shelf.SlIter.Nil
import Derived.Test.YtpeghomkaphdcaaGreatDoorProg
import Derived.Test.YtpeghomkaphdcaaGreatDoorM19
namespace Go.Proofs.YtpeghomkaphdcaaGreatDoor
open Go.RowKit
set_option linter.unusedVariables false
set_option maxRecDepth 100000 in
set_option maxHeartbeats 1600000 in
theorem rising_nil (w:World) :
  Calls Tryz.prog 21 #[.slice none 0 0] w fun e w'=>e=.returned (.slice none 0 0)/\w.grownBy w' none:=by
 have CS:Hid (∀w,Calls Tryz.prog 30 #[.slice none 0 0] w fun e w'=>∃o c,e=.returned (.slice o 0 c)/\w.grownBy w' none):=fun w=>(cSorted (.slice none 0 0) [] w (Or.inl ⟨rfl,rfl⟩) (by simp)).mono (by
  rintro e w4 ⟨v4,S,rfl,hown4,hp4,hr4,hb4⟩
  have hS:S=[]:=List.Perm.eq_nil hp4
  subst hS
  have htx4:TxS w4 v4 []:=txs_own rfl hown4
  obtain ⟨o,c,rfl⟩:=txs_slice htx4
  exact ⟨o,c,rfl,bel_gb hb4⟩)
 go_enter Tryz.func21,Tryz.ntmps21
 go_wp2
 go_loopw [3,4] (fun vm vi wr=>vm=.slice none 0 0/\vi=.int .i64 0/\w.grownBy wr none) (fun _ vi _=>0)
 case atStart=>exact ⟨rfl,rfl,gb_refl w none⟩
 case round =>
  obtain ⟨rfl,rfl,hb⟩:=hrel
  have HB:Hid (w.grownBy wr none):=hb
  clear hb
  go_wp2_with (first | (go_at_call 30;refine (CS.out _).mono ?_))
  rintro e w4 ⟨o,c,rfl,hg⟩
  have HB4:Hid (w.grownBy w4 none):=gb_trans HB.out hg
  clear hg
  go_wp2
  go_loopw [5,6] (fun vm vi wr=>vm=.slice none 0 0/\vi=.int .i64 0/\w.grownBy wr none) (fun _ vi _=>0)
  case atStart=>exact ⟨rfl,rfl,HB4.out⟩
  case round =>
   obtain ⟨rfl,rfl,hb⟩:=hrel
   have HB5:Hid (w.grownBy wr none):=hb
   clear hb
   go_wp2
   refine bodyPost_ret (results_tmp (t:=2) rfl _ _ _) rfl ⟨rfl,HB5.out⟩
set_option maxRecDepth 100000 in
set_option maxHeartbeats 1600000 in
theorem refPrint_nil (w:World) :
  Calls Tryz.prog 9 #[.slice none 0 0] w fun e w'=>e=.returned (.tuple #[.string ⟨#[102,111,114,109,97,116,32,61,32,49,10]⟩,.int .i64 0,.int .i64 0])/\w.grownBy w' none:=by
 have CR:Hid (∀w,Calls Tryz.prog 21 #[.slice none 0 0] w fun e w'=>e=.returned (.slice none 0 0)/\w.grownBy w' none):=rising_nil
 go_enter Tryz.func9,Tryz.ntmps9
 go_wp2
 go_loopw [5] (fun vi wr=>vi=.int .i64 0/\w.grownBy wr none) (fun vi _=>0)
 case atStart=>exact ⟨rfl,gb_refl w none⟩
 case round =>
  obtain ⟨rfl,hb⟩:=hrel
  have HB:Hid (w.grownBy wr none):=hb
  clear hb
  go_wp2_with (first | (go_at_call 21;refine (CR.out _).mono ?_))
  rintro e w4 ⟨rfl,hg⟩
  have HB4:Hid (w.grownBy w4 none):=gb_trans HB.out hg
  clear hg
  go_wp2
  go_loopw [7,9] (fun vm vi wr=>vm=.string ⟨#[102,111,114,109,97,116,32,61,32,49,10]⟩/\vi=.int .i64 0/\w.grownBy wr none) (fun _ vi _=>0)
  case atStart=>exact ⟨rfl,rfl,HB4.out⟩
  case round =>
   obtain ⟨rfl,rfl,hb⟩:=hrel
   have HB5:Hid (w.grownBy wr none):=hb
   clear hb
   go_wp2
   refine bodyPost_ret (results_tmp3 (t:=2) (u:=3) (v:=4) rfl _ _ _) rfl ⟨rfl,HB5.out⟩
theorem cPrintLock (v:Value) (L:List En) (w:World) (h:EnS w v L) (hL:L.length<=1048576) (hV:∀x ∈ L,x.nm.size<=1048576/\x.ve.size<=1048576/\x.dg.size<=1048576) (hN:∀x ∈ L,x.nd.length<=1048576) (hS:∀x ∈ L,∀y ∈ x.nd,y.size<=1048576) :
  Calls Tryz.prog 9 #[v] w fun e w'=>e=.returned (.tuple #[.string (lockR L),.int .i64 (lockFrom L L.length).1,.int .i64 ((lockFrom L L.length).2:Int)])/\w.grownBy w' none:=by
 rcases h with ⟨rfl,rfl⟩ | ⟨a,cap,rfl,h2,h3⟩
 ·have e0:lockFrom [] ([]:List En).length=(0,0):=rfl
  have e1:lockR []=⟨#[102,111,114,109,97,116,32,61,32,49,10]⟩:=by
   unfold lockR
   rw [e0,if_pos rfl]
   have:sortE []=[]:=List.Perm.eq_nil (sortE_perm [])
   unfold lockT
   rw [this];rfl
  rw [e0,e1]
  exact refPrint_nil w
 ·exact refPrint_at a cap L w h2 h3 hL hV hN hS
set_option linter.unusedVariables false
theorem tws_at (N:List ByteArray):∀i,i<=N.length->(twS N i=false ↔ (N.take i).Nodup)
 | 0,_=>by simp [twS]
 | i+1,h=>by
  have ih:=tws_at N i (by omega)
  have hi:i < N.length:=by omega
  rw [tws_step N i hi,Bool.or_eq_false_iff,ih,List.take_succ_eq_append_getElem hi,List.nodup_append]
  have e1:(N.take i).any (fun y=>decide (y=N[i]))=false ↔ ∀a ∈ N.take i,a ≠ N[i]:=by
   rw [List.any_eq_false]
   constructor
   ·intro h a ha e;exact h a ha (by simpa using e)
   ·intro h a ha e;exact h a ha (by simpa using e)
  rw [e1]
  constructor
  ·rintro ⟨h1,h2⟩
   exact ⟨h1,by simp,fun a ha b hb=>by rw [List.mem_singleton.1 hb];exact h2 a ha⟩
  ·rintro ⟨h1,-,h3⟩
   exact ⟨h1,fun a ha=>h3 a ha _ (List.mem_singleton.2 rfl)⟩
theorem tws_nodup (N:List ByteArray):twS N N.length=false ↔ N.Nodup:=by
 have:=tws_at N N.length (Nat.le_refl _)
 rwa [List.take_length] at this
theorem hasnm_iff (L:List En) (n:ByteArray):hasNm L n=true ↔ n ∈ L.map (·.nm):=by
 unfold hasNm
 rw [List.any_eq_true,List.mem_map]
 simp
theorem fe_iff (L:List En) (i:Nat) (x:En):faultE L i x=0 ↔ i < 50/\x.nd.length<=20/\goodE x=true/\hasNm (L.take i) x.nm=false/\twS x.nd x.nd.length=false/\x.nd.all (hasNm L)=true:=by
 unfold faultE
 by_cases h1:50<=i\/20 < x.nd.length
 ·rw [if_pos h1]
  exact ⟨fun h=>absurd h (by decide),fun h=>by omega⟩
 ·rw [if_neg h1]
  by_cases h2:goodE x=false
  ·rw [if_pos h2]
   exact ⟨fun h=>absurd h (by decide),fun h=>by rw [h.2.2.1] at h2;cases h2⟩
  ·rw [if_neg h2]
   by_cases h3:hasNm (L.take i) x.nm=true\/twS x.nd x.nd.length=true
   ·rw [if_pos h3]
    refine ⟨fun h=>absurd h (by decide),fun h=>?_⟩
    rcases h3 with h3 | h3
    ·rw [h.2.2.2.1] at h3;cases h3
    ·rw [h.2.2.2.2.1] at h3;cases h3
   ·rw [if_neg h3]
    by_cases h4:x.nd.all (hasNm L)=true
    ·rw [if_pos h4]
     exact ⟨fun _=>⟨by omega,by omega,by simpa using h2,by simpa using fun e=>h3 (Or.inl e),by simpa using fun e=>h3 (Or.inr e),h4⟩,fun _=>rfl⟩
    ·rw [if_neg h4]
     exact ⟨fun h=>absurd h (by decide),fun h=>absurd h.2.2.2.2.2 h4⟩
def okE (L:List En):Prop:=L.length<=50/\(L.map (·.nm)).Nodup/\∀x ∈ L,x.nd.length<=20/\goodE x=true/\x.nd.Nodup/\∀y ∈ x.nd,y ∈ L.map (·.nm)
theorem lock_iff (L:List En):(lockFrom L L.length).1=0 ↔ okE L:=by
 constructor
 ·intro h
  obtain ⟨s1,s2,s3⟩:=lock_small L h
  refine ⟨s1,s3,fun x hx=>?_⟩
  obtain ⟨i,hi,rfl⟩:=List.getElem_of_mem hx
  have:=lock_ok L h i hi
  rw [errE_at L i hi] at this
  obtain ⟨-,k2,k3,-,k5,k6⟩:=(fe_iff L i _).1 this
  exact ⟨k2,k3,(tws_nodup _).1 k5,fun y hy=>(hasnm_iff L y).1 (List.all_eq_true.1 k6 y hy)⟩
 ·rintro ⟨h1,h2,h3⟩
  have h0:∀i,i < L.length->errE L i=0:=fun i hi=>by
   rw [errE_at L i hi]
   obtain ⟨k1,k2,k3,k4⟩:=h3 L[i] (List.getElem_mem _)
   refine (fe_iff L i _).2 ⟨by omega,k1,k2,?_,(tws_nodup _).2 k3,List.all_eq_true.2 fun y hy=>(hasnm_iff L y).2 (k4 y hy)⟩
   unfold hasNm
   rw [List.any_eq_false]
   intro x hx e
   obtain ⟨j,hj,rfl⟩:=List.mem_take_iff_getElem.1 hx
   have:=List.pairwise_iff_getElem.1 h2 j i (by simp;omega) (by simp;omega) (by omega)
   simp only [List.getElem_map] at this
   exact this (by simpa using e)
  have key:∀n,n<=L.length->lockFrom L n=(0,0):=by
   intro n
   induction n with
   | zero=>intro _;rfl
   | succ n ih=>intro hn;rw [lockFrom,if_pos (h0 _ (by omega))];exact ih (by omega)
  rw [key _ (Nat.le_refl _)]
theorem okE_perm {L L':List En} (hp:L'.Perm L) (h:okE L):okE L':=by
 obtain ⟨h1,h2,h3⟩:=h
 refine ⟨by rw [hp.length_eq];exact h1,((hp.map (·.nm)).nodup_iff).2 h2,fun x hx=>?_⟩
 obtain ⟨k1,k2,k3,k4⟩:=h3 x (hp.subset hx)
 exact ⟨k1,k2,k3,fun y hy=>(hp.map (·.nm)).symm.subset (k4 y hy)⟩
def backE (x:En):En:=⟨x.nm,x.ve,x.dg,x.nd.reverse⟩
theorem backE_two (L:List En):(L.map backE).map backE=L:=by
 rw [List.map_map]
 conv=>rhs;rw [<-List.map_id L]
 refine List.map_congr_left fun x _=>?_
 simp [backE]
theorem backE_nm (L:List En):(L.map backE).map (·.nm)=L.map (·.nm):=by
 rw [List.map_map];rfl
theorem okE_back {L:List En} (h:okE L):okE (L.map backE):=by
 obtain ⟨h1,h2,h3⟩:=h
 refine ⟨by rw [List.length_map];exact h1,by rw [backE_nm];exact h2,fun x hx=>?_⟩
 obtain ⟨y,hy,rfl⟩:=List.mem_map.1 hx
 obtain ⟨k1,k2,k3,k4⟩:=h3 y hy
 rw [backE_nm]
 refine ⟨by show y.nd.reverse.length<=20;rw [List.length_reverse];exact k1,?_,?_,fun z hz=>k4 z (List.mem_reverse.1 hz)⟩
 ·unfold goodE backE at *
  simp only [List.all_reverse]
  exact k2
 ·exact (List.reverse_perm y.nd).nodup_iff.2 k3
def turnE (L:List En):List En:=(L.map backE).reverse
theorem okE_turn (L:List En):okE (turnE L) ↔ okE L:=by
 constructor
 ·intro h
  have h1:okE (L.map backE):=okE_perm (List.reverse_perm _).symm h
  have:=okE_back h1
  rwa [backE_two] at this
 ·intro h
  exact okE_perm (List.reverse_perm _) (okE_back h)
theorem lock_turn (L:List En):(lockFrom (turnE L) (turnE L).length).1=0 ↔ (lockFrom L L.length).1=0:=by
 rw [lock_iff,lock_iff,okE_turn]
theorem mem_turn {L:List En} {x:En} (h:x ∈ turnE L):∃y ∈ L,x=backE y:=by
 unfold turnE at h
 obtain ⟨y,hy,rfl⟩:=List.mem_map.1 (List.mem_reverse.1 h)
 exact ⟨y,hy,rfl⟩
open Go.RowKit
set_option linter.unusedVariables false
theorem fnd_mem {L:List En} {n:ByteArray} {x:En} (h:fnd L n=some x):x ∈ L:=List.mem_of_find?_eq_some h
theorem refLine_any (o o':Option Addr) (c c':Nat) (L M:List En) (n:ByteArray) (w:World) (h:EnS w (.slice o L.length c) L) (h':EnS w (.slice o' M.length c') M) (hL:L.length<=1048576) (hM:M.length<=1048576) (hh:hasNm L n=true\/hasNm M n=true) (hn:n.size<=1048576) (hV:∀x ∈ L,x.ve.size<=1048576) (hV':∀x ∈ M,x.ve.size<=1048576) :
  Calls Tryz.prog 31 #[.slice o L.length c,.slice o' M.length c',.string n] w fun e w'=>(∃T:ByteArray,e=.returned (.string T)/\T.data.toList=lineT (fnd L n) (fnd M n) n)/\w.grownBy w' none:=by
 cases h1:hasNm L n with
 | false =>
  cases h2:hasNm M n with
  | false=>rw [h1,h2] at hh;rcases hh with hh | hh <;> cases hh
  | true=>exact refLine_add o o' c c' L M n w h h' hL hM h1 h2 hn hV'
 | true =>
  cases h2:hasNm M n with
  | false=>exact refLine_drop o o' c c' L M n w h h' hL hM h2 h1 hn hV
  | true=>exact refLine_both o o' c c' L M n w h h' hL hM h1 h2 hn hV hV'
theorem line_len (a b:Option En) (n:ByteArray) (ha:∀x,a=some x->x.ve.size<=1048576) (hb:∀x,b=some x->x.ve.size<=1048576) (hn:n.size<=1048576):(lineT a b n).length<=4194304:=by
 have e:∀s:ByteArray,s.data.toList.length=s.size:=fun s=>by simp
 match a,b with
 | none,none=>simp [lineT]
 | none,some y =>
  have:=hb y rfl
  simp only [lineT,List.length_append,List.length_cons,List.length_nil,e];omega
 | some x,none =>
  have:=ha x rfl
  simp only [lineT,List.length_append,List.length_cons,List.length_nil,e];omega
 | some x,some y =>
  have h1:=ha x rfl
  have h2:=hb y rfl
  have h3:=verb_size x.ve y.ve
  by_cases h:x.ve=y.ve/\x.dg=y.dg
  ·rw [line_yes x y n h];simp
  ·rw [line_no x y n h]
   simp only [List.length_append,List.length_cons,List.length_nil,e];omega
def othN (L M:List En):Nat->List ByteArray
 | 0=>[]
 | j+1=>othN L M j++(match M[j]? with | some y=>if hasNm L y.nm=true then [] else [y.nm] | none=>[])
theorem oth_step (L M:List En) (j:Nat) (h:j < M.length):othN L M (j+1)=othN L M j++(if hasNm L M[j].nm=true then [] else [M[j].nm]):=by
 simp [othN,List.getElem?_eq_getElem h]
theorem oth_len (L M:List En):∀j,(othN L M j).length<=j
 | 0=>by simp [othN]
 | j+1=>by
  have:=oth_len L M j
  rw [othN,List.length_append]
  split
  ·split <;> simp <;> omega
  ·simp;omega
theorem oth_mem (L M:List En):∀j n,n ∈ othN L M j->n ∈ M.map (·.nm)
 | 0,n,h=>by simp [othN] at h
 | j+1,n,h=>by
  rw [othN,List.mem_append] at h
  rcases h with h | h
  ·exact oth_mem L M j n h
  ·cases hm:M[j]? with
   | none=>rw [hm] at h;cases h
   | some y =>
    rw [hm] at h
    simp only [] at h
    split at h
    ·cases h
    ·rw [List.mem_singleton.1 h]
     exact List.mem_map.2 ⟨y,List.mem_of_getElem? hm,rfl⟩
def namesN (L M:List En):List ByteArray:=L.map (·.nm)++othN L M M.length
def planB (L M:List En):List UInt8:=(sortT (namesN L M)).flatMap fun n=>lineT (fnd L n) (fnd M n) n
theorem names_in {L M:List En} {n:ByteArray} (h:n ∈ namesN L M):hasNm L n=true\/hasNm M n=true:=by
 unfold namesN at h
 rw [List.mem_append] at h
 rcases h with h | h
 ·exact Or.inl ((hasnm_iff L n).2 h)
 ·exact Or.inr ((hasnm_iff M n).2 (oth_mem L M _ n h))
theorem names_small (L M:List En) (h:∀x ∈ L,x.nm.size<=1048576) (h':∀x ∈ M,x.nm.size<=1048576) (n:ByteArray) (hn:n ∈ namesN L M):n.size<=1048576:=by
 unfold namesN at hn
 rw [List.mem_append] at hn
 rcases hn with hn | hn
 ·obtain ⟨x,hx,rfl⟩:=List.mem_map.1 hn
  exact h x hx
 ·obtain ⟨x,hx,rfl⟩:=List.mem_map.1 (oth_mem L M _ n hn)
  exact h' x hx
theorem lock_le (L:List En):(lockFrom L L.length).2<=L.length:=by
 have key:∀n,n<=L.length->(lockFrom L n).2<=L.length:=by
  intro n
  induction n with
  | zero=>intro _;exact Nat.zero_le _
  | succ n ih =>
   intro hn
   rw [lockFrom]
   split
   ·exact ih (by omega)
   ·exact Nat.sub_le _ _
 exact key _ (Nat.le_refl _)
noncomputable def planR (L M:List En):ByteArray × Int × Int:=if (lockFrom L L.length).1=0 then if (lockFrom M M.length).1=0 then (⟨(planB L M).toArray⟩,0,0) else (⟨#[]⟩,(lockFrom M M.length).1,((lockFrom M M.length).2:Int)+1000) else (⟨#[]⟩,(lockFrom L L.length).1,((lockFrom L L.length).2:Int))
end Go.Proofs.YtpeghomkaphdcaaGreatDoor
namespace Go.Proofs.YtpeghomkaphdcaaGreatDoor
open Go.Maps Go.RowKit Go.Sort
set_option linter.unusedVariables false
theorem own_flat {w:World} {base t q:Nat} {v:Value} {n:Nat} {cs:List Value} (h:w.ownsRow base t q v n cs):Flat v:=by
 rcases h.2 with ⟨rfl,_⟩ | ⟨g,cap,cur,rfl,_⟩
 ·exact flat_nil
 ·intro a n c e;cases e;rfl
theorem cEntriesF (sl:Value) (L:List En) (w:World) (h:EnS w sl L) (hL:L.length<=1048576) (hN:∀x ∈ L,x.nd.length<=1048576) :
  Calls Tryz.prog 7 #[sl] w fun e w'=>∃o c,e=.returned (.slice o L.length c)/\(EnS w' (.slice o L.length c) L/\Flat (.slice o L.length c))/\w.grownBy w' none:=by
 rcases h with ⟨rfl,rfl⟩ | ⟨a,cap,rfl,h2,h3⟩
 ·go_enter Tryz.func7,Tryz.ntmps7
  go_wp2
  go_loopw [3,4] (fun vm vi wr=>vi=.int .i64 0/\vm=.slice none 0 0/\w.grownBy wr none) (fun _ vi _=>0)
  case atStart=>exact ⟨rfl,rfl,gb_refl _ _⟩
  case round =>
   obtain ⟨rfl,rfl,hb⟩:=hrel
   have HB:Hid (w.grownBy wr none):=hb
   clear hb
   go_wp2
   refine bodyPost_ret (results_tmp (t:=2) rfl _ _ _) rfl ⟨none,0,rfl,⟨Or.inl ⟨rfl,rfl⟩,flat_nil⟩,HB.out⟩
 ·refine (entries_at a cap L w hL h2 hN h3).mono ?_
  rintro e w' ⟨v,rfl,hr,hb⟩
  have h1:=erow_ens hr
  have h4:Flat v:=by
   obtain ⟨vs,hl,ho,-⟩:=hr
   exact own_flat ho
  obtain ⟨o,c,rfl⟩:=ens_slice h1
  exact ⟨o,c,rfl,⟨h1,h4⟩,bel_gb hb⟩
theorem prA_has (L:List En) (a:Addr) (n:ByteArray):∀i,i<=L.length->Maps.has (prA L a i) (keyT n)=hasNm (L.take i) n
 | 0,_=>by simp [prA,hasNm,Maps.has]
 | i+1,h=>by
  have ih:=prA_has L a n i (by omega)
  rw [prA_step L a i (by omega),nm_next L n i (by omega)]
  by_cases he:L[i].nm=n
  ·rw [he,has_put_same (prA_map L a i (by omega)) (by trivial)];simp
  ·have hne:keyT n ≠ keyT L[i].nm:=fun e=>he (keyT_inj e).symm
   rw [has_put_other hne,ih,decide_eq_false he,Bool.or_false]
theorem prB_has (L M:List En) (a b:Addr) (n:ByteArray):∀j,j<=M.length->Maps.has (prB L M a b j) (keyT n)=(hasNm L n || hasNm (M.take j) n)
 | 0,_=>by
  have:=prA_has L a n L.length (Nat.le_refl _)
  rw [List.take_length] at this
  show Maps.has (prA L a L.length) _=_
  rw [this];simp [hasNm]
 | j+1,h=>by
  have ih:=prB_has L M a b n j (by omega)
  rw [prB_step L M a b j (by omega),nm_next M n j (by omega)]
  by_cases he:M[j].nm=n
  ·rw [he,has_put_same (prB_map L M a b j (by omega)) (by trivial)];simp
  ·have hne:keyT n ≠ keyT M[j].nm:=fun e=>he (keyT_inj e).symm
   rw [has_put_other hne,ih,decide_eq_false he,Bool.or_false]
theorem oth_iff (L M:List En) (n:ByteArray):∀j,j<=M.length->(n ∈ othN L M j ↔ hasNm L n=false/\hasNm (M.take j) n=true)
 | 0,_=>by simp [othN,hasNm]
 | j+1,h=>by
  rw [oth_step L M j (by omega),nm_next M n j (by omega),List.mem_append,oth_iff L M n j (by omega)]
  by_cases he:M[j].nm=n
  ·rw [he]
   cases hl:hasNm L n with
   | true=>simp
   | false=>simp
  ·rw [decide_eq_false he,Bool.or_false]
   constructor
   ·rintro (h1 | h1)
    ·exact h1
    ·split at h1
     ·cases h1
     ·exact absurd (List.mem_singleton.1 h1).symm he
   ·exact Or.inl
theorem oth_nodup (L M:List En) (hnd:(M.map (·.nm)).Nodup):∀j,j<=M.length->(othN L M j).Nodup
 | 0,_=>by simp [othN]
 | j+1,h=>by
  rw [oth_step L M j (by omega)]
  split
  ·rw [List.append_nil];exact oth_nodup L M hnd j (by omega)
  ·refine List.nodup_append.2 ⟨oth_nodup L M hnd j (by omega),by simp,fun x hx y hy=>?_⟩
   have hy':=List.mem_singleton.1 hy
   subst hy'
   intro e
   subst e
   have h1:=((oth_iff L M _ j (by omega)).1 hx).2
   unfold hasNm at h1
   rw [List.any_eq_true] at h1
   obtain ⟨z,hz,hze⟩:=h1
   obtain ⟨k,hk,rfl⟩:=List.mem_take_iff_getElem.1 hz
   have:=List.pairwise_iff_getElem.1 hnd k j (by simp;omega) (by simp;omega) (by omega)
   simp only [List.getElem_map] at this
   exact this (by simpa using hze)
theorem names_iff (L M:List En) (n:ByteArray):n ∈ namesN L M ↔ (hasNm L n || hasNm M n)=true:=by
 unfold namesN
 rw [List.mem_append,oth_iff L M n _ (Nat.le_refl _),List.take_length,<-hasnm_iff]
 cases hasNm L n <;> simp
theorem names_nodup {L M:List En} (h:(L.map (·.nm)).Nodup) (h':(M.map (·.nm)).Nodup):(namesN L M).Nodup:=by
 unfold namesN
 refine List.nodup_append.2 ⟨h,oth_nodup L M h' _ (Nat.le_refl _),fun x hx y hy e=>?_⟩
 subst e
 have h1:=((oth_iff L M x _ (Nat.le_refl _)).1 hy).1
 rw [(hasnm_iff L x).2 hx] at h1
 cases h1
theorem pr_keys {L M:List En} {a b:Addr} {w:World} {B n:Nat} (hown:w.ownsMap Tryz.prog 9 pairR B n (prB L M a b M.length)) (h:(L.map (·.nm)).Nodup) (h':(M.map (·.nm)).Nodup):((namesN L M).map (·.data.toList)).Perm (strKeys (prB L M a b M.length)):=by
 have hC:Collected (prB L M a b M.length) (fun _=>false) ((namesN L M).map (·.data.toList)):=by
  refine ⟨List.pairwise_map.2 ((names_nodup h h').imp fun {x y} hne e=>hne (ByteArray.ext (Array.ext' e))),fun x=>?_⟩
  have h1:Maps.has (prB L M a b M.length) (.string x)=(hasNm L ⟨x.toArray⟩ || hasNm M ⟨x.toArray⟩):=by
   have:=prB_has L M a b ⟨x.toArray⟩ M.length (Nat.le_refl _)
   rw [List.take_length] at this
   exact this
  rw [h1,<-names_iff,List.mem_map]
  constructor
  ·rintro ⟨y,hy,rfl⟩
   exact ⟨hy,rfl⟩
  ·rintro ⟨hy,_⟩
   exact ⟨_,hy,rfl⟩
 exact hC.perm hown keyS Tryz.underlying9 (fun _=>rfl)
theorem pr_sorted {L M:List En} {ks ss:List (List UInt8)} (h:((namesN L M).map (·.data.toList)).Perm ks) (hs:ss.Perm ks):(ss.mergeSort (fun x y=>decide (x<=y))).map encStr=(sortT (namesN L M)).map Value.string:=by
 rw [mergeSort_of_perm (hs.trans h.symm)]
 exact merge_sort _
open Go.RowKit
set_option linter.unusedVariables false
def rowsN (s:ByteArray):Nat->Nat
 | 0=>0
 | k+1=>rowsN s k+(match s.data.toList[k]? with | some b=>if b=10 then 1 else 0 | none=>0)
theorem rows_step (s:ByteArray) (k:Nat) (h:k < s.size):rowsN s (k+1)=rowsN s k+(if s[k]=10 then 1 else 0):=by
 have e:s.data.toList[k]?=some s[k]:=by
  have h2:k < s.data.size:=h
  rw [Array.getElem?_toList,Array.getElem?_eq_getElem h2]
  rfl
 rw [rowsN,e]
theorem rows_le (s:ByteArray):∀k,rowsN s k<=k
 | 0=>Nat.le_refl _
 | k+1=>by
  have:=rows_le s k
  rw [rowsN]
  split
  ·split <;> omega
  ·omega
set_option maxRecDepth 100000 in
set_option maxHeartbeats 800000 in
theorem lines_any (s:ByteArray) (w:World) (hs:s.size < 2 ^ 60) :
  Calls Tryz.prog 16 #[.string s] w fun e w'=>e=.returned (.int .i64 (rowsN s s.size:Nat))/\w.grownBy w' none:=by
 have HST:Hid (∀k (h:k < s.size),rowsN s (k+1)=rowsN s k+(if s[k]=10 then 1 else 0)):=rows_step s
 go_enter Tryz.func16,Tryz.ntmps16
 go_wp2
 go_loopw [3,4] (fun vc vk wr=>∃k:Nat,vk=.int .i64 k/\vc=.int .i64 (rowsN s k:Nat)/\k<=s.size/\w.grownBy wr none) (fun _ vk _=>s.size - (intOf vk).toNat)
 case atStart=>exact ⟨0,rfl,rfl,Nat.zero_le _,gb_refl _ _⟩
 case round =>
  obtain ⟨k,rfl,rfl,hk,hg⟩:=hrel
  have HG:Hid (w.grownBy wr none):=hg
  have hrl:=rows_le s k
  by_cases hlt:k < s.size
  ·have hst:=HST.out k hlt
   by_cases h10:s[k]=10
   ·rw [if_pos h10] at hst
    have HN:Hid (rowsN s (k+1)=rowsN s k+1):=hst
    obtain ⟨r,hr⟩:∃r,rowsN s k=r:=⟨_,rfl⟩
    rw [hr] at HN hrl ⊢
    have hb:(((s[k].toNat:Int)) == 10)=true:=by rw [h10];rfl
    clear hst hr hg
    go_wp2
    go_roundw
    case rel=>exact ⟨k+1,by go_num,by rw [HN.out];go_num,by omega,HG.out⟩
    case measure=>simp [intOf];omega
   ·rw [if_neg h10] at hst
    have HN:Hid (rowsN s (k+1)=rowsN s k):=hst
    obtain ⟨r,hr⟩:∃r,rowsN s k=r:=⟨_,rfl⟩
    rw [hr] at HN hrl ⊢
    have hb:(((s[k].toNat:Int)) == 10)=false:=by
     rw [beq_eq_false_iff_ne]
     intro e
     exact h10 (UInt8.toNat_inj.1 (show s[k].toNat=10 by omega))
    clear hst hr hg
    go_wp2
    go_roundw
    case rel=>exact ⟨k+1,by go_num,by rw [HN.out],by omega,HG.out⟩
    case measure=>simp [intOf];omega
  ·have hke:k=s.size:=by omega
   have HE:Hid (k=s.size):=hke
   clear hg hke
   go_wp2
   refine bodyPost_ret (results_tmp (t:=2) rfl _ _ _) rfl ⟨?_,HG.out⟩
   rw [HE.out];rfl
set_option linter.unusedVariables false
theorem fnd_one {L:List En} (hn:(L.map (·.nm)).Nodup) {x:En} (hx:x ∈ L):fnd L x.nm=some x:=by
 cases hf:fnd L x.nm with
 | none =>
  have:=List.find?_eq_none.1 hf x hx
  simp at this
 | some y =>
  have h1:=fnd_mem hf
  have h2:y.nm=x.nm:=by
   unfold fnd at hf
   simpa using List.find?_some hf
  rw [name_one hn y h1 x hx h2]
theorem turn_nodup {L:List En} (hn:(L.map (·.nm)).Nodup):((turnE L).map (·.nm)).Nodup:=by
 unfold turnE
 rw [List.map_reverse,backE_nm]
 exact (List.reverse_perm _).nodup_iff.2 hn
theorem mem_turn' {L:List En} {x:En} (h:x ∈ L):backE x ∈ turnE L:=by
 unfold turnE
 exact List.mem_reverse.2 (List.mem_map.2 ⟨x,h,rfl⟩)
theorem plan_turn {L:List En} (hn:(L.map (·.nm)).Nodup):planB L (turnE L)=[]:=by
 unfold planB
 rw [List.flatMap_eq_nil_iff]
 intro n hm
 have hm2:=(sortT_perm _).subset hm
 have hex:∃x ∈ L,x.nm=n:=by
  rcases names_in hm2 with h | h
  ·obtain ⟨x,hx,e⟩:=List.mem_map.1 ((hasnm_iff L n).1 h)
   exact ⟨x,hx,e⟩
  ·obtain ⟨y,hy,e⟩:=List.mem_map.1 ((hasnm_iff _ n).1 h)
   obtain ⟨x,hx,rfl⟩:=mem_turn hy
   exact ⟨x,hx,e⟩
 obtain ⟨x,hx,rfl⟩:=hex
 have h1:=fnd_one hn hx
 have h2:fnd (turnE L) x.nm=some (backE x):=fnd_one (turn_nodup hn) (mem_turn' hx)
 rw [h1,h2]
 exact line_yes _ _ _ ⟨rfl,rfl⟩
end Go.Proofs.YtpeghomkaphdcaaGreatDoor
namespace Go.Proofs
open Go.Shelf
def Tryz.laysZ_ren:Go.Shelf.Ren:=⟨fun | 6=>24 | 7=>25 | 8=>44 | 9=>45 | 10=>46 | 11=>66 | n=>n,fun | 3=>62 | 23=>50 | 24=>40 | 26=>9 | 27=>57 | 28=>58 | 33=>83 | n=>n,fun n=>n⟩
set_option maxRecDepth 100000 in
theorem Tryz.laysKeys:Go.Proofs.SlLaysZ.n7 Tryz.prog Tryz.laysZ_ren:={
 mixed:=by kernel_rfl
 f7:=⟨ "maps.Keys[map[string]pantry/plan.pair,string,pantry/plan.pair]",by decide,Tryz.func25.trans (congrArg some (by kernel_rfl))⟩
 f10:=⟨ "maps.Keys[map[string]pantry/plan.pair,string,pantry/plan.pair]$1",by decide,Tryz.func46.trans (congrArg some (by kernel_rfl))⟩
 t0:=Tryz.underlying0
 a0:=Tryz.isAgg0
 z0:=Tryz.sizeOf0
 v0:=Tryz.zeroValue0
 t4:=Tryz.underlying4
 a4:=Tryz.isAgg4
 z4:=Tryz.sizeOf4
 v4:=Tryz.zeroValue4
 t23:=Tryz.underlying50
 a23:=Tryz.isAgg50
 z23:=Tryz.sizeOf50
 v23:=Tryz.zeroValue50
 t26:=Tryz.underlying9
 a26:=Tryz.isAgg9
 z26:=Tryz.sizeOf9
 v26:=Tryz.zeroValue9
 t27:=Tryz.underlying57
 a27:=Tryz.isAgg57
 z27:=Tryz.sizeOf57
 v27:=Tryz.zeroValue57
 t28:=Tryz.underlying58
 a28:=Tryz.isAgg58
 z28:=Tryz.sizeOf58
 v28:=Tryz.zeroValue58
 t33:=Tryz.underlying83
 a33:=Tryz.isAgg83
 z33:=Tryz.sizeOf83
 v33:=Tryz.zeroValue83 }
set_option maxRecDepth 100000 in
theorem Tryz.laysSorted:Go.Proofs.SlLaysZ.n6 Tryz.prog Tryz.laysZ_ren:={
 mixed:=by kernel_rfl
 f6:=⟨ "slices.Sorted[string]",by decide,Tryz.func24.trans (congrArg some (by kernel_rfl))⟩
 f8:=⟨ "slices.Collect[string]",by decide,Tryz.func44.trans (congrArg some (by kernel_rfl))⟩
 f11:=⟨ "slices.AppendSeq[[]string,string]",by decide,Tryz.func66.trans (congrArg some (by kernel_rfl))⟩
 t0:=Tryz.underlying0
 a0:=Tryz.isAgg0
 z0:=Tryz.sizeOf0
 v0:=Tryz.zeroValue0
 t24:=Tryz.underlying40
 a24:=Tryz.isAgg40
 z24:=Tryz.sizeOf40
 v24:=Tryz.zeroValue40
 t26:=Tryz.underlying9
 a26:=Tryz.isAgg9
 z26:=Tryz.sizeOf9
 v26:=Tryz.zeroValue9
 t28:=Tryz.underlying58
 a28:=Tryz.isAgg58
 z28:=Tryz.sizeOf58
 v28:=Tryz.zeroValue58
 i26:=by kernel_rfl }
end Go.Proofs
namespace Go.Proofs.YtpeghomkaphdcaaGreatDoor
open Go.RowKit Go.Maps Go.Sort Go.Shelf
set_option linter.unusedVariables false
theorem ptr_fnd (L:List En) (A:Addr) (n:ByteArray) (hnd:(L.map (·.nm)).Nodup):(∃k,∃hk:k < L.length,ptr L A n=some (A.add (k * 4))/\fnd L n=some L[k])\/(ptr L A n=none/\fnd L n=none/\hasNm L n=false):=by
 by_cases h:∃k,∃hk:k < L.length,L[k].nm=n
 ·obtain ⟨k,hk,e⟩:=h
  refine Or.inl ⟨k,hk,ptr_at L A n hnd k hk e,?_⟩
  rw [<-e]
  exact fnd_one hnd (List.getElem_mem _)
 ·have h':∀k (hk:k < L.length),¬ L[k].nm=n:=fun k hk e=>h ⟨k,hk,e⟩
  refine Or.inr ⟨ptr_no L A n h',?_,?_⟩
  ·unfold fnd
   rw [List.find?_eq_none]
   intro x hx
   obtain ⟨k,hk,rfl⟩:=List.getElem_of_mem hx
   simpa using h' k hk
  ·cases hh:hasNm L n with
   | false=>rfl
   | true =>
    obtain ⟨x,hx,e⟩:=List.mem_map.1 ((hasnm_iff L n).1 hh)
    obtain ⟨k,hk,rfl⟩:=List.getElem_of_mem hx
    exact absurd e (h' k hk)
theorem pLine_any (L M:List En) (A A':Addr) (n:ByteArray) (w:World) (hr:∀j (hj:j < L.length),EnAt w (A.add (j * 4)) L[j]) (hr':∀j (hj:j < M.length),EnAt w (A'.add (j * 4)) M[j]) (hnd:(L.map (·.nm)).Nodup) (hnd':(M.map (·.nm)).Nodup) (hh:n ∈ namesN L M) (hn:n.size<=1048576) (hV:∀x ∈ L,x.ve.size<=1048576) (hV':∀x ∈ M,x.ve.size<=1048576) :
  Calls Tryz.prog 27 #[.agg #[.pointer (ptr L A n),.pointer (ptr M A' n)],.string n] w fun e w'=>(∃T:ByteArray,e=.returned (.string T)/\T.data.toList=lineT (fnd L n) (fnd M n) n)/\w.grownBy w' none:=by
 rcases ptr_fnd L A n hnd with ⟨k,hk,e1,e2⟩ | ⟨e1,e2,e3⟩
 ·obtain ⟨-,a1,a2,-⟩:=hr k hk
  have hx:=hV _ (List.getElem_mem hk)
  rcases ptr_fnd M A' n hnd' with ⟨k',hk',f1,f2⟩ | ⟨f1,f2,f3⟩
  ·obtain ⟨-,b1,b2,-⟩:=hr' k' hk'
   have hy:=hV' _ (List.getElem_mem hk')
   rw [e1,e2,f1,f2]
   by_cases h:L[k].ve=M[k'].ve/\L[k].dg=M[k'].dg
   ·exact line_same _ _ n L[k] M[k'] w a1 a2 b1 b2 h
   ·exact line_diff _ _ n L[k] M[k'] w a1 a2 b1 b2 h hn hx hy
  ·rw [e1,e2,f1,f2]
   exact line_drop _ n L[k] w a1 hn hx
 ·rcases ptr_fnd M A' n hnd' with ⟨k',hk',f1,f2⟩ | ⟨f1,f2,f3⟩
  ·obtain ⟨-,b1,b2,-⟩:=hr' k' hk'
   have hy:=hV' _ (List.getElem_mem hk')
   rw [e1,e2,f1,f2]
   exact line_add _ n M[k'] w b1 hn hy
  ·have:=(names_iff L M n).1 hh
   rw [e3,f3] at this
   cases this
theorem sorts_in (m:Nat):AnyZ.SortsIn Tryz.prog Tryz.laysZ_ren Fence.wide m :=
 ⟨fun blk off cap ss W hH hblk hsz=>callsIn_wide.2 (Any.slices_Sort_string Tryz.lays190 blk off cap ss W hH hblk hsz),fun p cap W=>callsIn_wide.2 (Any.slices_Sort_string_none Tryz.lays190 p cap W)⟩
theorem keys_any (mb:Option Nat) (W:World):Calls Tryz.prog 25 #[.map mb] W fun e w'=>e=.returned (.func (.func 46) #[] #[.pointer (some ⟨W.heap.size,0,none⟩)])/\w'=W.alloc (.cells #[.map mb] 50) :=
 callsIn_wide.1 (AnyZ.keys_in Tryz.laysKeys Fence.wide 5 trivial rfl mb W)
set_option maxHeartbeats 1000000 in
theorem sortedK (b nn:Nat) (D0:DataW Unit) (w:World) (hown:w.ownsMap Tryz.prog 9 pairR b nn D0) (hn:nn<=4194304) :
  Calls Tryz.prog 24 #[.func (.func 46) #[] #[.pointer (some ⟨w.heap.size,0,none⟩)]] (w.alloc (.cells #[.map (some b)] 50)) fun e w'=>∃(v:Value) (ss:List (List UInt8)),e=.returned v/\ss.Perm (strKeys D0) ∧
   w'.ownsRow (w.alloc (.cells #[.map (some b)] 50)).heap.size 9 1 v ss.length ((ss.mergeSort (fun x y=>decide (x<=y))).map encStr)/\(v=.slice none 0 0 ↔ ss=[])/\Below (w.alloc (.cells #[.map (some b)] 50)).heap.size (w.alloc (.cells #[.map (some b)] 50)) w':=by
 have hbl:=hown.lt
 have hsz:=hown.size_le
 have hmax:Maps.size D0<=maxLen:=by unfold maxLen;omega
 have hbytes:Maps.size D0 * 16<=140737488355328:=by omega
 have hseq:SeqGives Fence.wide 2 Tryz.prog 46 #[.pointer (some ⟨w.heap.size,0,none⟩)] encStr (fun ss=>ss.Perm (strKeys D0)) (Maps.size D0) (w.alloc (.cells #[.map (some b)] 50)) :=
  AnyZ.keys_gives (ρ:=Tryz.laysZ_ren) { Tryz.laysKeys with } Fence.wide _ trivial rfl (by omega) w.heap.size b nn D0 _ (by simp) (by simp) (by
   obtain ⟨es,clock,hb,Ft,hs,hD⟩:=hown
   exact ⟨es,clock,(Below.heap_alloc _ _ b hbl).trans hb,Ft,hs,hD⟩)
 exact callsIn_wide.1 (AnyZ.sorted_in Tryz.laysSorted Fence.wide 5 trivial trivial trivial trivial rfl (by omega) (sorts_in _) (enters_of Tryz.func45 (by kernel_rfl) rfl) 46 #[.pointer (some ⟨w.heap.size,0,none⟩)] trivial (enters_of Tryz.func46 (by kernel_rfl) rfl) _ _ hmax hbytes _ hseq)
theorem cNames (L M:List En) (A A':Addr) (B Q:Nat) (w:World) (hQ:w.heap.size=Q) (hown:w.ownsMap Tryz.prog 9 pairR B (L.length+M.length) (prB L M A A' M.length)) (hn:L.length+M.length<=4194304) (hnd:(L.map (·.nm)).Nodup) (hnd':(M.map (·.nm)).Nodup) :
  Calls Tryz.prog 24 #[.func (.func 46) #[] #[.pointer (some ⟨Q,0,none⟩)]] (w.alloc (.cells #[.map (some B)] 50)) fun e w'=>∃o c,e=.returned (.slice o (namesN L M).length c) ∧
   w'.ownsRow (Q+1) 9 1 (.slice o (namesN L M).length c) (namesN L M).length ((sortT (namesN L M)).map Value.string)/\(w.alloc (.cells #[.map (some B)] 50)).grownBy w' none:=by
 subst hQ
 refine (sortedK B _ _ w hown hn).mono ?_
 rintro e w' ⟨v,ss,rfl,hp,hrow,-,hb⟩
 have hk:=pr_keys hown hnd hnd'
 rw [pr_sorted hk hp] at hrow
 have hl:ss.length=(namesN L M).length:=by
  have:=(hp.trans hk.symm).length_eq
  simpa using this
 rw [hl,World.size_alloc] at hrow
 obtain ⟨o,c,rfl⟩:=own_sl hrow
 exact ⟨o,c,rfl,hrow,bel_gb hb⟩
def WrS (B:Nat) (l:List UInt8) (w:World) (e:Ending) (w':World):Prop:=(∃k:Int,e=.returned (.tuple #[.int .i64 k,.nilIface]))/\Bld B l w'/\Below B w w'/\∀K cs,w.heap[K]?=some (.cells cs 9 (0,0))->¬ K=B->w'.heap[K]?=some (.cells cs 9 (0,0))
theorem cWriteS (B:Nat) (l:List UInt8) (s:ByteArray) (w:World) (h:Bld B l w) (hlen:l.length+s.size<=140737488355328) (hB:B<=w.heap.size) :
  Calls Tryz.prog 26 #[.pointer (some ⟨B,0,none⟩),.string s] w (WrS B (l++s.data.toList) w):=by
 refine (Any.Builder_WriteString_k Tryz.lays166 Tryz.Builder_Extra_166 B B (Lib.byteCells l) s w h (by rw [Lib.byteCells_length];exact hlen) hB).mono ?_
 rintro e w' ⟨rfl,h1,h2,h3⟩
 refine ⟨⟨_,rfl⟩,Or.inr ?_,h2,fun K cs hK hne=>h3 K _ hK (by simpa using hne) (fun c fz e=>by
  injection e with _ e2 _
  have e3:Tryz.lays166_ren.t 5=5:=rfl
  rw [e3] at e2
  cases e2)⟩
 have e1:Lib.byteCells l++Lib.strCells s=Lib.byteCells (l++s.data.toList):=by simp [Lib.byteCells,Lib.strCells]
 rw [e1] at h1
 exact h1
theorem row_keep {w w':World} {base e size:Nat} {v:Value} {n:Nat} {xs:List Value} (h:w.ownsRow base e size v n xs) (hk:∀q cs,base<=q->w.heap[q]?=some (.cells cs e (0,0))->w'.heap[q]?=some (.cells cs e (0,0))):w'.ownsRow base e size v n xs:=by
 refine ⟨h.1,?_⟩
 rcases h.2 with h0 | ⟨g,cap,cur,h1,h2,h3,h4⟩
 ·exact Or.inl h0
 ·exact Or.inr ⟨g,cap,cur,h1,h2,hk g cur h2 h3,h4⟩
end Go.Proofs.YtpeghomkaphdcaaGreatDoor
