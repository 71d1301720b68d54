import Derived.Test.YtonfldbigenfhaaGreatDoorM12
import Derived.Test.YtonfldbigenfhaaGreatDoorM09
import Derived.Test.YtonfldbigenfhaaGreatDoorM10
import Derived.Test.YtonfldbigenfhaaGreatDoorM11
import Derived.Test.YtonfldbigenfhaaGreatDoorM07
namespace Go.Proofs.YtonfldbigenfhaaGreatDoor
open Go.RowKit Go.Shelf Go.Sort
set_option linter.unusedVariables false
abbrev Eb:={e:Er // e.a4.size<=1048576}
instance:Inhabited Eb:=⟨⟨default,by show (0:Nat)<=_;omega⟩⟩
def encB (x:Eb):List Value:=erC x.1
def cfB (x y:Eb):Int:=verC (toEd x.1).at_ (toEd y.1).at_
theorem swoB:SWO (ltOf cfB) where
 irrefl x:=by unfold ltOf cfB;rw [v_self];rfl
 trans x y z h1 h2:=by
  unfold ltOf cfB at *
  have a1:=of_decide_eq_true h1
  have a2:=of_decide_eq_true h2
  exact decide_eq_true (v_lt_trans a1 a2)
 ntrans x y z h1 h2:=by
  unfold ltOf cfB at *
  have a1:=of_decide_eq_false h1
  have a2:=of_decide_eq_false h2
  apply decide_eq_false
  intro h3
  have b1:=v_anti (toEd x.1).at_ (toEd y.1).at_
  have b2:=v_anti (toEd y.1).at_ (toEd z.1).at_
  have b3:=v_le_trans (show verC (toEd z.1).at_ (toEd y.1).at_<=0 by omega) (show verC (toEd y.1).at_ (toEd x.1).at_<=0 by omega)
  have b4:=v_anti (toEd z.1).at_ (toEd x.1).at_
  omega
theorem gr_grow {w w':World} (h:Gr w w'):∃q os,w'=grow (w.drewN q) os:=by
 refine ⟨w'.drawn - w.drawn,w'.heap.extract w.heap.size w'.heap.size,?_⟩
 obtain ⟨hg,hd⟩:=h
 have hh:w'.heap=w.heap++w'.heap.extract w.heap.size w'.heap.size:=by
  apply Array.ext_getElem?
  intro k
  by_cases hk:k < w.heap.size
  ·rw [Array.getElem?_append_left hk];exact hg.block k hk (by simp)
  ·rw [Array.getElem?_append_right (by omega),Array.getElem?_extract]
   by_cases hk2:k < w'.heap.size
   ·rw [if_pos (by omega)];congr 1;omega
   ·rw [if_neg (by omega),Array.getElem?_eq_none (by omega)]
 have h1:=hg.os
 have h2:=hg.tape
 have h3:=hg.output
 cases w';cases w
 simp only [grow,World.drewN,World.mk.injEq] at *
 exact ⟨hh,h2,by omega,h1,h3⟩
theorem cmpB (w:World) (blk off size:Nat):CmpLays Tryz.prog 104 #[] encB 7 cfB blk off size w:=by
 intro m os dk hdk x y
 refine (cmpE_any x.1 y.1 _ x.2 y.2).mono ?_
 rintro e w' ⟨rfl,hg⟩
 exact ⟨rfl,gr_grow hg⟩
theorem encLen (x:Eb):(encB x).length=7:=rfl
theorem encOne (x:Eb):∀v ∈ encB x,v.oneCell'=true:=er_one x.1
theorem flatB (d:Array Eb):(flatK encB 7 d).toList=(d.toList.map (·.1)).flatMap erC:=by
 apply List.ext_getElem?
 intro j
 have hl:((d.toList.map (·.1)).flatMap erC).length=d.size * 7:=by
  have:∀L:List Er,(L.flatMap erC).length=L.length * 7:=by
   intro L
   induction L with
   | nil=>rfl
   | cons e L ih=>rw [List.flatMap_cons,List.length_append,ih,List.length_cons];show 7+_=_;omega
  rw [this];simp
 by_cases hj:j < d.size * 7
 ·have hi:j / 7 < d.size:=by omega
  have h1:(flatK encB 7 d).toList[j]?=some ((encB d[j / 7]!)[j % 7]!):=by
   rw [Array.getElem?_toList,Array.getElem?_eq_getElem (by simpa using hj)]
   have:=get_flatK encB 7 d j hj
   rw [getElem!_pos _ j (by simpa using hj)] at this
   rw [this]
  have h2:=flat_er (d.toList.map (·.1)) (j / 7) (by simpa using hi) (j % 7) ((encB d[j / 7]!)[j % 7]!) (by
   rw [getElem!_pos d (j / 7) hi]
   have hk:j % 7 < (encB d[j / 7]).length:=by rw [encLen];omega
   rw [getElem!_pos _ (j % 7) hk]
   rw [List.getElem_map,Array.getElem_toList]
   exact List.getElem?_eq_getElem hk)
  rw [show j / 7 * 7+j % 7=j by omega] at h2
  rw [h1,h2]
 ·rw [List.getElem?_eq_none (by simp;omega),List.getElem?_eq_none (by rw [hl];omega)]
theorem eg:∀args w,(callFunc 104 args).run Tryz.prog w=.ok (.enter 104 args) w:=enters_of Tryz.func104 (by kernel_rfl) rfl
set_option maxRecDepth 100000 in
theorem sortSays:SortSays:=by
 intro ve E base w hown hlen hsmall
 obtain ⟨D,hD⟩:∃D:Array Eb,D.toList.map (·.1)=E:=⟨(E.attach.map fun e=>(⟨e.1,hsmall e.1 e.2⟩:Eb)).toArray,by simp⟩
 have hDs:D.size=E.length:=by rw [<-hD];simp
 have hown':=hown
 rcases hown.2 with ⟨rfl,h0⟩ | ⟨g,cap,cur,rfl,hb,hg,hn,hm,hs,ht⟩
 ·refine (AnyF.slices_SortFunc_none Tryz.laysSort none 0 (.func (.func 104) #[] #[]) w).mono ?_
  rintro e w' ⟨rfl,rfl⟩
  have hE:E=[]:=List.eq_nil_of_length_eq_zero h0
  subst hE
  exact ⟨rfl,[],List.Perm.refl _,List.Pairwise.nil,hown',⟨rfl,rfl,rfl,Nat.le_refl _,fun _ _ _=>rfl⟩⟩
 ·have hH:HoldsK encB 7 w g 0 D:=by
   intro j hj
   have hj':j < (E.flatMap erC).length:=by rw [hown.1,<-hDs];simpa using hj
   refine ⟨?_,Lib.frozen_of_heap hg _⟩
   have h1:(flatK encB 7 D).toList[j]?=(E.flatMap erC)[j]?:=by rw [flatB,hD]
   rw [Array.getElem?_toList,Array.getElem?_eq_getElem hj] at h1
   rw [Nat.zero_add,Lib.cell_of_heap hg]
   rw [getElem!_pos _ j hj]
   show cur[j]?=some (id _)
   rw [id,h1,<-ht,List.getElem?_take_of_lt (by rw [hown.1] at hj';exact hj')]
   simp
  rw [<-hDs]
  refine (AnyQ.slices_SortFunc Tryz.laysSort 7 Tryz.isAgg135 Tryz.sizeOf135 encB encLen encOne cfB swoB 104 #[] g 0 cap D w eg (cmpB w g 0 D.size) hH (Array.getElem?_eq_some_iff.1 hg).1 (by omega)).mono ?_
  rintro e w' ⟨rfl,d',m,os,hperm,hsort,hw'⟩
  have hds:d'.size=D.size:=hperm.1
  have hgl:g < w.heap.size:=(Array.getElem?_eq_some_iff.1 hg).1
  have hheap:w'.heap=(w.heap.modify g (onCells (putCells id 0 (flatK encB 7 d'))))++os:=by rw [hw'];rfl
  have hg':w'.heap[g]?=some (.cells (putCells id 0 (flatK encB 7 d') cur) 135):=by
   rw [hheap,Array.getElem?_append_left (by simpa using hgl),Array.getElem?_modify,if_pos rfl,hg];rfl
  have hFs:(flatK encB 7 d').size=D.size * 7:=by simp [hds]
  have hcs:D.size * 7<=cur.size:=by rw [hs,hDs];omega
  have hlen2:((d'.toList.map (·.1)).flatMap erC).length=D.size * 7:=by rw [<-flatB,Array.length_toList,hFs]
  refine ⟨rfl,d'.toList.map (·.1),?_,?_,⟨?_,.inr ⟨g,cap,_,?_,hb,hg',?_,hm,?_,?_⟩⟩,?_⟩
  ·rw [<-hD]
   apply List.Perm.map
   have:=hperm.2.2
   rw [Array.extract_size] at this
   rw [show d'.extract 0 D.size=d' by rw [<-hds,Array.extract_size]] at this
   exact this
  ·show List.Pairwise _ _
   rw [List.pairwise_iff_getElem]
   intro i j hi hj hij
   simp only [List.length_map,Array.length_toList] at hi hj
   have:=hsort i j (Nat.zero_le _) hij (by omega)
   rw [getElem!_pos d' j hj,getElem!_pos d' i hi] at this
   have h3:=of_decide_eq_false this
   have h4:=v_anti (toEd d'[j].1).at_ (toEd d'[i].1).at_
   simp only [List.getElem_map,Array.getElem_toList]
   unfold cfB at h3
   omega
  ·rw [hlen2];simp [hds]
  ·simp [hds]
  ·simp [hds];omega
  ·simp [putCells,hs]
  ·rw [show (d'.toList.map (·.1)).length=D.size by simp [hds],<-flatB]
   apply List.ext_getElem?
   intro j
   by_cases hj:j < D.size * 7
   ·rw [List.getElem?_take_of_lt hj,Array.getElem?_toList,Array.getElem?_toList]
    rw [putCells,Array.getElem?_mapIdx,Array.getElem?_eq_getElem (show j < cur.size by omega)]
    rw [Option.map_some,if_pos ⟨Nat.zero_le _,by omega⟩,Nat.sub_zero,id,getElem!_pos _ j (by omega)]
    exact (Array.getElem?_eq_getElem _).symm
   ·rw [List.getElem?_eq_none (by simp;omega),List.getElem?_eq_none (by rw [Array.length_toList];omega)]
  ·refine ⟨by rw [hw'];rfl,by rw [hw'];rfl,by rw [hw'];rfl,?_,?_⟩
   ·rw [hheap];simp
   ·intro k hk hne
    have hkg:g ≠ k:=by
     intro h;subst h;exact hne rfl
    rw [hheap,Array.getElem?_append_left (by simpa using hk),Array.getElem?_modify,if_neg hkg]
open Go.RowKit
theorem sps_slice {w:World} {sl:Value} {L:List Sp} (h:SpS w sl L):∃o n c,sl=.slice o n c:=by
 rcases h with ⟨rfl,_⟩ | ⟨a,cap,rfl,_⟩
 ·exact ⟨_,_,_,rfl⟩
 ·exact ⟨_,_,_,rfl⟩
theorem SweepPost.from {ch:Int->Bool} {Ls:List (List Sp)} {w w1:World} {e:Ending} {w':World} (hg:w.grownBy w1 none) (h:SweepPost ch Ls w1 e w'):SweepPost ch Ls w e w':=by
 refine ⟨gb_trans hg h.1,?_⟩
 rcases h.2 with h1 | ⟨h1,E,vs,h2,h3,h4,h5,h6⟩
 ·exact Or.inl h1
 ·exact Or.inr ⟨h1,E,vs,h2,h3,h4,h5,own_down h6 hg.size⟩
theorem SweepPost.two {ch:Int->Bool} {Ls:List (List Sp)} {w:World} {e:Ending} {w':World} (h:SweepPost ch Ls w e w'):∃o n c r,e=.returned (.tuple #[.slice o n c,.int .i64 r]):=by
 rcases h.2 with ⟨_,rfl⟩ | ⟨_,E,vs,_,_,rfl,hs,_⟩
 ·exact ⟨_,_,_,_,rfl⟩
 ·obtain ⟨o,n,c,rfl⟩:=sps_slice hs
  exact ⟨_,_,_,_,rfl⟩
set_option maxRecDepth 100000 in
set_option maxHeartbeats 1600000 in
theorem normal_any (sl:Value) (L:List Sp) (w:World) (h:SpS w sl L) (hL:L.length<=1048576) (hsz:∀s ∈ L,smallS s) :
  Calls Tryz.prog 33 #[sl] w (SweepPost (fun x=>decide (0 < x)) [L] w):=by
 have HA:Hid (SpS w sl L):=h
 have CS:Hid (∀a w,Lists w a [L]->Calls Tryz.prog 49 #[.func (.func 50) #[] #[],.slice (some a) 1 1] w (SweepPost (fun x=>decide (0 < x)) [L] w)):=fun a w h=>sweep_some sortSays a 1 1 [L] w rfl (by omega) (by omega) h (by intro l hl;simp at hl;subst hl;exact ⟨hL,hsz⟩)
 obtain ⟨o,n,c,rfl⟩:=sps_slice h
 clear h hL hsz
 go_enter Tryz.func33,Tryz.ntmps33
 go_wp2_with (first | (go_at_call 49;refine (CS.out _ _ ?_).mono ?_))
 ·have hg:=gb_alloc (gb_refl w none) (.cells #[.slice o n c] 22)
  intro j hj
  have hj':j=0:=by simp at hj;omega
  subst hj'
  exact ⟨.slice o n c,by rw [show (⟨w.heap.size,0,none⟩:Addr).add 0=⟨w.heap.size,0,none⟩ from add_zero_off _ _,Lib.cell_of_heap (heap_alloc_new w _)];rfl,HA.out.grow hg⟩
 intro e w1 hp
 have HP:=SweepPost.from (gb_alloc (gb_refl w none) _) hp
 clear hp
 obtain ⟨o2,n2,c2,r2,rfl⟩:=HP.two
 have HQ:Hid (SweepPost (fun x=>decide (0 < x)) [L] w (.returned (.tuple #[.slice o2 n2 c2,.int .i64 r2])) w1):=HP
 clear HP
 go_wp2
 exact bodyPost_ret (results_tmp2 (t:=2) (u:=3) rfl _ _ _) rfl HQ.out
set_option maxRecDepth 100000 in
set_option maxHeartbeats 1600000 in
theorem meet_any (sl sm:Value) (L M:List Sp) (w:World) (h:SpS w sl L) (h':SpS w sm M) (hL:L.length<=1048576) (hsz:∀s ∈ L,smallS s) (hM:M.length<=1048576) (hsm:∀s ∈ M,smallS s) :
  Calls Tryz.prog 26 #[sl,sm] w (SweepPost (fun x=>decide (x=((2:Nat):Int))) [L,M] w):=by
 have HA:Hid (SpS w sl L):=h
 have HB:Hid (SpS w sm M):=h'
 have CS:Hid (∀a w,Lists w a [L,M]->Calls Tryz.prog 49 #[.func (.func 51) #[] #[],.slice (some a) 2 2] w (SweepPost (fun x=>decide (x=((2:Nat):Int))) [L,M] w)):=fun a w h=>sweep_every sortSays a 2 2 [L,M] w rfl (by omega) (by omega) h (by intro l hl;simp at hl;rcases hl with rfl | rfl <;> first | exact ⟨hL,hsz⟩ | exact ⟨hM,hsm⟩)
 obtain ⟨o,n,c,rfl⟩:=sps_slice h
 obtain ⟨o',n',c',rfl⟩:=sps_slice h'
 clear h'
 clear hM hsm
 clear h hL hsz
 go_enter Tryz.func26,Tryz.ntmps26
 go_wp2_with (first | (go_at_call 49;refine (CS.out _ _ ?_).mono ?_))
 ·have hg:=gb_alloc (gb_refl w none) (.cells #[.slice o n c,.slice o' n' c'] 22)
  intro j hj
  have hj':j=0\/j=1:=by simp at hj;omega
  rcases hj' with rfl | rfl
  ·exact ⟨.slice o n c,by rw [show (⟨w.heap.size,0,none⟩:Addr).add 0=⟨w.heap.size,0,none⟩ from add_zero_off _ _,Lib.cell_of_heap (heap_alloc_new w _)];rfl,HA.out.grow hg⟩
  ·exact ⟨.slice o' n' c',by rw [show (⟨w.heap.size,0,none⟩:Addr).add 1=⟨w.heap.size,1,none⟩ from add_zero_off _ _,Lib.cell_of_heap (heap_alloc_new w _)];rfl,HB.out.grow hg⟩
 intro e w1 hp
 have HP:=SweepPost.from (gb_alloc (gb_refl w none) _) hp
 clear hp
 obtain ⟨o2,n2,c2,r2,rfl⟩:=HP.two
 have HQ:Hid (SweepPost (fun x=>decide (x=((2:Nat):Int))) [L,M] w (.returned (.tuple #[.slice o2 n2 c2,.int .i64 r2])) w1):=HP
 clear HP
 go_wp2
 exact bodyPost_ret (results_tmp2 (t:=4) (u:=5) rfl _ _ _) rfl HQ.out
set_option maxRecDepth 100000 in
set_option maxHeartbeats 1600000 in
theorem join_any (sl sm:Value) (L M:List Sp) (w:World) (h:SpS w sl L) (h':SpS w sm M) (hL:L.length<=1048576) (hsz:∀s ∈ L,smallS s) (hM:M.length<=1048576) (hsm:∀s ∈ M,smallS s) :
  Calls Tryz.prog 24 #[sl,sm] w (SweepPost (fun x=>decide (0 < x)) [L,M] w):=by
 have HA:Hid (SpS w sl L):=h
 have HB:Hid (SpS w sm M):=h'
 have CS:Hid (∀a w,Lists w a [L,M]->Calls Tryz.prog 49 #[.func (.func 50) #[] #[],.slice (some a) 2 2] w (SweepPost (fun x=>decide (0 < x)) [L,M] w)):=fun a w h=>sweep_some sortSays a 2 2 [L,M] w rfl (by omega) (by omega) h (by intro l hl;simp at hl;rcases hl with rfl | rfl <;> first | exact ⟨hL,hsz⟩ | exact ⟨hM,hsm⟩)
 obtain ⟨o,n,c,rfl⟩:=sps_slice h
 obtain ⟨o',n',c',rfl⟩:=sps_slice h'
 clear h'
 clear hM hsm
 clear h hL hsz
 go_enter Tryz.func24,Tryz.ntmps24
 go_wp2_with (first | (go_at_call 49;refine (CS.out _ _ ?_).mono ?_))
 ·have hg:=gb_alloc (gb_refl w none) (.cells #[.slice o n c,.slice o' n' c'] 22)
  intro j hj
  have hj':j=0\/j=1:=by simp at hj;omega
  rcases hj' with rfl | rfl
  ·exact ⟨.slice o n c,by rw [show (⟨w.heap.size,0,none⟩:Addr).add 0=⟨w.heap.size,0,none⟩ from add_zero_off _ _,Lib.cell_of_heap (heap_alloc_new w _)];rfl,HA.out.grow hg⟩
  ·exact ⟨.slice o' n' c',by rw [show (⟨w.heap.size,0,none⟩:Addr).add 1=⟨w.heap.size,1,none⟩ from add_zero_off _ _,Lib.cell_of_heap (heap_alloc_new w _)];rfl,HB.out.grow hg⟩
 intro e w1 hp
 have HP:=SweepPost.from (gb_alloc (gb_refl w none) _) hp
 clear hp
 obtain ⟨o2,n2,c2,r2,rfl⟩:=HP.two
 have HQ:Hid (SweepPost (fun x=>decide (0 < x)) [L,M] w (.returned (.tuple #[.slice o2 n2 c2,.int .i64 r2])) w1):=HP
 clear HP
 go_wp2
 exact bodyPost_ret (results_tmp2 (t:=4) (u:=5) rfl _ _ _) rfl HQ.out
theorem tog_sub_list (h:V->Bool):∀(ps:List V) (on:Bool),(tog h on ps).Sublist ps
 | [],on=>List.Sublist.slnil
 | p :: ps,on=>by
  rw [tog]
  split
  ·exact (tog_sub_list h ps on).cons _
  ·exact (tog_sub_list h ps (h p)).cons_cons _
def par:List V->V->Bool
 | [],_=>false
 | t :: r,x=>decide (verC t x<=0) ^^ par r x
theorem par_none (T:List V) (x:V) (h:∀t ∈ T,verC x t < 0):par T x=false:=by
 induction T with
 | nil=>rfl
 | cons t r ih =>
  have h1:=h t (by simp)
  have h2:=v_anti x t
  rw [par,ih (fun t' ht'=>h t' (by simp [ht'])),decide_eq_false (by omega)]
  rfl
theorem rising_tail {t:V} {r:List V} (h:Rising (t :: r)):Rising r:=(List.pairwise_cons.1 h).2
theorem rising_head {t:V} {r:List V} (h:Rising (t :: r)):∀x ∈ r,verC t x < 0:=(List.pairwise_cons.1 h).1
theorem cFrom_spV (x y:V) (o:Bool):cFrom (spV x y o)=x:=by
 cases x;simp [cFrom,spV]
theorem cTo_spV (x y:V) (o:Bool):cTo (spV x y o)=y:=by
 cases y;simp [cTo,spV]
theorem outs_par:∀(T:List V),Rising T->∀x,holdsL (outs T) x=par T x
 | [],_,x=>rfl
 | [a],_,x=>by
  rw [outs,holdsL,List.any_cons,List.any_nil,hasS,cFrom_spV,par,par]
  show (decide (verC a x<=0) && (true || _) || false)=_
  cases decide (verC a x<=0) <;> rfl
 | a :: b :: r,h,x=>by
  have hab:verC a b < 0:=rising_head h b (by simp)
  have hr:=rising_tail h
  have ih:=outs_par r (rising_tail hr) x
  unfold holdsL at ih
  rw [outs,holdsL,List.any_cons,ih,hasS,cFrom_spV,cTo_spV,par,par]
  show (decide (verC a x<=0) && (false || decide (verC x b < 0)) || par r x)=_
  have a1:=v_anti x b
  by_cases hb:verC b x<=0
  ·have ha:verC a x<=0:=v_le_trans (show verC a b<=0 by omega) hb
   rw [decide_eq_true ha,decide_eq_true hb,decide_eq_false (by omega)]
   cases par r x <;> rfl
  ·have hp:par r x=false:=par_none r x fun t ht=>v_lt_trans (show verC x b < 0 by omega) (rising_head hr t ht)
   rw [hp,decide_eq_false hb,decide_eq_true (show verC x b < 0 by omega)]
   cases decide (verC a x<=0) <;> rfl
theorem par_one:∀(T U:List V),Rising T->Rising U->(∀t ∈ T,okParts true t.pre=true)->(∀t ∈ U,okParts true t.pre=true)->T ≠ U->∃t,(t ∈ T\/t ∈ U)/\par T t ≠ par U t
 | [],[],_,_,_,_,h=>absurd rfl h
 | [],u :: U,_,hU,_,_,_=>⟨u,Or.inr (by simp),by
  rw [par,par,par_none U u (rising_head hU),v_self];decide⟩
 | t :: T,[],hT,_,_,_,_=>⟨t,Or.inl (by simp),by
  rw [par,par,par_none T t (rising_head hT),v_self];decide⟩
 | t :: T,u :: U,hT,hU,okT,okU,hne=>by
  have h0:=v_anti t u
  by_cases h1:verC t u < 0
  ·refine ⟨t,Or.inl (by simp),?_⟩
   rw [par_none (u :: U) t (fun x hx=>by
    rcases List.mem_cons.1 hx with rfl | hx
    ·exact h1
    ·exact v_lt_trans h1 (rising_head hU x hx)),par,par_none T t (rising_head hT),v_self]
   decide
  ·by_cases h2:verC u t < 0
   ·refine ⟨u,Or.inr (by simp),?_⟩
    rw [par_none (t :: T) u (fun x hx=>by
     rcases List.mem_cons.1 hx with rfl | hx
     ·exact h2
     ·exact v_lt_trans h2 (rising_head hT x hx)),par,par_none U u (rising_head hU),v_self]
    decide
   ·have e:t=u:=ver_one (okT t (by simp)) (okU u (by simp)) (by omega)
    subst e
    obtain ⟨x,hx,hp⟩:=par_one T U (rising_tail hT) (rising_tail hU) (fun t ht=>okT t (by simp [ht])) (fun t ht=>okU t (by simp [ht])) (fun e=>hne (by rw [e]))
    have hlt:verC t x < 0:=by
     rcases hx with hx | hx
     ·exact rising_head hT x hx
     ·exact rising_head hU x hx
    refine ⟨x,by rcases hx with hx | hx <;> simp [hx],?_⟩
    rw [par,par,decide_eq_true (show verC t x<=0 by omega)]
    intro h
    apply hp
    revert h
    cases par T x <;> cases par U x <;> decide
def NF (N:List Sp):Prop:=∃T,N=outs T/\Rising T/\(∀t ∈ T,okParts true t.pre=true/\t.pre.length<=1048576)/\T.length<=4194304
theorem outs_mem:∀(T:List V) (s:Sp),s ∈ outs T->(∃x ∈ T,s=spV x zeroV0 true)\/∃x ∈ T,∃y ∈ T,s=spV x y false
 | [],s,h=>by simp [outs] at h
 | [a],s,h=>by
  have e:s=spV a zeroV0 true:=by simpa [outs] using h
  exact Or.inl ⟨a,by simp,e⟩
 | a :: b :: r,s,h=>by
  rw [outs] at h
  rcases List.mem_cons.1 h with e | h
  ·exact Or.inr ⟨a,by simp,b,by simp,e⟩
  ·rcases outs_mem r s h with ⟨x,hx,e⟩ | ⟨x,hx,y,hy,e⟩
   ·exact Or.inl ⟨x,by simp [hx],e⟩
   ·exact Or.inr ⟨x,by simp [hx],y,by simp [hy],e⟩
theorem NF.small {N:List Sp} (h:NF N):∀s ∈ N,smallS s:=by
 obtain ⟨T,rfl,_,hp,hl⟩:=h
 have hsz:∀l:List UInt8,(⟨l.toArray⟩:ByteArray).size=l.length:=fun l=>by simp [ByteArray.size]
 have h0:(⟨#[]⟩:ByteArray).size=0:=rfl
 intro s hs
 rcases outs_mem T s hs with ⟨x,hx,rfl⟩ | ⟨x,hx,y,hy,rfl⟩
 ·refine ⟨?_,?_,?_,?_⟩
  ·show (⟨x.pre.toArray⟩:ByteArray).size<=_;rw [hsz];exact (hp x hx).2
  ·show (⟨#[]⟩:ByteArray).size<=_;rw [h0];omega
  ·show (⟨zeroV0.pre.toArray⟩:ByteArray).size<=_;rw [hsz];show 0<=_;omega
  ·show (⟨#[]⟩:ByteArray).size<=_;rw [h0];omega
 ·refine ⟨?_,?_,?_,?_⟩
  ·show (⟨x.pre.toArray⟩:ByteArray).size<=_;rw [hsz];exact (hp x hx).2
  ·show (⟨#[]⟩:ByteArray).size<=_;rw [h0];omega
  ·show (⟨y.pre.toArray⟩:ByteArray).size<=_;rw [hsz];exact (hp y hy).2
  ·show (⟨#[]⟩:ByteArray).size<=_;rw [h0];omega
theorem er_ok (Ls:List (List Sp)) (h:Ls.all (·.all soundS)=true):∀(k:Nat),∀e ∈ erL k Ls,okParts true (toEd e).at_.pre=true:=by
 induction Ls with
 | nil=>intro k e he;simp [erL] at he
 | cons l Ls ih =>
  intro k e he
  rw [List.all_cons,Bool.and_eq_true] at h
  rw [erL] at he
  rcases List.mem_append.1 he with he | he
  ·obtain ⟨s,hs,he⟩:=List.mem_flatMap.1 he
   have hm:=List.all_eq_true.1 h.1 s hs
   unfold soundS at hm
   rw [Bool.and_eq_true] at hm
   have hf:okParts true s.f4.data.toList=true:=by
    have:=hm.1
    unfold soundV vFrom at this
    simp only [Bool.and_eq_true] at this
    exact this.2.2.2.1
   unfold erS at he
   split at he
   ·simp at he;rw [he];exact hf
   ·rename_i ho
    have ht:okParts true s.t4.data.toList=true:=by
     have:=hm.2
     rw [Bool.or_eq_true] at this
     rcases this with h | this
     ·exact absurd h ho
     ·unfold soundV vTo at this
      simp only [Bool.and_eq_true] at this
      exact this.2.2.2.1
    split at he
    ·simp at he
     rcases he with rfl | rfl
     ·exact hf
     ·exact ht
    ·simp at he
  ·exact ih h.2 (k+1) e he
def lastH (h:V->Bool):Bool->List V->V->Bool
 | on,[],_=>on
 | on,d :: D,x=>if verC d x<=0 then lastH h (h d) D x else on
theorem par_tog (h:V->Bool) (x:V):∀(D:List V) (on:Bool),Rising D->par (tog h on D) x=(on ^^ lastH h on D x)
 | [],on,_=>by simp [tog,par,lastH]
 | d :: D,on,hr=>by
  have hD:=rising_tail hr
  by_cases hd:verC d x<=0
  ·rw [lastH,if_pos hd,tog]
   split
   ·rename_i e
    rw [par_tog h x D on hD,e]
   ·rename_i e
    rw [par,decide_eq_true hd,par_tog h x D (h d) hD]
    cases hb:h d <;> cases on <;> first | (exact absurd hb e) | (cases lastH h _ D x <;> rfl)
  ·rw [lastH,if_neg hd]
   have hx:verC x d < 0:=by have:=v_anti x d;omega
   rw [par_none]
   ·cases on <;> rfl
   ·intro t ht
    rcases List.mem_cons.1 ((tog_sub_list h (d :: D) on).subset ht) with e | e
    ·rw [e];exact hx
    ·exact v_lt_trans hx (rising_head hr t e)
theorem last_spec (h:V->Bool) (x:V):∀(D:List V) (on:Bool),Rising D →
  ((∀d ∈ D,verC x d < 0)/\lastH h on D x=on)\/∃z ∈ D,verC z x<=0/\(∀p ∈ D,verC z p < 0->verC x p < 0)/\lastH h on D x=h z
 | [],on,_=>Or.inl ⟨fun d hd=>by simp at hd,rfl⟩
 | d :: D,on,hr=>by
  have hD:=rising_tail hr
  by_cases hd:verC d x<=0
  ·right
   rw [lastH,if_pos hd]
   rcases last_spec h x D (h d) hD with ⟨h1,h2⟩ | ⟨z,hz,h1,h2,h3⟩
   ·refine ⟨d,by simp,hd,fun p hp hlt=>?_,h2⟩
    rcases List.mem_cons.1 hp with e | e
    ·rw [e,v_self] at hlt;omega
    ·exact h1 p e
   ·refine ⟨z,by simp [hz],h1,fun p hp hlt=>?_,h3⟩
    rcases List.mem_cons.1 hp with e | e
    ·rw [e] at hlt
     have:=rising_head hr z hz
     have:=v_anti d z
     omega
    ·exact h2 p e hlt
  ·left
   have hx:verC x d < 0:=by have:=v_anti x d;omega
   rw [lastH,if_neg hd]
   refine ⟨fun p hp=>?_,rfl⟩
   rcases List.mem_cons.1 hp with e | e
   ·rw [e];exact hx
   ·exact v_lt_trans hx (rising_head hr p e)
theorem sweep_par (ch:Int->Bool) (h0:ch 0=false) (Ls:List (List Sg)) (E:List Ed) (hE:E.Perm (edL 0 Ls)) (hs:SortedE E) (x:V) :
  par (swT (fun b=>ch (having Ls.length b)) (fun _=>0) false E) x=ch (haveN Ls x):=by
 have e1:=swT_tog (fun b=>ch (having Ls.length b)) E (fun x=>ch (haveN Ls x)) (fun x=>by simp only [having_lists Ls E hE]) hs E [] false rfl
 have e2:(fun j=>tot [] j)=(fun _=>(0:Int)):=rfl
 rw [e2] at e1
 rw [e1,par_tog _ x _ _ (poss_rising E hs),Bool.false_xor]
 have hne:∀e ∈ E,∃p ∈ poss E,verC e.at_ p=0:=(poss_mem E hs).2
 rcases last_spec (fun x=>ch (haveN Ls x)) x (poss E) false (poss_rising E hs) with ⟨h1,h2⟩ | ⟨z,hz,h1,h2,h3⟩
 ·rw [h2,<-having_lists Ls E hE]
  have:(fun j=>sumB E j x)=fun _=>(0:Int):=by
   funext j
   refine sumB_none E j x fun e he hle=>?_
   obtain ⟨p,hp,h0⟩:=hne e he
   have a1:=h1 p hp
   have a2:=v_anti e.at_ p
   have a3:=v_le_trans (show verC p e.at_<=0 by omega) hle
   have a4:=v_anti x p
   omega
  rw [this,having_zero,h0]
 ·rw [h3]
  show ch (haveN Ls z)=_
  rw [<-having_lists Ls E hE,<-having_lists Ls E hE]
  congr 2
  funext j
  refine sumB_congr E j z x fun e he=>?_
  obtain ⟨p,hp,h0⟩:=hne e he
  have a2:=v_anti e.at_ p
  by_cases hzp:verC z p < 0
  ·have hxp:=h2 p hp hzp
   constructor
   ·intro h
    exfalso
    have a3:=v_le_trans (show verC p e.at_<=0 by omega) h
    have a4:=v_anti z p
    omega
   ·intro h
    exfalso
    have a3:=v_le_trans (show verC p e.at_<=0 by omega) h
    have a4:=v_anti x p
    omega
  ·have hpz:verC p z<=0:=by have:=v_anti z p;omega
   have hez:verC e.at_ z<=0:=v_le_trans (show verC e.at_ p<=0 by omega) hpz
   exact ⟨fun _=>v_le_trans hez h1,fun _=>hez⟩
theorem holdsG_map (l:List Sp) (x:V):holdsG (l.map toSg) x=holdsL l x:=by
 unfold holdsG holdsL
 rw [List.any_map]
 rfl
theorem have_one (L:List Sp) (x:V):decide (0 < haveN [L.map toSg] x)=holdsL L x:=by
 unfold haveN
 simp only [List.map_cons,List.map_nil,List.sum_cons,List.sum_nil,holdsG_map]
 cases holdsL L x <;> simp
theorem have_some (L M:List Sp) (x:V):decide (0 < haveN [L.map toSg,M.map toSg] x)=(holdsL L x || holdsL M x):=by
 unfold haveN
 simp only [List.map_cons,List.map_nil,List.sum_cons,List.sum_nil,holdsG_map]
 cases holdsL L x <;> cases holdsL M x <;> simp
theorem have_all (L M:List Sp) (x:V):decide (haveN [L.map toSg,M.map toSg] x=((2:Nat):Int))=(holdsL L x && holdsL M x):=by
 unfold haveN
 simp only [List.map_cons,List.map_nil,List.sum_cons,List.sum_nil,holdsG_map]
 cases holdsL L x <;> cases holdsL M x <;> simp
def okT (t:V):Bool:=soundV ⟨t.major,t.minor,t.patch,t.pre,[]⟩
theorem er_okT (Ls:List (List Sp)) (h:Ls.all (·.all soundS)=true):∀(k:Nat),∀e ∈ erL k Ls,okT (toEd e).at_=true:=by
 have key:∀(a b c:Int) (p q:List UInt8),soundV ⟨a,b,c,p,q⟩=true->soundV ⟨a,b,c,p,[]⟩=true:=by
  intro a b c p q h
  unfold soundV at h ⊢
  simp only [Bool.and_eq_true] at h ⊢
  exact ⟨h.1,h.2.1,h.2.2.1,h.2.2.2.1,rfl⟩
 induction Ls with
 | nil=>intro k e he;simp [erL] at he
 | cons l Ls ih =>
  intro k e he
  rw [List.all_cons,Bool.and_eq_true] at h
  rw [erL] at he
  rcases List.mem_append.1 he with he | he
  ·obtain ⟨s,hs,he⟩:=List.mem_flatMap.1 he
   have hm:=List.all_eq_true.1 h.1 s hs
   unfold soundS at hm
   rw [Bool.and_eq_true] at hm
   have hf:=key _ _ _ _ _ hm.1
   unfold erS at he
   split at he
   ·simp at he;rw [he];exact hf
   ·rename_i ho
    split at he
    ·simp at he
     rcases he with rfl | rfl
     ·exact hf
     ·have:=hm.2
      rw [Bool.or_eq_true] at this
      rcases this with h | this
      ·exact absurd h ho
      ·exact key _ _ _ _ _ this
    ·simp at he
  ·exact ih h.2 (k+1) e he
structure NT (T:List V) (k:Nat):Prop where
 up:Rising T
 ok:∀t ∈ T,okParts true t.pre=true
 sm:∀t ∈ T,t.pre.length<=1048576
 sd:∀t ∈ T,okT t=true
 ln:T.length<=2097152 * k
theorem NT.nf {T:List V} {k:Nat} (h:NT T k) (hk:k<=2):NF (outs T):=⟨T,rfl,h.up,fun t ht=>⟨h.ok t ht,h.sm t ht⟩,by
 have h1:=h.ln
 have h5:2097152 * k<=2097152 * 2:=Nat.mul_le_mul_left _ hk
 omega⟩
theorem sweep_nt (ch:Int->Bool) (Ls:List (List Sp)) (hsz:∀l ∈ Ls,l.length<=1048576/\∀s ∈ l,smallS s) (hsd:Ls.all (·.all soundS)=true) (E:List Er) (hE:E.Perm (erL 0 Ls)) (hs:SortedE (E.map toEd)) :
  NT (swT (fun b=>ch (having Ls.length b)) (fun _=>0) false (E.map toEd)) Ls.length:=by
 have e1:=swT_tog (fun b=>ch (having Ls.length b)) (E.map toEd) (fun x=>ch (having Ls.length (fun j=>sumB (E.map toEd) j x))) (fun x=>rfl) hs (E.map toEd) [] false rfl
 have e2:(fun j=>tot [] j)=(fun _=>(0:Int)):=rfl
 rw [e2] at e1
 have hsub:=tog_sub_list (fun x=>ch (having Ls.length (fun j=>sumB (E.map toEd) j x))) (poss (E.map toEd)) false
 rw [<-e1] at hsub
 have hmem:∀t,t ∈ (swT (fun b=>ch (having Ls.length b)) (fun _=>0) false (E.map toEd))->∃e ∈ erL 0 Ls,(toEd e).at_=t:=by
  intro t ht
  obtain ⟨d,hd,rfl⟩:=(poss_mem _ hs).1 t (hsub.subset ht)
  obtain ⟨e,he,rfl⟩:=List.mem_map.1 hd
  exact ⟨e,hE.mem_iff.1 he,rfl⟩
 refine ⟨List.Pairwise.sublist hsub (poss_rising _ hs),?_,?_,?_,?_⟩
 ·intro t ht
  obtain ⟨e,he,rfl⟩:=hmem t ht
  exact er_ok Ls hsd 0 e he
 ·intro t ht
  obtain ⟨e,he,rfl⟩:=hmem t ht
  have:=er_small Ls hsz 0 e he
  show e.a4.data.toList.length<=_
  rw [Array.length_toList]
  exact this
 ·intro t ht
  obtain ⟨e,he,rfl⟩:=hmem t ht
  exact er_okT Ls hsd 0 e he
 ·have h1:(poss (E.map toEd)).length<=(E.map toEd).length:=by
   have:∀l:List Ed,(poss l).length<=l.length:=by
    intro l
    induction l with
    | nil=>simp [poss]
    | cons e r ih =>
     rw [poss]
     split
     ·rw [List.length_cons];omega
     ·rw [List.length_cons,List.length_cons];omega
   exact this _
  have h2:=hsub.length_le
  have h3:=erL_len Ls (fun l hl=>(hsz l hl).1) 0
  have h4:=hE.length_eq
  rw [List.length_map] at h1
  omega
theorem outs_len2 (T:List V):2 * (outs T).length<=T.length+1:=by
 induction T using outs.induct with
 | case1=>simp [outs]
 | case2 x=>simp [outs]
 | case3 x y r ih=>rw [outs,List.length_cons,List.length_cons,List.length_cons];omega
theorem NT.sound {T:List V} {k:Nat} (h:NT T k):(outs T).all soundS=true:=by
 rw [List.all_eq_true]
 intro s hs
 have hv:∀x y o,vFrom (spV x y o)=⟨x.major,x.minor,x.patch,x.pre,[]⟩:=fun x y o=>by simp [vFrom,spV]
 have hw:∀x y o,vTo (spV x y o)=⟨y.major,y.minor,y.patch,y.pre,[]⟩:=fun x y o=>by simp [vTo,spV]
 rcases outs_mem T s hs with ⟨x,hx,rfl⟩ | ⟨x,hx,y,hy,rfl⟩
 ·unfold soundS
  rw [hv]
  have:=h.sd x hx
  unfold okT at this
  rw [this];rfl
 ·unfold soundS
  rw [hv,hw]
  have h1:=h.sd x hx
  have h2:=h.sd y hy
  unfold okT at h1 h2
  rw [h1,h2];rfl
end Go.Proofs.YtonfldbigenfhaaGreatDoor
