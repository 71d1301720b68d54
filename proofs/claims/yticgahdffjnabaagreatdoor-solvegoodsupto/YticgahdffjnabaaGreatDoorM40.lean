import Derived.Test.YticgahdffjnabaaGreatDoorM36
import Derived.Test.YticgahdffjnabaaGreatDoorM39
import Derived.Test.YticgahdffjnabaaGreatDoorM38
set_option linter.unusedVariables false
set_option maxHeartbeats 1600000
namespace Go.Proofs.YticgahdffjnabaaGreatDoor
open Go.RowKit Go.Maps
def chs (C:List Int) (k:Nat):Bool:=C.any fun c=>decide (c.toNat=k)
inductive Wt (N:List Nd) (L:List Re) (C:List Int):Nat->Prop
 | base (k:Nat):chs C k=true->namB N L k=true->Wt N L C k
 | step (k j:Nat) (hj:j < L.length):Wt N L C j->chs C k=true->namB L[j].nd L k=true->Wt N L C k
noncomputable def faultB (N:List Nd) (L:List Re):Int:=if (chkFrom L L.length).1=0 then wrongN N else 7
structure GoodP (N:List Nd) (L:List Re) (C:List Int):Prop where
 f:faultB N L=0
 ok:okC L C C.length=true
 m0:∀j,j < N.length->∃q,chs C q=true/\meetJ N L j q=true
 m1:∀k (hk:k < L.length),chs C k=true->∀j,j < L[k].nd.length->∃q,chs C q=true/\meetJ L[k].nd L j q=true
 wt:∀k,chs C k=true->Wt N L C k
theorem wt_chs {N:List Nd} {L:List Re} {C:List Int} {k:Nat} (h:Wt N L C k):chs C k=true:=by cases h <;> assumption
theorem orN_chs (C:List Int) (k:Nat):(orN C C.length).testBit k=chs C k:=by
 rw [orN_bit C k C.length (Nat.le_refl _),List.take_length];rfl
theorem metB_iff {N:List Nd} {L:List Re} {C:List Int} {x:Pl} (h:PlIs N L x):metB x.mt (orN C C.length)=true ↔ ∀j,j < N.length->∃q,chs C q=true/\meetJ N L j q=true:=by
 unfold metB;rw [List.all_eq_true];constructor
 ·intro hm j hj;have hj':j < x.mt.length:=by rw [h.ln];exact hj
  have h1:=of_decide_eq_true (hm x.mt[j] (List.getElem_mem _));apply Classical.byContradiction;intro hn;refine h1 ((and_zero_iff _ _).2 fun q ⟨h2,h3⟩=>hn ⟨q,?_,?_⟩)
  ·rw [orN_chs] at h3;exact h3
  ·rw [h.mt j hj'] at h2;exact h2
 ·intro hm m hm2;obtain ⟨j,hj,rfl⟩:=List.getElem_of_mem hm2;obtain ⟨q,h1,h2⟩:=hm j (by rw [<-h.ln];exact hj);refine decide_eq_true fun h0=>(and_zero_iff _ _).1 h0 q ⟨?_,?_⟩
  ·rw [h.mt j hj];exact h2
  ·rw [orN_chs];exact h1
theorem metTo_iff (P:List Pl) (A:Nat):∀i,i<=P.length->(metTo P A i=true ↔ ∀k (hk:k < P.length),k < i->A.testBit k=true->metB P[k].mt A=true)
 | 0,_=>⟨fun _ k hk h=>by omega,fun _=>rfl⟩
 | i+1,h=>by
  rw [metTo_step P A i (by omega),Bool.and_eq_true,metTo_iff P A i (by omega)];constructor
  ·rintro ⟨h1,h2⟩ k hk hki hb
   by_cases he:k=i
   ·subst he;rw [hb] at h2;simpa using h2
   ·exact h1 k hk (by omega) hb
  ·intro h1;refine ⟨fun k hk hki hb=>h1 k hk (by omega) hb,?_⟩
   cases hb:A.testBit i with
   | false=>rfl
   | true=>rw [h1 i (by omega) (by omega) hb];rfl
theorem more_bit (P:List Pl) (A F k:Nat):∀i,i<=P.length->((moreTo P A F i).testBit k=true ↔ F.testBit k=true\/∃j,∃hj:j < P.length,j < i/\F.testBit j=true/\P[j].nam.testBit k=true/\A.testBit k=true)
 | 0,_=>⟨fun h=>Or.inl h,fun h=>by
  rcases h with h | ⟨j,hj,h1,-⟩
  ·exact h
  ·omega⟩
 | i+1,h=>by
  have ih:=more_bit P A F k i (by omega)
  cases hb:F.testBit i with
  | false =>
   rw [more_no P A F i hb,ih];constructor
   ·rintro (h1 | ⟨j,hj,h1,h2⟩)
    ·exact Or.inl h1
    ·exact Or.inr ⟨j,hj,by omega,h2⟩
   ·rintro (h1 | ⟨j,hj,h1,h2,h3⟩)
    ·exact Or.inl h1
    ·by_cases he:j=i
     ·subst he;rw [hb] at h2;cases h2
     ·exact Or.inr ⟨j,hj,by omega,h2,h3⟩
  | true =>
   rw [more_yes P A F i (by omega) hb,Nat.testBit_or,Nat.testBit_and,Bool.or_eq_true,ih,Bool.and_eq_true];constructor
   ·rintro ((h1 | ⟨j,hj,h1,h2⟩) | ⟨h1,h2⟩)
    ·exact Or.inl h1
    ·exact Or.inr ⟨j,hj,by omega,h2⟩
    ·exact Or.inr ⟨i,by omega,by omega,hb,h1,h2⟩
   ·rintro (h1 | ⟨j,hj,h1,h2,h3,h4⟩)
    ·exact Or.inl (Or.inl h1)
    ·by_cases he:j=i
     ·subst he;exact Or.inr ⟨h3,h4⟩
     ·exact Or.inl (Or.inr ⟨j,hj,by omega,h2,h3,h4⟩)
section
variable {N:List Nd} {L:List Re} {C:List Int} {x:Pl} {Q:List Pl}
theorem wN_sound (hx:PlIs N L x) (hl:Q.length=L.length) (hQ:∀j (h1:j < L.length) (h2:j < Q.length),PlIs L[j].nd L Q[j]):∀n k,(wN Q x.nam (orN C C.length) n).testBit k=true->Wt N L C k
 | 0,k,h=>by
  rw [wN,Nat.testBit_and,Bool.and_eq_true,hx.nam,orN_chs] at h;exact .base k h.2 h.1
 | n+1,k,h=>by
  rw [wN,more_bit _ _ _ _ _ (Nat.le_refl _)] at h
  rcases h with h | ⟨j,hj,-,h2,h3,h4⟩
  ·exact wN_sound hx hl hQ n k h
  ·have hjl:j < L.length:=by omega
   rw [(hQ j hjl hj).nam] at h3;rw [orN_chs] at h4;exact .step k j hjl (wN_sound hx hl hQ n j h2) h4 h3
theorem wN_up (k:Nat):∀n,(wN Q x.nam (orN C C.length) 0).testBit k=true->(wN Q x.nam (orN C C.length) n).testBit k=true
 | 0,h=>h
 | n+1,h=>by
  rw [wN,more_bit _ _ _ _ _ (Nat.le_refl _)];exact Or.inl (wN_up k n h)
theorem wN_all (hx:PlIs N L x) (hl:Q.length=L.length) (hQ:∀j (h1:j < L.length) (h2:j < Q.length),PlIs L[j].nd L Q[j]) (n:Nat) (hf:wN Q x.nam (orN C C.length) (n+1)=wN Q x.nam (orN C C.length) n) {k:Nat} (h:Wt N L C k):(wN Q x.nam (orN C C.length) n).testBit k=true:=by
 induction h with
 | base k h1 h2 =>
  refine wN_up k n ?_;rw [wN,Nat.testBit_and,hx.nam,orN_chs,h1,h2];rfl
 | step k j hj _ h1 h2 ih =>
  rw [<-hf,wN,more_bit _ _ _ _ _ (Nat.le_refl _)];refine Or.inr ⟨j,by omega,by omega,ih,?_,?_⟩
  ·rw [(hQ j hj (by omega)).nam];exact h2
  ·rw [orN_chs];exact h1
theorem wN_eq (hx:PlIs N L x) (hl:Q.length=L.length) (hQ:∀j (h1:j < L.length) (h2:j < Q.length),PlIs L[j].nd L Q[j]) (n:Nat) (hf:wN Q x.nam (orN C C.length) (n+1)=wN Q x.nam (orN C C.length) n):wN Q x.nam (orN C C.length) n=orN C C.length ↔ ∀k,chs C k=true->Wt N L C k:=by
 constructor
 ·intro h k hk;refine wN_sound hx hl hQ n k ?_;rw [h,orN_chs];exact hk
 ·intro h;refine Nat.eq_of_testBit_eq fun k=>?_
  rw [orN_chs]
  cases hc:chs C k with
  | true=>exact wN_all hx hl hQ n hf (h k hc)
  | false =>
   cases hb:(wN Q x.nam (orN C C.length) n).testBit k with
   | false=>rfl
   | true =>
    have:=wt_chs (wN_sound hx hl hQ n k hb);rw [hc] at this;cases this
theorem good_prog (hf:faultB N L=0) (hok:okC L C C.length=true) (hx:PlIs N L x) (hl:Q.length=L.length) (hQ:∀j (h1:j < L.length) (h2:j < Q.length),PlIs L[j].nd L Q[j]) (n:Nat) (hfx:wN Q x.nam (orN C C.length) (n+1)=wN Q x.nam (orN C C.length) n) :
  GoodP N L C ↔ (metTo Q (orN C C.length) Q.length && metB x.mt (orN C C.length))=true/\wN Q x.nam (orN C C.length) n=orN C C.length:=by
 rw [Bool.and_eq_true,metB_iff hx,metTo_iff _ _ _ (Nat.le_refl _),wN_eq hx hl hQ n hfx];constructor
 ·intro h;refine ⟨⟨fun k hk _ hb=>?_,h.m0⟩,h.wt⟩;rw [orN_chs] at hb;have hkl:k < L.length:=by omega
  exact (metB_iff (hQ k hkl hk)).2 (h.m1 k hkl hb)
 ·rintro ⟨⟨h1,h2⟩,h3⟩;refine ⟨hf,hok,h2,fun k hk hc=>?_,h3⟩;have hkq:k < Q.length:=by omega
  exact (metB_iff (hQ k hk hkq)).1 (h1 k hkq hkq (by rw [orN_chs];exact hc))
end
theorem chk_all (L:List Re) (h:(chkFrom L L.length).1=0):∀i,i < L.length->faultL L i=0:=by
 have key:∀n,n<=L.length->(chkFrom L n).1=0->∀i,L.length - n<=i->i < L.length->faultL L i=0:=by
  intro n
  induction n with
  | zero=>intro _ _ i h1 h2;omega
  | succ n ih =>
   intro hn h0 i h1 h2
   by_cases he:faultL L (L.length - (n+1))=0
   ·rw [chkFrom,if_pos he] at h0
    by_cases hi:i=L.length - (n+1)
    ·rw [hi];exact he
    ·exact ih (by omega) h0 i (by omega) h2
   ·rw [chkFrom,if_neg he] at h0;exact absurd h0 he
 intro i hi;exact key L.length (Nat.le_refl _) h i (by omega) hi
theorem wrong_zero {N:List Nd} (h:wrongN N=0):∀y ∈ N,goodN y=true:=by
 unfold wrongN at h;split at h
 ·rename_i ha;exact List.all_eq_true.1 ha
 ·exact absurd h (by decide)
theorem chk_small (L:List Re) (h:(chkFrom L L.length).1=0):L.length<=50/\∀x ∈ L,x.nd.length<=20/\okV x.ve=true/\∀y ∈ x.nd,okR y.r=true:=by
 have h0:=chk_all L h;have h1:∀i (hi:i < L.length),i < 50/\L[i].nd.length<=20/\okV L[i].ve=true/\wrongN L[i].nd=0:=fun i hi=>by
  have:=h0 i hi;rw [faultL_at L i hi] at this
  by_cases c1:50<=i\/20 < L[i].nd.length
  ·rw [fault_many c1] at this;exact absurd this (by decide)
  ·by_cases c2:nameB L[i].nm=false\/okV L[i].ve=false\/wrongN L[i].nd=2
   ·rw [fault_text c1 c2] at this;exact absurd this (by decide)
   ·rw [fault_rest c1 c2] at this;have c3:¬ wrongN L[i].nd=5:=fun e=>by rw [if_pos (Or.inl e)] at this;exact absurd this (by decide)
    have c4:okV L[i].ve=true:=by
     cases hv:okV L[i].ve with
     | true=>rfl
     | false=>exact absurd (Or.inr (Or.inl hv)) c2
    refine ⟨by omega,by omega,c4,?_⟩
    rcases wrong_one L[i].nd with e | e | e
    ·exact e
    ·exact absurd (Or.inr (Or.inr e)) c2
    ·exact absurd e c3
 refine ⟨?_,fun x hx=>?_⟩
 ·apply Classical.byContradiction;intro hn;have:=(h1 50 (by omega)).1;omega
 ·obtain ⟨i,hi,rfl⟩:=List.getElem_of_mem hx;obtain ⟨-,a1,a2,a3⟩:=h1 i hi;refine ⟨a1,a2,fun y hy=>?_⟩;have:=wrong_zero a3 y hy;unfold goodN at this;rw [Bool.and_eq_true] at this;exact this.2
open Go.RowKit Go.Maps
set_option maxRecDepth 100000 in
theorem sFault_any (v v':Value) (N:List Nd) (L:List Re) (w:World) (h:NdS w v N) (h':ReS w v' L) (hN:N.length<=1048576) (hL:L.length<=1048576) (hS:∀y ∈ N,y.n.size < 2 ^ 60/\y.r.size < 2 ^ 60) (hV:∀x ∈ L,x.nm.size < 2 ^ 60/\x.ve.size < 2 ^ 60) (hLN:∀x ∈ L,x.nd.length<=1048576) (hSS:∀x ∈ L,∀y ∈ x.nd,y.n.size < 2 ^ 60/\y.r.size < 2 ^ 60) :
  Calls Tryz.prog 9 #[v,v'] w fun e w'=>e=.returned (.int .i64 (faultB N L))/\w.grownBy w' none:=by
 have CC:Hd (Calls Tryz.prog 19 #[v'] w fun e w''=>e=.returned (.tuple #[.int .i64 (chkFrom L L.length).1,.int .i64 ((chkFrom L L.length).2:Int)])/\w.grownBy w'' none):=check_any v' L w h' hL hV hLN hSS;have CF:Hd (∀w',w.grownBy w' none->Calls Tryz.prog 20 #[v] w' fun e w''=>e=.returned (.int .i64 (wrongN N))/\w'.grownBy w'' none):=fun w' hg=>fault_any v N w' (h.grow hg) hN hS
 have HF:Hd (faultB N L=if (chkFrom L L.length).1=0 then wrongN N else 7):=rfl;obtain ⟨o,n,c,rfl⟩:∃o n c,v=.slice o n c:=by
  rcases h with ⟨rfl,-⟩ | ⟨_,_,rfl,-⟩ <;> exact ⟨_,_,_,rfl⟩
 obtain ⟨o',c',rfl⟩:=reS_sl h';obtain ⟨R,hR⟩:=nm (faultB N L);obtain ⟨E,hE⟩:=nm ((chkFrom L L.length).1);obtain ⟨K,hK⟩:∃K:Int,((chkFrom L L.length).2:Int)=K:=⟨_,rfl⟩;obtain ⟨F,hFe⟩:=nm (wrongN N);rw [hR,hE,hFe] at HF;rw [hE,hK] at CC;rw [hFe] at CF;rw [hR];clear h h' hS hV hLN hSS hR hE hK hFe;go_enter Tryz.func9,Tryz.ntmps9;go_wp2_with (first | (go_at_call 19;refine CC.o.mono ?_));rintro e w1 ⟨rfl,hg1⟩
 by_cases hz:E=0
 ·subst hz;have HR:Hd (R=F):=by show R=F;rw [HF.o,if_pos (by trivial)]
  have HG1:Hd (w.grownBy w1 none):=hg1;clear hg1;go_wp2_with (first | (go_at_call 20;refine (CF.o _ HG1.o).mono ?_;rintro e w2 ⟨rfl,hg2⟩));refine bodyPost_ret (results_tmp (t:=4) rfl _ _ _) rfl ⟨?_,gb_trans HG1.o hg2⟩;rw [HR.o];rfl
 ·have hb:(E != 0)=true:=by simp [hz]
  have HR:Hd (R=7):=by show R=7;rw [HF.o,if_neg hz]
  clear hz;go_wp2;refine bodyPost_ret (results_tmp (t:=4) rfl _ _ _) rfl ⟨?_,hg1⟩;rw [HR.o];rfl
set_option maxRecDepth 100000 in
theorem sGood_any (v v' vc:Value) (N:List Nd) (L:List Re) (C:List Int) (w:World) (h:NdS w v N) (h':ReS w v' L) (hc:IS w vc C) (hN:N.length<=1048576) (hL:L.length<=1048576) (hC:C.length<=1048576) (hS:∀y ∈ N,y.n.size < 2 ^ 60/\y.r.size < 2 ^ 60) (hV:∀x ∈ L,x.nm.size < 2 ^ 60/\x.ve.size < 2 ^ 60) (hLN:∀x ∈ L,x.nd.length<=1048576) (hSS:∀x ∈ L,∀y ∈ x.nd,y.n.size < 2 ^ 60/\y.r.size < 2 ^ 60) :
  Calls Tryz.prog 4 #[v,v',vc] w fun e w'=>(∃b:Bool,e=.returned (.bool b)/\(b=true ↔ GoodP N L C))/\w.grownBy w' none:=by
 have CF:Hd (Calls Tryz.prog 9 #[v,v'] w fun e w'=>e=.returned (.int .i64 (faultB N L))/\w.grownBy w' none):=sFault_any v v' N L w h h' hN hL hS hV hLN hSS;obtain ⟨o',c',rfl⟩:=reS_sl h';obtain ⟨oc,cc,rfl⟩:=is_slice hc;obtain ⟨o,c,rfl⟩:∃o c,v=.slice o N.length c:=by
  rcases h with ⟨rfl,rfl⟩ | ⟨_,_,rfl,-⟩
  ·exact ⟨_,_,rfl⟩
  ·exact ⟨_,_,rfl⟩
 have HSM:Hd (faultB N L=0->(chkFrom L L.length).1=0/\wrongN N=0):=fun h0=>by
  unfold faultB at h0;split at h0
  ·rename_i h1;exact ⟨h1,h0⟩
  ·exact absurd h0 (by decide)
 have CS:Hd (L.length<=64->∀w',w.grownBy w' none->Calls Tryz.prog 10 #[.slice o' L.length c',.slice oc C.length cc] w' fun e w''=>(okC L C C.length=true->e=.returned (.tuple #[.int .u64 (orN C C.length:Nat),.bool true]))/\(okC L C C.length=false->e=.returned (.tuple #[.int .u64 0,.bool false]))/\w'.grownBy w'' none):=fun h64 w' hg=>setOf_any o' oc c' cc L C w' (h'.grow hg) (hc.grow hg) h64 hC (fun x hx=>(hV x hx).1)
 have CP:Hd (faultB N L=0->∀w',w.grownBy w' none->Calls Tryz.prog 11 #[.slice o N.length c,.slice o' L.length c'] w' fun e w''=>∃(x:Pl) (Q:List Pl) (mv pv:Value),e=.returned (.agg #[.int .u64 (x.nam:Nat),.int .u64 (x.bar:Nat),mv,pv])/\SnS w'' mv x.mt/\PlS w'' pv Q/\PlIs N L x/\Q.length=L.length/\(∀j (h1:j < L.length) (h2:j < Q.length),PlIs L[j].nd L Q[j])/\w'.grownBy w'' none):=fun h0 w' hg=>by
  obtain ⟨h1,h2⟩:=HSM.o h0;obtain ⟨s1,s2⟩:=chk_small L h1;exact pullsOf_any o o' c c' N L w' (h.grow hg) (h'.grow hg) (fun x hx=>(s2 x hx).2.1) (fun y hy=>by
   have:=wrong_zero h2 y hy;unfold goodN at this;rw [Bool.and_eq_true] at this;exact this.2) (fun x hx=>(s2 x hx).2.2) hN (by omega) hLN hS hSS (fun x hx=>(hV x hx).2)
 have HL50:Hd (faultB N L=0->L.length<=50):=fun h0=>(chk_small L (HSM.o h0).1).1
 have HOS:Hd (okC L C C.length=true->L.length<=64->orN C C.length < 18446744073709551616):=fun h1 h2=>by
  unfold okC at h1;rw [Bool.and_eq_true] at h1;exact orN_small L C h2 C.length (Nat.le_refl _) h1.1
 have HGF:Hd (¬ faultB N L=0->¬ GoodP N L C):=fun h0 hg=>h0 hg.f
 have HGO:Hd (okC L C C.length=false->¬ GoodP N L C):=fun h0 hg=>by rw [hg.ok] at h0;cases h0
 have HGG:Hd (∀x Q n,faultB N L=0->okC L C C.length=true->PlIs N L x->Q.length=L.length->(∀j (h1:j < L.length) (h2:j < Q.length),PlIs L[j].nd L Q[j])->wN Q x.nam (orN C C.length) (n+1)=wN Q x.nam (orN C C.length) n->(GoodP N L C ↔ (metTo Q (orN C C.length) Q.length && metB x.mt (orN C C.length))=true/\wN Q x.nam (orN C C.length) n=orN C C.length)):=fun x Q n h1 h2 h3 h4 h5 h6=>good_prog h1 h2 h3 h4 h5 n h6
 have HGM:Hd (∀x Q,faultB N L=0->PlIs N L x->Q.length=L.length->(∀j (h1:j < L.length) (h2:j < Q.length),PlIs L[j].nd L Q[j])->(metTo Q (orN C C.length) Q.length && metB x.mt (orN C C.length))=false->¬ GoodP N L C):=fun x Q h1 h3 h4 h5 h6 hg=>by
  have:(metTo Q (orN C C.length) Q.length && metB x.mt (orN C C.length))=true:=by
   rw [Bool.and_eq_true,metB_iff h3,metTo_iff _ _ _ (Nat.le_refl _)];refine ⟨fun k hk _ hb=>?_,hg.m0⟩;rw [orN_chs] at hb;have hkl:k < L.length:=by omega
   exact (metB_iff (h5 k hkl hk)).2 (hg.m1 k hkl hb)
  rw [h6] at this;cases this
 obtain ⟨F,hF⟩:=nm (faultB N L);rw [hF] at CF CP HL50 HGF HGG HGM;obtain ⟨ok,hok⟩:∃b,okC L C C.length=b:=⟨_,rfl⟩;rw [hok] at CS HOS HGO HGG;obtain ⟨A,hA⟩:=nm (orN C C.length);rw [hA] at CS HOS HGG HGM;clear h h' hc hS hV hLN hSS hF hok hA HSM;go_enter Tryz.func4,Tryz.ntmps4;go_wp2_with (first | (go_at_call 9;refine CF.o.mono ?_));rintro e w1 ⟨rfl,hg1⟩;have HG:Hd (w.grownBy w1 none):=hg1;clear hg1
 by_cases hz:F=0
 ·subst hz;have h50:=HL50.o rfl;go_wp2_with (first | (go_at_call 10;refine (CS.o (by omega) _ HG.o).mono ?_));rintro e w2 ⟨ht,hf,hg2⟩;replace HG:Hd (w.grownBy w2 none):=gb_trans HG.o hg2;clear hg2
  cases ok with
  | false =>
   obtain rfl:=hf rfl;clear ht hf;go_wp2;refine bodyPost_ret (results_tmp (t:=6) rfl _ _ _) rfl ⟨⟨false,rfl,?_⟩,HG.o⟩;exact ⟨fun h=>(by cases h),fun h=>absurd h (HGO.o (by trivial))⟩
  | true =>
   obtain rfl:=ht rfl;have hAs:=HOS.o (by trivial) (by omega);clear ht hf;go_wp2_with (first | (go_at_call 11;refine (CP.o (by trivial) _ HG.o).mono ?_));rintro e w3 ⟨x,Q,mv,pv,rfl,hsn,hpl,hpi,hql,hqs,hg3⟩;replace HG:Hd (w.grownBy w3 none):=gb_trans HG.o hg3;obtain ⟨om,cm,rfl⟩:=sns_sl hsn;obtain ⟨op,cp,rfl⟩:=pls_sl hpl;have HPI:Hd (PlIs N L x/\Q.length=L.length/\∀j (h1:j < L.length) (h2:j < Q.length),PlIs L[j].nd L Q[j]):=⟨hpi,hql,hqs⟩;have HPO:Hd (∀z ∈ Q,PlOk z):=fun z hz=>by
    obtain ⟨j,hj,rfl⟩:=List.getElem_of_mem hz;exact (hqs j (by omega) hj).ok
   obtain ⟨S0,hS0⟩:∃S,w3.heap.size=S:=⟨_,rfl⟩;obtain ⟨W4,hW4⟩:∃W,w3.alloc (.cells #[.int .u64 (x.nam:Nat),.int .u64 (x.bar:Nat),.slice om x.mt.length cm,.slice op Q.length cp] 43)=W:=⟨_,rfl⟩;have g4:w3.grownBy W4 none:=by rw [<-hW4];exact gb_alloc (gb_refl w3 none) _
   have HB4:Hd (W4.heap[S0]?=some (.cells #[.int .u64 (x.nam:Nat),.int .u64 (x.bar:Nat),.slice om x.mt.length cm,.slice op Q.length cp] 43 (0,0))):=by rw [<-hW4,<-hS0];exact heap_alloc_new w3 _
   obtain ⟨d0,d1,d2,d3,-⟩:=s_cells HB4.o;replace HG:Hd (w.grownBy W4 none):=gb_trans HG.o g4;have CM:Hd (Calls Tryz.prog 12 #[.agg #[.int .u64 (x.nam:Nat),.int .u64 (x.bar:Nat),.slice om x.mt.length cm,.slice op Q.length cp],.int .u64 (A:Nat)] W4 fun e w'=>e=.returned (.bool (metTo Q A Q.length && metB x.mt A))/\W4.grownBy w' none):=met_any x.nam x.bar A _ _ x.mt Q W4 (hsn.grow g4) (hpl.grow g4) hAs hpi.ok.mt hpi.ok.ln HPO.o (by omega);have CW:Hd (∀w',W4.grownBy w' none->Calls Tryz.prog 13 #[.agg #[.int .u64 (x.nam:Nat),.int .u64 (x.bar:Nat),.slice om x.mt.length cm,.slice op Q.length cp],.int .u64 (A:Nat)] w' fun e w''=>(∃n,e=.returned (.int .u64 (wN Q x.nam A n:Nat))/\wN Q x.nam A (n+1)=wN Q x.nam A n)/\w'.grownBy w'' none):=fun w' hg=>wanted_any x.nam x.bar A _ _ Q w' ⟨_,_,_,rfl⟩ ((hpl.grow g4).grow hg) hAs hpi.ok.nam HPO.o (by omega)
   have HM0:Hd ((metTo Q A Q.length && metB x.mt A)=false->¬ GoodP N L C):=HGM.o x Q (by trivial) hpi hql hqs;have HGX:Hd (∀n,wN Q x.nam A (n+1)=wN Q x.nam A n->(GoodP N L C ↔ (metTo Q A Q.length && metB x.mt A)=true/\wN Q x.nam A n=A)):=fun n hn=>HGG.o x Q n (by trivial) (by trivial) hpi hql hqs hn
   obtain ⟨mb,hmb⟩:∃b,(metTo Q A Q.length && metB x.mt A)=b:=⟨_,rfl⟩;rw [hmb] at CM HM0 HGX;clear hsn hpl hpi hql hqs hg3 g4 hmb
   cases mb with
   | false =>
    go_wp2_with (first | (go_at_call 12;refine CM.o.mono ?_;rintro e w5 ⟨rfl,hg5⟩));refine bodyPost_ret (results_tmp (t:=6) rfl _ _ _) rfl ⟨⟨false,rfl,?_⟩,gb_trans HG.o hg5⟩;exact ⟨fun h=>(by cases h),fun h=>absurd h (HM0.o (by trivial))⟩
   | true =>
    go_wp2_with (first | (go_at_call 12;refine CM.o.mono ?_;rintro e w5 ⟨rfl,hg5⟩;obtain ⟨f0,f1,f2,f3,-⟩:=s_cells ((hg5.block S0 (hqL HB4.o) (by simp)).trans HB4.o)) | (go_at_call 13;refine (CW.o _ hg5).mono ?_));rintro e w6 ⟨⟨n,rfl,hfx⟩,hg6⟩;have HX:Hd (GoodP N L C ↔ wN Q x.nam A n=A):=by
     have:=HGX.o n hfx;show _ ↔ _;simpa using this
    have HG6:Hd (w.grownBy w6 none):=gb_trans HG.o (gb_trans hg5 hg6);obtain ⟨Wn,hWn⟩:∃z,wN Q x.nam A n=z:=⟨_,rfl⟩;rw [hWn] at HX
    try rw [hWn]
    clear hfx hg5 hg6 hWn
    by_cases he:Wn=A
    ·subst he;have hee:(((Wn:Nat):Int) == ((Wn:Nat):Int))=true:=by simp
     go_wp2;refine bodyPost_ret (results_tmp (t:=6) rfl _ _ _) rfl ⟨⟨true,rfl,?_⟩,HG6.o⟩;exact ⟨fun _=>HX.o.2 (by trivial),fun _=>rfl⟩
    ·have hee:(((Wn:Nat):Int) == ((A:Nat):Int))=false:=by
      rw [beq_eq_false_iff_ne];omega
     have HN:Hd (¬ GoodP N L C):=fun h=>he (HX.o.1 h)
     clear he;go_wp2;refine bodyPost_ret (results_tmp (t:=6) rfl _ _ _) rfl ⟨⟨false,rfl,?_⟩,HG6.o⟩;exact ⟨fun h=>(by cases h),fun h=>absurd h HN.o⟩
 ·have hb:(F != 0)=true:=by simp [hz]
  have HN:Hd (¬ GoodP N L C):=HGF.o hz;clear hz;go_wp2;refine bodyPost_ret (results_tmp (t:=6) rfl _ _ _) rfl ⟨⟨false,rfl,?_⟩,HG.o⟩;exact ⟨fun h=>(by cases h),fun h=>absurd h HN.o⟩
end Go.Proofs.YticgahdffjnabaaGreatDoor
