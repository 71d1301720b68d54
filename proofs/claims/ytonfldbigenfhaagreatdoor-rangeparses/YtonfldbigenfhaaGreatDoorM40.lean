import Derived.Test.YtonfldbigenfhaaGreatDoorM25
import Derived.Test.YtonfldbigenfhaaGreatDoorM26
import Derived.Test.YtonfldbigenfhaaGreatDoorM37
import Derived.Test.YtonfldbigenfhaaGreatDoorM04
import Derived.Test.YtonfldbigenfhaaGreatDoorM06
import Derived.Test.YtonfldbigenfhaaGreatDoorM07
import Derived.Test.YtonfldbigenfhaaGreatDoorM13
import Derived.Test.YtonfldbigenfhaaGreatDoorM39
import Derived.Test.YtonfldbigenfhaaGreatDoorM09
namespace Go.Proofs.YtonfldbigenfhaaGreatDoor
open Go.RowKit
set_option linter.unusedVariables false
theorem SpS.far {w w':World} {sl:Value} {L:List Sp} {g:Nat} (h:SpS w sl L) (hg:w.grownBy w' (some g)) (hn:∀a n c,sl=.slice (some a) n c->0 < n->a.block ≠ g):SpS w' sl L:=by
 rcases h with h | ⟨a,cap,h1,h2,h3⟩
 ·exact Or.inl h
 ·refine Or.inr ⟨a,cap,h1,h2,fun i hi=>?_⟩
  have hb:∀k,some (a.add k).block ≠ some g:=fun k e=>by
   rw [add_block] at e
   exact hn a _ _ h1 (by omega) (Option.some.inj e)
  obtain ⟨e0,e1,e2,e3,e4,e5,e6,e7,e8,e9,e10⟩:=h3 i hi
  exact ⟨hg.cell e0 (hb _),hg.cell e1 (hb _),hg.cell e2 (hb _),hg.cell e3 (hb _),hg.cell e4 (hb _),hg.cell e5 (hb _),hg.cell e6 (hb _),hg.cell e7 (hb _),hg.cell e8 (hb _),hg.cell e9 (hb _),hg.cell e10 (hb _)⟩
theorem SpS.at {w:World} {L:List Sp} {a:Addr} {n c:Nat} (h:SpS w (.slice (some a) n c) L) (hn:0 < n):a.block < w.heap.size:=by
 rcases h with ⟨h,_⟩ | ⟨a',cap,h1,h2,h3⟩
 ·cases h
 ·cases h1
  have:=(h3 0 (by omega)).1
  have:=cell_lt this
  rw [add_block] at this
  exact this
theorem cSpansO (sl:Value) (L:List Sp) (w:World) (h:SpS w sl L) (hL:L.length<=1048576) :
  Calls Tryz.prog 14 #[sl] w fun e w'=>∃o n c,e=.returned (.slice o n c)/\SpS w' (.slice o n c) L/\w'.ownsRow w.heap.size 37 11 (.slice o n c) L.length (L.flatMap spC)/\w.grownBy w' none:=by
 rcases h with ⟨rfl,rfl⟩ | ⟨a,cap,rfl,h2,h3⟩
 ·refine (spans_nil w).mono ?_
  rintro e w' ⟨v,rfl,ho,hb⟩
  obtain ⟨o,n,c,rfl⟩:=sps_slice (sps_own ho)
  exact ⟨o,n,c,rfl,sps_own ho,ho,below_gb' hb⟩
 ·refine (spans_at a cap L w hL h2 h3).mono ?_
  rintro e w' ⟨v,rfl,ho,hb⟩
  obtain ⟨o,n,c,rfl⟩:=sps_slice (sps_own ho)
  exact ⟨o,n,c,rfl,sps_own ho,ho,below_gb' hb⟩
theorem range_place (l:List UInt8) (h:(rdRange l).1=0):(rdRange l).2.1=0:=by
 unfold rdRange at h ⊢
 split
 ·rfl
 ·rename_i h1
  rw [if_neg h1] at h
  split
  ·rfl
  ·rename_i h2
   rw [if_neg h2] at h
   exact absurd h h2
set_option maxRecDepth 100000 in
set_option maxHeartbeats 6400000 in
theorem rangeParsesLaw (s:ByteArray) (w:World) (hs:s.size < 2 ^ 60) :
  Calls Tryz.prog 3 #[.string s] w fun e w'=>e=.returned (.bool true)/\w.grownBy w' none:=by
 have CP:Hid (∀w,Calls Tryz.prog 11 #[.string s] w (ParsePost (rdRange s.data.toList) w)):=fun w=>rparse_any s w (by omega)
 have CK:Hid (∀w,Calls Tryz.prog 11 #[.string ⟨#[94,49,46,50,32,124,124,32,62,51]⟩] w fun e w'=>(∃o n c E K,e=.returned (.tuple #[.slice o n c,.int .i64 E,.int .i64 K]))/\w.grownBy w' none):=fun w=>(rparse_any _ w (by decide)).mono fun e w' ⟨o,n,c,h1,h2,_⟩=>⟨⟨o,n,c,_,_,h1⟩,h2⟩
 have CR:Hid (∀w,Calls Tryz.prog 12 #[.string s] w (RRPost (rdRange s.data.toList) w)):=fun w=>readRange_any s w hs
 have CN:Hid (∀n w,Calls Tryz.prog 13 #[.int .i64 n] w fun e w'=>e=.returned (.int .i64 n)/\w.grownBy w' none):=fun n w=>lnum_gb n w
 have CSO:Hid (∀(sv:Value) (A:List (List Tq)) (w:World),SsAt w sv A->A.length<=201->(∀L ∈ A,L.length<=1000/\∀x ∈ L,TqOk x)->Calls Tryz.prog 15 #[sv] w fun e w'=>∃vo,e=.returned vo/\SpS w' vo (outs (tog (admQ A) false (insAll [lowV] (tuA A))))/\w.grownBy w' none):=fun sv A w h1 h2 h3=>spansOf_any sv A w h1 h2 h3
 have hpl:=range_place s.data.toList
 obtain ⟨E,K,S,hR⟩:∃E K S,rdRange s.data.toList=(E,K,S):=⟨_,_,_,rfl⟩
 rw [hR] at CP CR hpl
 have HPL:Hid (E=0->K=0):=hpl
 clear hR hs hpl
 go_enter Tryz.func3,Tryz.ntmps3
 go_wp2_with (first | (go_at_call 11;refine (CP.out _).mono ?_))
 rintro e w1 ⟨o,n,c,rfl,hg,hnz,hok⟩
 have HG:Hid (w.grownBy w1 none):=hg
 have HNZ:Hid (¬ E=0->Value.slice o n c=.slice none 0 0):=hnz
 have HO0:Hid (E=0->∃T,OS w1 w.heap.size (.slice o n c) (outs T)/\LOk (outs T) 70000/\NT T 2/\Has (outs T) (admS S)):=hok
 clear hg hnz hok
 simp only [] at *
 have HG2:Hid (w1.grownBy w1 none):=gb_refl _ _
 go_wp2_with (first | (go_at_call 11;refine (CK.out _).mono ?_))
 rintro e w2 ⟨⟨o3,n3,c3,E3,K3,rfl⟩,hg⟩
 replace HG2:Hid (w1.grownBy w2 none):=gb_trans HG2.out hg
 clear hg
 go_wp2_with (first | (go_at_call 12;refine (CR.out _).mono ?_))
 rintro e w3 ⟨o',n',c',Q,rfl,hg,hrr⟩
 replace HG2:Hid (w1.grownBy w3 none):=gb_trans HG2.out hg
 have HR0:Hid (E=0->SsAt w3 (.slice o' n' c') Q/\Q.map (·.map teOf)=S/\Q.length<=201/\∀L ∈ Q,L.length<=1000/\∀x ∈ L,TqOk x):=fun h=>by
  obtain ⟨h1,h2,h3,h4⟩:=hrr h
  exact ⟨oa_ss h1,h2,h3,h4⟩
 clear hg hrr
 simp only [] at *
 cases hz:(E == 0) with
 | false =>
  have hE0:¬ E=0:=by simpa using hz
  have hz2:(E != 0)=true:=by simp [bne,hz]
  have hsl:=HNZ.out hE0
  cases hsl
  clear HR0 HO0 HNZ HPL
  go_wp2_with (first | (go_at_call 13;refine (CN.out _ _).mono ?_))
  rintro e w4 ⟨rfl,hg⟩
  replace HG:Hid (w.grownBy w4 none):=gb_trans HG.out (gb_trans HG2.out hg)
  clear hg
  go_wp2
  go_ret
  exact ⟨rfl,HG.out⟩
 | true =>
  have hE0:E=0:=by simpa using hz
  subst hE0
  have hK:=HPL.out rfl
  subst hK
  obtain ⟨T,hT1,hT2,hT3,hT4⟩:=HO0.out rfl
  have hQ:=HR0.out rfl
  have HTT:Hid (∀T',NT T' 2->Has (outs T') (admS S)->outs T'=outs T):=fun T' h1 h2=>by
   rw [nt_one h1 hT3 (fun v hv=>by rw [h2 v hv,hT4 v hv])]
  have HDT:Hid (outs (tog (admQ Q) false (insAll [lowV] (tuA Q)))=outs T):=by
   have e1:admQ Q=admS S:=by funext v;rw [admQ_S,hQ.2.1]
   have e2:insAll [lowV] (tuA Q)=tuD S:=by rw [tuA_S,hQ.2.1];rfl
   have hl:=tuA_len Q hQ.2.2.1 (fun L hL=>(hQ.2.2.2 L hL).1)
   rw [tuA_S,hQ.2.1] at hl
   have hdt:=doc_turns (S:=S) (fun L hL t ht=>by
    rw [<-hQ.2.1] at hL
    obtain ⟨L',hL',rfl⟩:=List.mem_map.1 hL
    obtain ⟨x,hx,rfl⟩:=List.mem_map.1 ht
    have hq:=(hQ.2.2.2 L' hL').2 x hx
    exact ⟨⟨hq.s0.1,hq.s0.2,hq.ok⟩,by have:=hq.sm;show x.p.data.toList.length<=_;simpa using this⟩) (by omega)
   show _=_
   rw [e1,e2]
   exact HTT.out _ hdt.1 hdt.2
  obtain ⟨N,hN⟩:∃N,outs T=N:=⟨_,rfl⟩
  rw [hN] at HTT HDT hT1 hT2
  have HNL:Hid (N.length<=70000):=hT2.ln
  have CE:Hid (∀a b w,SpS w a N->SpS w b N->Calls Tryz.prog 16 #[a,b] w fun e w'=>e=.returned (.bool true)/\w.grownBy w' none):=fun a b w h h'=>cEqual a b N w h h' (by have:=HNL.out;omega)
  have AN:Hid (∀w v,SpS w v N->Calls Tryz.prog 14 #[v] w fun e w'=>∃o n c,e=.returned (.slice o n c)/\SpS w' (.slice o n c) N/\w'.ownsRow w.heap.size 37 11 (.slice o n c) N.length (N.flatMap spC)/\w.grownBy w' none):=fun w v h=>cSpansO v N w h (by have:=HNL.out;omega)
  have HOW:Hid (w1.ownsRow w.heap.size 37 11 (.slice o n c) N.length (N.flatMap spC)):=hT1
  have HOWW:Hid (w1.ownsRow w.heap.size 37 11 (.slice o n c) N.length (N.flatMap spC)):=hT1
  have HN:Hid (SpS w1 (.slice o n c) N):=hT1.sps
  have CSQ:Hid (∀w',w3.grownBy w' none->Calls Tryz.prog 15 #[.slice o' n' c'] w' fun e w''=>∃vo,e=.returned vo/\SpS w'' vo N/\w'.grownBy w'' none):=fun w' h=>by
   rw [<-HDT.out]
   exact CSO.out _ Q w' (hQ.1.grow h) hQ.2.2.1 hQ.2.2.2
  have HGG:Hid (w.grownBy w1 none):=HG.out
  clear hT1 hT2 hT3 hT4 hQ hN hz HR0 HO0 HNZ HPL HDT
  go_wp2_with (first | (go_at_call 15;refine (CSQ.out _ (gb_refl _ _)).mono ?_))
  rintro e w7 ⟨vn,rfl,hm,hg⟩
  replace HG2:Hid (w1.grownBy w7 none):=gb_trans HG2.out hg
  have HV:Hid (SpS w7 vn N):=hm
  clear hg hm
  have HBW:Hid (w1.heap.size<=w7.heap.size):=HG2.out.size
  go_wp2_with (first | (go_at_call 14;refine (AN.out _ _ HV.out).mono ?_))
  rintro e w8 ⟨o8,n8,c8,rfl,hm,ho8,hg⟩
  replace HG2:Hid (w1.grownBy w8 none):=gb_trans HG2.out hg
  have HW:Hid (SpS w8 (.slice o8 n8 c8) N):=hm
  have HWB:Hid (∀a n c,(Value.slice o8 n8 c8)=.slice (some a) n c->0 < n->w7.heap.size<=a.block):=fun a n c e hn=>by
   rw [e] at ho8
   exact (ho8.lt a.block rfl).1
  have HN8:Hid (SpS w8 (.slice o n c) N):=HN.out.grow HG2.out
  clear hg hm ho8 HV HN
  go_wp2_with (first | (go_at_call 16;refine (CE.out _ _ _ HN8.out HW.out).mono ?_))
  rintro e w9 ⟨rfl,hg⟩
  replace HG2:Hid (w1.grownBy w9 none):=gb_trans HG2.out hg
  replace HW:Hid (SpS w9 (.slice o8 n8 c8) N):=(HW.out).grow hg
  replace HG:Hid (w.grownBy w9 none):=gb_trans HG.out HG2.out
  replace HOW:Hid (w9.ownsRow w.heap.size 37 11 (.slice o n c) N.length (N.flatMap spC)):=own_keep HOW.out HG2.out
  clear hg HN8 HG2
  have hform:=HOW.out.2
  rcases hform with ⟨hnil,_⟩ | ⟨g,cap,cur,hsl,hbg,_⟩
  ·cases hnil
   go_wp2
   go_loopw [11] (fun vi wr=>vi=.int .i64 0/\w9.grownBy wr none) (fun vi _=>0)
   case atStart=>exact ⟨rfl,gb_refl _ _⟩
   case round =>
    obtain ⟨rfl,hg⟩:=hrel
    replace HG:Hid (w.grownBy wr none):=gb_trans HG.out hg
    replace HW:Hid (SpS wr (.slice o8 n8 c8) N):=(HW.out).grow hg
    clear hg
    go_wp2_with (first | (go_at_call 11;refine (CP.out _).mono ?_))
    rintro e wa ⟨oa,na,ca,rfl,hg,_,hok⟩
    obtain ⟨T2,h21,h22,h23,h24⟩:=hok rfl
    have HK:Hid (SpS wa (.slice oa na ca) N):=by
     show SpS _ _ _
     rw [<-HTT.out T2 h23 h24]
     exact h21.sps
    replace HG:Hid (w.grownBy wa none):=gb_trans HG.out hg
    replace HW:Hid (SpS wa (.slice o8 n8 c8) N):=(HW.out).grow hg
    clear hg hok h21 h22 h23 h24
    go_wp2_with (first | (go_at_call 16;refine (CE.out _ _ _ HK.out HW.out).mono ?_;rintro e wb ⟨rfl,hgb⟩) | (go_at_call 13;refine (CN.out _ _).mono ?_;rintro e wc ⟨rfl,hgc⟩))
    go_ret
    exact ⟨rfl,gb_trans HG.out (gb_trans hgb hgc)⟩
  ·cases hsl
   have HBG:Hid (w.heap.size<=g):=hbg
   have HGT:Hid (g < w1.heap.size):=(HOWW.out.lt g rfl).2
   clear hbg
   have hnl:=HNL.out
   go_wp2
   go_loopw [11] (fun vi wr=>∃(i:Nat) (xs:List Value),vi=.int .i64 i/\i<=N.length/\wr.ownsRow w.heap.size 37 11 (.slice (some ⟨g,0,none⟩) N.length c) N.length xs/\w9.grownBy wr (some g)) (fun vi _=>N.length - (intOf vi).toNat)
   case atStart=>exact ⟨0,_,rfl,Nat.zero_le _,HOW.out,gb_refl _ _⟩
   case round =>
    obtain ⟨i,xs,rfl,hi,how,hgw⟩:=hrel
    have HO:Hid (wr.ownsRow w.heap.size 37 11 (.slice (some ⟨g,0,none⟩) N.length c) N.length xs):=how
    have HGW:Hid (w9.grownBy wr (some g)):=hgw
    clear how hgw
    by_cases hlt:i < N.length
    ·have hx:∀k,k < 11->∃u,wr.cell? ⟨g,i * 11+k,none⟩=some u:=fun k hk=>by
      have h1:=HO.out.1
      have h2:i * 11+k < xs.length:=by rw [h1];omega
      have h3:=HO.out.cells (g:=g) rfl (i * 11+k) xs[i * 11+k] (List.getElem?_eq_getElem h2)
      rw [add_zero_off] at h3
      exact ⟨_,h3⟩
     obtain ⟨x0,hx0⟩:=hx 0 (by omega)
     obtain ⟨x1,hx1⟩:=hx 1 (by omega)
     obtain ⟨x2,hx2⟩:=hx 2 (by omega)
     obtain ⟨x3,hx3⟩:=hx 3 (by omega)
     obtain ⟨x4,hx4⟩:=hx 4 (by omega)
     obtain ⟨x5,hx5⟩:=hx 5 (by omega)
     obtain ⟨x6,hx6⟩:=hx 6 (by omega)
     obtain ⟨x7,hx7⟩:=hx 7 (by omega)
     obtain ⟨x8,hx8⟩:=hx 8 (by omega)
     obtain ⟨x9,hx9⟩:=hx 9 (by omega)
     obtain ⟨x10,hx10⟩:=hx 10 (by omega)
     rw [Nat.add_zero] at hx0
     have fz:=own_unfrozen HO.out
     clear hx
     go_wp2
     clear hx0 hx1 hx2 hx3 hx4 hx5 hx6 hx7 hx8 hx9 hx10 fz
     have o9:=(own_set (own_set (own_set (own_set (own_set (own_set (own_set (own_set (own_set (own_set (own_set (HO.out) (i * 11) (.int .i64 0) (by omega)) (i * 11+1) (.int .i64 0) (by omega)) (i * 11+2) (.int .i64 0) (by omega)) (i * 11+3) (.string ⟨#[]⟩) (by omega)) (i * 11+4) (.string ⟨#[]⟩) (by omega)) (i * 11+5) (.int .i64 0) (by omega)) (i * 11+6) (.int .i64 0) (by omega)) (i * 11+7) (.int .i64 0) (by omega)) (i * 11+8) (.string ⟨#[]⟩) (by omega)) (i * 11+9) (.string ⟨#[]⟩) (by omega)) (i * 11+10) (.bool true) (by omega))
     exact ⟨⟨i+1,_,by go_num,by omega,o9,(gb_set (gb_set (gb_set (gb_set (gb_set (gb_set (gb_set (gb_set (gb_set (gb_set (gb_set (HGW.out) _ _) _ _) _ _) _ _) _ _) _ _) _ _) _ _) _ _) _ _) _ _)⟩,by simp [intOf];omega⟩
    ·have hgw:=HGW.out
     have hie:i=N.length:=by omega
     have HGF:Hid (w.grownBy wr none):=gb_row0 HG.out hgw (fun q hq=>by injection hq with hq;have h1:=HBG.out;omega)
     replace HW:Hid (SpS wr (.slice o8 n8 c8) N):=HW.out.far hgw (fun a n c e hn=>by have h1:=HWB.out a n c e hn;have h2:=HGT.out;have h3:=HBW.out;omega)
     replace HG:Hid (w.grownBy wr none):=HGF.out
     clear hgw hie hi HO HGW HGF
     go_wp2_with (first | (go_at_call 11;refine (CP.out _).mono ?_))
     rintro e wa ⟨oa,na,ca,rfl,hg,_,hok⟩
     obtain ⟨T2,h21,h22,h23,h24⟩:=hok rfl
     have HK:Hid (SpS wa (.slice oa na ca) N):=by
      show SpS _ _ _
      rw [<-HTT.out T2 h23 h24]
      exact h21.sps
     replace HG:Hid (w.grownBy wa none):=gb_trans HG.out hg
     replace HW:Hid (SpS wa (.slice o8 n8 c8) N):=(HW.out).grow hg
     clear hg hok h21 h22 h23 h24
     go_wp2_with (first | (go_at_call 16;refine (CE.out _ _ _ HK.out HW.out).mono ?_;rintro e wb ⟨rfl,hgb⟩) | (go_at_call 13;refine (CN.out _ _).mono ?_;rintro e wc ⟨rfl,hgc⟩))
     go_ret
     exact ⟨rfl,gb_trans HG.out (gb_trans hgb hgc)⟩
end Go.Proofs.YtonfldbigenfhaaGreatDoor
