import Derived.Test.YtonfldbigenfhaaGreatDoorB29
import Derived.Test.YtonfldbigenfhaaGreatDoorB17
import Derived.Test.YtonfldbigenfhaaGreatDoorB13
namespace Go.Proofs.YtonfldbigenfhaaGreatDoor
open Go.RowKit
set_option linter.unusedVariables false
def OS (w:World) (base:Nat) (sl:Value) (L:List Sp):Prop:=w.ownsRow base 37 11 sl L.length (L.flatMap spC)
theorem OS.sps {w:World} {base:Nat} {sl:Value} {L:List Sp} (h:OS w base sl L):SpS w sl L:=sps_own h
theorem OS.grow {w w':World} {base:Nat} {sl:Value} {L:List Sp} (h:OS w base sl L) (hg:w.grownBy w' none):OS w' base sl L:=own_keep h hg
theorem OS.growb {w w':World} {base:Nat} {sl:Value} {L:List Sp} {b:Nat} (h:OS w base sl L) (hg:w.grownBy w' (some b)) (hb:b < base):OS w' base sl L:=by
 refine ⟨h.1,?_⟩
 rcases h.2 with hn | ⟨g,cap,cur,hv,hbg,hc,rest⟩
 ·exact Or.inl hn
 ·refine Or.inr ⟨g,cap,cur,hv,hbg,?_,rest⟩
  rw [hg.block g ((Array.getElem?_eq_some_iff.1 hc).1) (by simp;omega)];exact hc
theorem OS.base {w:World} {base base':Nat} {sl:Value} {L:List Sp} (h:OS w base sl L) (hb:base'<=base):OS w base' sl L:=by
 refine ⟨h.1,?_⟩
 rcases h.2 with hn | ⟨g,cap,cur,hv,hbg,rest⟩
 ·exact Or.inl hn
 ·exact Or.inr ⟨g,cap,cur,hv,Nat.le_trans hb hbg,rest⟩
theorem OS.emp (w:World) (base:Nat):OS w base (.slice none 0 0) []:=World.ownsRow_nil _ _ _ _
theorem OS.slice {w:World} {base:Nat} {sl:Value} {L:List Sp} (h:OS w base sl L):∃o n c,sl=.slice o n c:=sps_slice h.sps
theorem OS.one {w:World} {base g:Nat} {s:Sp} (hb:base<=g) (h:w.heap[g]?=some (.cells #[.int .i64 s.f1,.int .i64 s.f2,.int .i64 s.f3,.string s.f4,.string s.f5,.int .i64 s.t1,.int .i64 s.t2,.int .i64 s.t3,.string s.t4,.string s.t5,.bool s.o] 37 (0,0))):OS w base (.slice (some ⟨g,0,none⟩) 1 1) [s]:=by
 refine ⟨rfl,Or.inr ⟨g,1,_,rfl,hb,h,Nat.le_refl _,by decide,rfl,rfl⟩⟩
theorem sweep_len (ch:Int->Bool) (Ls:List (List Sp)) (E:List Er) (hE:E.Perm (erL 0 Ls)) (hs:SortedE (E.map toEd)) :
  (swT (fun b=>ch (having Ls.length b)) (fun _=>0) false (E.map toEd)).length<=(erL 0 Ls).length:=by
 have e1:=swT_tog (fun b=>ch (having Ls.length b)) (E.map toEd) (fun x=>ch (having Ls.length (fun j=>sumB (E.map toEd) j x))) (fun x=>rfl) hs (E.map toEd) [] false rfl
 have e2:(fun j=>tot [] j)=(fun _=>(0:Int)):=rfl
 rw [e2] at e1
 have hsub:=tog_sub_list (fun x=>ch (having Ls.length (fun j=>sumB (E.map toEd) j x))) (poss (E.map toEd)) false
 rw [<-e1] at hsub
 have h1:(poss (E.map toEd)).length<=(E.map toEd).length:=by
  have:∀l:List Ed,(poss l).length<=l.length:=by
   intro l
   induction l with
   | nil=>simp [poss]
   | cons e r ih =>
    rw [poss]
    split
    ·rw [List.length_cons];omega
    ·rw [List.length_cons,List.length_cons];omega
  exact this _
 have h2:=hsub.length_le
 have h4:=hE.length_eq
 rw [List.length_map] at h1
 omega
def TOst (f:V->Bool) (k:Nat) (w:World) (e:Ending) (w':World):Prop:=w.grownBy w' none/\∃(o:Option Addr) (n c:Nat) (T:List V),e=.returned (.tuple #[.slice o n c,.int .i64 0])/\OS w' w.heap.size (.slice o n c) (outs T)/\LOk (outs T) k/\NT T 2/\∀x,holdsL (outs T) x=f x
theorem nt_up {T:List V} {j k:Nat} (h:NT T j) (hk:j<=k):NT T k:=⟨h.up,h.ok,h.sm,h.sd,Nat.le_trans h.ln (Nat.mul_le_mul_left _ hk)⟩
theorem sweep_tost {ch:Int->Bool} (h0:ch 0=false) {Ls:List (List Sp)} {f:V->Bool} {w:World} {e:Ending} {w':World} (k:Nat) (hl2:Ls.length<=2) (hk:(erL 0 Ls).length<=2 * k) (hsz:∀l ∈ Ls,l.length<=1048576/\∀s ∈ l,smallS s) (hsd:Ls.all (·.all soundS)=true) (hf:∀x,ch (haveN (Ls.map (·.map toSg)) x)=f x) (h:SweepPost ch Ls w e w'):TOst f k w e w':=by
 refine ⟨h.1,?_⟩
 rcases h.2 with ⟨h1,h2⟩ | ⟨h1,E,vs,h2,h3,h4,h5,h6⟩
 ·exact absurd hsd h1
 ·obtain ⟨o,n,c,rfl⟩:=sps_slice h5
  have hT:=sweep_nt ch Ls hsz h1 E h2 h3
  have hn:=sweep_len ch Ls E h2 h3
  refine ⟨o,n,c,_,h4,h6,⟨hT.sound,(hT.nf hl2).small,?_⟩,nt_up hT hl2,fun x=>?_⟩
  ·have:=outs_len2 (swT (fun b=>ch (having Ls.length b)) (fun _=>0) false (E.map toEd))
   omega
  ·rw [outs_par _ hT.up]
   have hp:=sweep_par ch h0 (Ls.map (·.map toSg)) (E.map toEd) (by rw [<-erL_ed];exact h2.map _) h3 x
   rw [List.length_map] at hp
   rw [hp,hf]
theorem oNormal (sl:Value) (L:List Sp) (k:Nat) (w:World) (h:SpS w sl L) (hL:LOk L k) (hk:k<=1048576):Calls Tryz.prog 33 #[sl] w (TOst (holdsL L) k w):=by
 have h1:L.length<=1048576:=Nat.le_trans hL.ln hk
 refine (normal_any sl L w h h1 hL.sm).mono ?_
 intro e w' hp
 refine sweep_tost (by decide) k (by simp) ?_ (by intro l hl;simp at hl;subst hl;exact ⟨h1,hL.sm⟩) (by simp [hL.sd]) (fun x=>have_one L x) hp
 have h3:=erFlat_len 0 L
 have h4:=hL.ln
 show (L.flatMap (erS 0)++[]).length<=_
 rw [List.append_nil]
 omega
theorem oMeet (sl sm:Value) (L M:List Sp) (j k:Nat) (w:World) (h:SpS w sl L) (h':SpS w sm M) (hL:LOk L j) (hM:LOk M k) (hj:j<=1048576) (hk:k<=1048576):Calls Tryz.prog 26 #[sl,sm] w (TOst (fun x=>holdsL L x && holdsL M x) (j+k) w):=by
 have h1:L.length<=1048576:=Nat.le_trans hL.ln hj
 have h2:M.length<=1048576:=Nat.le_trans hM.ln hk
 refine (meet_any sl sm L M w h h' h1 hL.sm h2 hM.sm).mono ?_
 intro e w' hp
 refine sweep_tost (by decide) (j+k) (by simp) ?_ (by intro l hl;simp at hl;rcases hl with rfl | rfl <;> first | exact ⟨h1,hL.sm⟩ | exact ⟨h2,hM.sm⟩) (by simp [hL.sd,hM.sd]) (fun x=>have_all L M x) hp
 have h3:=erFlat_len 0 L
 have h5:=erFlat_len 1 M
 have h4:=hL.ln
 have h6:=hM.ln
 show (L.flatMap (erS 0)++(M.flatMap (erS 1)++[])).length<=_
 rw [List.append_nil,List.length_append]
 omega
def BtPost (b:Nat) (s:ByteArray) (E:Int) (J:Nat) (g:Sg) (w:World) (e:Ending) (w':World):Prop :=
 ∃(o:Option Addr) (n c:Nat),e=.returned (.tuple #[.slice o n c,.int .i64 E])/\RS b s J w'/\w.grownBy w' (some b)/\(E=0->OS w' w.heap.size (.slice o n c) [sgS g])
def btE (l:List UInt8) (i:Nat):Int:=if skipW l i=i then 2 else (rdPa l (skipW l i)).1
def btJ (l:List UInt8) (i:Nat):Nat:=if skipW l i=i then i else (rdPa l (skipW l i)).2.1
set_option maxRecDepth 100000 in
set_option maxHeartbeats 1600000 in
theorem rbetween_any (b:Nat) (s:ByteArray) (i:Nat) (p:Pa) (y1 y2 y3:Int) (Q:ByteArray) (m:Int) (hp:paAgg y1 y2 y3 Q m=paVal p) (w:World) (hi:i<=s.size) (h:RS b s i w) (hs:s.size<=200) :
  Calls Tryz.prog 89 #[.pointer (some ⟨b,0,none⟩),.agg #[.int .i64 y1,.int .i64 y2,.int .i64 y3,.string Q,.string ⟨#[]⟩,.int .i64 m]] w (BtPost b s (btE s.data.toList i) (btJ s.data.toList i) (betweenG p (rdPa s.data.toList (skipW s.data.toList i)).2.2) w):=by
 have CB:Hid (∀w,RS b s i w->Calls Tryz.prog 58 #[.pointer (some ⟨b,0,none⟩)] w fun e w'=>e=.returned (.bool (decide (i < skipW s.data.toList i)))/\RS b s (skipW s.data.toList i) w'/\w.grownBy w' (some b)):=fun w h=>blanks_any b s i w hi h (by omega)
 have hsk:skipW s.data.toList i<=s.size:=by have:=skip_le s.data.toList i (by simpa using hi);simp at this;exact this
 have hge:=skip_ge s.data.toList i
 have CP:Hid (∀w,RS b s (skipW s.data.toList i) w->Calls Tryz.prog 108 #[.pointer (some ⟨b,0,none⟩)] w (PaPost b s (rdPa s.data.toList (skipW s.data.toList i)) w)):=fun w h=>partial_any b s _ w hsk h (by omega)
 have hpl:=pa_len s.data.toList (skipW s.data.toList i)
 have CW:Hid ((rdPa s.data.toList (skipW s.data.toList i)).1=0->Ans 109 #[paVal p,paVal (rdPa s.data.toList (skipW s.data.toList i)).2.2] (sgV (betweenG p (rdPa s.data.toList (skipW s.data.toList i)).2.2))):=fun h0=>cBetween p _ (pa_ok s.data.toList _ (by simpa using hsk) h0) (by simp at hpl;omega)
 have HBb:Hid (b < w.heap.size):=by obtain ⟨t,h⟩:=h;exact (Array.getElem?_eq_some_iff.1 h).1
 unfold btE btJ
 obtain ⟨K,hK⟩:∃K,skipW s.data.toList i=K:=⟨_,rfl⟩
 rw [hK] at CB CP CW hge ⊢
 obtain ⟨E,J,q,hR⟩:∃E J q,rdPa s.data.toList K=(E,J,q):=⟨_,_,_,rfl⟩
 rw [hR] at CP CW ⊢
 simp only [] at CW ⊢
 have HI:Hid (RS b s i w):=h
 have HPp:Hid (paAgg y1 y2 y3 Q m=paVal p):=hp
 clear hK hR h hi hs hsk hpl hp
 by_cases hz:K=i
 ·rw [if_pos hz,if_pos hz]
  rw [hz,decide_eq_false (Nat.lt_irrefl i)] at CB
  clear hz hge CP CW
  go_enter Tryz.func89,Tryz.ntmps89
  go_wp2_with (first | (go_at_call 58;refine (CB.out _ (HI.out.grow (gb_alloc (gb_refl w none) _))).mono ?_))
  rintro e w1 ⟨rfl,hr,hg⟩
  have HF:Hid (RS b s i w1/\w.grownBy w1 (some b)):=⟨hr,gb_trans (gb_weak (gb_alloc (gb_refl w none) _) _) hg⟩
  clear hr hg
  go_wp2
  exact bodyPost_ret (results_tmp2 (t:=4) (u:=5) rfl _ _ _) rfl ⟨_,_,_,rfl,HF.out.1,HF.out.2,fun h=>absurd h (by decide)⟩
 ·rw [if_neg hz,if_neg hz]
  rw [decide_eq_true (show i < K by omega)] at CB
  clear hz hge
  go_enter Tryz.func89,Tryz.ntmps89
  go_wp2_with (first | (go_at_call 58;refine (CB.out _ (HI.out.grow (gb_alloc (gb_refl w none) _))).mono ?_))
  rintro e w1 ⟨rfl,hr,hg⟩
  obtain ⟨A,hA⟩:∃A,w.heap.size=A:=⟨_,rfl⟩
  have HPA:Hid (PB A y1 y2 y3 Q m w1):=by
   refine PB.growb (w:=w.alloc (.cells #[.int .i64 y1,.int .i64 y2,.int .i64 y3,.string Q,.string ⟨#[]⟩,.int .i64 m] 145)) ?_ hg (by have:=HBb.out;omega)
   unfold PB
   rw [<-hA];exact heap_alloc_new w _
  have HG:Hid (w.grownBy w1 (some b)):=gb_trans (gb_weak (gb_alloc (gb_refl w none) _) _) hg
  have HAb:Hid (w.heap.size<=A/\A ≠ b):=⟨Nat.le_of_eq hA,by have:=HBb.out;omega⟩
  have HR1:Hid (RS b s K w1):=hr
  try rw [hA]
  clear hr hg hA
  go_wp2_with (first | (go_at_call 108;refine (CP.out _ HR1.out).mono ?_))
  rintro e w2 ⟨x1,x2,x3,P,n,rfl,hr,hg,hok⟩
  replace HR1:Hid (RS b s J w2):=hr
  replace HG:Hid (w.grownBy w2 (some b)):=gb_trans HG.out hg
  replace HPA:Hid (PB A y1 y2 y3 Q m w2):=HPA.out.growb hg HAb.out.2
  have HOK:Hid (E=0->paAgg x1 x2 x3 P n=paVal q):=hok
  clear hr hg hok
  cases hz:(E == 0) with
  | false =>
   have HE0:Hid (E ≠ 0):=by show E ≠ 0;simpa using hz
   go_wp2
   exact bodyPost_ret (results_tmp2 (t:=4) (u:=5) rfl _ _ _) rfl ⟨_,_,_,rfl,HR1.out.grow (gb_alloc (gb_refl w2 none) _),gb_trans HG.out (gb_weak (gb_alloc (gb_refl w2 none) _) _),fun h=>absurd h HE0.out⟩
  | true =>
   have hE:E=0:=by simpa using hz
   subst hE
   have hc:=CW.out rfl
   rw [<-HOK.out rfl,<-HPp.out] at hc
   obtain ⟨s1,hs1⟩:∃s1,sgS (betweenG p q)=s1:=⟨_,rfl⟩
   have CX:Hid (∀w,Calls Tryz.prog 109 #[.agg #[.int .i64 y1,.int .i64 y2,.int .i64 y3,.string Q,.string ⟨#[]⟩,.int .i64 m],.agg #[.int .i64 x1,.int .i64 x2,.int .i64 x3,.string P,.string ⟨#[]⟩,.int .i64 n]] w fun e w'=>e=.returned (.agg #[.int .i64 s1.f1,.int .i64 s1.f2,.int .i64 s1.f3,.string s1.f4,.string s1.f5,.int .i64 s1.t1,.int .i64 s1.t2,.int .i64 s1.t3,.string s1.t4,.string s1.t5,.bool s1.o])/\w.grownBy w' none):=fun w=>by rw [<-hs1];exact hc w
   have HS1:Hid (sgS (betweenG p q)=s1):=hs1
   clear hc hs1 CW HOK HPp CB CP hz
   obtain ⟨C,hC⟩:∃C,w2.heap.size=C:=⟨_,rfl⟩
   obtain ⟨W,hW⟩:∃W,w2.alloc (.cells #[.int .i64 x1,.int .i64 x2,.int .i64 x3,.string P,.string ⟨#[]⟩,.int .i64 n] 145)=W:=⟨_,rfl⟩
   have hgW:w2.grownBy W none:=by rw [<-hW];exact gb_alloc (gb_refl w2 none) _
   have HPC:Hid (PB C x1 x2 x3 P n W):=by
    show PB C x1 x2 x3 P n W
    unfold PB
    rw [<-hW,<-hC];exact heap_alloc_new w2 _
   replace HPA:Hid (PB A y1 y2 y3 Q m W):=HPA.out.grow hgW
   replace HG:Hid (w.grownBy W (some b)):=gb_trans HG.out (gb_weak hgW _)
   replace HR1:Hid (RS b s J W):=HR1.out.grow hgW
   obtain ⟨a0,a1,a2,a3,a4,a5⟩:=HPA.out.cells
   obtain ⟨c0,c1,c2,c3,c4,c5⟩:=HPC.out.cells
   clear hgW
   go_wp2_with (first | (go_at_call 109;refine (CX.out _).mono ?_))
   rintro e w3 ⟨rfl,hg⟩
   have HG3:Hid (w.grownBy w3 (some b)):=gb_trans HG.out (gb_weak hg _)
   have HR3:Hid (RS b s J w3):=HR1.out.grow hg
   clear hW hC a0 a1 a2 a3 a4 a5 c0 c1 c2 c3 c4 c5
   clear hg
   go_wp2
   refine bodyPost_ret (results_tmp2 (t:=4) (u:=5) rfl _ _ _) rfl ⟨_,_,_,rfl,HR3.out.grow (gb_alloc (gb_refl w3 none) _),gb_trans HG3.out (gb_weak (gb_alloc (gb_refl w3 none) _) _),fun _=>?_⟩
   rw [HS1.out]
   exact OS.one HG3.out.size (heap_alloc_new w3 _)
end Go.Proofs.YtonfldbigenfhaaGreatDoor
