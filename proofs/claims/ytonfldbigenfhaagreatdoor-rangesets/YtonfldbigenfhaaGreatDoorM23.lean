import Derived.Test.YtonfldbigenfhaaGreatDoorM15
import Derived.Test.YtonfldbigenfhaaGreatDoorM22
import Derived.Test.YtonfldbigenfhaaGreatDoorM13
namespace Go.Proofs.YtonfldbigenfhaaGreatDoor
set_option linter.unusedVariables false
def oneD (l:List UInt8) (i:Nat):Int × Nat × List Te:=dset l (l.length+1) (skipW l i) []
def oneP (l:List UInt8) (i:Nat):Int × Nat × List Te:=after l (pset l (l.length+1) (skipW l i) [])
def dsets (l:List UInt8):Nat->Nat->List (List Te)->Int × Nat × List (List Te)
 | 0,i,acc=>(0,i,acc)
 | f+1,i,acc =>
  if (oneD l i).1=0 then (if barsAt l (oneD l i).2.1=true then dsets l f ((oneD l i).2.1+2) (acc++[(oneD l i).2.2]) else (0,(oneD l i).2.1,acc++[(oneD l i).2.2]))
  else ((oneD l i).1,(oneD l i).2.1,acc)
def psets (l:List UInt8):Nat->Nat->List (List Te)->Int × Nat × List (List Te)
 | 0,i,acc=>(0,i,acc)
 | f+1,i,acc =>
  if (oneP l i).1=0 then (if l.length<=(oneP l i).2.1 then (0,(oneP l i).2.1,acc++[(oneP l i).2.2]) else psets l f ((oneP l i).2.1+2) (acc++[(oneP l i).2.2]))
  else ((oneP l i).1,(oneP l i).2.1,acc)
def sameS (x y:Int × Nat × List (List Te)):Prop:=x.1=y.1/\x.2.1=y.2.1/\(x.1=0->x.2.2=y.2.2)
theorem one_same (l:List UInt8) (i:Nat) (hi:i<=l.length):same (oneP l i) (oneD l i):=by
 have h1:=skip_le l i hi
 exact set_same l (l.length+1) (skipW l i) [] (by omega) h1 (skip_stop l i hi)
theorem after_ends (l:List UInt8) (r:Int × Nat × List Te) (h:(after l r).1=0):endsAt l (after l r).2.1=true:=by
 unfold after at h ⊢
 by_cases h1:r.1=0
 ·rw [if_pos h1] at h ⊢
  by_cases h2:endsAt l (skipW l r.2.1)=true
  ·rw [if_pos h2];exact h2
  ·rw [if_neg h2] at h;cases h
 ·rw [if_neg h1] at h;exact absurd h h1
theorem ends_bars (l:List UInt8) (i:Nat) (h:endsAt l i=true):barsAt l i=true ↔ ¬ l.length<=i:=by
 unfold endsAt at h
 rw [Bool.or_eq_true,decide_eq_true_eq] at h
 constructor
 ·intro hb hl
  unfold barsAt at hb
  rw [List.getElem?_eq_none hl] at hb
  simp at hb
 ·intro hn
  exact h.resolve_left hn
theorem bars_lt (l:List UInt8) (i:Nat) (h:barsAt l i=true):i+2<=l.length:=by
 unfold barsAt at h
 rw [Bool.and_eq_true,decide_eq_true_eq,decide_eq_true_eq] at h
 have:=dot_lt h.2
 omega
theorem pset_place (l:List UInt8):∀(f i:Nat) (acc:List Te),i<=l.length->(pset l f i acc).1=0->i<=(pset l f i acc).2.1/\(pset l f i acc).2.1<=l.length
 | 0,i,acc,hi,_=>by unfold pset;exact ⟨Nat.le_refl _,hi⟩
 | f+1,i,acc,hi,h=>by
  have sp:=sign_pos l i hi
  unfold pset at h ⊢
  by_cases h0:l.length<=i\/l[i]?=some 124
  ·rw [if_pos h0];exact ⟨Nat.le_refl _,hi⟩
  ·rw [if_neg h0] at h ⊢
   by_cases hr:(rdPa l (rdSign l i).2).1=0
   ·have pp:=pa_pos l _ sp.2 hr
    have hkl:=skip_le l _ pp.2
    have hkg:=skip_ge l (rdPa l (rdSign l i).2).2.1
    rw [if_pos hr] at h ⊢
    by_cases hbt:((rdSign l i).1 < 0/\acc=[])/\(rdPa l (rdSign l i).2).2.1 < skipW l (rdPa l (rdSign l i).2).2.1/\l[skipW l (rdPa l (rdSign l i).2).2.1]?=some 45
    ·rw [if_pos hbt] at h ⊢
     have h45:=dot_lt hbt.2.2
     by_cases hm:skipW l (skipW l (rdPa l (rdSign l i).2).2.1+1)=skipW l (rdPa l (rdSign l i).2).2.1+1
     ·rw [if_pos hm] at h;cases h
     ·rw [if_neg hm] at h ⊢
      have hk2:=skip_le l (skipW l (rdPa l (rdSign l i).2).2.1+1) (by omega)
      have hk3:=skip_ge l (skipW l (rdPa l (rdSign l i).2).2.1+1)
      by_cases hq:(rdPa l (skipW l (skipW l (rdPa l (rdSign l i).2).2.1+1))).1=0
      ·rw [if_pos hq]
       have:=pa_pos l _ hk2 hq
       simp only []
       omega
      ·rw [if_neg hq] at h;exact absurd h hq
    ·rw [if_neg hbt] at h ⊢
     by_cases hg:(rdPa l (rdSign l i).2).2.1 < skipW l (rdPa l (rdSign l i).2).2.1
     ·rw [if_neg (not_not_intro hg)] at h ⊢
      have:=pset_place l f _ _ hkl h
      omega
     ·rw [if_pos hg]
      simp only []
      omega
   ·rw [if_neg hr] at h;exact absurd h hr
theorem one_place (l:List UInt8) (i:Nat) (hi:i<=l.length) (h:(oneP l i).1=0):i<=(oneP l i).2.1/\(oneP l i).2.1<=l.length:=by
 unfold oneP after at h ⊢
 by_cases h1:(pset l (l.length+1) (skipW l i) []).1=0
 ·rw [if_pos h1] at h ⊢
  have h2:=pset_place l _ _ _ (skip_le l i hi) h1
  have h3:=skip_ge l i
  have h4:=skip_ge l (pset l (l.length+1) (skipW l i) []).2.1
  have h5:=skip_le l _ h2.2
  split <;> (simp only [];omega)
 ·rw [if_neg h1] at h;exact absurd h h1
theorem sets_same (l:List UInt8):∀(f i:Nat) (acc:List (List Te)),i<=l.length->sameS (psets l f i acc) (dsets l f i acc)
 | 0,i,acc,hi=>⟨rfl,rfl,fun _=>rfl⟩
 | f+1,i,acc,hi=>by
  obtain ⟨s1,s2,s3⟩:=one_same l i hi
  unfold psets dsets
  by_cases h:(oneP l i).1=0
  ·have h':(oneD l i).1=0:=by rw [<-s1];exact h
   have he:endsAt l (oneP l i).2.1=true:=after_ends l _ h
   have hb:=ends_bars l _ he
   have hp:=one_place l i hi h
   rw [if_pos h,if_pos h',<-s2,<-s3 h]
   by_cases hl:l.length<=(oneP l i).2.1
   ·rw [if_pos hl,if_neg (fun hb'=>hb.1 hb' hl)]
    exact ⟨rfl,rfl,fun _=>rfl⟩
   ·have hb':=hb.2 hl
    rw [if_neg hl]
    rw [if_pos hb']
    exact sets_same l f _ _ (bars_lt l _ hb')
  ·have h':¬ (oneD l i).1=0:=by rw [<-s1];exact h
   rw [if_neg h,if_neg h',<-s1,<-s2]
   exact ⟨rfl,rfl,fun h0=>absurd h0 h⟩
def rdRange (l:List UInt8):Int × Nat × List (List Te) :=
 if 200 < l.length then (1,0,[]) else if (dsets l (l.length+1) 0 []).1=0 then (0,0,(dsets l (l.length+1) 0 []).2.2) else ((dsets l (l.length+1) 0 []).1,(dsets l (l.length+1) 0 []).2.1,[])
def TeOk (t:Te):Prop:=0<=t.sign/\t.sign<=7/\PaOk t.p
theorem sign_val (l:List UInt8) (i:Nat):-1<=(rdSign l i).1/\(rdSign l i).1<=6:=by
 unfold rdSign
 repeat' split
 all_goals simp
theorem sub_short (l:List UInt8) (i k:Nat):(subT l i k).length<=l.length:=by unfold subT;simp;omega
theorem opt_len (c:UInt8) (st:Bool) (l:List UInt8) (i:Nat):(optP c st l i).2.2.length<=l.length:=by
 unfold optP
 repeat' split
 all_goals first | exact sub_short _ _ _ | exact Nat.zero_le _
theorem tail_len (l:List UInt8) (i:Nat):(tailP l i).2.2.1.length<=l.length:=by
 unfold tailP
 repeat' split
 all_goals first | exact opt_len _ _ _ _ | exact Nat.zero_le _
theorem pa_len (l:List UInt8) (i:Nat):(rdPa l i).2.2.pre.length<=l.length:=by
 unfold rdPa pa1 pa2 pa3
 repeat' split
 all_goals first | exact tail_len _ _ | exact Nat.zero_le _
def admL (ts:List Te) (v:V):Bool:=ts.all fun t=>admB t v
def admS (S:List (List Te)) (v:V):Bool:=S.any fun ts=>admL ts v
theorem admL_snoc (ts:List Te) (t:Te) (v:V):admL (ts++[t]) v=(admL ts v && admB t v):=by unfold admL;simp
theorem admS_snoc (S:List (List Te)) (ts:List Te) (v:V):admS (S++[ts]) v=(admS S v || admL ts v):=by unfold admS;simp
def sgS (g:Sg):Sp:=spV g.fr g.to_ g.op
structure BOk (v:V) (n:Nat):Prop where
 m1:0<=v.major/\v.major<=1000000000
 m2:0<=v.minor/\v.minor<=1000000000
 m3:0<=v.patch/\v.patch<=1000000000
 ok:okParts true v.pre=true
 sm:v.pre.length<=n
theorem BOk.sound {v:V} {n:Nat} (h:BOk v n):okT v=true:=by
 unfold okT soundV
 simp only [Bool.and_eq_true,bound_iff]
 exact ⟨h.m1,h.m2,h.m3,h.ok,rfl⟩
structure GOk (g:Sg) (n:Nat):Prop where
 fr:BOk g.fr n
 to_:g.op=false->BOk g.to_ n
 tn:g.to_.pre.length<=n
theorem ok48:okParts true [48]=true:=by decide
theorem low_b (n:Nat) (hn:1<=n):BOk lowV n:=⟨by decide,by decide,by decide,by decide,by simpa [lowV] using hn⟩
theorem first_b (p:Pa) (hp:PaOk p) (n:Nat) (hn:1<=n) (hl:p.pre.length<=n):BOk (firstV p) n:=by
 have a0:=hp.a0
 have b0:=hp.b0
 have c0:=hp.c0
 refine ⟨⟨a0.1,?_⟩,⟨b0.1,?_⟩,⟨c0.1,?_⟩,?_,?_⟩
 ·show p.a<=_;omega
 ·show p.b<=_;omega
 ·show p.c<=_;omega
 ·show okParts true (if p.n < 3 then [48] else p.pre)=true
  split
  ·exact ok48
  ·exact hp.ok
 ·show (if p.n < 3 then [48] else p.pre).length<=n
  split
  ·exact hn
  ·exact hl
theorem behind_b (p:Pa) (hp:PaOk p) (k:Nat) (n:Nat) (hn:1<=n):BOk (behindV (firstV p) k) n:=by
 have a0:=hp.a0
 have b0:=hp.b0
 have c0:=hp.c0
 unfold behindV
 have e1:(firstV p).major=p.a:=rfl
 have e2:(firstV p).minor=p.b:=rfl
 have e3:(firstV p).patch=p.c:=rfl
 rw [e1,e2,e3]
 split
 ·exact ⟨by simp only [];omega,by simp,by simp,ok48,hn⟩
 ·split
  ·exact ⟨by simp only [];omega,by simp only [];omega,by simp,ok48,hn⟩
  ·exact ⟨by simp only [];omega,by simp only [];omega,by simp only [];omega,ok48,hn⟩
theorem next_b (v:V) (n:Nat) (h1:0<=v.major/\v.major<=1000000000) (h2:0<=v.minor/\v.minor<=1000000000) (h3:0<=v.patch/\v.patch<=999999999) (hk:okParts true v.pre=true) (hn:1<=n) (hl:v.pre.length+2<=n):BOk (nextV v) n:=by
 unfold nextV
 by_cases e:v.pre=[]
 ·rw [if_pos e,if_pos (by omega)]
  exact ⟨h1,h2,by simp only [];omega,ok48,hn⟩
 ·rw [if_neg e]
  refine ⟨h1,h2,by simp only [];omega,?_,by simp only [List.length_append,List.length_cons,List.length_nil];omega⟩
  have h4:=okParts_split hk e
  show okParts true (v.pre++[46,48])=true
  unfold okParts
  rw [show v.pre++[46,48]=v.pre++46 :: [48] from rfl,splitD_app,List.all_append,h4]
  simp only [Bool.true_and,Bool.or_eq_true]
  exact Or.inr (by decide)
theorem alike_g (p:Pa) (hp:PaOk p) (k n:Nat) (hn:1<=n) (hl:p.pre.length<=n):GOk (alikeG p k) n:=by
 unfold alikeG
 split
 ·exact ⟨first_b p hp n hn hl,fun h=>(by cases h),Nat.zero_le _⟩
 ·have:=behind_b p hp k n hn
  exact ⟨first_b p hp n hn hl,fun _=>this,this.sm⟩
theorem named_g (p:Pa) (hp:PaOk p) (n:Nat) (hn:1<=n) (hl:p.pre.length+2<=n):GOk (namedG p) n:=by
 unfold namedG
 have a0:=hp.a0
 have b0:=hp.b0
 have c0:=hp.c0
 split
 ·rename_i h3
  have hf:=first_b p hp n hn (by omega)
  have e:(firstV p).pre=p.pre:=by unfold firstV;rw [if_neg (by omega)]
  have:=next_b (firstV p) n hf.m1 hf.m2 ⟨hf.m3.1,by show p.c<=_;omega⟩ hf.ok hn (by rw [e];exact hl)
  exact ⟨hf,fun _=>this,this.sm⟩
 ·exact alike_g p hp p.n n hn (by omega)
theorem sign_g (s:Int) (p:Pa) (hp:PaOk p) (n:Nat) (hn:1<=n) (hl:p.pre.length+2<=n):GOk (signG s p) n:=by
 have hlow:=low_b n hn
 have hf:=first_b p hp n hn (by omega)
 have hN:=named_g p hp n hn hl
 unfold signG
 split
 ·exact hN
 ·split
  ·exact ⟨hf,fun h=>(by cases h),Nat.zero_le _⟩
  ·split
   ·exact ⟨hlow,hN.to_,hN.tn⟩
   ·split
    ·split
     ·exact ⟨hlow,fun _=>hlow,hlow.sm⟩
     ·rename_i hop
      have hb:=hN.to_ (by simpa using hop)
      exact ⟨hb,fun h=>(by cases h),Nat.zero_le _⟩
    ·split
     ·exact ⟨hlow,fun _=>hf,hf.sm⟩
     ·split
      ·exact alike_g p hp _ n hn (by omega)
      ·exact alike_g p hp _ n hn (by omega)
theorem between_g (p q:Pa) (hp:PaOk p) (hq:PaOk q) (n:Nat) (hn:1<=n) (hl:p.pre.length<=n) (hl2:q.pre.length+2<=n):GOk (betweenG p q) n:=by
 have hN:=named_g q hq n hn hl2
 exact ⟨first_b p hp n hn hl,hN.to_,hN.tn⟩
theorem GOk.sound {g:Sg} {n:Nat} (h:GOk g n):soundS (sgS g)=true:=by
 have hv:vFrom (sgS g)=⟨g.fr.major,g.fr.minor,g.fr.patch,g.fr.pre,[]⟩:=by simp [vFrom,sgS,spV]
 have hw:vTo (sgS g)=⟨g.to_.major,g.to_.minor,g.to_.patch,g.to_.pre,[]⟩:=by simp [vTo,sgS,spV]
 have h1:=h.fr.sound
 unfold okT at h1
 unfold soundS
 rw [hv,hw,h1]
 show (true && (g.op || _))=true
 cases ho:g.op with
 | true=>rfl
 | false =>
  have h2:=(h.to_ ho).sound
  unfold okT at h2
  rw [h2];rfl
theorem GOk.small {g:Sg} {n:Nat} (h:GOk g n) (hn:n<=1048576):smallS (sgS g):=by
 have h1:=h.fr.sm
 have h2:=h.tn
 refine ⟨?_,?_,?_,?_⟩
 ·show g.fr.pre.toArray.size<=_;simp;omega
 ·show (0:Nat)<=_;omega
 ·show g.to_.pre.toArray.size<=_;simp;omega
 ·show (0:Nat)<=_;omega
theorem sgS_has (g:Sg) (v:V):hasS (sgS g) v=hasG g v:=by
 unfold hasS hasG
 rw [show cFrom (sgS g)=g.fr from cFrom_spV _ _ _,show cTo (sgS g)=g.to_ from cTo_spV _ _ _]
 rfl
structure LOk (L:List Sp) (k:Nat):Prop where
 sd:L.all soundS=true
 sm:∀s ∈ L,smallS s
 ln:L.length<=k
theorem LOk.one {g:Sg} {n:Nat} (h:GOk g n) (hn:n<=1048576):LOk [sgS g] 1:=⟨by simp [h.sound],by intro s hs;simp at hs;subst hs;exact h.small hn,Nat.le_refl _⟩
theorem LOk.app {L M:List Sp} {j k:Nat} (h:LOk L j) (h':LOk M k):LOk (L++M) (j+k) :=
 ⟨by rw [List.all_append,h.sd,h'.sd];rfl,fun s hs=>(List.mem_append.1 hs).elim (h.sm s) (h'.sm s),by have:=h.ln;have:=h'.ln;rw [List.length_append];omega⟩
theorem LOk.mono {L:List Sp} {j k:Nat} (h:LOk L j) (hk:j<=k):LOk L k:=⟨h.sd,h.sm,Nat.le_trans h.ln hk⟩
theorem holds_app (L M:List Sp) (v:V):holdsL (L++M) v=(holdsL L v || holdsL M v):=by unfold holdsL;simp
theorem holds_one (g:Sg) (v:V):holdsL [sgS g] v=hasG g v:=by unfold holdsL;simp [sgS_has]
def Has (L:List Sp) (f:V->Bool):Prop:=∀v,VOk v->holdsL L v=f v
open Go.RowKit
def OS (w:World) (base:Nat) (sl:Value) (L:List Sp):Prop:=w.ownsRow base 37 11 sl L.length (L.flatMap spC)
theorem OS.sps {w:World} {base:Nat} {sl:Value} {L:List Sp} (h:OS w base sl L):SpS w sl L:=sps_own h
theorem OS.grow {w w':World} {base:Nat} {sl:Value} {L:List Sp} (h:OS w base sl L) (hg:w.grownBy w' none):OS w' base sl L:=own_keep h hg
theorem OS.growb {w w':World} {base:Nat} {sl:Value} {L:List Sp} {b:Nat} (h:OS w base sl L) (hg:w.grownBy w' (some b)) (hb:b < base):OS w' base sl L:=by
 refine ⟨h.1,?_⟩
 rcases h.2 with hn | ⟨g,cap,cur,hv,hbg,hc,rest⟩
 ·exact Or.inl hn
 ·refine Or.inr ⟨g,cap,cur,hv,hbg,?_,rest⟩
  rw [hg.block g ((Array.getElem?_eq_some_iff.1 hc).1) (by simp;omega)];exact hc
theorem OS.base {w:World} {base base':Nat} {sl:Value} {L:List Sp} (h:OS w base sl L) (hb:base'<=base):OS w base' sl L:=by
 refine ⟨h.1,?_⟩
 rcases h.2 with hn | ⟨g,cap,cur,hv,hbg,rest⟩
 ·exact Or.inl hn
 ·exact Or.inr ⟨g,cap,cur,hv,Nat.le_trans hb hbg,rest⟩
theorem OS.emp (w:World) (base:Nat):OS w base (.slice none 0 0) []:=World.ownsRow_nil _ _ _ _
theorem OS.slice {w:World} {base:Nat} {sl:Value} {L:List Sp} (h:OS w base sl L):∃o n c,sl=.slice o n c:=sps_slice h.sps
theorem OS.one {w:World} {base g:Nat} {s:Sp} (hb:base<=g) (h:w.heap[g]?=some (.cells #[.int .i64 s.f1,.int .i64 s.f2,.int .i64 s.f3,.string s.f4,.string s.f5,.int .i64 s.t1,.int .i64 s.t2,.int .i64 s.t3,.string s.t4,.string s.t5,.bool s.o] 37 (0,0))):OS w base (.slice (some ⟨g,0,none⟩) 1 1) [s]:=by
 refine ⟨rfl,Or.inr ⟨g,1,_,rfl,hb,h,Nat.le_refl _,by decide,rfl,rfl⟩⟩
theorem sweep_len (ch:Int->Bool) (Ls:List (List Sp)) (E:List Er) (hE:E.Perm (erL 0 Ls)) (hs:SortedE (E.map toEd)) :
  (swT (fun b=>ch (having Ls.length b)) (fun _=>0) false (E.map toEd)).length<=(erL 0 Ls).length:=by
 have e1:=swT_tog (fun b=>ch (having Ls.length b)) (E.map toEd) (fun x=>ch (having Ls.length (fun j=>sumB (E.map toEd) j x))) (fun x=>rfl) hs (E.map toEd) [] false rfl
 have e2:(fun j=>tot [] j)=(fun _=>(0:Int)):=rfl
 rw [e2] at e1
 have hsub:=tog_sub_list (fun x=>ch (having Ls.length (fun j=>sumB (E.map toEd) j x))) (poss (E.map toEd)) false
 rw [<-e1] at hsub
 have h1:(poss (E.map toEd)).length<=(E.map toEd).length:=by
  have:∀l:List Ed,(poss l).length<=l.length:=by
   intro l
   induction l with
   | nil=>simp [poss]
   | cons e r ih =>
    rw [poss]
    split
    ·rw [List.length_cons];omega
    ·rw [List.length_cons,List.length_cons];omega
  exact this _
 have h2:=hsub.length_le
 have h4:=hE.length_eq
 rw [List.length_map] at h1
 omega
def TOst (f:V->Bool) (k:Nat) (w:World) (e:Ending) (w':World):Prop:=w.grownBy w' none/\∃(o:Option Addr) (n c:Nat) (T:List V),e=.returned (.tuple #[.slice o n c,.int .i64 0])/\OS w' w.heap.size (.slice o n c) (outs T)/\LOk (outs T) k/\NT T 2/\∀x,holdsL (outs T) x=f x
theorem nt_up {T:List V} {j k:Nat} (h:NT T j) (hk:j<=k):NT T k:=⟨h.up,h.ok,h.sm,h.sd,Nat.le_trans h.ln (Nat.mul_le_mul_left _ hk)⟩
theorem sweep_tost {ch:Int->Bool} (h0:ch 0=false) {Ls:List (List Sp)} {f:V->Bool} {w:World} {e:Ending} {w':World} (k:Nat) (hl2:Ls.length<=2) (hk:(erL 0 Ls).length<=2 * k) (hsz:∀l ∈ Ls,l.length<=1048576/\∀s ∈ l,smallS s) (hsd:Ls.all (·.all soundS)=true) (hf:∀x,ch (haveN (Ls.map (·.map toSg)) x)=f x) (h:SweepPost ch Ls w e w'):TOst f k w e w':=by
 refine ⟨h.1,?_⟩
 rcases h.2 with ⟨h1,h2⟩ | ⟨h1,E,vs,h2,h3,h4,h5,h6⟩
 ·exact absurd hsd h1
 ·obtain ⟨o,n,c,rfl⟩:=sps_slice h5
  have hT:=sweep_nt ch Ls hsz h1 E h2 h3
  have hn:=sweep_len ch Ls E h2 h3
  refine ⟨o,n,c,_,h4,h6,⟨hT.sound,(hT.nf hl2).small,?_⟩,nt_up hT hl2,fun x=>?_⟩
  ·have:=outs_len2 (swT (fun b=>ch (having Ls.length b)) (fun _=>0) false (E.map toEd))
   omega
  ·rw [outs_par _ hT.up]
   have hp:=sweep_par ch h0 (Ls.map (·.map toSg)) (E.map toEd) (by rw [<-erL_ed];exact h2.map _) h3 x
   rw [List.length_map] at hp
   rw [hp,hf]
theorem oNormal (sl:Value) (L:List Sp) (k:Nat) (w:World) (h:SpS w sl L) (hL:LOk L k) (hk:k<=1048576):Calls Tryz.prog 33 #[sl] w (TOst (holdsL L) k w):=by
 have h1:L.length<=1048576:=Nat.le_trans hL.ln hk
 refine (normal_any sl L w h h1 hL.sm).mono ?_
 intro e w' hp
 refine sweep_tost (by decide) k (by simp) ?_ (by intro l hl;simp at hl;subst hl;exact ⟨h1,hL.sm⟩) (by simp [hL.sd]) (fun x=>have_one L x) hp
 have h3:=erFlat_len 0 L
 have h4:=hL.ln
 show (L.flatMap (erS 0)++[]).length<=_
 rw [List.append_nil]
 omega
theorem oMeet (sl sm:Value) (L M:List Sp) (j k:Nat) (w:World) (h:SpS w sl L) (h':SpS w sm M) (hL:LOk L j) (hM:LOk M k) (hj:j<=1048576) (hk:k<=1048576):Calls Tryz.prog 26 #[sl,sm] w (TOst (fun x=>holdsL L x && holdsL M x) (j+k) w):=by
 have h1:L.length<=1048576:=Nat.le_trans hL.ln hj
 have h2:M.length<=1048576:=Nat.le_trans hM.ln hk
 refine (meet_any sl sm L M w h h' h1 hL.sm h2 hM.sm).mono ?_
 intro e w' hp
 refine sweep_tost (by decide) (j+k) (by simp) ?_ (by intro l hl;simp at hl;rcases hl with rfl | rfl <;> first | exact ⟨h1,hL.sm⟩ | exact ⟨h2,hM.sm⟩) (by simp [hL.sd,hM.sd]) (fun x=>have_all L M x) hp
 have h3:=erFlat_len 0 L
 have h5:=erFlat_len 1 M
 have h4:=hL.ln
 have h6:=hM.ln
 show (L.flatMap (erS 0)++(M.flatMap (erS 1)++[])).length<=_
 rw [List.append_nil,List.length_append]
 omega
def BtPost (b:Nat) (s:ByteArray) (E:Int) (J:Nat) (g:Sg) (w:World) (e:Ending) (w':World):Prop :=
 ∃(o:Option Addr) (n c:Nat),e=.returned (.tuple #[.slice o n c,.int .i64 E])/\RS b s J w'/\w.grownBy w' (some b)/\(E=0->OS w' w.heap.size (.slice o n c) [sgS g])
def btE (l:List UInt8) (i:Nat):Int:=if skipW l i=i then 2 else (rdPa l (skipW l i)).1
def btJ (l:List UInt8) (i:Nat):Nat:=if skipW l i=i then i else (rdPa l (skipW l i)).2.1
set_option maxRecDepth 100000 in
set_option maxHeartbeats 1600000 in
theorem rbetween_any (b:Nat) (s:ByteArray) (i:Nat) (p:Pa) (y1 y2 y3:Int) (Q:ByteArray) (m:Int) (hp:paAgg y1 y2 y3 Q m=paVal p) (w:World) (hi:i<=s.size) (h:RS b s i w) (hs:s.size<=200) :
  Calls Tryz.prog 89 #[.pointer (some ⟨b,0,none⟩),.agg #[.int .i64 y1,.int .i64 y2,.int .i64 y3,.string Q,.string ⟨#[]⟩,.int .i64 m]] w (BtPost b s (btE s.data.toList i) (btJ s.data.toList i) (betweenG p (rdPa s.data.toList (skipW s.data.toList i)).2.2) w):=by
 have CB:Hid (∀w,RS b s i w->Calls Tryz.prog 58 #[.pointer (some ⟨b,0,none⟩)] w fun e w'=>e=.returned (.bool (decide (i < skipW s.data.toList i)))/\RS b s (skipW s.data.toList i) w'/\w.grownBy w' (some b)):=fun w h=>blanks_any b s i w hi h (by omega)
 have hsk:skipW s.data.toList i<=s.size:=by have:=skip_le s.data.toList i (by simpa using hi);simp at this;exact this
 have hge:=skip_ge s.data.toList i
 have CP:Hid (∀w,RS b s (skipW s.data.toList i) w->Calls Tryz.prog 108 #[.pointer (some ⟨b,0,none⟩)] w (PaPost b s (rdPa s.data.toList (skipW s.data.toList i)) w)):=fun w h=>partial_any b s _ w hsk h (by omega)
 have hpl:=pa_len s.data.toList (skipW s.data.toList i)
 have CW:Hid ((rdPa s.data.toList (skipW s.data.toList i)).1=0->Ans 109 #[paVal p,paVal (rdPa s.data.toList (skipW s.data.toList i)).2.2] (sgV (betweenG p (rdPa s.data.toList (skipW s.data.toList i)).2.2))):=fun h0=>cBetween p _ (pa_ok s.data.toList _ (by simpa using hsk) h0) (by simp at hpl;omega)
 have HBb:Hid (b < w.heap.size):=by obtain ⟨t,h⟩:=h;exact (Array.getElem?_eq_some_iff.1 h).1
 unfold btE btJ
 obtain ⟨K,hK⟩:∃K,skipW s.data.toList i=K:=⟨_,rfl⟩
 rw [hK] at CB CP CW hge ⊢
 obtain ⟨E,J,q,hR⟩:∃E J q,rdPa s.data.toList K=(E,J,q):=⟨_,_,_,rfl⟩
 rw [hR] at CP CW ⊢
 simp only [] at CW ⊢
 have HI:Hid (RS b s i w):=h
 have HPp:Hid (paAgg y1 y2 y3 Q m=paVal p):=hp
 clear hK hR h hi hs hsk hpl hp
 by_cases hz:K=i
 ·rw [if_pos hz,if_pos hz]
  rw [hz,decide_eq_false (Nat.lt_irrefl i)] at CB
  clear hz hge CP CW
  go_enter Tryz.func89,Tryz.ntmps89
  go_wp2_with (first | (go_at_call 58;refine (CB.out _ (HI.out.grow (gb_alloc (gb_refl w none) _))).mono ?_))
  rintro e w1 ⟨rfl,hr,hg⟩
  have HF:Hid (RS b s i w1/\w.grownBy w1 (some b)):=⟨hr,gb_trans (gb_weak (gb_alloc (gb_refl w none) _) _) hg⟩
  clear hr hg
  go_wp2
  exact bodyPost_ret (results_tmp2 (t:=4) (u:=5) rfl _ _ _) rfl ⟨_,_,_,rfl,HF.out.1,HF.out.2,fun h=>absurd h (by decide)⟩
 ·rw [if_neg hz,if_neg hz]
  rw [decide_eq_true (show i < K by omega)] at CB
  clear hz hge
  go_enter Tryz.func89,Tryz.ntmps89
  go_wp2_with (first | (go_at_call 58;refine (CB.out _ (HI.out.grow (gb_alloc (gb_refl w none) _))).mono ?_))
  rintro e w1 ⟨rfl,hr,hg⟩
  obtain ⟨A,hA⟩:∃A,w.heap.size=A:=⟨_,rfl⟩
  have HPA:Hid (PB A y1 y2 y3 Q m w1):=by
   refine PB.growb (w:=w.alloc (.cells #[.int .i64 y1,.int .i64 y2,.int .i64 y3,.string Q,.string ⟨#[]⟩,.int .i64 m] 145)) ?_ hg (by have:=HBb.out;omega)
   unfold PB
   rw [<-hA];exact heap_alloc_new w _
  have HG:Hid (w.grownBy w1 (some b)):=gb_trans (gb_weak (gb_alloc (gb_refl w none) _) _) hg
  have HAb:Hid (w.heap.size<=A/\A ≠ b):=⟨Nat.le_of_eq hA,by have:=HBb.out;omega⟩
  have HR1:Hid (RS b s K w1):=hr
  try rw [hA]
  clear hr hg hA
  go_wp2_with (first | (go_at_call 108;refine (CP.out _ HR1.out).mono ?_))
  rintro e w2 ⟨x1,x2,x3,P,n,rfl,hr,hg,hok⟩
  replace HR1:Hid (RS b s J w2):=hr
  replace HG:Hid (w.grownBy w2 (some b)):=gb_trans HG.out hg
  replace HPA:Hid (PB A y1 y2 y3 Q m w2):=HPA.out.growb hg HAb.out.2
  have HOK:Hid (E=0->paAgg x1 x2 x3 P n=paVal q):=hok
  clear hr hg hok
  cases hz:(E == 0) with
  | false =>
   have HE0:Hid (E ≠ 0):=by show E ≠ 0;simpa using hz
   go_wp2
   exact bodyPost_ret (results_tmp2 (t:=4) (u:=5) rfl _ _ _) rfl ⟨_,_,_,rfl,HR1.out.grow (gb_alloc (gb_refl w2 none) _),gb_trans HG.out (gb_weak (gb_alloc (gb_refl w2 none) _) _),fun h=>absurd h HE0.out⟩
  | true =>
   have hE:E=0:=by simpa using hz
   subst hE
   have hc:=CW.out rfl
   rw [<-HOK.out rfl,<-HPp.out] at hc
   obtain ⟨s1,hs1⟩:∃s1,sgS (betweenG p q)=s1:=⟨_,rfl⟩
   have CX:Hid (∀w,Calls Tryz.prog 109 #[.agg #[.int .i64 y1,.int .i64 y2,.int .i64 y3,.string Q,.string ⟨#[]⟩,.int .i64 m],.agg #[.int .i64 x1,.int .i64 x2,.int .i64 x3,.string P,.string ⟨#[]⟩,.int .i64 n]] w fun e w'=>e=.returned (.agg #[.int .i64 s1.f1,.int .i64 s1.f2,.int .i64 s1.f3,.string s1.f4,.string s1.f5,.int .i64 s1.t1,.int .i64 s1.t2,.int .i64 s1.t3,.string s1.t4,.string s1.t5,.bool s1.o])/\w.grownBy w' none):=fun w=>by rw [<-hs1];exact hc w
   have HS1:Hid (sgS (betweenG p q)=s1):=hs1
   clear hc hs1 CW HOK HPp CB CP hz
   obtain ⟨C,hC⟩:∃C,w2.heap.size=C:=⟨_,rfl⟩
   obtain ⟨W,hW⟩:∃W,w2.alloc (.cells #[.int .i64 x1,.int .i64 x2,.int .i64 x3,.string P,.string ⟨#[]⟩,.int .i64 n] 145)=W:=⟨_,rfl⟩
   have hgW:w2.grownBy W none:=by rw [<-hW];exact gb_alloc (gb_refl w2 none) _
   have HPC:Hid (PB C x1 x2 x3 P n W):=by
    show PB C x1 x2 x3 P n W
    unfold PB
    rw [<-hW,<-hC];exact heap_alloc_new w2 _
   replace HPA:Hid (PB A y1 y2 y3 Q m W):=HPA.out.grow hgW
   replace HG:Hid (w.grownBy W (some b)):=gb_trans HG.out (gb_weak hgW _)
   replace HR1:Hid (RS b s J W):=HR1.out.grow hgW
   obtain ⟨a0,a1,a2,a3,a4,a5⟩:=HPA.out.cells
   obtain ⟨c0,c1,c2,c3,c4,c5⟩:=HPC.out.cells
   clear hgW
   go_wp2_with (first | (go_at_call 109;refine (CX.out _).mono ?_))
   rintro e w3 ⟨rfl,hg⟩
   have HG3:Hid (w.grownBy w3 (some b)):=gb_trans HG.out (gb_weak hg _)
   have HR3:Hid (RS b s J w3):=HR1.out.grow hg
   clear hW hC a0 a1 a2 a3 a4 a5 c0 c1 c2 c3 c4 c5
   clear hg
   go_wp2
   refine bodyPost_ret (results_tmp2 (t:=4) (u:=5) rfl _ _ _) rfl ⟨_,_,_,rfl,HR3.out.grow (gb_alloc (gb_refl w3 none) _),gb_trans HG3.out (gb_weak (gb_alloc (gb_refl w3 none) _) _),fun _=>?_⟩
   rw [HS1.out]
   exact OS.one HG3.out.size (heap_alloc_new w3 _)
end Go.Proofs.YtonfldbigenfhaaGreatDoor
