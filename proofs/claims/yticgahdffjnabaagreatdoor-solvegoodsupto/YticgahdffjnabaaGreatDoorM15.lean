import Derived.Test.YticgahdffjnabaaGreatDoorM14
import Derived.Test.YticgahdffjnabaaGreatDoorM13
import Derived.Test.YticgahdffjnabaaGreatDoorM02
import Derived.Deep.RegionHeld3
set_option linter.unusedVariables false
set_option maxHeartbeats 800000
namespace Go.Proofs.YticgahdffjnabaaGreatDoor
def oneD (l:List UInt8) (i:Nat):Int × Nat × List Te:=dset l (l.length+1) (skipW l i) []
def oneP (l:List UInt8) (i:Nat):Int × Nat × List Te:=after l (pset l (l.length+1) (skipW l i) [])
def dsets (l:List UInt8):Nat->Nat->List (List Te)->Int × Nat × List (List Te)
 | 0,i,acc=>(0,i,acc)
 | f+1,i,acc =>
  if (oneD l i).1=0 then (if barsAt l (oneD l i).2.1=true then dsets l f ((oneD l i).2.1+2) (acc++[(oneD l i).2.2]) else (0,(oneD l i).2.1,acc++[(oneD l i).2.2]))
  else ((oneD l i).1,(oneD l i).2.1,acc)
def psets (l:List UInt8):Nat->Nat->List (List Te)->Int × Nat × List (List Te)
 | 0,i,acc=>(0,i,acc)
 | f+1,i,acc =>
  if (oneP l i).1=0 then (if l.length<=(oneP l i).2.1 then (0,(oneP l i).2.1,acc++[(oneP l i).2.2]) else psets l f ((oneP l i).2.1+2) (acc++[(oneP l i).2.2]))
  else ((oneP l i).1,(oneP l i).2.1,acc)
def sameS (x y:Int × Nat × List (List Te)):Prop:=x.1=y.1/\x.2.1=y.2.1/\(x.1=0->x.2.2=y.2.2)
theorem one_same (l:List UInt8) (i:Nat) (hi:i<=l.length):same (oneP l i) (oneD l i):=by
 have h1:=skip_le l i hi;exact set_same l (l.length+1) (skipW l i) [] (by omega) h1 (skip_stop l i hi)
theorem after_ends (l:List UInt8) (r:Int × Nat × List Te) (h:(after l r).1=0):endsAt l (after l r).2.1=true:=by
 unfold after at h ⊢
 by_cases h1:r.1=0
 ·rw [if_pos h1] at h ⊢
  by_cases h2:endsAt l (skipW l r.2.1)=true
  ·rw [if_pos h2];exact h2
  ·rw [if_neg h2] at h;cases h
 ·rw [if_neg h1] at h;exact absurd h h1
theorem ends_bars (l:List UInt8) (i:Nat) (h:endsAt l i=true):barsAt l i=true ↔ ¬ l.length<=i:=by
 unfold endsAt at h;rw [Bool.or_eq_true,decide_eq_true_eq] at h;constructor
 ·intro hb hl;unfold barsAt at hb;rw [List.getElem?_eq_none hl] at hb;simp at hb
 ·intro hn;exact h.resolve_left hn
theorem bars_lt (l:List UInt8) (i:Nat) (h:barsAt l i=true):i+2<=l.length:=by
 unfold barsAt at h;rw [Bool.and_eq_true,decide_eq_true_eq,decide_eq_true_eq] at h;have:=dot_lt h.2;omega
theorem pset_place (l:List UInt8):∀(f i:Nat) (acc:List Te),i<=l.length->(pset l f i acc).1=0->i<=(pset l f i acc).2.1/\(pset l f i acc).2.1<=l.length
 | 0,i,acc,hi,_=>by unfold pset;exact ⟨Nat.le_refl _,hi⟩
 | f+1,i,acc,hi,h=>by
  have sp:=sign_pos l i hi;unfold pset at h ⊢
  by_cases h0:l.length<=i\/l[i]?=some 124
  ·rw [if_pos h0];exact ⟨Nat.le_refl _,hi⟩
  ·rw [if_neg h0] at h ⊢
   by_cases hr:(rdPa l (rdSign l i).2).1=0
   ·have pp:=pa_pos l _ sp.2 hr;have hkl:=skip_le l _ pp.2;have hkg:=skip_ge l (rdPa l (rdSign l i).2).2.1;rw [if_pos hr] at h ⊢
    by_cases hbt:((rdSign l i).1 < 0/\acc=[])/\(rdPa l (rdSign l i).2).2.1 < skipW l (rdPa l (rdSign l i).2).2.1/\l[skipW l (rdPa l (rdSign l i).2).2.1]?=some 45
    ·rw [if_pos hbt] at h ⊢;have h45:=dot_lt hbt.2.2
     by_cases hm:skipW l (skipW l (rdPa l (rdSign l i).2).2.1+1)=skipW l (rdPa l (rdSign l i).2).2.1+1
     ·rw [if_pos hm] at h;cases h
     ·rw [if_neg hm] at h ⊢;have hk2:=skip_le l (skipW l (rdPa l (rdSign l i).2).2.1+1) (by omega);have hk3:=skip_ge l (skipW l (rdPa l (rdSign l i).2).2.1+1)
      by_cases hq:(rdPa l (skipW l (skipW l (rdPa l (rdSign l i).2).2.1+1))).1=0
      ·rw [if_pos hq];have:=pa_pos l _ hk2 hq;simp only [];omega
      ·rw [if_neg hq] at h;exact absurd h hq
    ·rw [if_neg hbt] at h ⊢
     by_cases hg:(rdPa l (rdSign l i).2).2.1 < skipW l (rdPa l (rdSign l i).2).2.1
     ·rw [if_neg (not_not_intro hg)] at h ⊢;have:=pset_place l f _ _ hkl h;omega
     ·rw [if_pos hg];simp only [];omega
   ·rw [if_neg hr] at h;exact absurd h hr
theorem one_place (l:List UInt8) (i:Nat) (hi:i<=l.length) (h:(oneP l i).1=0):i<=(oneP l i).2.1/\(oneP l i).2.1<=l.length:=by
 unfold oneP after at h ⊢
 by_cases h1:(pset l (l.length+1) (skipW l i) []).1=0
 ·rw [if_pos h1] at h ⊢;have h2:=pset_place l _ _ _ (skip_le l i hi) h1;have h3:=skip_ge l i;have h4:=skip_ge l (pset l (l.length+1) (skipW l i) []).2.1;have h5:=skip_le l _ h2.2;split <;> (simp only [];omega)
 ·rw [if_neg h1] at h;exact absurd h h1
theorem sets_same (l:List UInt8):∀(f i:Nat) (acc:List (List Te)),i<=l.length->sameS (psets l f i acc) (dsets l f i acc)
 | 0,i,acc,hi=>⟨rfl,rfl,fun _=>rfl⟩
 | f+1,i,acc,hi=>by
  obtain ⟨s1,s2,s3⟩:=one_same l i hi;unfold psets dsets
  by_cases h:(oneP l i).1=0
  ·have h':(oneD l i).1=0:=by rw [<-s1];exact h
   have he:endsAt l (oneP l i).2.1=true:=after_ends l _ h;have hb:=ends_bars l _ he;have hp:=one_place l i hi h;rw [if_pos h,if_pos h',<-s2,<-s3 h]
   by_cases hl:l.length<=(oneP l i).2.1
   ·rw [if_pos hl,if_neg (fun hb'=>hb.1 hb' hl)];exact ⟨rfl,rfl,fun _=>rfl⟩
   ·have hb':=hb.2 hl;rw [if_neg hl];rw [if_pos hb'];exact sets_same l f _ _ (bars_lt l _ hb')
  ·have h':¬ (oneD l i).1=0:=by rw [<-s1];exact h
   rw [if_neg h,if_neg h',<-s1,<-s2];exact ⟨rfl,rfl,fun h0=>absurd h0 h⟩
def rdRange (l:List UInt8):Int × Nat × List (List Te) :=
 if 200 < l.length then (1,0,[]) else if (dsets l (l.length+1) 0 []).1=0 then (0,0,(dsets l (l.length+1) 0 []).2.2) else ((dsets l (l.length+1) 0 []).1,(dsets l (l.length+1) 0 []).2.1,[])
theorem sign_val (l:List UInt8) (i:Nat):-1<=(rdSign l i).1/\(rdSign l i).1<=6:=by
 unfold rdSign
 repeat' split
 all_goals simp
theorem sub_short (l:List UInt8) (i k:Nat):(subT l i k).length<=l.length:=by unfold subT;simp;omega
theorem opt_len (c:UInt8) (st:Bool) (l:List UInt8) (i:Nat):(optP c st l i).2.2.length<=l.length:=by
 unfold optP
 repeat' split
 all_goals first | exact sub_short _ _ _ | exact Nat.zero_le _
theorem tail_len (l:List UInt8) (i:Nat):(tailP l i).2.2.1.length<=l.length:=by
 unfold tailP
 repeat' split
 all_goals first | exact opt_len _ _ _ _ | exact Nat.zero_le _
theorem pa_len (l:List UInt8) (i:Nat):(rdPa l i).2.2.pre.length<=l.length:=by
 unfold rdPa pa1 pa2 pa3
 repeat' split
 all_goals first | exact tail_len _ _ | exact Nat.zero_le _
def admL (ts:List Te) (v:V):Bool:=ts.all fun t=>admB t v
def admS (S:List (List Te)) (v:V):Bool:=S.any fun ts=>admL ts v
theorem admL_snoc (ts:List Te) (t:Te) (v:V):admL (ts++[t]) v=(admL ts v && admB t v):=by unfold admL;simp
theorem admS_snoc (S:List (List Te)) (ts:List Te) (v:V):admS (S++[ts]) v=(admS S v || admL ts v):=by unfold admS;simp
def sgS (g:Sg):Sp:=spV g.fr g.to_ g.op
structure BOk (v:V) (n:Nat):Prop where
 m1:0<=v.major/\v.major<=1000000000
 m2:0<=v.minor/\v.minor<=1000000000
 m3:0<=v.patch/\v.patch<=1000000000
 ok:okParts true v.pre=true
 sm:v.pre.length<=n
theorem BOk.sound {v:V} {n:Nat} (h:BOk v n):okT v=true:=by
 unfold okT soundV;simp only [Bool.and_eq_true,bound_iff];exact ⟨h.m1,h.m2,h.m3,h.ok,rfl⟩
structure GOk (g:Sg) (n:Nat):Prop where
 fr:BOk g.fr n
 to_:g.op=false->BOk g.to_ n
 tn:g.to_.pre.length<=n
theorem ok48:okParts true [48]=true:=by decide
theorem low_b (n:Nat) (hn:1<=n):BOk lowV n:=⟨by decide,by decide,by decide,by decide,by simpa [lowV] using hn⟩
theorem first_b (p:Pa) (hp:PaOk p) (n:Nat) (hn:1<=n) (hl:p.pre.length<=n):BOk (firstV p) n:=by
 have a0:=hp.a0;have b0:=hp.b0;have c0:=hp.c0;refine ⟨⟨a0.1,?_⟩,⟨b0.1,?_⟩,⟨c0.1,?_⟩,?_,?_⟩
 ·show p.a<=_;omega
 ·show p.b<=_;omega
 ·show p.c<=_;omega
 ·show okParts true (if p.n < 3 then [48] else p.pre)=true;split
  ·exact ok48
  ·exact hp.ok
 ·show (if p.n < 3 then [48] else p.pre).length<=n;split
  ·exact hn
  ·exact hl
theorem behind_b (p:Pa) (hp:PaOk p) (k:Nat) (n:Nat) (hn:1<=n):BOk (behindV (firstV p) k) n:=by
 have a0:=hp.a0;have b0:=hp.b0;have c0:=hp.c0;unfold behindV;have e1:(firstV p).major=p.a:=rfl;have e2:(firstV p).minor=p.b:=rfl;have e3:(firstV p).patch=p.c:=rfl;rw [e1,e2,e3];split
 ·exact ⟨by simp only [];omega,by simp,by simp,ok48,hn⟩
 ·split
  ·exact ⟨by simp only [];omega,by simp only [];omega,by simp,ok48,hn⟩
  ·exact ⟨by simp only [];omega,by simp only [];omega,by simp only [];omega,ok48,hn⟩
theorem next_b (v:V) (n:Nat) (h1:0<=v.major/\v.major<=1000000000) (h2:0<=v.minor/\v.minor<=1000000000) (h3:0<=v.patch/\v.patch<=999999999) (hk:okParts true v.pre=true) (hn:1<=n) (hl:v.pre.length+2<=n):BOk (nextV v) n:=by
 unfold nextV
 by_cases e:v.pre=[]
 ·rw [if_pos e,if_pos (by omega)];exact ⟨h1,h2,by simp only [];omega,ok48,hn⟩
 ·rw [if_neg e];refine ⟨h1,h2,by simp only [];omega,?_,by simp only [List.length_append,List.length_cons,List.length_nil];omega⟩;have h4:=okParts_split hk e;show okParts true (v.pre++[46,48])=true;unfold okParts;rw [show v.pre++[46,48]=v.pre++46 :: [48] from rfl,splitD_app,List.all_append,h4];simp only [Bool.true_and,Bool.or_eq_true];exact Or.inr (by decide)
theorem alike_g (p:Pa) (hp:PaOk p) (k n:Nat) (hn:1<=n) (hl:p.pre.length<=n):GOk (alikeG p k) n:=by
 unfold alikeG;split
 ·exact ⟨first_b p hp n hn hl,fun h=>(by cases h),Nat.zero_le _⟩
 ·have:=behind_b p hp k n hn;exact ⟨first_b p hp n hn hl,fun _=>this,this.sm⟩
theorem named_g (p:Pa) (hp:PaOk p) (n:Nat) (hn:1<=n) (hl:p.pre.length+2<=n):GOk (namedG p) n:=by
 unfold namedG;have a0:=hp.a0;have b0:=hp.b0;have c0:=hp.c0;split
 ·rename_i h3;have hf:=first_b p hp n hn (by omega);have e:(firstV p).pre=p.pre:=by unfold firstV;rw [if_neg (by omega)]
  have:=next_b (firstV p) n hf.m1 hf.m2 ⟨hf.m3.1,by show p.c<=_;omega⟩ hf.ok hn (by rw [e];exact hl);exact ⟨hf,fun _=>this,this.sm⟩
 ·exact alike_g p hp p.n n hn (by omega)
theorem sign_g (s:Int) (p:Pa) (hp:PaOk p) (n:Nat) (hn:1<=n) (hl:p.pre.length+2<=n):GOk (signG s p) n:=by
 have hlow:=low_b n hn;have hf:=first_b p hp n hn (by omega);have hN:=named_g p hp n hn hl;unfold signG;split
 ·exact hN
 ·split
  ·exact ⟨hf,fun h=>(by cases h),Nat.zero_le _⟩
  ·split
   ·exact ⟨hlow,hN.to_,hN.tn⟩
   ·split
    ·split
     ·exact ⟨hlow,fun _=>hlow,hlow.sm⟩
     ·rename_i hop;have hb:=hN.to_ (by simpa using hop);exact ⟨hb,fun h=>(by cases h),Nat.zero_le _⟩
    ·split
     ·exact ⟨hlow,fun _=>hf,hf.sm⟩
     ·split
      ·exact alike_g p hp _ n hn (by omega)
      ·exact alike_g p hp _ n hn (by omega)
theorem between_g (p q:Pa) (hp:PaOk p) (hq:PaOk q) (n:Nat) (hn:1<=n) (hl:p.pre.length<=n) (hl2:q.pre.length+2<=n):GOk (betweenG p q) n:=by
 have hN:=named_g q hq n hn hl2;exact ⟨first_b p hp n hn hl,hN.to_,hN.tn⟩
theorem GOk.sound {g:Sg} {n:Nat} (h:GOk g n):soundS (sgS g)=true:=by
 have hv:vFrom (sgS g)=⟨g.fr.major,g.fr.minor,g.fr.patch,g.fr.pre,[]⟩:=by simp [vFrom,sgS,spV]
 have hw:vTo (sgS g)=⟨g.to_.major,g.to_.minor,g.to_.patch,g.to_.pre,[]⟩:=by simp [vTo,sgS,spV]
 have h1:=h.fr.sound;unfold okT at h1;unfold soundS;rw [hv,hw,h1];show (true && (g.op || _))=true
 cases ho:g.op with
 | true=>rfl
 | false =>
  have h2:=(h.to_ ho).sound;unfold okT at h2;rw [h2];rfl
theorem GOk.small {g:Sg} {n:Nat} (h:GOk g n) (hn:n<=1048576):smallS (sgS g):=by
 have h1:=h.fr.sm;have h2:=h.tn;refine ⟨?_,?_,?_,?_⟩
 ·show g.fr.pre.toArray.size<=_;simp;omega
 ·show (0:Nat)<=_;omega
 ·show g.to_.pre.toArray.size<=_;simp;omega
 ·show (0:Nat)<=_;omega
theorem sgS_has (g:Sg) (v:V):hasS (sgS g) v=hasG g v:=by
 unfold hasS hasG;rw [show cFrom (sgS g)=g.fr from cFrom_spV _ _ _,show cTo (sgS g)=g.to_ from cTo_spV _ _ _];rfl
structure LOk (L:List Sp) (k:Nat):Prop where
 sd:L.all soundS=true
 sm:∀s ∈ L,smallS s
 ln:L.length<=k
theorem LOk.one {g:Sg} {n:Nat} (h:GOk g n) (hn:n<=1048576):LOk [sgS g] 1:=⟨by simp [h.sound],by intro s hs;simp at hs;subst hs;exact h.small hn,Nat.le_refl _⟩
theorem LOk.app {L M:List Sp} {j k:Nat} (h:LOk L j) (h':LOk M k):LOk (L++M) (j+k) :=
 ⟨by rw [List.all_append,h.sd,h'.sd];rfl,fun s hs=>(List.mem_append.1 hs).elim (h.sm s) (h'.sm s),by have:=h.ln;have:=h'.ln;rw [List.length_append];omega⟩
theorem LOk.mono {L:List Sp} {j k:Nat} (h:LOk L j) (hk:j<=k):LOk L k:=⟨h.sd,h.sm,Nat.le_trans h.ln hk⟩
theorem holds_app (L M:List Sp) (v:V):holdsL (L++M) v=(holdsL L v || holdsL M v):=by unfold holdsL;simp
theorem holds_one (g:Sg) (v:V):holdsL [sgS g] v=hasG g v:=by unfold holdsL;simp [sgS_has]
def Has (L:List Sp) (f:V->Bool):Prop:=∀v,VOk v->holdsL L v=f v
open Go.RowKit
theorem isSp_any (c:UInt8) (w:World):Calls Tryz.prog 96 #[.int .u8 (c.toNat:Int)] w fun e w'=>e=.returned (.bool (isSp c))/\w'=w:=by
 go_enter Tryz.func96,Tryz.ntmps96;go_wp2
 all_goals go_ret
 all_goals (refine ⟨ret_bool ?_,rfl⟩;rw [Bool.eq_iff_iff];unfold isSp;simp [<-UInt8.toNat_inj];try omega)
theorem run_sp (b:Nat) (s:ByteArray) (i:Nat) (w:World) (hi:i<=s.size) (h:RS b s i w) (hs:s.size < 2 ^ 62) :
  Calls Tryz.prog 87 #[.pointer (some ⟨b,0,none⟩),.func (.func 96) #[] #[]] w fun e w'=>e=.returned (.string ⟨(subT s.data.toList i (runN isSp s.data.toList i)).toArray⟩)/\RS b s (i+runN isSp s.data.toList i) w'/\w.grownBy w' (some b):=by
 have h0:=h.c0;have h1:=h.c1;have HR:Hd (RS b s i w):=h;obtain ⟨N,hN⟩:=nm (i+runN isSp s.data.toList i);have HN:Hd (N<=s.size):=by
  show N<=s.size;have:=runN_le isSp s.data.toList i (by simpa using hi);simp at this;omega
 have HA:Hd (∀j,i<=j->(hj:j < s.size)->j < N->isSp s[j]=true):=by
  show ∀j,i<=j->(hj:j < s.size)->j < N->isSp s[j]=true;intro j h1 hj h2;obtain ⟨g1,g2⟩:=runN_at isSp s.data.toList i (j - i) (by omega);have e:i+(j - i)=j:=by omega
  simp only [e] at g2;exact g2
 have HS:Hd (∀hj:N < s.size,isSp s[N]=false):=by
  show ∀hj:N < s.size,isSp s[N]=false;intro hj;have:=runN_stop isSp s.data.toList i (by rw [hN];simpa using hj);simp only [hN] at this;exact this
 have HT:Hd (runN isSp s.data.toList i=N - i/\i<=N):=⟨by omega,by omega⟩;have HI:Hd (i<=s.size):=hi;rw [show runN isSp s.data.toList i=N - i by omega];obtain ⟨X,hX⟩:∃X:List UInt8,X=subT s.data.toList i (N - i):=⟨_,rfl⟩;have hsl:∀wx,(Instr.slice 9 (.string s) (some (.int .i64 (i:Int))) (some (.int .i64 (N:Int))) none).run Tryz.prog wx=.ok (.string ⟨X.toArray⟩) wx:=fun wx=>by rw [hX];exact run_sub s i N (by omega) HN.o wx
 rw [<-hX,show i+(N - i)=N by omega];clear h hN hi hX;go_enter Tryz.func87,Tryz.ntmps87;go_wp2;go_loopw [] (fun wr=>∃j:Nat,i<=j/\j<=N/\RS b s j wr/\w.grownBy wr (some b)) (fun wr=>s.size - placeOf b wr)
 case atStart=>exact ⟨i,Nat.le_refl _,HT.o.2,HR.o,gb_refl _ _⟩
 case round =>
  obtain ⟨j,hij,hjn,hrs,hgb⟩:=hrel;have d0:=hrs.c0;have d1:=hrs.c1;have df:=hrs.f1;have HRS:Hd (RS b s j wr):=hrs;have HGB:Hd (w.grownBy wr (some b)):=hgb;have hns:=HN.o;clear hrs hgb h0 h1
  by_cases hlt:j < N
  ·have hjs:j < s.size:=by omega
   have hD:isSp s[j]=true:=HA.o j hij hjs hlt;have HK:Hd (i<=j/\j < N):=⟨hij,hlt⟩;clear hlt hjn hns hij;have hlt2:(j:Int) < (s.size:Int):=by omega
   go_wp2;go_quiet (first | (go_at_call 96;exact Calls.quiet_of_same (isSp_any _ _)));go_wp2;go_roundw
   case rel =>
    have:=HK.o;exact ⟨j+1,by omega,by omega,(HRS.o.drew _).set (j+1),gb_set (gb_drew HGB.o _) _ _⟩
   case measure =>
    have e1:=HRS.o.place;have e2:=((HRS.o.drew nq).set (j+1)).place;rw [e1];exact Nat.lt_of_le_of_lt (Nat.le_of_eq (congrArg (s.size - ·) e2)) (by omega)
  ·have hjN:j=N:=by omega
   subst hjN
   by_cases hjs:j < s.size
   ·have hD:isSp s[j]=false:=HS.o hjs;have hlt2:(j:Int) < (s.size:Int):=by omega
    clear hlt hjn hns hij;go_wp2;go_quiet (first | (go_at_call 96;exact Calls.quiet_of_same (isSp_any _ _)));go_wp2;obtain ⟨W,hW⟩:=nm (wr.drewN nq);have e0:W.cell? ⟨b,0,none⟩=some (.string s):=by rw [<-hW];exact d0
    have e1:W.cell? ⟨b,1,none⟩=some (.int .i64 (j:Int)):=by rw [<-hW];exact d1
    have HW:Hd (RS b s j W/\w.grownBy W (some b)):=by
     show RS b s j W/\w.grownBy W (some b);rw [<-hW];exact ⟨HRS.o.drew _,gb_drew HGB.o _⟩
    rw [hW];clear hW d0 d1 df HRS HGB;go_quiet (fail);go_wp2;go_ret;exact ⟨rfl,HW.o.1.drew _,gb_drew HW.o.2 _⟩
   ·have hd2:decide ((j:Int) < (s.size:Int))=false:=by simp;omega
    clear hlt hjn hns hij;go_wp2;go_quiet (fail);go_wp2;obtain ⟨W,hW⟩:=nm (wr.drewN nq);have e0:W.cell? ⟨b,0,none⟩=some (.string s):=by rw [<-hW];exact d0
    have e1:W.cell? ⟨b,1,none⟩=some (.int .i64 (j:Int)):=by rw [<-hW];exact d1
    have HW:Hd (RS b s j W/\w.grownBy W (some b)):=by
     show RS b s j W/\w.grownBy W (some b);rw [<-hW];exact ⟨HRS.o.drew _,gb_drew HGB.o _⟩
    rw [hW];clear hW d0 d1 df HRS HGB;go_quiet (fail);go_wp2;go_ret;exact ⟨rfl,HW.o.1.drew _,gb_drew HW.o.2 _⟩
theorem wild0 {l:List UInt8} {i:Nat} (h:l[i]?=some 42):wildAt l i=true:=by unfold wildAt;rw [decide_eq_true h];rfl
theorem wild1 {l:List UInt8} {i:Nat} (h:l[i]?=some 120):wildAt l i=true:=by unfold wildAt;rw [h];rfl
theorem wild2 {l:List UInt8} {i:Nat} (h:l[i]?=some 88):wildAt l i=true:=by unfold wildAt;rw [h];rfl
theorem wild3 {l:List UInt8} {i:Nat} (h0:¬ l[i]?=some 42) (h1:¬ l[i]?=some 120) (h2:¬ l[i]?=some 88):wildAt l i=false:=by unfold wildAt;rw [decide_eq_false h0,decide_eq_false h1,decide_eq_false h2];rfl
theorem blanks_any (b:Nat) (s:ByteArray) (i:Nat) (w:World) (hi:i<=s.size) (h:RS b s i w) (hs:s.size < 2 ^ 62) :
  Calls Tryz.prog 70 #[.pointer (some ⟨b,0,none⟩)] w fun e w'=>e=.returned (.bool (decide (i < skipW s.data.toList i)))/\RS b s (skipW s.data.toList i) w'/\w.grownBy w' (some b):=by
 have CR:Hd (Calls Tryz.prog 87 #[.pointer (some ⟨b,0,none⟩),.func (.func 96) #[] #[]] w fun e w'=>e=.returned (.string ⟨(subT s.data.toList i (runN isSp s.data.toList i)).toArray⟩)/\RS b s (i+runN isSp s.data.toList i) w'/\w.grownBy w' (some b)):=run_sp b s i w hi h hs;have hsl:s.data.toList.length=s.size:=by simp
 have hle:i+runN isSp s.data.toList i<=s.size:=by have:=runN_le isSp s.data.toList i (by rw [hsl];exact hi);rw [hsl] at this;exact this
 have hln:=sub_len s.data.toList i (runN isSp s.data.toList i) (by rw [hsl];exact hle);unfold skipW;obtain ⟨k,hk⟩:=nm (runN isSp s.data.toList i);rw [hk] at CR hln ⊢;obtain ⟨X,hX⟩:∃X:ByteArray,X=⟨(subT s.data.toList i k).toArray⟩:=⟨_,rfl⟩;rw [<-hX] at CR;have hXs:X.size=k:=by rw [hX];show (subT s.data.toList i k).toArray.size=k;simpa using hln
 clear hk hX hln hsl hle h hi
 by_cases hk0:k=0
 ·have e1:=emp_t2 (hXs.trans hk0);have HZ:Hd (decide (i < i+k)=false):=by show _=_;rw [hk0];simp
  clear hk0 hXs;go_enter Tryz.func70,Tryz.ntmps70;go_wp2_with (go_at_call 87;refine CR.o.mono ?_);rintro e w1 ⟨rfl,hr1,hg1⟩;have HF:Hd (RS b s (i+k) w1/\w.grownBy w1 (some b)):=⟨hr1,hg1⟩;clear hr1 hg1;go_wp2;go_ret;exact ⟨ret_bool HZ.o.symm,HF.o.1,HF.o.2⟩
 ·have e1:=emp_f2 (fun h=>hk0 (hXs.symm.trans h));have HZ:Hd (decide (i < i+k)=true):=by show _=_;simp;omega
  clear hk0 hXs;go_enter Tryz.func70,Tryz.ntmps70;go_wp2_with (go_at_call 87;refine CR.o.mono ?_);rintro e w1 ⟨rfl,hr1,hg1⟩;have HF:Hd (RS b s (i+k) w1/\w.grownBy w1 (some b)):=⟨hr1,hg1⟩;clear hr1 hg1;go_wp2;go_ret;exact ⟨ret_bool HZ.o.symm,HF.o.1,HF.o.2⟩
theorem wild_any (b:Nat) (s:ByteArray) (i:Nat) (w:World) (hi:i<=s.size) (h:RS b s i w) (hs:s.size < 2 ^ 62) :
  Calls Tryz.prog 134 #[.pointer (some ⟨b,0,none⟩)] w fun e w'=>e=.returned (.bool (wildAt s.data.toList i))/\RS b s (if wildAt s.data.toList i=true then i+1 else i) w'/\w.grownBy w' (some b):=by
 by_cases q0:s.data.toList[i]?=some 42
 ·have C0:Hd (∀w,RS b s i w->Calls Tryz.prog 66 #[.pointer (some ⟨b,0,none⟩),.string ⟨#[42]⟩] w fun e w'=>e=.returned (.bool true)/\RS b s (i+1) w'/\w.grownBy w' (some b)):=fun w h=>take_yes b s i 42 w q0 h hs
  have HZ:Hd (wildAt s.data.toList i=true):=wild0 q0;rw [HZ.o];have HR:Hd (RS b s i w):=h;have HG:Hd (w.grownBy w (some b)):=gb_refl _ _;clear h hi hs q0;go_enter Tryz.func134,Tryz.ntmps134;go_wp2_with (first | (go_at_call 66;refine (C0.o _ HR.o).mono ?_));rintro e w1 ⟨rfl,hr,hg⟩;replace HR:Hd (RS b s (i+1) w1):=hr;replace HG:Hd (w.grownBy w1 (some b)):=gb_trans HG.o hg;clear hr hg;go_wp2;go_ret;exact ⟨rfl,HR.o,HG.o⟩
 ·by_cases q1:s.data.toList[i]?=some 120
  ·have C0:Hd (∀w,RS b s i w->Calls Tryz.prog 66 #[.pointer (some ⟨b,0,none⟩),.string ⟨#[42]⟩] w fun e w'=>e=.returned (.bool false)/\RS b s (i) w'/\w.grownBy w' (some b)):=fun w h=>take_no b s i 42 w hi q0 h hs
   have C1:Hd (∀w,RS b s i w->Calls Tryz.prog 66 #[.pointer (some ⟨b,0,none⟩),.string ⟨#[120]⟩] w fun e w'=>e=.returned (.bool true)/\RS b s (i+1) w'/\w.grownBy w' (some b)):=fun w h=>take_yes b s i 120 w q1 h hs
   have HZ:Hd (wildAt s.data.toList i=true):=wild1 q1;rw [HZ.o];have HR:Hd (RS b s i w):=h;have HG:Hd (w.grownBy w (some b)):=gb_refl _ _;clear h hi hs q0 q1;go_enter Tryz.func134,Tryz.ntmps134;go_wp2_with (first | (go_at_call 66;refine (C0.o _ HR.o).mono ?_));rintro e w1 ⟨rfl,hr,hg⟩;replace HR:Hd (RS b s (i) w1):=hr;replace HG:Hd (w.grownBy w1 (some b)):=gb_trans HG.o hg;clear hr hg;go_wp2_with (first | (go_at_call 66;refine (C1.o _ HR.o).mono ?_));rintro e w2 ⟨rfl,hr,hg⟩;replace HR:Hd (RS b s (i+1) w2):=hr;replace HG:Hd (w.grownBy w2 (some b)):=gb_trans HG.o hg;clear hr hg;go_wp2;go_ret;exact ⟨rfl,HR.o,HG.o⟩
  ·by_cases q2:s.data.toList[i]?=some 88
   ·have C0:Hd (∀w,RS b s i w->Calls Tryz.prog 66 #[.pointer (some ⟨b,0,none⟩),.string ⟨#[42]⟩] w fun e w'=>e=.returned (.bool false)/\RS b s (i) w'/\w.grownBy w' (some b)):=fun w h=>take_no b s i 42 w hi q0 h hs
    have C1:Hd (∀w,RS b s i w->Calls Tryz.prog 66 #[.pointer (some ⟨b,0,none⟩),.string ⟨#[120]⟩] w fun e w'=>e=.returned (.bool false)/\RS b s (i) w'/\w.grownBy w' (some b)):=fun w h=>take_no b s i 120 w hi q1 h hs
    have C2:Hd (∀w,RS b s i w->Calls Tryz.prog 66 #[.pointer (some ⟨b,0,none⟩),.string ⟨#[88]⟩] w fun e w'=>e=.returned (.bool true)/\RS b s (i+1) w'/\w.grownBy w' (some b)):=fun w h=>take_yes b s i 88 w q2 h hs
    have HZ:Hd (wildAt s.data.toList i=true):=wild2 q2;rw [HZ.o];have HR:Hd (RS b s i w):=h;have HG:Hd (w.grownBy w (some b)):=gb_refl _ _;clear h hi hs q0 q1 q2;go_enter Tryz.func134,Tryz.ntmps134;go_wp2_with (first | (go_at_call 66;refine (C0.o _ HR.o).mono ?_));rintro e w1 ⟨rfl,hr,hg⟩;replace HR:Hd (RS b s (i) w1):=hr;replace HG:Hd (w.grownBy w1 (some b)):=gb_trans HG.o hg;clear hr hg;go_wp2_with (first | (go_at_call 66;refine (C1.o _ HR.o).mono ?_));rintro e w2 ⟨rfl,hr,hg⟩;replace HR:Hd (RS b s (i) w2):=hr;replace HG:Hd (w.grownBy w2 (some b)):=gb_trans HG.o hg;clear hr hg;go_wp2_with (first | (go_at_call 66;refine (C2.o _ HR.o).mono ?_));rintro e w3 ⟨rfl,hr,hg⟩;replace HR:Hd (RS b s (i+1) w3):=hr;replace HG:Hd (w.grownBy w3 (some b)):=gb_trans HG.o hg;clear hr hg;go_wp2;go_ret;exact ⟨rfl,HR.o,HG.o⟩
   ·have C0:Hd (∀w,RS b s i w->Calls Tryz.prog 66 #[.pointer (some ⟨b,0,none⟩),.string ⟨#[42]⟩] w fun e w'=>e=.returned (.bool false)/\RS b s (i) w'/\w.grownBy w' (some b)):=fun w h=>take_no b s i 42 w hi q0 h hs
    have C1:Hd (∀w,RS b s i w->Calls Tryz.prog 66 #[.pointer (some ⟨b,0,none⟩),.string ⟨#[120]⟩] w fun e w'=>e=.returned (.bool false)/\RS b s (i) w'/\w.grownBy w' (some b)):=fun w h=>take_no b s i 120 w hi q1 h hs
    have C2:Hd (∀w,RS b s i w->Calls Tryz.prog 66 #[.pointer (some ⟨b,0,none⟩),.string ⟨#[88]⟩] w fun e w'=>e=.returned (.bool false)/\RS b s (i) w'/\w.grownBy w' (some b)):=fun w h=>take_no b s i 88 w hi q2 h hs
    have HZ:Hd (wildAt s.data.toList i=false):=wild3 q0 q1 q2;rw [HZ.o];have HR:Hd (RS b s i w):=h;have HG:Hd (w.grownBy w (some b)):=gb_refl _ _;clear h hi hs q0 q1 q2;go_enter Tryz.func134,Tryz.ntmps134;go_wp2_with (first | (go_at_call 66;refine (C0.o _ HR.o).mono ?_));rintro e w1 ⟨rfl,hr,hg⟩;replace HR:Hd (RS b s (i) w1):=hr;replace HG:Hd (w.grownBy w1 (some b)):=gb_trans HG.o hg;clear hr hg;go_wp2_with (first | (go_at_call 66;refine (C1.o _ HR.o).mono ?_));rintro e w2 ⟨rfl,hr,hg⟩;replace HR:Hd (RS b s (i) w2):=hr;replace HG:Hd (w.grownBy w2 (some b)):=gb_trans HG.o hg;clear hr hg;go_wp2_with (first | (go_at_call 66;refine (C2.o _ HR.o).mono ?_));rintro e w3 ⟨rfl,hr,hg⟩;replace HR:Hd (RS b s (i) w3):=hr;replace HG:Hd (w.grownBy w3 (some b)):=gb_trans HG.o hg;clear hr hg;go_wp2;go_ret;exact ⟨rfl,HR.o,HG.o⟩
open Go.RowKit
theorem gb_own0 {w wa wb:World} {B:Nat} (h:w.grownBy wa none) (hg:wa.grownBy wb (some B)) (hB:w.heap.size<=B):w.grownBy wb none :=
 ⟨hg.os.trans h.os,hg.tape.trans h.tape,hg.output.trans h.output,Nat.le_trans h.size hg.size,fun k hk hn=>(hg.block k (Nat.lt_of_lt_of_le hk h.size) (fun e=>by have:=Option.some.inj e;omega)).trans (h.block k hk hn)⟩
theorem gb_drw {w w':World} {r:Option Nat} (h:w.grownBy w' r):w.grownBy w'.drew r:=⟨h.os,h.tape,h.output,h.size,h.block⟩
set_option maxRecDepth 100000 in
theorem numbersOf_any (A:Nat) (w:World) (h:A < w.heap.size) :
  Calls Tryz.prog 133 #[.pointer (some ⟨A,0,none⟩)] w fun e w'=>e=.returned (.agg #[.pointer (some ⟨A,0,none⟩),.pointer (some ⟨A,1,none⟩),.pointer (some ⟨A,2,none⟩)])/\w.grownBy w' none:=by
 go_enter Tryz.func133,Tryz.ntmps133;go_wp2;obtain ⟨B,hB⟩:=nm (w.heap.size);obtain ⟨W,hW⟩:=nm (w.alloc (.cells #[.pointer none,.pointer none,.pointer none] 137));have hrow:W.heap[B]?=some (.cells #[.pointer none,.pointer none,.pointer none] 137 (0,0)):=by rw [<-hW,<-hB];exact heap_alloc_new w _
 have HG:Hd (w.grownBy W none):=by show w.grownBy W none;rw [<-hW];exact gb_alloc (gb_refl w none) _
 have HR:Hd (W.heap[B]?=some (.cells #[.pointer none,.pointer none,.pointer none] 137 (0,0))):=hrow;have c0:W.cell? ⟨B,0,none⟩=some (.pointer none):=by rw [cOH hrow];rfl
 have c1:W.cell? ⟨B,1,none⟩=some (.pointer none):=by rw [cOH hrow];rfl
 have c2:W.cell? ⟨B,2,none⟩=some (.pointer none):=by rw [cOH hrow];rfl
 have ff:∀o,W.frozen? ⟨B,o,none⟩=false:=fun o=>Lib.frozen_of_heap hrow o
 have HB:Hd (w.heap.size<=B):=by show _<=_;omega
 try rw [hW]
 try rw [hB]
 clear hrow hW hB h
 go_region_held3 (fun w'=>True) (trivial) (fail)
 have HGF:Hd (w.grownBy (((W.setCell ⟨B,0,none⟩ (.pointer (some ⟨A,0,none⟩))).setCell ⟨B,1,none⟩ (.pointer (some ⟨A,1,none⟩))).setCell ⟨B,2,none⟩ (.pointer (some ⟨A,2,none⟩))).drew none):=gb_own0 HG.o (gb_drw (gb_set (gb_set (gb_set (gb_refl W (some B)) _ _) _ _) _ _)) HB.o;clear c0 c1 c2 ff;go_wp2;refine bodyPost_ret (results_cell_row rfl _ _ B 137 #[.pointer (some ⟨A,0,none⟩),.pointer (some ⟨A,1,none⟩),.pointer (some ⟨A,2,none⟩)] (0,0) _ rfl ?_ Tryz.underlying137 rfl (by kernel_rfl)) rfl ⟨rfl,HGF.o⟩;have h3:(((W.setCell ⟨B,0,none⟩ (.pointer (some ⟨A,0,none⟩))).setCell ⟨B,1,none⟩ (.pointer (some ⟨A,1,none⟩))).setCell ⟨B,2,none⟩ (.pointer (some ⟨A,2,none⟩))).heap[B]?=some (.cells #[.pointer (some ⟨A,0,none⟩),.pointer (some ⟨A,1,none⟩),.pointer (some ⟨A,2,none⟩)] 137 (0,0)):=by
  have hr:=HR.o;simp [World.setCell,Array.getElem?_modify,hr]
 exact h3
theorem signs1_any (a b c n:Int) (P:ByteArray) (w:World) :
  Calls Tryz.prog 124 #[.agg #[.int .i64 a,.int .i64 b,.int .i64 c,.string P,.string ⟨#[]⟩,.int .i64 n]] w fun e w'=>e=.returned (.agg #[.int .i64 a,.int .i64 b,.int .i64 c,.string P,.string ⟨#[]⟩,.int .i64 0,.int .i64 0,.int .i64 0,.string ⟨#[]⟩,.string ⟨#[]⟩,.bool true])/\w.grownBy w' none:=by
 go_enter Tryz.func124,Tryz.ntmps124;go_wp2;refine bodyPost_ret (results_cell_row rfl _ _ (w.heap.size+1) 110 #[.int .i64 a,.int .i64 b,.int .i64 c,.string P,.string ⟨#[]⟩,.int .i64 0,.int .i64 0,.int .i64 0,.string ⟨#[]⟩,.string ⟨#[]⟩,.bool true] (0,0) _ rfl ?_ Tryz.underlying110 rfl (by kernel_rfl)) rfl ⟨rfl,gb_alloc (gb_alloc (gb_refl w none) _) _⟩;have:=heap_alloc_new (w.alloc (.cells #[.int .i64 a,.int .i64 b,.int .i64 c,.string P,.string ⟨#[]⟩,.int .i64 n] 163)) (.cells #[.int .i64 a,.int .i64 b,.int .i64 c,.string P,.string ⟨#[]⟩,.int .i64 0,.int .i64 0,.int .i64 0,.string ⟨#[]⟩,.string ⟨#[]⟩,.bool true] 110);rw [show (w.alloc (.cells #[.int .i64 a,.int .i64 b,.int .i64 c,.string P,.string ⟨#[]⟩,.int .i64 n] 163)).heap.size=w.heap.size+1 by simp] at this;exact this
end Go.Proofs.YticgahdffjnabaaGreatDoor
