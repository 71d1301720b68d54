import Derived.Test.YtonfldbigenfhaaGreatDoorM29
import Derived.Test.YtonfldbigenfhaaGreatDoorM16
namespace Go.Proofs.YtonfldbigenfhaaGreatDoor
open Go.RowKit
set_option linter.unusedVariables false
def LatePost (b:Nat) (s:ByteArray) (E:Int) (a:Nat) (w:World) (e:Ending) (w':World):Prop:=∃(v:Int) (j:Nat),e=.returned (.int .i64 v)/\VS b s j E a w'/\w.grownBy w' (some b)/\j<=s.size
set_option maxHeartbeats 1600000 in
theorem rnum_late (b:Nat) (s:ByteArray) (i:Nat) (E:Int) (hE:E ≠ 0) (a:Nat) (w:World) (hi:i<=s.size) (h:VS b s i E a w) (hs:s.size < 2 ^ 62) :
  Calls Tryz.prog 53 #[.pointer (some ⟨b,0,none⟩)] w (LatePost b s E a w):=by
 have HEE:Hid (E ≠ 0):=hE
 clear hE
 have h1:=h.c1
 have HR:Hid (VS b s i E a w):=h
 have hsl:s.data.toList.length=s.size:=by simp
 have hle:i+runN isD s.data.toList i<=s.size:=by have:=runN_le isD s.data.toList i (by rw [hsl];exact hi);rw [hsl] at this;exact this
 have hln:=sub_len s.data.toList i (runN isD s.data.toList i) (by rw [hsl];exact hle)
 have hall:=sub_all isD s.data.toList i
 obtain ⟨k,hk⟩:∃k,runN isD s.data.toList i=k:=⟨_,rfl⟩
 have HS:Hid (∀hj:i+k < s.size,isD s[i+k]=false):=by
  show ∀hj:i+k < s.size,isD s[i+k]=false
  intro hj
  have:=runN_stop isD s.data.toList i (by rw [hk];simpa using hj)
  simp only [hk] at this
  exact this
 rw [hk] at hle hln hall
 obtain ⟨T,hT⟩:∃T,subT s.data.toList i k=T:=⟨_,rfl⟩
 have HTs:Hid (∀m (hm:m < k) (h2:i+m < s.size) (h3:m < T.length),s[i+m]=T[m]):=by
  show ∀m (hm:m < k) (h2:i+m < s.size) (h3:m < T.length),s[i+m]=T[m]
  intro m hm h2 h3
  have e1:T[m]?=s.data.toList[i+m]?:=by rw [<-hT];unfold subT;rw [List.getElem?_take_of_lt hm,List.getElem?_drop]
  rw [get_data s (i+m) h2,List.getElem?_eq_getElem h3] at e1
  exact (Option.some.inj e1).symm
 rw [hT] at hln hall
 have HP:Hid (∀(v:Int) (j:Nat) (w':World),VS b s j E a w'->w.grownBy w' (some b)->j<=s.size->LatePost b s E a w (.returned (.int .i64 v)) w'):=fun v j w' h1 h2 h3=>⟨v,j,rfl,h1,h2,h3⟩
 have HD:Hid (∀m j (hm:m < k) (hj:j=i+m) (h2:j < s.size),isD s[j]=true):=by
  show ∀m j (hm:m < k) (hj:j=i+m) (h2:j < s.size),isD s[j]=true
  intro m j hm hj h2
  subst hj
  rw [HTs.out m hm h2 (by omega)]
  exact List.all_eq_true.1 hall _ (List.getElem_mem _)
 have HCT:Hid (∀m j (hm:m < k) (hj:j=i+m) (h2:j < s.size),capN (T.take (m+1))=capF (capN (T.take m)) s[j]):=by
  show ∀m j (hm:m < k) (hj:j=i+m) (h2:j < s.size),capN (T.take (m+1))=capF (capN (T.take m)) s[j]
  intro m j hm hj h2
  subst hj
  rw [HTs.out m hm h2 (by omega)]
  exact cap_take T m (by omega)
 have HC:Hid (T.length=k/\∀m,m<=k->(0<=capN (T.take m)/\capN (T.take m)<=9999999999)/\(valN (T.take m)<=999999999->capN (T.take m)=valN (T.take m))/\(999999999 < valN (T.take m)->999999999 < capN (T.take m))):=⟨hln,fun m hm=>cap_facts T hall m (by omega)⟩
 have HL:Hid (i+k<=s.size):=hle
 clear hk hT hln hall h hsl hle hi
 go_enter Tryz.func53,Tryz.ntmps53
 go_wp2
 go_loopw [4] (fun vn wr=>∃m j:Nat,j=i+m/\m<=k/\vn=.int .i64 (capN (T.take m))/\VS b s j E a wr/\w.grownBy wr (some b)) (fun _ wr=>s.size - placeOf b wr)
 case atStart=>exact ⟨0,i,rfl,Nat.zero_le _,rfl,HR.out,gb_refl _ _⟩
 case round =>
  obtain ⟨m,j,hj,hmk,rfl,hrs,hgb⟩:=hrel
  have d0:=hrs.c0
  have d1:=hrs.c1
  have df:=hrs.f1
  have HRS:Hid (VS b s j E a wr):=hrs
  have HGB:Hid (w.grownBy wr (some b)):=hgb
  have hil:=HL.out
  have hcb:=(HC.out.2 m hmk).1
  clear hrs hgb h1 HR
  by_cases hlt:m < k
  ·have hjs:j < s.size:=by omega
   have hD:isD s[j]=true:=HD.out m j hlt hj hjs
   have hdg:=isD_ge hD
   have HNX:Hid (capN (T.take (m+1))=capF (capN (T.take m)) s[j]):=HCT.out m j hlt hj hjs
   have HK:Hid (m < k/\j=i+m/\j < s.size):=⟨hlt,hj,hjs⟩
   obtain ⟨v,hv⟩:∃v,v=capN (T.take m):=⟨_,rfl⟩
   rw [<-hv] at hcb HNX
   rw [<-hv]
   clear hv hlt hil hmk hj
   have hlt2:(j:Int) < (s.size:Int):=by omega
   have hw:IntKind.i64.wrap ((j:Int)+1)=((j+1:Nat):Int):=by rw [IntKind.wrap_i64];omega
   by_cases hb:v<=999999999
   ·have r1:IntKind.i64.wrap (10 * v)=10 * v:=by rw [IntKind.wrap_i64];omega
    have r2:IntKind.i64.wrap (10 * v+(s[j].toNat:Int))=10 * v+(s[j].toNat:Int):=by rw [IntKind.wrap_i64];omega
    have r3:IntKind.i64.wrap (10 * v+(s[j].toNat:Int) - 48)=10 * v+(s[j].toNat:Int) - 48:=by rw [IntKind.wrap_i64];omega
    have HN:Hid (10 * v+(s[j].toNat:Int) - 48=capN (T.take (m+1))):=by show _=_;rw [HNX.out];unfold capF;rw [if_pos hb];omega
    go_wp2
    go_quiet (first | (go_at_call 85;exact Calls.quiet_of_same (rdigit_any _ _)))
    go_wp2
    have HPL:Hid (placeOf b wr=j):=HRS.out.place
    obtain ⟨W,hW⟩:∃W,wr.drewN nq=W:=⟨_,rfl⟩
    have e0:W.cell? ⟨b,0,none⟩=some (.string s):=by rw [<-hW];exact d0
    have e1:W.cell? ⟨b,1,none⟩=some (.int .i64 (j:Int)):=by rw [<-hW];exact d1
    have ef:W.frozen? ⟨b,1,none⟩=false:=by rw [<-hW];exact df
    have HW:Hid (VS b s j E a W/\w.grownBy W (some b)):=by
     show VS b s j E a W/\w.grownBy W (some b)
     rw [<-hW];exact ⟨HRS.out.drew _,gb_drew HGB.out _⟩
    rw [hW]
    clear hW d0 d1 df HRS HGB
    go_quiet (fail)
    go_wp2
    go_roundw
    case rel=>exact ⟨m+1,j+1,by have:=HK.out;omega,by have:=HK.out;omega,by rw [<-HN.out],(HW.out.1.drew _).set1 (j+1),gb_set (gb_drew HW.out.2 _) _ _⟩
    case measure =>
     have e2:=((HW.out.1.drew nq).set1 (j+1)).place
     rw [HPL.out]
     exact Nat.lt_of_le_of_lt (Nat.le_of_eq (congrArg (s.size - ·) e2)) (by omega)
   ·have HN:Hid (v=capN (T.take (m+1))):=by show _=_;rw [HNX.out];unfold capF;rw [if_neg hb]
    go_wp2
    go_quiet (first | (go_at_call 85;exact Calls.quiet_of_same (rdigit_any _ _)))
    go_wp2
    go_roundw
    case rel=>exact ⟨m+1,j+1,by have:=HK.out;omega,by have:=HK.out;omega,by rw [<-HN.out],(HRS.out.drew _).set1 (j+1),gb_set (gb_drew HGB.out _) _ _⟩
    case measure =>
     have e1:=HRS.out.place
     have e2:=((HRS.out.drew nq).set1 (j+1)).place
     rw [e1]
     exact Nat.lt_of_le_of_lt (Nat.le_of_eq (congrArg (s.size - ·) e2)) (by omega)
  ·have hmk2:m=k:=by omega
   subst m
   obtain ⟨v,hv⟩:∃v,v=capN (T.take k):=⟨_,rfl⟩
   have hTk:T.take k=T:=List.take_of_length_le (by rw [HC.out.1];exact Nat.le_refl _)
   have HVF:Hid ((valN T<=999999999->v=valN T)/\(999999999 < valN T->999999999 < v)):=by
    have:=(HC.out.2 k hmk).2
    rw [hTk] at this hv
    show (valN T<=999999999->v=valN T)/\(999999999 < valN T->999999999 < v)
    rw [hv];exact this
   have hv0:k=0->v=0:=fun h=>by rw [hv,h];rfl
   rw [<-hv] at hcb
   rw [<-hv]
   have HJ0:Hid (j=i+k/\i+k<=s.size):=⟨hj,hil⟩
   clear hv hTk HD HCT HC HTs hlt hmk hil
   by_cases hjs:j < s.size
   ·have hD:isD s[j]=false:=by subst hj;exact HS.out hjs
    have hlt2:(j:Int) < (s.size:Int):=by omega
    clear HS HL hj
    go_wp2
    go_quiet (first | (go_at_call 85;exact Calls.quiet_of_same (rdigit_any _ _)))
    obtain ⟨W,hW⟩:∃W,wr.drewN nq=W:=⟨_,rfl⟩
    have e0:W.cell? ⟨b,0,none⟩=some (.string s):=by rw [<-hW];exact d0
    have e1:W.cell? ⟨b,1,none⟩=some (.int .i64 (j:Int)):=by rw [<-hW];exact d1
    have ef:W.frozen? ⟨b,1,none⟩=false:=by rw [<-hW];exact df
    have HW:Hid (VS b s j E a W/\w.grownBy W (some b)):=by
     show VS b s j E a W/\w.grownBy W (some b)
     rw [<-hW];exact ⟨HRS.out.drew _,gb_drew HGB.out _⟩
    rw [hW]
    clear hW d0 d1 df HRS HGB
    have hj:=HJ0.out.1
    have hil:=HJ0.out.2
    have q2:IntKind.i64.wrap ((j:Int) - (i:Int))=(k:Int):=by rw [IntKind.wrap_i64];omega
    by_cases hk0:k=0
    ·have q1:((j:Int) == (i:Int))=true:=by simp;omega
     have q5:decide ((999999999:Int) < v)=false:=by simp;have:=hv0 hk0;omega
     have HO:Hid (k=0):=hk0
     clear hk0 hv0 hj hil q2
     go_wp2_with (go_at_call 56;refine (fail_later b s j E HEE.out a 2 i _ HW.out.1).mono ?_)
     rintro e w1 ⟨rfl,hr,hg⟩
     go_wp2
     go_ret
     exact HP.out _ j _ hr (gb_trans HW.out.2 hg) (by have:=HJ0.out;omega)
    ·have q1:((j:Int) == (i:Int))=false:=by simp;omega
     have his:i < s.size:=by omega
     have hgd:=get_data s i his
     by_cases h1k:1 < k
     ·have q3:decide ((1:Int) < (k:Int))=true:=by simp;omega
      cases q4:((s[i].toNat:Int) == 48) with
      | true =>
       have HO:Hid (¬ k=0/\(1 < k/\s.data.toList[i]?=some 48)):=⟨hk0,h1k,by rw [hgd];congr 1;exact UInt8.toNat_inj.1 (by simp at q4;show s[i].toNat=48;omega)⟩
       clear hgd hk0 hv0 hj hil
       cases q5:decide ((999999999:Int) < v) with
       | true =>
        go_wp2_with (go_at_call 56;refine (fail_later b s j E HEE.out a 2 i _ HW.out.1).mono ?_)
        rintro e w1 ⟨rfl,hr,hg⟩
        go_wp2_with (go_at_call 56;refine (fail_later b s j E HEE.out a 3 i _ hr).mono ?_)
        rintro e w2 ⟨rfl,hr2,hg2⟩
        go_wp2
        go_ret
        exact HP.out _ j _ hr2 (gb_trans (gb_trans HW.out.2 hg) hg2) (by have:=HJ0.out;omega)
       | false =>
        go_wp2_with (go_at_call 56;refine (fail_later b s j E HEE.out a 2 i _ HW.out.1).mono ?_)
        rintro e w1 ⟨rfl,hr,hg⟩
        go_wp2
        go_ret
        exact HP.out _ j _ hr (gb_trans HW.out.2 hg) (by have:=HJ0.out;omega)
      | false =>
       have HO:Hid (¬ k=0/\¬ (1 < k/\s.data.toList[i]?=some 48)):=⟨hk0,fun h=>by
        have:=h.2;rw [hgd] at this
        have e:=Option.some.inj this
        rw [e] at q4;simp at q4⟩
       clear hgd hk0 hv0
       have HJ:Hid (j=i+k):=hj
       clear hj hil
       cases q5:decide ((999999999:Int) < v) with
       | true =>
        have HB:Hid (valN T > 999999999):=by
         show valN T > 999999999
         have h1:=of_decide_eq_true q5
         refine Int.not_le.1 (fun h2=>?_)
         have:=HVF.out.1 h2
         omega
        go_wp2_with (go_at_call 56;refine (fail_later b s j E HEE.out a 3 i _ HW.out.1).mono ?_)
        rintro e w1 ⟨rfl,hr,hg⟩
        go_wp2
        go_ret
        exact HP.out _ j _ hr (gb_trans HW.out.2 hg) (by have:=HJ0.out;omega)
       | false =>
        have HB:Hid (¬ valN T > 999999999):=by
         show ¬ valN T > 999999999
         have h1:=of_decide_eq_false q5
         exact fun h2=>h1 (HVF.out.2 h2)
        have HE:Hid (v=valN T):=HVF.out.1 (Int.not_lt.1 HB.out)
        go_wp2
        go_ret
        exact HP.out _ j _ HW.out.1 HW.out.2 (by have:=HJ0.out;omega)
     ·have q3:decide ((1:Int) < (k:Int))=false:=by simp;omega
      have HO:Hid (¬ k=0/\¬ (1 < k/\s.data.toList[i]?=some 48)):=⟨hk0,fun h=>h1k h.1⟩
      clear hgd hk0 hv0
      have HJ:Hid (j=i+k):=hj
      clear hj hil
      cases q5:decide ((999999999:Int) < v) with
      | true =>
       have HB:Hid (valN T > 999999999):=by
        show valN T > 999999999
        have h1:=of_decide_eq_true q5
        refine Int.not_le.1 (fun h2=>?_)
        have:=HVF.out.1 h2
        omega
       go_wp2_with (go_at_call 56;refine (fail_later b s j E HEE.out a 3 i _ HW.out.1).mono ?_)
       rintro e w1 ⟨rfl,hr,hg⟩
       go_wp2
       go_ret
       exact HP.out _ j _ hr (gb_trans HW.out.2 hg) (by have:=HJ0.out;omega)
      | false =>
       have HB:Hid (¬ valN T > 999999999):=by
        show ¬ valN T > 999999999
        have h1:=of_decide_eq_false q5
        exact fun h2=>h1 (HVF.out.2 h2)
       have HE:Hid (v=valN T):=HVF.out.1 (Int.not_lt.1 HB.out)
       go_wp2
       go_ret
       exact HP.out _ j _ HW.out.1 HW.out.2 (by have:=HJ0.out;omega)
   ·have hd2:decide ((j:Int) < (s.size:Int))=false:=by simp;omega
    clear HS HL hj
    go_wp2
    go_quiet (fail)
    obtain ⟨W,hW⟩:∃W,wr.drewN nq=W:=⟨_,rfl⟩
    have e0:W.cell? ⟨b,0,none⟩=some (.string s):=by rw [<-hW];exact d0
    have e1:W.cell? ⟨b,1,none⟩=some (.int .i64 (j:Int)):=by rw [<-hW];exact d1
    have ef:W.frozen? ⟨b,1,none⟩=false:=by rw [<-hW];exact df
    have HW:Hid (VS b s j E a W/\w.grownBy W (some b)):=by
     show VS b s j E a W/\w.grownBy W (some b)
     rw [<-hW];exact ⟨HRS.out.drew _,gb_drew HGB.out _⟩
    rw [hW]
    clear hW d0 d1 df HRS HGB
    have hj:=HJ0.out.1
    have hil:=HJ0.out.2
    have q2:IntKind.i64.wrap ((j:Int) - (i:Int))=(k:Int):=by rw [IntKind.wrap_i64];omega
    by_cases hk0:k=0
    ·have q1:((j:Int) == (i:Int))=true:=by simp;omega
     have q5:decide ((999999999:Int) < v)=false:=by simp;have:=hv0 hk0;omega
     have HO:Hid (k=0):=hk0
     clear hk0 hv0 hj hil q2
     go_wp2_with (go_at_call 56;refine (fail_later b s j E HEE.out a 2 i _ HW.out.1).mono ?_)
     rintro e w1 ⟨rfl,hr,hg⟩
     go_wp2
     go_ret
     exact HP.out _ j _ hr (gb_trans HW.out.2 hg) (by have:=HJ0.out;omega)
    ·have q1:((j:Int) == (i:Int))=false:=by simp;omega
     have his:i < s.size:=by omega
     have hgd:=get_data s i his
     by_cases h1k:1 < k
     ·have q3:decide ((1:Int) < (k:Int))=true:=by simp;omega
      cases q4:((s[i].toNat:Int) == 48) with
      | true =>
       have HO:Hid (¬ k=0/\(1 < k/\s.data.toList[i]?=some 48)):=⟨hk0,h1k,by rw [hgd];congr 1;exact UInt8.toNat_inj.1 (by simp at q4;show s[i].toNat=48;omega)⟩
       clear hgd hk0 hv0 hj hil
       cases q5:decide ((999999999:Int) < v) with
       | true =>
        go_wp2_with (go_at_call 56;refine (fail_later b s j E HEE.out a 2 i _ HW.out.1).mono ?_)
        rintro e w1 ⟨rfl,hr,hg⟩
        go_wp2_with (go_at_call 56;refine (fail_later b s j E HEE.out a 3 i _ hr).mono ?_)
        rintro e w2 ⟨rfl,hr2,hg2⟩
        go_wp2
        go_ret
        exact HP.out _ j _ hr2 (gb_trans (gb_trans HW.out.2 hg) hg2) (by have:=HJ0.out;omega)
       | false =>
        go_wp2_with (go_at_call 56;refine (fail_later b s j E HEE.out a 2 i _ HW.out.1).mono ?_)
        rintro e w1 ⟨rfl,hr,hg⟩
        go_wp2
        go_ret
        exact HP.out _ j _ hr (gb_trans HW.out.2 hg) (by have:=HJ0.out;omega)
      | false =>
       have HO:Hid (¬ k=0/\¬ (1 < k/\s.data.toList[i]?=some 48)):=⟨hk0,fun h=>by
        have:=h.2;rw [hgd] at this
        have e:=Option.some.inj this
        rw [e] at q4;simp at q4⟩
       clear hgd hk0 hv0
       have HJ:Hid (j=i+k):=hj
       clear hj hil
       cases q5:decide ((999999999:Int) < v) with
       | true =>
        have HB:Hid (valN T > 999999999):=by
         show valN T > 999999999
         have h1:=of_decide_eq_true q5
         refine Int.not_le.1 (fun h2=>?_)
         have:=HVF.out.1 h2
         omega
        go_wp2_with (go_at_call 56;refine (fail_later b s j E HEE.out a 3 i _ HW.out.1).mono ?_)
        rintro e w1 ⟨rfl,hr,hg⟩
        go_wp2
        go_ret
        exact HP.out _ j _ hr (gb_trans HW.out.2 hg) (by have:=HJ0.out;omega)
       | false =>
        have HB:Hid (¬ valN T > 999999999):=by
         show ¬ valN T > 999999999
         have h1:=of_decide_eq_false q5
         exact fun h2=>h1 (HVF.out.2 h2)
        have HE:Hid (v=valN T):=HVF.out.1 (Int.not_lt.1 HB.out)
        go_wp2
        go_ret
        exact HP.out _ j _ HW.out.1 HW.out.2 (by have:=HJ0.out;omega)
     ·have q3:decide ((1:Int) < (k:Int))=false:=by simp;omega
      have HO:Hid (¬ k=0/\¬ (1 < k/\s.data.toList[i]?=some 48)):=⟨hk0,fun h=>h1k h.1⟩
      clear hgd hk0 hv0
      have HJ:Hid (j=i+k):=hj
      clear hj hil
      cases q5:decide ((999999999:Int) < v) with
      | true =>
       have HB:Hid (valN T > 999999999):=by
        show valN T > 999999999
        have h1:=of_decide_eq_true q5
        refine Int.not_le.1 (fun h2=>?_)
        have:=HVF.out.1 h2
        omega
       go_wp2_with (go_at_call 56;refine (fail_later b s j E HEE.out a 3 i _ HW.out.1).mono ?_)
       rintro e w1 ⟨rfl,hr,hg⟩
       go_wp2
       go_ret
       exact HP.out _ j _ hr (gb_trans HW.out.2 hg) (by have:=HJ0.out;omega)
      | false =>
       have HB:Hid (¬ valN T > 999999999):=by
        show ¬ valN T > 999999999
        have h1:=of_decide_eq_false q5
        exact fun h2=>h1 (HVF.out.2 h2)
       have HE:Hid (v=valN T):=HVF.out.1 (Int.not_lt.1 HB.out)
       go_wp2
       go_ret
       exact HP.out _ j _ HW.out.1 HW.out.2 (by have:=HJ0.out;omega)
theorem is_one (g b:Nat) (s:ByteArray) (i:Nat) (c:UInt8) (a:Nat) (w:World) (hi:i<=s.size) (hg:GR g b w) (h:VS b s i 0 a w) (hs:s.size < 2 ^ 61) :
  Calls Tryz.prog 36 #[.pointer (some ⟨g,0,none⟩),.string ⟨#[c]⟩] w fun e w'=>e=.returned (.bool (decide (s.data.toList[i]?=some c)))/\∃n,w'=w.drewN n:=by
 have:=is_any g b s ⟨#[c]⟩ i a w hi hg h hs (by show 1 < _;decide)
 rw [show (ByteArray.mk #[c]).data.toList=[c] from rfl,prefix_one] at this
 exact this
theorem is_bars (g b:Nat) (s:ByteArray) (i:Nat) (a:Nat) (w:World) (hi:i<=s.size) (hg:GR g b w) (h:VS b s i 0 a w) (hs:s.size < 2 ^ 61) :
  Calls Tryz.prog 36 #[.pointer (some ⟨g,0,none⟩),.string ⟨#[124,124]⟩] w fun e w'=>e=.returned (.bool (barsAt s.data.toList i))/\∃n,w'=w.drewN n:=by
 have:=is_any g b s ⟨#[124,124]⟩ i a w hi hg h hs (by show 2 < _;decide)
 rw [show (ByteArray.mk #[124,124]).data.toList=[124,124] from rfl,prefix_two] at this
 exact this
theorem skip_char (l:List UInt8) (i:Nat) (hi:i<=l.length):(∀j,i<=j->j < skipW l i->l[j]?=some 32)/\¬ l[skipW l i]?=some 32:=by
 constructor
 ·intro j h1 h2
  unfold skipW at h2
  obtain ⟨g1,g2⟩:=runN_at isSp l i (j - i) (by omega)
  have e:i+(j - i)=j:=by omega
  simp only [e] at g1 g2
  rw [List.getElem?_eq_getElem g1]
  unfold isSp at g2
  simpa using g2
 ·intro h
  have hlt:=(List.getElem?_eq_some_iff.1 h).1
  have:=runN_stop isSp l i hlt
  have e:=(List.getElem?_eq_some_iff.1 h).2
  have e3:isSp 32=false:=by rw [<-e];exact this
  exact absurd e3 (by decide)
set_option maxRecDepth 100000 in
set_option maxHeartbeats 800000 in
theorem rblanks_any (g b:Nat) (s:ByteArray) (i:Nat) (a:Nat) (w:World) (hi:i<=s.size) (hgb:g ≠ b) (hg:GR g b w) (h:VS b s i 0 a w) (hs:s.size < 2 ^ 61) :
  Calls Tryz.prog 34 #[.pointer (some ⟨g,0,none⟩)] w fun e w'=>e=.returned (.bool (decide (i < skipW s.data.toList i)))/\VS b s (skipW s.data.toList i) 0 a w'/\w.grownBy w' (some b):=by
 obtain ⟨h1,h2⟩:=skip_char s.data.toList i (by simpa using hi)
 have hN:=skip_le s.data.toList i (by simpa using hi)
 have hge:=skip_ge s.data.toList i
 obtain ⟨N,hNN⟩:∃N,skipW s.data.toList i=N:=⟨_,rfl⟩
 rw [hNN] at h1 h2 hN hge ⊢
 have HC:Hid (∀j w,j<=s.size->GR g b w->VS b s j 0 a w->Calls Tryz.prog 36 #[.pointer (some ⟨g,0,none⟩),.string ⟨#[32]⟩] w fun e w'=>e=.returned (.bool (decide (s.data.toList[j]?=some 32)))/\∃n,w'=w.drewN n):=fun j w hj hg h=>is_one g b s j 32 a w hj hg h hs
 have HS:Hid ((∀j,i<=j->j < N->s.data.toList[j]?=some 32)/\¬ s.data.toList[N]?=some 32/\N<=s.size/\i<=N):=⟨h1,h2,by simpa using hN,hge⟩
 have HB:Hid (g ≠ b):=hgb
 have HG:Hid (GR g b w):=hg
 have HV:Hid (VS b s i 0 a w):=h
 have c1:=h.c1
 have g0:w.cell? ⟨g,0,none⟩=some (.pointer (some ⟨b,0,none⟩)):=hg
 have HSZ:Hid (s.size < 2 ^ 61):=hs
 clear h1 h2 hN hge hNN h hg hgb hs hi
 go_enter Tryz.func34,Tryz.ntmps34
 go_wp2
 go_loopw [] (fun wr=>∃j:Nat,i<=j/\j<=N/\VS b s j 0 a wr/\GR g b wr/\w.grownBy wr (some b)) (fun wr=>s.size - placeOf b wr)
 case atStart=>exact ⟨i,Nat.le_refl _,HS.out.2.2.2,HV.out,HG.out,gb_refl _ _⟩
 case round =>
  obtain ⟨j,hij,hjn,hv,hgr,hgw⟩:=hrel
  clear HV HG c1 g0
  have HV:Hid (VS b s j 0 a wr):=hv
  have HG:Hid (GR g b wr):=hgr
  have HW:Hid (w.grownBy wr (some b)):=hgw
  have HPL:Hid (placeOf b wr=j):=hv.place
  have CI:Hid (∀w,GR g b w->VS b s j 0 a w->Calls Tryz.prog 36 #[.pointer (some ⟨g,0,none⟩),.string ⟨#[32]⟩] w fun e w'=>e=.returned (.bool (decide (s.data.toList[j]?=some 32)))/\∃n,w'=w.drewN n):=fun w h1 h2=>HC.out j w (by have:=HS.out;omega) h1 h2
  clear hv hgr hgw
  by_cases hlt:j < N
  ·rw [decide_eq_true (HS.out.1 j hij hlt)] at CI
   have hw:IntKind.i64.wrap ((j:Int)+1)=((j+1:Nat):Int):=by rw [IntKind.wrap_i64];have:=HS.out;have:=HSZ.out;omega
   have HJ:Hid (i<=j/\j < N):=⟨hij,hlt⟩
   clear hij hjn hlt
   go_wp2_with (first | (go_at_call 36;refine (CI.out _ HG.out HV.out).mono ?_))
   rintro e u1 ⟨rfl,n,hn⟩
   replace HV:Hid (VS b s j 0 a u1):=by show VS b s j 0 a u1;rw [hn];exact HV.out.drew n
   replace HG:Hid (GR g b u1):=by show GR g b u1;rw [hn];exact HG.out
   replace HW:Hid (w.grownBy u1 (some b)):=by show w.grownBy u1 (some b);rw [hn];exact gb_drew HW.out n
   clear hn
   have c1:=HV.out.c1
   have f1:=HV.out.f1
   have g0:u1.cell? ⟨g,0,none⟩=some (.pointer (some ⟨b,0,none⟩)):=HG.out
   go_wp2
   go_roundw
   case rel=>exact ⟨j+1,by have:=HJ.out;omega,by have:=HJ.out;omega,HV.out.set1 (j+1),HG.out.other HB.out _ _,gb_set HW.out _ _⟩
   case measure =>
    have e2:=(HV.out.set1 (j+1)).place
    rw [HPL.out]
    exact Nat.lt_of_le_of_lt (Nat.le_of_eq (congrArg (s.size - ·) e2)) (by have:=HJ.out;have:=HS.out;omega)
  ·have hjN:j=N:=by omega
   subst hjN
   rw [decide_eq_false HS.out.2.1] at CI
   clear hij hjn hlt
   go_wp2_with (first | (go_at_call 36;refine (CI.out _ HG.out HV.out).mono ?_))
   rintro e u1 ⟨rfl,n,hn⟩
   replace HV:Hid (VS b s j 0 a u1):=by show VS b s j 0 a u1;rw [hn];exact HV.out.drew n
   replace HG:Hid (GR g b u1):=by show GR g b u1;rw [hn];exact HG.out
   replace HW:Hid (w.grownBy u1 (some b)):=by show w.grownBy u1 (some b);rw [hn];exact gb_drew HW.out n
   clear hn
   have c1:=HV.out.c1
   have g0:u1.cell? ⟨g,0,none⟩=some (.pointer (some ⟨b,0,none⟩)):=HG.out
   go_wp2
   go_ret
   exact ⟨ret_bool (by simp),HV.out,HW.out⟩
set_option maxRecDepth 100000 in
set_option maxHeartbeats 800000 in
theorem rblanks_late (g b:Nat) (s:ByteArray) (i:Nat) (E:Int) (a:Nat) (w:World) (hE:¬ E=0) (hg:GR g b w) (h:VS b s i E a w) :
  Calls Tryz.prog 34 #[.pointer (some ⟨g,0,none⟩)] w fun e w'=>e=.returned (.bool false)/\∃n,w'=w.drewN n:=by
 have HC:Hid (∀w,GR g b w->VS b s i E a w->Calls Tryz.prog 36 #[.pointer (some ⟨g,0,none⟩),.string ⟨#[32]⟩] w fun e w'=>e=.returned (.bool (false))/\∃n,w'=w.drewN n):=fun w hg h=>is_late g b s _ i E a w hE hg h
 have HG:Hid (GR g b w):=hg
 have HV:Hid (VS b s i E a w):=h
 have c1:=h.c1
 have g0:w.cell? ⟨g,0,none⟩=some (.pointer (some ⟨b,0,none⟩)):=hg
 clear h hg hE
 go_enter Tryz.func34,Tryz.ntmps34
 go_wp2
 go_loopw [] (fun wr=>VS b s i E a wr/\GR g b wr/\∃n,wr=w.drewN n) (fun wr=>0)
 case atStart=>exact ⟨HV.out,HG.out,0,rfl⟩
 case round =>
  obtain ⟨hv,hgr,m,hm⟩:=hrel
  clear HV HG c1 g0
  have HV:Hid (VS b s i E a wr):=hv
  have HG:Hid (GR g b wr):=hgr
  have HM:Hid (wr=w.drewN m):=hm
  clear hv hgr hm
  go_wp2_with (first | (go_at_call 36;refine (HC.out _ HG.out HV.out).mono ?_))
  rintro e u1 ⟨rfl,n,hn⟩
  replace HV:Hid (VS b s i E a u1):=by show VS b s i E a u1;rw [hn];exact HV.out.drew n
  replace HG:Hid (GR g b u1):=by show GR g b u1;rw [hn];exact HG.out
  have HN:Hid (u1=w.drewN (m+n)):=by show u1=_;rw [hn,HM.out,World.drewN_drewN]
  clear hn
  have c1:=HV.out.c1
  have g0:u1.cell? ⟨g,0,none⟩=some (.pointer (some ⟨b,0,none⟩)):=HG.out
  go_wp2
  go_ret
  exact ⟨ret_bool (by simp),_,HN.out⟩
set_option maxRecDepth 100000 in
set_option maxHeartbeats 800000 in
theorem ends_late (g b:Nat) (s:ByteArray) (i:Nat) (E:Int) (a:Nat) (w:World) (hE:¬ E=0) (hg:GR g b w) (h:VS b s i E a w) :
  Calls Tryz.prog 61 #[.pointer (some ⟨g,0,none⟩)] w fun e w'=>e=.returned (.bool true)/\∃n,w'=w.drewN n:=by
 have c0:=h.c0
 have c1:=h.c1
 have c2:=h.c2
 have g0:w.cell? ⟨g,0,none⟩=some (.pointer (some ⟨b,0,none⟩)):=hg
 have hn:(E == 0)=false:=by simpa using hE
 have hn2:(E != 0)=true:=by simpa using hE
 clear h hg hE
 go_enter Tryz.func61,Tryz.ntmps61
 go_wp2
 go_quiet (fail)
 go_wp2
 go_ret
 exact ⟨rfl,_,rfl⟩
set_option maxRecDepth 100000 in
set_option maxHeartbeats 800000 in
theorem rends_any (g b:Nat) (s:ByteArray) (i:Nat) (a:Nat) (w:World) (hi:i<=s.size) (hg:GR g b w) (h:VS b s i 0 a w) (hs:s.size < 2 ^ 61) :
  Calls Tryz.prog 61 #[.pointer (some ⟨g,0,none⟩)] w fun e w'=>e=.returned (.bool (endsAt s.data.toList i))/\∃n,w'=w.drewN n:=by
 have c0:=h.c0
 have c1:=h.c1
 have c2:=h.c2
 have g0:w.cell? ⟨g,0,none⟩=some (.pointer (some ⟨b,0,none⟩)):=hg
 have HC:Hid (∀w,GR g b w->VS b s i 0 a w->Calls Tryz.prog 36 #[.pointer (some ⟨g,0,none⟩),.string ⟨#[124,124]⟩] w fun e w'=>e=.returned (.bool (barsAt s.data.toList i))/\∃n,w'=w.drewN n):=fun w hg h=>is_bars g b s i a w hi hg h hs
 have HG:Hid (GR g b w):=hg
 have HV:Hid (VS b s i 0 a w):=h
 clear h hg hs
 by_cases hl:s.size<=i
 ·have HE:Hid (endsAt s.data.toList i=true):=by show _=_;unfold endsAt;rw [decide_eq_true (by simpa using hl)];rfl
  have hd:decide (s.size<=i)=true:=by simp;omega
  rw [HE.out]
  clear hl hi
  go_enter Tryz.func61,Tryz.ntmps61
  go_wp2
  go_quiet (fail)
  go_wp2
  go_ret
  exact ⟨rfl,_,rfl⟩
 ·have HE:Hid (endsAt s.data.toList i=barsAt s.data.toList i):=by show _=_;unfold endsAt;rw [decide_eq_false (by simpa using hl)];rfl
  have hd:decide (s.size<=i)=false:=by simp;omega
  rw [HE.out]
  obtain ⟨r,hr⟩:∃r,barsAt s.data.toList i=r:=⟨_,rfl⟩
  rw [hr] at HC ⊢
  clear hl hi hr HE
  cases r with
  | true =>
   go_enter Tryz.func61,Tryz.ntmps61
   go_wp2
   go_quiet (first | (go_at_call 36;exact Calls.quiet_of (HC.out _ (HG.out.drew _) (HV.out.drew _))))
   go_wp2
   go_ret
   exact ⟨rfl,_,rfl⟩
  | false =>
   go_enter Tryz.func61,Tryz.ntmps61
   go_wp2
   go_quiet (first | (go_at_call 36;exact Calls.quiet_of (HC.out _ (HG.out.drew _) (HV.out.drew _))))
   go_wp2
   go_ret
   exact ⟨rfl,_,rfl⟩
set_option maxHeartbeats 400000 in
theorem rwild_late (g b:Nat) (s:ByteArray) (i:Nat) (E:Int) (a:Nat) (w:World) (hE:¬ E=0) (hg:GR g b w) (h:VS b s i E a w) :
  Calls Tryz.prog 92 #[.pointer (some ⟨g,0,none⟩)] w fun e w'=>e=.returned (.bool false)/\∃n,w'=w.drewN n:=by
 have HC:Hid (∀t w,GR g b w->VS b s i E a w->Calls Tryz.prog 36 #[.pointer (some ⟨g,0,none⟩),.string t] w fun e w'=>e=.returned (.bool (false))/\∃n,w'=w.drewN n):=fun t w hg h=>is_late g b s t i E a w hE hg h
 have HG:Hid (GR g b w):=hg
 have HV:Hid (VS b s i E a w):=h
 clear h hg hE
 go_enter Tryz.func92,Tryz.ntmps92
 go_wp2_with (first | (go_at_call 36;refine (HC.out _ _ HG.out HV.out).mono ?_))
 rintro e u0 ⟨rfl,n0,hn⟩
 replace HV:Hid (VS b s i E a u0):=by show VS b s i E a u0;rw [hn];exact HV.out.drew _
 replace HG:Hid (GR g b u0):=by show GR g b u0;rw [hn];exact HG.out
 have HN:Hid (u0=w.drewN n0):=hn
 clear hn
 go_wp2_with (first | (go_at_call 36;refine (HC.out _ _ HG.out HV.out).mono ?_))
 rintro e u1 ⟨rfl,n1,hn⟩
 replace HV:Hid (VS b s i E a u1):=by show VS b s i E a u1;rw [hn];exact HV.out.drew _
 replace HG:Hid (GR g b u1):=by show GR g b u1;rw [hn];exact HG.out
 replace HN:Hid (u1=w.drewN (n0+n1)):=by show u1=_;rw [hn,HN.out,World.drewN_drewN]
 clear hn
 go_wp2_with (first | (go_at_call 36;refine (HC.out _ _ HG.out HV.out).mono ?_))
 rintro e u2 ⟨rfl,n2,hn⟩
 replace HV:Hid (VS b s i E a u2):=by show VS b s i E a u2;rw [hn];exact HV.out.drew _
 replace HG:Hid (GR g b u2):=by show GR g b u2;rw [hn];exact HG.out
 replace HN:Hid (u2=w.drewN (n0+n1+n2)):=by show u2=_;rw [hn,HN.out,World.drewN_drewN]
 clear hn
 go_wp2
 go_ret
 exact ⟨rfl,_,HN.out⟩
set_option maxHeartbeats 400000 in
theorem rwild_any (g b:Nat) (s:ByteArray) (i:Nat) (a:Nat) (w:World) (hi:i<=s.size) (hgb:g ≠ b) (hg:GR g b w) (h:VS b s i 0 a w) (hs:s.size < 2 ^ 61) :
  Calls Tryz.prog 92 #[.pointer (some ⟨g,0,none⟩)] w fun e w'=>e=.returned (.bool (wildAt s.data.toList i))/\VS b s (if wildAt s.data.toList i=true then i+1 else i) 0 a w'/\w.grownBy w' (some b):=by
 have CI:Hid (∀(c:UInt8) w,GR g b w->VS b s i 0 a w->Calls Tryz.prog 36 #[.pointer (some ⟨g,0,none⟩),.string ⟨#[c]⟩] w fun e w'=>e=.returned (.bool (decide (s.data.toList[i]?=some c)))/\∃n,w'=w.drewN n):=fun c w hg h=>is_one g b s i c a w hi hg h hs
 have HLT:Hid (wildAt s.data.toList i=true->i < s.size):=fun h=>by have:=wild_lt h;simpa using this
 have HSZ:Hid (s.size < 2 ^ 61):=hs
 have HG:Hid (GR g b w):=hg
 have HV:Hid (VS b s i 0 a w):=h
 have HW:Hid (w.grownBy w (some b)):=gb_refl _ _
 clear h hg hs hi
 by_cases q0:s.data.toList[i]?=some 42
 ·have C0:Hid (∀w,GR g b w->VS b s i 0 a w->Calls Tryz.prog 36 #[.pointer (some ⟨g,0,none⟩),.string ⟨#[42]⟩] w fun e w'=>e=.returned (.bool (true))/\∃n,w'=w.drewN n):=fun w hg h=>by have:=CI.out 42 w hg h;rw [decide_eq_true q0] at this;exact this
  have HZ:Hid (wildAt s.data.toList i=true):=wild0 q0
  have hw:IntKind.i64.wrap ((i:Int)+1)=((i+1:Nat):Int):=by rw [IntKind.wrap_i64];have:=HLT.out HZ.out;have:=HSZ.out;omega
  rw [HZ.out]
  clear q0
  go_enter Tryz.func92,Tryz.ntmps92
  go_wp2_with (first | (go_at_call 36;refine (C0.out _ HG.out HV.out).mono ?_))
  rintro e u0 ⟨rfl,n,hn⟩
  replace HV:Hid (VS b s i 0 a u0):=by show VS b s i 0 a u0;rw [hn];exact HV.out.drew _
  replace HG:Hid (GR g b u0):=by show GR g b u0;rw [hn];exact HG.out
  replace HW:Hid (w.grownBy u0 (some b)):=by show w.grownBy u0 (some b);rw [hn];exact gb_drew HW.out _
  clear hn
  have c1:=HV.out.c1
  have f1:=HV.out.f1
  have g0:u0.cell? ⟨g,0,none⟩=some (.pointer (some ⟨b,0,none⟩)):=HG.out
  go_wp2
  go_ret
  exact ⟨rfl,HV.out.set1 (i+1),gb_set HW.out _ _⟩
 ·by_cases q1:s.data.toList[i]?=some 120
  ·have C0:Hid (∀w,GR g b w->VS b s i 0 a w->Calls Tryz.prog 36 #[.pointer (some ⟨g,0,none⟩),.string ⟨#[42]⟩] w fun e w'=>e=.returned (.bool (false))/\∃n,w'=w.drewN n):=fun w hg h=>by have:=CI.out 42 w hg h;rw [decide_eq_false q0] at this;exact this
   have C1:Hid (∀w,GR g b w->VS b s i 0 a w->Calls Tryz.prog 36 #[.pointer (some ⟨g,0,none⟩),.string ⟨#[120]⟩] w fun e w'=>e=.returned (.bool (true))/\∃n,w'=w.drewN n):=fun w hg h=>by have:=CI.out 120 w hg h;rw [decide_eq_true q1] at this;exact this
   have HZ:Hid (wildAt s.data.toList i=true):=wild1 q1
   have hw:IntKind.i64.wrap ((i:Int)+1)=((i+1:Nat):Int):=by rw [IntKind.wrap_i64];have:=HLT.out HZ.out;have:=HSZ.out;omega
   rw [HZ.out]
   clear q0 q1
   go_enter Tryz.func92,Tryz.ntmps92
   go_wp2_with (first | (go_at_call 36;refine (C0.out _ HG.out HV.out).mono ?_))
   rintro e u0 ⟨rfl,n,hn⟩
   replace HV:Hid (VS b s i 0 a u0):=by show VS b s i 0 a u0;rw [hn];exact HV.out.drew _
   replace HG:Hid (GR g b u0):=by show GR g b u0;rw [hn];exact HG.out
   replace HW:Hid (w.grownBy u0 (some b)):=by show w.grownBy u0 (some b);rw [hn];exact gb_drew HW.out _
   clear hn
   go_wp2_with (first | (go_at_call 36;refine (C1.out _ HG.out HV.out).mono ?_))
   rintro e u1 ⟨rfl,n,hn⟩
   replace HV:Hid (VS b s i 0 a u1):=by show VS b s i 0 a u1;rw [hn];exact HV.out.drew _
   replace HG:Hid (GR g b u1):=by show GR g b u1;rw [hn];exact HG.out
   replace HW:Hid (w.grownBy u1 (some b)):=by show w.grownBy u1 (some b);rw [hn];exact gb_drew HW.out _
   clear hn
   have c1:=HV.out.c1
   have f1:=HV.out.f1
   have g0:u1.cell? ⟨g,0,none⟩=some (.pointer (some ⟨b,0,none⟩)):=HG.out
   go_wp2
   go_ret
   exact ⟨rfl,HV.out.set1 (i+1),gb_set HW.out _ _⟩
  ·by_cases q2:s.data.toList[i]?=some 88
   ·have C0:Hid (∀w,GR g b w->VS b s i 0 a w->Calls Tryz.prog 36 #[.pointer (some ⟨g,0,none⟩),.string ⟨#[42]⟩] w fun e w'=>e=.returned (.bool (false))/\∃n,w'=w.drewN n):=fun w hg h=>by have:=CI.out 42 w hg h;rw [decide_eq_false q0] at this;exact this
    have C1:Hid (∀w,GR g b w->VS b s i 0 a w->Calls Tryz.prog 36 #[.pointer (some ⟨g,0,none⟩),.string ⟨#[120]⟩] w fun e w'=>e=.returned (.bool (false))/\∃n,w'=w.drewN n):=fun w hg h=>by have:=CI.out 120 w hg h;rw [decide_eq_false q1] at this;exact this
    have C2:Hid (∀w,GR g b w->VS b s i 0 a w->Calls Tryz.prog 36 #[.pointer (some ⟨g,0,none⟩),.string ⟨#[88]⟩] w fun e w'=>e=.returned (.bool (true))/\∃n,w'=w.drewN n):=fun w hg h=>by have:=CI.out 88 w hg h;rw [decide_eq_true q2] at this;exact this
    have HZ:Hid (wildAt s.data.toList i=true):=wild2 q2
    have hw:IntKind.i64.wrap ((i:Int)+1)=((i+1:Nat):Int):=by rw [IntKind.wrap_i64];have:=HLT.out HZ.out;have:=HSZ.out;omega
    rw [HZ.out]
    clear q0 q1 q2
    go_enter Tryz.func92,Tryz.ntmps92
    go_wp2_with (first | (go_at_call 36;refine (C0.out _ HG.out HV.out).mono ?_))
    rintro e u0 ⟨rfl,n,hn⟩
    replace HV:Hid (VS b s i 0 a u0):=by show VS b s i 0 a u0;rw [hn];exact HV.out.drew _
    replace HG:Hid (GR g b u0):=by show GR g b u0;rw [hn];exact HG.out
    replace HW:Hid (w.grownBy u0 (some b)):=by show w.grownBy u0 (some b);rw [hn];exact gb_drew HW.out _
    clear hn
    go_wp2_with (first | (go_at_call 36;refine (C1.out _ HG.out HV.out).mono ?_))
    rintro e u1 ⟨rfl,n,hn⟩
    replace HV:Hid (VS b s i 0 a u1):=by show VS b s i 0 a u1;rw [hn];exact HV.out.drew _
    replace HG:Hid (GR g b u1):=by show GR g b u1;rw [hn];exact HG.out
    replace HW:Hid (w.grownBy u1 (some b)):=by show w.grownBy u1 (some b);rw [hn];exact gb_drew HW.out _
    clear hn
    go_wp2_with (first | (go_at_call 36;refine (C2.out _ HG.out HV.out).mono ?_))
    rintro e u2 ⟨rfl,n,hn⟩
    replace HV:Hid (VS b s i 0 a u2):=by show VS b s i 0 a u2;rw [hn];exact HV.out.drew _
    replace HG:Hid (GR g b u2):=by show GR g b u2;rw [hn];exact HG.out
    replace HW:Hid (w.grownBy u2 (some b)):=by show w.grownBy u2 (some b);rw [hn];exact gb_drew HW.out _
    clear hn
    have c1:=HV.out.c1
    have f1:=HV.out.f1
    have g0:u2.cell? ⟨g,0,none⟩=some (.pointer (some ⟨b,0,none⟩)):=HG.out
    go_wp2
    go_ret
    exact ⟨rfl,HV.out.set1 (i+1),gb_set HW.out _ _⟩
   ·have C0:Hid (∀w,GR g b w->VS b s i 0 a w->Calls Tryz.prog 36 #[.pointer (some ⟨g,0,none⟩),.string ⟨#[42]⟩] w fun e w'=>e=.returned (.bool (false))/\∃n,w'=w.drewN n):=fun w hg h=>by have:=CI.out 42 w hg h;rw [decide_eq_false q0] at this;exact this
    have C1:Hid (∀w,GR g b w->VS b s i 0 a w->Calls Tryz.prog 36 #[.pointer (some ⟨g,0,none⟩),.string ⟨#[120]⟩] w fun e w'=>e=.returned (.bool (false))/\∃n,w'=w.drewN n):=fun w hg h=>by have:=CI.out 120 w hg h;rw [decide_eq_false q1] at this;exact this
    have C2:Hid (∀w,GR g b w->VS b s i 0 a w->Calls Tryz.prog 36 #[.pointer (some ⟨g,0,none⟩),.string ⟨#[88]⟩] w fun e w'=>e=.returned (.bool (false))/\∃n,w'=w.drewN n):=fun w hg h=>by have:=CI.out 88 w hg h;rw [decide_eq_false q2] at this;exact this
    have HZ:Hid (wildAt s.data.toList i=false):=wild3 q0 q1 q2
    rw [HZ.out]
    clear q0 q1 q2
    go_enter Tryz.func92,Tryz.ntmps92
    go_wp2_with (first | (go_at_call 36;refine (C0.out _ HG.out HV.out).mono ?_))
    rintro e u0 ⟨rfl,n,hn⟩
    replace HV:Hid (VS b s i 0 a u0):=by show VS b s i 0 a u0;rw [hn];exact HV.out.drew _
    replace HG:Hid (GR g b u0):=by show GR g b u0;rw [hn];exact HG.out
    replace HW:Hid (w.grownBy u0 (some b)):=by show w.grownBy u0 (some b);rw [hn];exact gb_drew HW.out _
    clear hn
    go_wp2_with (first | (go_at_call 36;refine (C1.out _ HG.out HV.out).mono ?_))
    rintro e u1 ⟨rfl,n,hn⟩
    replace HV:Hid (VS b s i 0 a u1):=by show VS b s i 0 a u1;rw [hn];exact HV.out.drew _
    replace HG:Hid (GR g b u1):=by show GR g b u1;rw [hn];exact HG.out
    replace HW:Hid (w.grownBy u1 (some b)):=by show w.grownBy u1 (some b);rw [hn];exact gb_drew HW.out _
    clear hn
    go_wp2_with (first | (go_at_call 36;refine (C2.out _ HG.out HV.out).mono ?_))
    rintro e u2 ⟨rfl,n,hn⟩
    replace HV:Hid (VS b s i 0 a u2):=by show VS b s i 0 a u2;rw [hn];exact HV.out.drew _
    replace HG:Hid (GR g b u2):=by show GR g b u2;rw [hn];exact HG.out
    replace HW:Hid (w.grownBy u2 (some b)):=by show w.grownBy u2 (some b);rw [hn];exact gb_drew HW.out _
    clear hn
    go_wp2
    go_ret
    exact ⟨rfl,HV.out,HW.out⟩
end Go.Proofs.YtonfldbigenfhaaGreatDoor
