import Derived.Test.YtonfldbigenfhaaGreatDoorM20
import Derived.Test.YtonfldbigenfhaaGreatDoorM04
namespace Go.Proofs.YtonfldbigenfhaaGreatDoor
open Go.RowKit
def valV (v:Vv):Value:=.agg #[.int .i64 v.major,.int .i64 v.minor,.int .i64 v.patch,.string ⟨v.pre.toArray⟩,.string ⟨v.build.toArray⟩]
open Go.RowKit
set_option linter.unusedVariables false
def VS (b:Nat) (s:ByteArray) (i:Nat) (E:Int) (a:Nat) (w:World):Prop:=w.heap[b]?=some (.cells #[.string s,.int .i64 (i:Int),.int .i64 E,.int .i64 (a:Int)] 71 (0,0))
theorem VS.c0 {b:Nat} {s:ByteArray} {i:Nat} {E:Int} {a:Nat} {w:World} (h:VS b s i E a w):w.cell? ⟨b,0,none⟩=some (.string s):=by rw [Lib.cell_of_heap h];rfl
theorem VS.c1 {b:Nat} {s:ByteArray} {i:Nat} {E:Int} {a:Nat} {w:World} (h:VS b s i E a w):w.cell? ⟨b,1,none⟩=some (.int .i64 (i:Int)):=by rw [Lib.cell_of_heap h];rfl
theorem VS.c2 {b:Nat} {s:ByteArray} {i:Nat} {E:Int} {a:Nat} {w:World} (h:VS b s i E a w):w.cell? ⟨b,2,none⟩=some (.int .i64 E):=by rw [Lib.cell_of_heap h];rfl
theorem VS.c3 {b:Nat} {s:ByteArray} {i:Nat} {E:Int} {a:Nat} {w:World} (h:VS b s i E a w):w.cell? ⟨b,3,none⟩=some (.int .i64 (a:Int)):=by rw [Lib.cell_of_heap h];rfl
theorem VS.f1 {b:Nat} {s:ByteArray} {i:Nat} {E:Int} {a:Nat} {w:World} (h:VS b s i E a w):w.frozen? ⟨b,1,none⟩=false:=Lib.frozen_of_heap h 1
theorem VS.f2 {b:Nat} {s:ByteArray} {i:Nat} {E:Int} {a:Nat} {w:World} (h:VS b s i E a w):w.frozen? ⟨b,2,none⟩=false:=Lib.frozen_of_heap h 2
theorem VS.f3 {b:Nat} {s:ByteArray} {i:Nat} {E:Int} {a:Nat} {w:World} (h:VS b s i E a w):w.frozen? ⟨b,3,none⟩=false:=Lib.frozen_of_heap h 3
theorem VS.drew {b:Nat} {s:ByteArray} {i:Nat} {E:Int} {a:Nat} {w:World} (h:VS b s i E a w) (n:Nat):VS b s i E a (w.drewN n):=h
theorem VS.set1 {b:Nat} {s:ByteArray} {i:Nat} {E:Int} {a:Nat} {w:World} (h:VS b s i E a w) (j:Nat):VS b s j E a (w.setCell ⟨b,1,none⟩ (.int .i64 (j:Int))):=by
 unfold VS at h ⊢
 simp [World.setCell,Array.getElem?_modify,h]
theorem VS.set2 {b:Nat} {s:ByteArray} {i:Nat} {E:Int} {a:Nat} {w:World} (h:VS b s i E a w) (F:Int):VS b s i F a (w.setCell ⟨b,2,none⟩ (.int .i64 F)):=by
 unfold VS at h ⊢
 simp [World.setCell,Array.getElem?_modify,h]
theorem VS.set3 {b:Nat} {s:ByteArray} {i:Nat} {E:Int} {a:Nat} {w:World} (h:VS b s i E a w) (c:Nat):VS b s i E c (w.setCell ⟨b,3,none⟩ (.int .i64 (c:Int))):=by
 unfold VS at h ⊢
 simp [World.setCell,Array.getElem?_modify,h]
set_option maxHeartbeats 400000 in
theorem fail_first (b:Nat) (s:ByteArray) (i:Nat) (a:Nat) (F:Int) (c:Nat) (w:World) (h:VS b s i 0 a w) :
  Calls Tryz.prog 56 #[.pointer (some ⟨b,0,none⟩),.int .i64 F,.int .i64 (c:Int)] w fun e w'=>e=.returned (.tuple #[])/\VS b s i F c w'/\w.grownBy w' (some b):=by
 have h2:=h.c2
 have h3:=h.c3
 have f2:=h.f2
 have f3:=h.f3
 have HR:Hid (VS b s i 0 a w):=h
 clear h
 go_enter Tryz.func56,Tryz.ntmps56
 go_wp2
 go_end0
 exact ⟨rfl,(HR.out.set2 F).set3 c,gb_set (gb_set (gb_refl w _) _ _) _ _⟩
set_option maxHeartbeats 400000 in
theorem fail_later (b:Nat) (s:ByteArray) (i:Nat) (E:Int) (hE:E ≠ 0) (a:Nat) (F:Int) (c:Nat) (w:World) (h:VS b s i E a w) :
  Calls Tryz.prog 56 #[.pointer (some ⟨b,0,none⟩),.int .i64 F,.int .i64 (c:Int)] w fun e w'=>e=.returned (.tuple #[])/\VS b s i E a w'/\w.grownBy w' (some b):=by
 have h2:=h.c2
 have HR:Hid (VS b s i E a w):=h
 have hn:(E == 0)=false:=by simpa using hE
 clear h hE
 go_enter Tryz.func56,Tryz.ntmps56
 go_wp2
 go_end0
 exact ⟨rfl,HR.out,gb_refl w _⟩
set_option maxHeartbeats 400000 in
theorem must_yes (b:Nat) (s:ByteArray) (i:Nat) (E:Int) (a:Nat) (c:UInt8) (w:World) (hc:s.data.toList[i]?=some c) (h:VS b s i E a w) (hs:s.size < 2 ^ 62) :
  Calls Tryz.prog 54 #[.pointer (some ⟨b,0,none⟩),.int .u8 (c.toNat:Int)] w fun e w'=>e=.returned (.tuple #[])/\VS b s (i+1) E a w'/\w.grownBy w' (some b):=by
 have h0:=h.c0
 have h1:=h.c1
 have f1:=h.f1
 have HR:Hid (VS b s i E a w):=h
 clear h
 have hlt:i < s.size:=by have:=(List.getElem?_eq_some_iff.1 hc).1;simpa using this
 rw [get_data s i hlt] at hc
 have hc':s[i]=c:=Option.some.inj hc
 clear hc
 subst hc'
 have hd:decide ((s.size:Int)<=(i:Int))=false:=by simp;omega
 have hw:IntKind.i64.wrap ((i:Int)+1)=((i+1:Nat):Int):=by rw [IntKind.wrap_i64];omega
 go_enter Tryz.func54,Tryz.ntmps54
 go_wp2
 go_quiet (fail)
 go_wp2
 go_end0
 exact ⟨rfl,(HR.out.drew nq).set1 (i+1),gb_set (gb_drew (gb_refl w _) _) _ _⟩
set_option maxHeartbeats 400000 in
theorem must_no (b:Nat) (s:ByteArray) (i:Nat) (a:Nat) (c:UInt8) (w:World) (hi:i<=s.size) (hc:¬ s.data.toList[i]?=some c) (h:VS b s i 0 a w) (hs:s.size < 2 ^ 62) :
  Calls Tryz.prog 54 #[.pointer (some ⟨b,0,none⟩),.int .u8 (c.toNat:Int)] w fun e w'=>e=.returned (.tuple #[])/\VS b s i 2 i w'/\w.grownBy w' (some b):=by
 have h0:=h.c0
 have h1:=h.c1
 have HR:Hid (VS b s i 0 a w):=h
 clear h
 by_cases hlt:i < s.size
 ·rw [get_data s i hlt] at hc
  have hne:s[i] ≠ c:=fun e=>hc (by rw [e])
  have hn:((s[i].toNat:Int) == (c.toNat:Int))=false:=by
   simp only [beq_eq_false_iff_ne,ne_eq]
   intro e
   exact hne (UInt8.toNat_inj.1 (by omega))
  have hd:decide ((s.size:Int)<=(i:Int))=false:=by simp;omega
  have hm:((s[i].toNat:Int) != (c.toNat:Int))=true:=by rw [bne,hn];rfl
  clear hc hne
  go_enter Tryz.func54,Tryz.ntmps54
  go_wp2
  go_quiet (fail)
  have e1:(w.drewN nq).cell? ⟨b,1,none⟩=some (.int .i64 (i:Int)):=h1
  go_wp2_with (go_at_call 56;refine (fail_first b s i a 2 i _ (HR.out.drew _)).mono ?_)
  rintro e w1 ⟨rfl,hr,hg⟩
  go_wp2
  (try simp only [Exit.inBlock,Exit.then])
  refine bodyPost_ret (results_none rfl _ _ _) rfl ?_
  exact ⟨rfl,hr,gb_trans (gb_drew (gb_refl w _) _) hg⟩
 ·have hd:decide ((s.size:Int)<=(i:Int))=true:=by simp;omega
  clear hc
  go_enter Tryz.func54,Tryz.ntmps54
  go_wp2
  go_quiet (fail)
  have e1:(w.drewN nq).cell? ⟨b,1,none⟩=some (.int .i64 (i:Int)):=h1
  go_wp2_with (go_at_call 56;refine (fail_first b s i a 2 i _ (HR.out.drew _)).mono ?_)
  rintro e w1 ⟨rfl,hr,hg⟩
  go_wp2
  (try simp only [Exit.inBlock,Exit.then])
  refine bodyPost_ret (results_none rfl _ _ _) rfl ?_
  exact ⟨rfl,hr,gb_trans (gb_drew (gb_refl w _) _) hg⟩
open Go.RowKit
set_option linter.unusedVariables false
def capF (n:Int) (c:UInt8):Int:=if n<=999999999 then 10 * n+((c.toNat:Int) - 48) else n
def capN (l:List UInt8):Int:=l.foldl capF 0
theorem cap_take (T:List UInt8) (m:Nat) (hm:m < T.length):capN (T.take (m+1))=capF (capN (T.take m)) T[m]:=by
 rw [List.take_succ_eq_append_getElem hm];unfold capN;rw [List.foldl_append];rfl
theorem cap_facts (T:List UInt8) (h:T.all isD=true):∀m,m<=T.length->(0<=capN (T.take m)/\capN (T.take m)<=9999999999)/\(valN (T.take m)<=999999999->capN (T.take m)=valN (T.take m))/\(999999999 < valN (T.take m)->999999999 < capN (T.take m)):=by
 intro m
 induction m with
 | zero=>intro _;exact ⟨⟨Int.le_refl 0,by show (0:Int)<=_;omega⟩,fun _=>rfl,fun h=>absurd h (by show ¬ (999999999:Int) < 0;omega)⟩
 | succ m ih =>
  intro hm
  obtain ⟨i1,i2,i3⟩:=ih (by omega)
  have hdg:=isD_ge (List.all_eq_true.1 h T[m] (List.getElem_mem (by omega)))
  rw [cap_take T m (by omega),val_take T m (by omega)]
  have hv0:0<=valN (T.take m):=val_nn _ (List.all_eq_true.2 (fun c hc=>List.all_eq_true.1 h c (List.mem_of_mem_take hc)))
  unfold capF
  by_cases hb:valN (T.take m)<=999999999
  ·have e:=i2 hb
   rw [e,if_pos hb]
   refine ⟨⟨by omega,by omega⟩,fun _=>rfl,fun h=>h⟩
  ·have e:=i3 (by omega)
   rw [if_neg (by omega)]
   exact ⟨i1,fun h=>by omega,fun _=>e⟩
theorem VS.place {b:Nat} {s:ByteArray} {i:Nat} {E:Int} {a:Nat} {w:World} (h:VS b s i E a w):placeOf b w=i:=by unfold placeOf;rw [h.c1];simp
def NumPost (b:Nat) (s:ByteArray) (i:Nat) (w:World) (e:Ending) (w':World):Prop :=
 ∃(v:Int) (j:Nat) (E:Int) (c:Nat),e=.returned (.int .i64 v)/\VS b s j E c w'/\w.grownBy w' (some b)/\E=(rdNum s.data.toList i).1/\(E=0->v=(rdNum s.data.toList i).2.1/\j=(rdNum s.data.toList i).2.2/\j<=s.size)/\(E ≠ 0->c=(rdNum s.data.toList i).2.2)
set_option maxHeartbeats 1600000 in
theorem rnum_any (b:Nat) (s:ByteArray) (i:Nat) (a:Nat) (w:World) (hi:i<=s.size) (h:VS b s i 0 a w) (hs:s.size < 2 ^ 62) :
  Calls Tryz.prog 53 #[.pointer (some ⟨b,0,none⟩)] w (NumPost b s i w):=by
 have h1:=h.c1
 have HR:Hid (VS b s i 0 a w):=h
 have hsl:s.data.toList.length=s.size:=by simp
 have hle:i+runN isD s.data.toList i<=s.size:=by have:=runN_le isD s.data.toList i (by rw [hsl];exact hi);rw [hsl] at this;exact this
 have hln:=sub_len s.data.toList i (runN isD s.data.toList i) (by rw [hsl];exact hle)
 have hall:=sub_all isD s.data.toList i
 obtain ⟨k,hk⟩:∃k,runN isD s.data.toList i=k:=⟨_,rfl⟩
 have HS:Hid (∀hj:i+k < s.size,isD s[i+k]=false):=by
  show ∀hj:i+k < s.size,isD s[i+k]=false
  intro hj
  have:=runN_stop isD s.data.toList i (by rw [hk];simpa using hj)
  simp only [hk] at this
  exact this
 rw [hk] at hle hln hall
 obtain ⟨T,hT⟩:∃T,subT s.data.toList i k=T:=⟨_,rfl⟩
 have HTs:Hid (∀m (hm:m < k) (h2:i+m < s.size) (h3:m < T.length),s[i+m]=T[m]):=by
  show ∀m (hm:m < k) (h2:i+m < s.size) (h3:m < T.length),s[i+m]=T[m]
  intro m hm h2 h3
  have e1:T[m]?=s.data.toList[i+m]?:=by rw [<-hT];unfold subT;rw [List.getElem?_take_of_lt hm,List.getElem?_drop]
  rw [get_data s (i+m) h2,List.getElem?_eq_getElem h3] at e1
  exact (Option.some.inj e1).symm
 rw [hT] at hln hall
 have HP:Hid (∀(v:Int) (j:Nat) (E:Int) (c:Nat) (w':World),VS b s j E c w'->w.grownBy w' (some b) →
   (k=0/\E=2/\c=i\/¬ k=0/\(1 < k/\s.data.toList[i]?=some 48)/\E=2/\c=i\/¬ k=0/\¬ (1 < k/\s.data.toList[i]?=some 48)/\valN T > 999999999/\E=3/\c=i\/¬ k=0/\¬ (1 < k/\s.data.toList[i]?=some 48)/\¬ valN T > 999999999/\E=0/\v=valN T/\j=i+k)->NumPost b s i w (.returned (.int .i64 v)) w'):=by
  intro v j E c w' hv hg ho
  refine ⟨v,j,E,c,rfl,hv,hg,?_⟩
  unfold rdNum
  rw [hk,hT]
  rcases ho with ⟨o1,rfl,rfl⟩ | ⟨o1,o2,rfl,rfl⟩ | ⟨o1,o2,o3,rfl,rfl⟩ | ⟨o1,o2,o3,rfl,rfl,rfl⟩
  ·rw [if_pos o1];exact ⟨rfl,fun h=>absurd h (by decide),fun _=>rfl⟩
  ·rw [if_neg o1,if_pos o2];exact ⟨rfl,fun h=>absurd h (by decide),fun _=>rfl⟩
  ·rw [if_neg o1,if_neg o2,if_pos o3];exact ⟨rfl,fun h=>absurd h (by decide),fun _=>rfl⟩
  ·rw [if_neg o1,if_neg o2,if_neg o3];exact ⟨rfl,fun _=>⟨rfl,rfl,hle⟩,fun h=>absurd rfl h⟩
 have HD:Hid (∀m j (hm:m < k) (hj:j=i+m) (h2:j < s.size),isD s[j]=true):=by
  show ∀m j (hm:m < k) (hj:j=i+m) (h2:j < s.size),isD s[j]=true
  intro m j hm hj h2
  subst hj
  rw [HTs.out m hm h2 (by omega)]
  exact List.all_eq_true.1 hall _ (List.getElem_mem _)
 have HCT:Hid (∀m j (hm:m < k) (hj:j=i+m) (h2:j < s.size),capN (T.take (m+1))=capF (capN (T.take m)) s[j]):=by
  show ∀m j (hm:m < k) (hj:j=i+m) (h2:j < s.size),capN (T.take (m+1))=capF (capN (T.take m)) s[j]
  intro m j hm hj h2
  subst hj
  rw [HTs.out m hm h2 (by omega)]
  exact cap_take T m (by omega)
 have HC:Hid (T.length=k/\∀m,m<=k->(0<=capN (T.take m)/\capN (T.take m)<=9999999999)/\(valN (T.take m)<=999999999->capN (T.take m)=valN (T.take m))/\(999999999 < valN (T.take m)->999999999 < capN (T.take m))):=⟨hln,fun m hm=>cap_facts T hall m (by omega)⟩
 have HL:Hid (i+k<=s.size):=hle
 clear hk hT hln hall h hsl hle hi
 go_enter Tryz.func53,Tryz.ntmps53
 go_wp2
 go_loopw [4] (fun vn wr=>∃m j:Nat,j=i+m/\m<=k/\vn=.int .i64 (capN (T.take m))/\VS b s j 0 a wr/\w.grownBy wr (some b)) (fun _ wr=>s.size - placeOf b wr)
 case atStart=>exact ⟨0,i,rfl,Nat.zero_le _,rfl,HR.out,gb_refl _ _⟩
 case round =>
  obtain ⟨m,j,hj,hmk,rfl,hrs,hgb⟩:=hrel
  have d0:=hrs.c0
  have d1:=hrs.c1
  have df:=hrs.f1
  have HRS:Hid (VS b s j 0 a wr):=hrs
  have HGB:Hid (w.grownBy wr (some b)):=hgb
  have hil:=HL.out
  have hcb:=(HC.out.2 m hmk).1
  clear hrs hgb h1 HR
  by_cases hlt:m < k
  ·have hjs:j < s.size:=by omega
   have hD:isD s[j]=true:=HD.out m j hlt hj hjs
   have hdg:=isD_ge hD
   have HNX:Hid (capN (T.take (m+1))=capF (capN (T.take m)) s[j]):=HCT.out m j hlt hj hjs
   have HK:Hid (m < k/\j=i+m/\j < s.size):=⟨hlt,hj,hjs⟩
   obtain ⟨v,hv⟩:∃v,v=capN (T.take m):=⟨_,rfl⟩
   rw [<-hv] at hcb HNX
   rw [<-hv]
   clear hv hlt hil hmk hj
   have hlt2:(j:Int) < (s.size:Int):=by omega
   have hw:IntKind.i64.wrap ((j:Int)+1)=((j+1:Nat):Int):=by rw [IntKind.wrap_i64];omega
   by_cases hb:v<=999999999
   ·have r1:IntKind.i64.wrap (10 * v)=10 * v:=by rw [IntKind.wrap_i64];omega
    have r2:IntKind.i64.wrap (10 * v+(s[j].toNat:Int))=10 * v+(s[j].toNat:Int):=by rw [IntKind.wrap_i64];omega
    have r3:IntKind.i64.wrap (10 * v+(s[j].toNat:Int) - 48)=10 * v+(s[j].toNat:Int) - 48:=by rw [IntKind.wrap_i64];omega
    have HN:Hid (10 * v+(s[j].toNat:Int) - 48=capN (T.take (m+1))):=by show _=_;rw [HNX.out];unfold capF;rw [if_pos hb];omega
    go_wp2
    go_quiet (first | (go_at_call 85;exact Calls.quiet_of_same (rdigit_any _ _)))
    go_wp2
    have HPL:Hid (placeOf b wr=j):=HRS.out.place
    obtain ⟨W,hW⟩:∃W,wr.drewN nq=W:=⟨_,rfl⟩
    have e0:W.cell? ⟨b,0,none⟩=some (.string s):=by rw [<-hW];exact d0
    have e1:W.cell? ⟨b,1,none⟩=some (.int .i64 (j:Int)):=by rw [<-hW];exact d1
    have ef:W.frozen? ⟨b,1,none⟩=false:=by rw [<-hW];exact df
    have HW:Hid (VS b s j 0 a W/\w.grownBy W (some b)):=by
     show VS b s j 0 a W/\w.grownBy W (some b)
     rw [<-hW];exact ⟨HRS.out.drew _,gb_drew HGB.out _⟩
    rw [hW]
    clear hW d0 d1 df HRS HGB
    go_quiet (fail)
    go_wp2
    go_roundw
    case rel=>exact ⟨m+1,j+1,by have:=HK.out;omega,by have:=HK.out;omega,by rw [<-HN.out],(HW.out.1.drew _).set1 (j+1),gb_set (gb_drew HW.out.2 _) _ _⟩
    case measure =>
     have e2:=((HW.out.1.drew nq).set1 (j+1)).place
     rw [HPL.out]
     exact Nat.lt_of_le_of_lt (Nat.le_of_eq (congrArg (s.size - ·) e2)) (by omega)
   ·have HN:Hid (v=capN (T.take (m+1))):=by show _=_;rw [HNX.out];unfold capF;rw [if_neg hb]
    go_wp2
    go_quiet (first | (go_at_call 85;exact Calls.quiet_of_same (rdigit_any _ _)))
    go_wp2
    go_roundw
    case rel=>exact ⟨m+1,j+1,by have:=HK.out;omega,by have:=HK.out;omega,by rw [<-HN.out],(HRS.out.drew _).set1 (j+1),gb_set (gb_drew HGB.out _) _ _⟩
    case measure =>
     have e1:=HRS.out.place
     have e2:=((HRS.out.drew nq).set1 (j+1)).place
     rw [e1]
     exact Nat.lt_of_le_of_lt (Nat.le_of_eq (congrArg (s.size - ·) e2)) (by omega)
  ·have hmk2:m=k:=by omega
   subst m
   obtain ⟨v,hv⟩:∃v,v=capN (T.take k):=⟨_,rfl⟩
   have hTk:T.take k=T:=List.take_of_length_le (by rw [HC.out.1];exact Nat.le_refl _)
   have HVF:Hid ((valN T<=999999999->v=valN T)/\(999999999 < valN T->999999999 < v)):=by
    have:=(HC.out.2 k hmk).2
    rw [hTk] at this hv
    show (valN T<=999999999->v=valN T)/\(999999999 < valN T->999999999 < v)
    rw [hv];exact this
   have hv0:k=0->v=0:=fun h=>by rw [hv,h];rfl
   rw [<-hv] at hcb
   rw [<-hv]
   have HJ0:Hid (j=i+k/\i+k<=s.size):=⟨hj,hil⟩
   clear hv hTk HD HCT HC HTs hlt hmk hil
   by_cases hjs:j < s.size
   ·have hD:isD s[j]=false:=by subst hj;exact HS.out hjs
    have hlt2:(j:Int) < (s.size:Int):=by omega
    clear HS HL hj
    go_wp2
    go_quiet (first | (go_at_call 85;exact Calls.quiet_of_same (rdigit_any _ _)))
    obtain ⟨W,hW⟩:∃W,wr.drewN nq=W:=⟨_,rfl⟩
    have e0:W.cell? ⟨b,0,none⟩=some (.string s):=by rw [<-hW];exact d0
    have e1:W.cell? ⟨b,1,none⟩=some (.int .i64 (j:Int)):=by rw [<-hW];exact d1
    have ef:W.frozen? ⟨b,1,none⟩=false:=by rw [<-hW];exact df
    have HW:Hid (VS b s j 0 a W/\w.grownBy W (some b)):=by
     show VS b s j 0 a W/\w.grownBy W (some b)
     rw [<-hW];exact ⟨HRS.out.drew _,gb_drew HGB.out _⟩
    rw [hW]
    clear hW d0 d1 df HRS HGB
    have hj:=HJ0.out.1
    have hil:=HJ0.out.2
    have q2:IntKind.i64.wrap ((j:Int) - (i:Int))=(k:Int):=by rw [IntKind.wrap_i64];omega
    by_cases hk0:k=0
    ·have q1:((j:Int) == (i:Int))=true:=by simp;omega
     have q5:decide ((999999999:Int) < v)=false:=by simp;have:=hv0 hk0;omega
     have HO:Hid (k=0):=hk0
     clear hk0 hv0 hj hil q2
     go_wp2_with (go_at_call 56;refine (fail_first b s j a 2 i _ HW.out.1).mono ?_)
     rintro e w1 ⟨rfl,hr,hg⟩
     go_wp2
     go_ret
     exact HP.out _ j 2 i _ hr (gb_trans HW.out.2 hg) (Or.inl ⟨HO.out,rfl,rfl⟩)
    ·have q1:((j:Int) == (i:Int))=false:=by simp;omega
     have his:i < s.size:=by omega
     have hgd:=get_data s i his
     by_cases h1k:1 < k
     ·have q3:decide ((1:Int) < (k:Int))=true:=by simp;omega
      cases q4:((s[i].toNat:Int) == 48) with
      | true =>
       have HO:Hid (¬ k=0/\(1 < k/\s.data.toList[i]?=some 48)):=⟨hk0,h1k,by rw [hgd];congr 1;exact UInt8.toNat_inj.1 (by simp at q4;show s[i].toNat=48;omega)⟩
       clear hgd hk0 hv0 hj hil
       cases q5:decide ((999999999:Int) < v) with
       | true =>
        go_wp2_with (go_at_call 56;refine (fail_first b s j a 2 i _ HW.out.1).mono ?_)
        rintro e w1 ⟨rfl,hr,hg⟩
        go_wp2_with (go_at_call 56;refine (fail_later b s j 2 (by decide) i 3 i _ hr).mono ?_)
        rintro e w2 ⟨rfl,hr2,hg2⟩
        go_wp2
        go_ret
        exact HP.out _ j 2 i _ hr2 (gb_trans (gb_trans HW.out.2 hg) hg2) (Or.inr (Or.inl ⟨HO.out.1,HO.out.2,rfl,rfl⟩))
       | false =>
        go_wp2_with (go_at_call 56;refine (fail_first b s j a 2 i _ HW.out.1).mono ?_)
        rintro e w1 ⟨rfl,hr,hg⟩
        go_wp2
        go_ret
        exact HP.out _ j 2 i _ hr (gb_trans HW.out.2 hg) (Or.inr (Or.inl ⟨HO.out.1,HO.out.2,rfl,rfl⟩))
      | false =>
       have HO:Hid (¬ k=0/\¬ (1 < k/\s.data.toList[i]?=some 48)):=⟨hk0,fun h=>by
        have:=h.2;rw [hgd] at this
        have e:=Option.some.inj this
        rw [e] at q4;simp at q4⟩
       clear hgd hk0 hv0
       have HJ:Hid (j=i+k):=hj
       clear hj hil
       cases q5:decide ((999999999:Int) < v) with
       | true =>
        have HB:Hid (valN T > 999999999):=by
         show valN T > 999999999
         have h1:=of_decide_eq_true q5
         refine Int.not_le.1 (fun h2=>?_)
         have:=HVF.out.1 h2
         omega
        go_wp2_with (go_at_call 56;refine (fail_first b s j a 3 i _ HW.out.1).mono ?_)
        rintro e w1 ⟨rfl,hr,hg⟩
        go_wp2
        go_ret
        exact HP.out _ j 3 i _ hr (gb_trans HW.out.2 hg) (Or.inr (Or.inr (Or.inl ⟨HO.out.1,HO.out.2,HB.out,rfl,rfl⟩)))
       | false =>
        have HB:Hid (¬ valN T > 999999999):=by
         show ¬ valN T > 999999999
         have h1:=of_decide_eq_false q5
         exact fun h2=>h1 (HVF.out.2 h2)
        have HE:Hid (v=valN T):=HVF.out.1 (Int.not_lt.1 HB.out)
        go_wp2
        go_ret
        exact HP.out _ j 0 a _ HW.out.1 HW.out.2 (Or.inr (Or.inr (Or.inr ⟨HO.out.1,HO.out.2,HB.out,rfl,HE.out,HJ.out⟩)))
     ·have q3:decide ((1:Int) < (k:Int))=false:=by simp;omega
      have HO:Hid (¬ k=0/\¬ (1 < k/\s.data.toList[i]?=some 48)):=⟨hk0,fun h=>h1k h.1⟩
      clear hgd hk0 hv0
      have HJ:Hid (j=i+k):=hj
      clear hj hil
      cases q5:decide ((999999999:Int) < v) with
      | true =>
       have HB:Hid (valN T > 999999999):=by
        show valN T > 999999999
        have h1:=of_decide_eq_true q5
        refine Int.not_le.1 (fun h2=>?_)
        have:=HVF.out.1 h2
        omega
       go_wp2_with (go_at_call 56;refine (fail_first b s j a 3 i _ HW.out.1).mono ?_)
       rintro e w1 ⟨rfl,hr,hg⟩
       go_wp2
       go_ret
       exact HP.out _ j 3 i _ hr (gb_trans HW.out.2 hg) (Or.inr (Or.inr (Or.inl ⟨HO.out.1,HO.out.2,HB.out,rfl,rfl⟩)))
      | false =>
       have HB:Hid (¬ valN T > 999999999):=by
        show ¬ valN T > 999999999
        have h1:=of_decide_eq_false q5
        exact fun h2=>h1 (HVF.out.2 h2)
       have HE:Hid (v=valN T):=HVF.out.1 (Int.not_lt.1 HB.out)
       go_wp2
       go_ret
       exact HP.out _ j 0 a _ HW.out.1 HW.out.2 (Or.inr (Or.inr (Or.inr ⟨HO.out.1,HO.out.2,HB.out,rfl,HE.out,HJ.out⟩)))
   ·have hd2:decide ((j:Int) < (s.size:Int))=false:=by simp;omega
    clear HS HL hj
    go_wp2
    go_quiet (fail)
    obtain ⟨W,hW⟩:∃W,wr.drewN nq=W:=⟨_,rfl⟩
    have e0:W.cell? ⟨b,0,none⟩=some (.string s):=by rw [<-hW];exact d0
    have e1:W.cell? ⟨b,1,none⟩=some (.int .i64 (j:Int)):=by rw [<-hW];exact d1
    have ef:W.frozen? ⟨b,1,none⟩=false:=by rw [<-hW];exact df
    have HW:Hid (VS b s j 0 a W/\w.grownBy W (some b)):=by
     show VS b s j 0 a W/\w.grownBy W (some b)
     rw [<-hW];exact ⟨HRS.out.drew _,gb_drew HGB.out _⟩
    rw [hW]
    clear hW d0 d1 df HRS HGB
    have hj:=HJ0.out.1
    have hil:=HJ0.out.2
    have q2:IntKind.i64.wrap ((j:Int) - (i:Int))=(k:Int):=by rw [IntKind.wrap_i64];omega
    by_cases hk0:k=0
    ·have q1:((j:Int) == (i:Int))=true:=by simp;omega
     have q5:decide ((999999999:Int) < v)=false:=by simp;have:=hv0 hk0;omega
     have HO:Hid (k=0):=hk0
     clear hk0 hv0 hj hil q2
     go_wp2_with (go_at_call 56;refine (fail_first b s j a 2 i _ HW.out.1).mono ?_)
     rintro e w1 ⟨rfl,hr,hg⟩
     go_wp2
     go_ret
     exact HP.out _ j 2 i _ hr (gb_trans HW.out.2 hg) (Or.inl ⟨HO.out,rfl,rfl⟩)
    ·have q1:((j:Int) == (i:Int))=false:=by simp;omega
     have his:i < s.size:=by omega
     have hgd:=get_data s i his
     by_cases h1k:1 < k
     ·have q3:decide ((1:Int) < (k:Int))=true:=by simp;omega
      cases q4:((s[i].toNat:Int) == 48) with
      | true =>
       have HO:Hid (¬ k=0/\(1 < k/\s.data.toList[i]?=some 48)):=⟨hk0,h1k,by rw [hgd];congr 1;exact UInt8.toNat_inj.1 (by simp at q4;show s[i].toNat=48;omega)⟩
       clear hgd hk0 hv0 hj hil
       cases q5:decide ((999999999:Int) < v) with
       | true =>
        go_wp2_with (go_at_call 56;refine (fail_first b s j a 2 i _ HW.out.1).mono ?_)
        rintro e w1 ⟨rfl,hr,hg⟩
        go_wp2_with (go_at_call 56;refine (fail_later b s j 2 (by decide) i 3 i _ hr).mono ?_)
        rintro e w2 ⟨rfl,hr2,hg2⟩
        go_wp2
        go_ret
        exact HP.out _ j 2 i _ hr2 (gb_trans (gb_trans HW.out.2 hg) hg2) (Or.inr (Or.inl ⟨HO.out.1,HO.out.2,rfl,rfl⟩))
       | false =>
        go_wp2_with (go_at_call 56;refine (fail_first b s j a 2 i _ HW.out.1).mono ?_)
        rintro e w1 ⟨rfl,hr,hg⟩
        go_wp2
        go_ret
        exact HP.out _ j 2 i _ hr (gb_trans HW.out.2 hg) (Or.inr (Or.inl ⟨HO.out.1,HO.out.2,rfl,rfl⟩))
      | false =>
       have HO:Hid (¬ k=0/\¬ (1 < k/\s.data.toList[i]?=some 48)):=⟨hk0,fun h=>by
        have:=h.2;rw [hgd] at this
        have e:=Option.some.inj this
        rw [e] at q4;simp at q4⟩
       clear hgd hk0 hv0
       have HJ:Hid (j=i+k):=hj
       clear hj hil
       cases q5:decide ((999999999:Int) < v) with
       | true =>
        have HB:Hid (valN T > 999999999):=by
         show valN T > 999999999
         have h1:=of_decide_eq_true q5
         refine Int.not_le.1 (fun h2=>?_)
         have:=HVF.out.1 h2
         omega
        go_wp2_with (go_at_call 56;refine (fail_first b s j a 3 i _ HW.out.1).mono ?_)
        rintro e w1 ⟨rfl,hr,hg⟩
        go_wp2
        go_ret
        exact HP.out _ j 3 i _ hr (gb_trans HW.out.2 hg) (Or.inr (Or.inr (Or.inl ⟨HO.out.1,HO.out.2,HB.out,rfl,rfl⟩)))
       | false =>
        have HB:Hid (¬ valN T > 999999999):=by
         show ¬ valN T > 999999999
         have h1:=of_decide_eq_false q5
         exact fun h2=>h1 (HVF.out.2 h2)
        have HE:Hid (v=valN T):=HVF.out.1 (Int.not_lt.1 HB.out)
        go_wp2
        go_ret
        exact HP.out _ j 0 a _ HW.out.1 HW.out.2 (Or.inr (Or.inr (Or.inr ⟨HO.out.1,HO.out.2,HB.out,rfl,HE.out,HJ.out⟩)))
     ·have q3:decide ((1:Int) < (k:Int))=false:=by simp;omega
      have HO:Hid (¬ k=0/\¬ (1 < k/\s.data.toList[i]?=some 48)):=⟨hk0,fun h=>h1k h.1⟩
      clear hgd hk0 hv0
      have HJ:Hid (j=i+k):=hj
      clear hj hil
      cases q5:decide ((999999999:Int) < v) with
      | true =>
       have HB:Hid (valN T > 999999999):=by
        show valN T > 999999999
        have h1:=of_decide_eq_true q5
        refine Int.not_le.1 (fun h2=>?_)
        have:=HVF.out.1 h2
        omega
       go_wp2_with (go_at_call 56;refine (fail_first b s j a 3 i _ HW.out.1).mono ?_)
       rintro e w1 ⟨rfl,hr,hg⟩
       go_wp2
       go_ret
       exact HP.out _ j 3 i _ hr (gb_trans HW.out.2 hg) (Or.inr (Or.inr (Or.inl ⟨HO.out.1,HO.out.2,HB.out,rfl,rfl⟩)))
      | false =>
       have HB:Hid (¬ valN T > 999999999):=by
        show ¬ valN T > 999999999
        have h1:=of_decide_eq_false q5
        exact fun h2=>h1 (HVF.out.2 h2)
       have HE:Hid (v=valN T):=HVF.out.1 (Int.not_lt.1 HB.out)
       go_wp2
       go_ret
       exact HP.out _ j 0 a _ HW.out.1 HW.out.2 (Or.inr (Or.inr (Or.inr ⟨HO.out.1,HO.out.2,HB.out,rfl,HE.out,HJ.out⟩)))
end Go.Proofs.YtonfldbigenfhaaGreatDoor
