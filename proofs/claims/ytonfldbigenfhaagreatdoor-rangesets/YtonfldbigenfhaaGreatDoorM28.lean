import Derived.Test.YtonfldbigenfhaaGreatDoorM27
namespace Go.Proofs.YtonfldbigenfhaaGreatDoor
open Go.RowKit
set_option linter.unusedVariables false
def moreOf:Value->Nat
 | .bool true=>1
 | _=>0
def PartsPost (st:Bool) (b:Nat) (s:ByteArray) (i:Nat) (w:World) (e:Ending) (w':World):Prop :=
 ∃(v:ByteArray) (j:Nat) (E:Int) (c:Nat),e=.returned (.string v)/\VS b s j E c w'/\w.grownBy w' (some b)/\E=(rdParts st s.data.toList i).1/\(E=0->v=⟨(subT s.data.toList i (j - i)).toArray⟩/\j=(rdParts st s.data.toList i).2/\j<=s.size)/\(E ≠ 0->c=(rdParts st s.data.toList i).2)
set_option maxRecDepth 100000 in
set_option maxHeartbeats 6400000 in
theorem rparts_any (st:Bool) (b:Nat) (s:ByteArray) (i:Nat) (a:Nat) (w:World) (hi:i<=s.size) (h:VS b s i 0 a w) (hs:s.size < 2 ^ 62) :
  Calls Tryz.prog 86 #[.pointer (some ⟨b,0,none⟩),.bool st] w (PartsPost st b s i w):=by
 have h1:=h.c1
 have HR:Hid (VS b s i 0 a w):=h
 have HI:Hid (i<=s.size):=hi
 obtain ⟨R,hR⟩:∃R,rdParts st s.data.toList i=R:=⟨_,rfl⟩
 have HRR:Hid (rdParts st s.data.toList i=R):=hR
 have HP:Hid (∀(v:ByteArray) (j:Nat) (E:Int) (c:Nat) (w':World),VS b s j E c w'->w.grownBy w' (some b)->v=⟨(subT s.data.toList i (j - i)).toArray⟩->j<=s.size->(E=0->R=(0,j))->(E ≠ 0->R=(E,c))->PartsPost st b s i w (.returned (.string v)) w'):=by
  intro v j E c w' hv hg he hj h0 h1
  refine ⟨v,j,E,c,rfl,hv,hg,?_⟩
  rw [hR]
  by_cases hE:E=0
  ·have:=h0 hE;subst hE;rw [this];exact ⟨rfl,fun _=>⟨he,rfl,hj⟩,fun h=>absurd rfl h⟩
  ·have:=h1 hE;rw [this];exact ⟨rfl,fun h=>absurd h hE,fun _=>rfl⟩
 clear hR h hi
 go_enter Tryz.func86,Tryz.ntmps86
 go_wp2
 go_loopw [6] (fun vm wr=>∃(mo:Bool) (j c:Nat) (E:Int),vm=.bool mo/\i<=j/\j<=s.size/\VS b s j E c wr/\w.grownBy wr (some b)/\(E=0->(mo=true->rdParts st s.data.toList j=R)/\(mo=false->R=(0,j)))/\(E ≠ 0->R=(E,c))) (fun vm wr=>2 * (s.size - placeOf b wr)+moreOf vm)
 case atStart=>exact ⟨true,i,a,0,rfl,Nat.le_refl _,HI.out,HR.out,gb_refl _ _,fun _=>⟨fun _=>HRR.out,fun h=>absurd h (by decide)⟩,fun h=>absurd rfl h⟩
 case round =>
  obtain ⟨mo,j,c,E,rfl,hij,hjs,hrs,hgb,hp0,hp1⟩:=hrel
  have d0:=hrs.c0
  have d1:=hrs.c1
  have d2:=hrs.c2
  have df:=hrs.f1
  have HRS:Hid (VS b s j E c wr):=hrs
  have HGB:Hid (w.grownBy wr (some b)):=hgb
  have HP0:Hid (E=0->(mo=true->rdParts st s.data.toList j=R)/\(mo=false->R=(0,j))):=hp0
  have HP1:Hid (E ≠ 0->R=(E,c)):=hp1
  have HJ:Hid (i<=j/\j<=s.size):=⟨hij,hjs⟩
  clear hrs hgb h1 HR hp0 hp1 hij hjs
  have sl:∀wx,(Instr.slice 9 (.string s) (some (.int .i64 (i:Int))) (some (.int .i64 (j:Int))) none).run Tryz.prog wx=.ok (.string ⟨(subT s.data.toList i (j - i)).toArray⟩) wx:=fun wx=>run_sub s i j HJ.out.1 HJ.out.2 wx
  cases mo with
  | false =>
   go_wp2
   go_quiet (fail)
   go_wp2
   go_ret
   exact HP.out _ j E c _ (HRS.out.drew _) (gb_drew HGB.out _) rfl HJ.out.2 (fun h=>(HP0.out h).2 (by first | rfl | trivial)) HP1.out
  | true =>
   cases hz:(E == 0) with
   | false =>
    go_wp2
    go_quiet (fail)
    go_wp2
    go_ret
    exact HP.out _ j E c _ (HRS.out.drew _) (gb_drew HGB.out _) rfl HJ.out.2 (fun h=>absurd h (by simpa using hz)) HP1.out
   | true =>
    have hE:E=0:=by simpa using hz
    subst hE
    have HRD:Hid (rdParts st s.data.toList j=R):=(HP0.out rfl).1 rfl
    have HPL:Hid (placeOf b wr=j):=HRS.out.place
    obtain ⟨k,hk⟩:∃k,runN isP s.data.toList j=k:=⟨_,rfl⟩
    have hsl:s.data.toList.length=s.size:=by simp
    have HN:Hid (j+k<=s.size):=by
     show j+k<=s.size
     have:=runN_le isP s.data.toList j (by rw [hsl];exact HJ.out.2)
     rw [hsl] at this;omega
    have HA:Hid (∀q,j<=q->(hq:q < s.size)->q < j+k->isP s[q]=true):=by
     show ∀q,j<=q->(hq:q < s.size)->q < j+k->isP s[q]=true
     intro q h1 hq h2
     obtain ⟨g1,g2⟩:=runN_at isP s.data.toList j (q - j) (by omega)
     have e:j+(q - j)=q:=by omega
     simp only [e] at g2
     exact g2
    have HS:Hid (∀q,q=j+k->(hq:q < s.size)->isP s[q]=false):=by
     show ∀q,q=j+k->(hq:q < s.size)->isP s[q]=false
     intro q e hq
     have:=runN_stop isP s.data.toList j (by rw [hk];simpa [<-e] using hq)
     simp only [hk,<-e] at this
     exact this
    obtain ⟨T,hT⟩:∃T,subT s.data.toList j k=T:=⟨_,rfl⟩
    have HTl:Hid (T.length=k):=by show T.length=k;rw [<-hT];exact sub_len s.data.toList j k (by rw [hsl];exact HN.out)
    obtain ⟨X,hX⟩:∃X:ByteArray,X=⟨T.toArray⟩:=⟨_,rfl⟩
    have HXT:Hid (X.data.toList=T):=by show X.data.toList=T;rw [hX]
    have HSL:Hid (∀q,q=j+k->∀wx,(Instr.slice 9 (.string s) (some (.int .i64 (j:Int))) (some (.int .i64 (q:Int))) none).run Tryz.prog wx=.ok (.string X) wx):=by
     show ∀q,q=j+k->∀wx,(Instr.slice 9 (.string s) (some (.int .i64 (j:Int))) (some (.int .i64 (q:Int))) none).run Tryz.prog wx=.ok (.string X) wx
     intro q e wx
     subst e
     have:=run_sub s j (j+k) (by omega) HN.out wx
     rw [show j+k - j=k by omega,hT,<-hX] at this
     exact this
    have HST:Hid ((if k=0 then (2,j) else if badZ st T=true then (2,j) else if s.data.toList[j+k]?=some 46 then rdParts st s.data.toList (j+k+1) else (0,j+k))=R):=by
     have:=HRD.out
     rw [rdParts_eq,hk,hT] at this
     exact this
    clear hz sl hk hT hX HRD HP0 HP1 hsl
    go_wp2
    go_loopw [] (fun wq=>∃q:Nat,j<=q/\q<=j+k/\VS b s q 0 c wq/\w.grownBy wq (some b)) (fun wq=>s.size - placeOf b wq)
    case atStart=>exact ⟨j,Nat.le_refl _,Nat.le_add_right _ _,HRS.out,HGB.out⟩
    clear HRS HGB d0 d1 d2 df
    rename_i wr0 _ _ _
    obtain ⟨q,hjq,hqn,hrs,hgb⟩:=hrel
    have d0:=hrs.c0
    have d1:=hrs.c1
    have df:=hrs.f1
    have HRS:Hid (VS b s q 0 c wr):=hrs
    have HGB:Hid (w.grownBy wr (some b)):=hgb
    have hns:=HN.out
    clear hrs hgb
    by_cases hlt:q < j+k
    ·have hqs:q < s.size:=by omega
     have hD:isP s[q]=true:=HA.out q hjq hqs hlt
     have HK:Hid (j<=q/\q < j+k/\q < s.size):=⟨hjq,hlt,hqs⟩
     have hlt2:(q:Int) < (s.size:Int):=by omega
     have hw:IntKind.i64.wrap ((q:Int)+1)=((q+1:Nat):Int):=by rw [IntKind.wrap_i64];omega
     clear hlt hqn hns hjq
     go_wp2
     go_quiet (first | (go_at_call 69;exact Calls.quiet_of_same (rpartByte_any _ _)))
     go_wp2
     go_roundw
     case rel =>
      have:=HK.out
      exact ⟨q+1,by omega,by omega,(HRS.out.drew _).set1 (q+1),gb_set (gb_drew HGB.out _) _ _⟩
     case measure =>
      have e1:=HRS.out.place
      have e2:=((HRS.out.drew nq).set1 (q+1)).place
      rw [e1]
      exact Nat.lt_of_le_of_lt (Nat.le_of_eq (congrArg (s.size - ·) e2)) (by have:=HK.out;omega)
    ·have HQ:Hid (q=j+k):=by show q=j+k;omega
     have sl2:=HSL.out q HQ.out
     clear hlt hqn hns hjq
     by_cases hqs:q < s.size
     ·have hD:isP s[q]=false:=HS.out q HQ.out hqs
      have hlt2:(q:Int) < (s.size:Int):=by omega
      go_wp2
      go_quiet (first | (go_at_call 69;exact Calls.quiet_of_same (rpartByte_any _ _)))
      obtain ⟨W,hW⟩:∃W,wr.drewN nq=W:=⟨_,rfl⟩
      have e0:W.cell? ⟨b,0,none⟩=some (.string s):=by rw [<-hW];exact d0
      have e1:W.cell? ⟨b,1,none⟩=some (.int .i64 (q:Int)):=by rw [<-hW];exact d1
      have ef:W.frozen? ⟨b,1,none⟩=false:=by rw [<-hW];exact df
      have HW:Hid (VS b s q 0 c W/\w.grownBy W (some b)):=by
       show VS b s q 0 c W/\w.grownBy W (some b)
       rw [<-hW];exact ⟨HRS.out.drew _,gb_drew HGB.out _⟩
      rw [hW]
      clear hW d0 d1 df HRS HGB
      go_wp2
      go_quiet (fail)
      obtain ⟨U,hU⟩:∃U,W.drewN nq=U:=⟨_,rfl⟩
      have g0:U.cell? ⟨b,0,none⟩=some (.string s):=by rw [<-hU];exact e0
      have g1:U.cell? ⟨b,1,none⟩=some (.int .i64 (q:Int)):=by rw [<-hU];exact e1
      have gf:U.frozen? ⟨b,1,none⟩=false:=by rw [<-hU];exact ef
      have HU:Hid (VS b s q 0 c U/\w.grownBy U (some b)):=by
       show VS b s q 0 c U/\w.grownBy U (some b)
       rw [<-hU];exact ⟨HW.out.1.drew _,gb_drew HW.out.2 _⟩
      rw [hU]
      clear hU e0 e1 ef HW sl2
      have hXs:X.size=k:=by
       have h1:=HTl.out
       rw [<-HXT.out] at h1
       simpa using h1
      obtain ⟨ad,had⟩:∃ad,X.data.toList.all isD=ad:=⟨_,rfl⟩
      have CD:Hid (∀w,Calls Tryz.prog 70 #[.string X] w fun e w'=>e=.returned (.bool ad)/\w'=w):=fun w=>by rw [<-had];exact rdigits_any X w (by have:=HN.out;omega)
      have HBZ:Hid (badZ st T=(st && (ad && (decide (1 < k) && decide (T[0]?=some 48))))):=by
       show _=_
       rw [<-had,HXT.out];unfold badZ;rw [HTl.out]
      clear had
      have HJQ:Hid (i<=j/\j<=q/\q<=s.size):=by
       have a1:=HJ.out
       have a2:=HQ.out
       have a3:=HN.out
       exact ⟨a1.1,by omega,by omega⟩
      have hw:IntKind.i64.wrap ((q:Int)+1)=((q+1:Nat):Int):=by rw [IntKind.wrap_i64];have:=HJQ.out;omega
      cases q46:((s[q].toNat:Int) == 46) with
      | true =>
       have HDT:Hid (s.data.toList[q]?=some 46):=by
        show s.data.toList[q]?=some 46
        rw [get_data s q hqs];congr 1;exact UInt8.toNat_inj.1 (by simp at q46;show s[q].toNat=46;omega)
       replace HJQ:Hid ((i<=j/\j<=q/\q<=s.size)/\q < s.size):=⟨HJQ.out,hqs⟩
       by_cases hk0:k=0
       ·have m1:=emp_t2 (hXs.trans hk0)
        have m2:decide ((1:Int) < (X.size:Int))=false:=by simp;omega
        have HRV:Hid (R=(2,q)):=by
         show R=(2,q)
         rw [HQ.out,<-HST.out,if_pos hk0,hk0];rfl
        clear hk0 hXs HBZ HST
        cases st with
        | false =>
         go_wp2_with (first | (go_at_call 70;refine (CD.out _).mono ?_;rintro e w' ⟨rfl,rfl⟩) | (go_at_call 56;refine (fail_first b s q c 2 q _ HU.out.1).mono ?_))
         rintro e w1 ⟨rfl,hr,hg⟩
         have y0:=hr.c0
         have y1:=hr.c1
         have yf:=hr.f1
         have HY:Hid (VS b s q 2 q w1/\w.grownBy w1 (some b)):=⟨hr,gb_trans HU.out.2 hg⟩
         clear hr hg g0 g1 gf HU
         go_wp2
         all_goals
          go_quiet (fail)
          go_wp2
          go_roundw
          case rel=>exact ⟨true,q+1,q,2,rfl,by have:=HJQ.out;omega,by have:=HJQ.out;omega,(HY.out.1.drew _).set1 (q+1),gb_set (gb_drew HY.out.2 _) _ _,fun h=>absurd h (by decide),fun _=>HRV.out⟩
          case measure =>
           have e2:=((HY.out.1.drew nq).set1 (q+1)).place
           rw [HPL.out]
           refine Nat.lt_of_le_of_lt (Nat.le_of_eq (congrArg (fun x=>2 * (s.size - x)+1) e2)) ?_
           have:=HJQ.out
           show 2 * (s.size - (q+1))+1 < 2 * (s.size - j)+1
           omega
        | true =>
         cases ad with
         | false =>
          go_wp2_with (first | (go_at_call 70;refine (CD.out _).mono ?_;rintro e w' ⟨rfl,rfl⟩) | (go_at_call 56;refine (fail_first b s q c 2 q _ HU.out.1).mono ?_))
          rintro e w1 ⟨rfl,hr,hg⟩
          have y0:=hr.c0
          have y1:=hr.c1
          have yf:=hr.f1
          have HY:Hid (VS b s q 2 q w1/\w.grownBy w1 (some b)):=⟨hr,gb_trans HU.out.2 hg⟩
          clear hr hg g0 g1 gf HU
          go_wp2
          all_goals
           go_quiet (fail)
           go_wp2
           go_roundw
           case rel=>exact ⟨true,q+1,q,2,rfl,by have:=HJQ.out;omega,by have:=HJQ.out;omega,(HY.out.1.drew _).set1 (q+1),gb_set (gb_drew HY.out.2 _) _ _,fun h=>absurd h (by decide),fun _=>HRV.out⟩
           case measure =>
            have e2:=((HY.out.1.drew nq).set1 (q+1)).place
            rw [HPL.out]
            refine Nat.lt_of_le_of_lt (Nat.le_of_eq (congrArg (fun x=>2 * (s.size - x)+1) e2)) ?_
            have:=HJQ.out
            show 2 * (s.size - (q+1))+1 < 2 * (s.size - j)+1
            omega
         | true =>
          go_wp2_with (first | (go_at_call 70;refine (CD.out _).mono ?_;rintro e w' ⟨rfl,rfl⟩) | (go_at_call 56;refine (fail_first b s q c 2 q _ HU.out.1).mono ?_))
          rintro e w1 ⟨rfl,hr,hg⟩
          have y0:=hr.c0
          have y1:=hr.c1
          have yf:=hr.f1
          have HY:Hid (VS b s q 2 q w1/\w.grownBy w1 (some b)):=⟨hr,gb_trans HU.out.2 hg⟩
          clear hr hg g0 g1 gf HU
          go_wp2
          all_goals
           go_quiet (fail)
           go_wp2
           go_roundw
           case rel=>exact ⟨true,q+1,q,2,rfl,by have:=HJQ.out;omega,by have:=HJQ.out;omega,(HY.out.1.drew _).set1 (q+1),gb_set (gb_drew HY.out.2 _) _ _,fun h=>absurd h (by decide),fun _=>HRV.out⟩
           case measure =>
            have e2:=((HY.out.1.drew nq).set1 (q+1)).place
            rw [HPL.out]
            refine Nat.lt_of_le_of_lt (Nat.le_of_eq (congrArg (fun x=>2 * (s.size - x)+1) e2)) ?_
            have:=HJQ.out
            show 2 * (s.size - (q+1))+1 < 2 * (s.size - j)+1
            omega
       ·have m1:=emp_f2 (fun h=>hk0 (hXs.symm.trans h))
        have h0X:0 < X.size:=by omega
        have HT0:Hid (T[0]?=some X[0]):=by show T[0]?=some X[0];rw [<-HXT.out,get_data X 0 h0X]
        have HZ:Hid ((if badZ st T=true then (2,j) else if s.data.toList[j+k]?=some 46 then rdParts st s.data.toList (j+k+1) else (0,j+k))=R):=by
         have:=HST.out
         rw [if_neg hk0] at this
         exact this
        have HG:Hid (badZ st T=false->rdParts st s.data.toList (q+1)=R):=by
         intro h
         have:=HZ.out
         rw [if_neg (by rw [h];decide)] at this
         rw [<-HQ.out,if_pos HDT.out] at this
         exact this
        have HXk:Hid (X.size=k):=hXs
        clear hk0 hXs HST
        cases st with
        | false =>
         have HRV:Hid (rdParts false s.data.toList (q+1)=R):=HG.out (by rw [HBZ.out];rfl)
         have HY:Hid (VS b s q 0 c U/\w.grownBy U (some b)):=HU.out
         clear HBZ HG HZ HU
         go_wp2_with (first | (go_at_call 70;refine (CD.out _).mono ?_;rintro e w' ⟨rfl,rfl⟩))
         all_goals
          go_quiet (fail)
          go_wp2
          go_roundw
          case rel=>exact ⟨true,q+1,c,0,rfl,by have:=HJQ.out;omega,by have:=HJQ.out;omega,(HY.out.1.drew _).set1 (q+1),gb_set (gb_drew HY.out.2 _) _ _,fun _=>⟨fun _=>HRV.out,fun h=>absurd h (by decide)⟩,fun h=>absurd rfl h⟩
          case measure =>
           have e2:=((HY.out.1.drew nq).set1 (q+1)).place
           rw [HPL.out]
           refine Nat.lt_of_le_of_lt (Nat.le_of_eq (congrArg (fun x=>2 * (s.size - x)+1) e2)) ?_
           have:=HJQ.out
           show 2 * (s.size - (q+1))+1 < 2 * (s.size - j)+1
           omega
        | true =>
         cases ad with
         | false =>
          have HRV:Hid (rdParts true s.data.toList (q+1)=R):=HG.out (by rw [HBZ.out];rfl)
          have HY:Hid (VS b s q 0 c U/\w.grownBy U (some b)):=HU.out
          clear HBZ HG HZ HU
          go_wp2_with (first | (go_at_call 70;refine (CD.out _).mono ?_;rintro e w' ⟨rfl,rfl⟩))
          all_goals
           go_quiet (fail)
           go_wp2
           go_roundw
           case rel=>exact ⟨true,q+1,c,0,rfl,by have:=HJQ.out;omega,by have:=HJQ.out;omega,(HY.out.1.drew _).set1 (q+1),gb_set (gb_drew HY.out.2 _) _ _,fun _=>⟨fun _=>HRV.out,fun h=>absurd h (by decide)⟩,fun h=>absurd rfl h⟩
           case measure =>
            have e2:=((HY.out.1.drew nq).set1 (q+1)).place
            rw [HPL.out]
            refine Nat.lt_of_le_of_lt (Nat.le_of_eq (congrArg (fun x=>2 * (s.size - x)+1) e2)) ?_
            have:=HJQ.out
            show 2 * (s.size - (q+1))+1 < 2 * (s.size - j)+1
            omega
         | true =>
          cases m2:decide ((1:Int) < (X.size:Int)) with
          | false =>
           have HRV:Hid (rdParts true s.data.toList (q+1)=R):=HG.out (by
            rw [HBZ.out]
            have h1:=of_decide_eq_false m2
            have h2:=HXk.out
            rw [show decide (1 < k)=false from by simp;omega];rfl)
           have HY:Hid (VS b s q 0 c U/\w.grownBy U (some b)):=HU.out
           clear HBZ HG HZ HU
           go_wp2_with (first | (go_at_call 70;refine (CD.out _).mono ?_;rintro e w' ⟨rfl,rfl⟩))
           all_goals
            go_quiet (fail)
            go_wp2
            go_roundw
            case rel=>exact ⟨true,q+1,c,0,rfl,by have:=HJQ.out;omega,by have:=HJQ.out;omega,(HY.out.1.drew _).set1 (q+1),gb_set (gb_drew HY.out.2 _) _ _,fun _=>⟨fun _=>HRV.out,fun h=>absurd h (by decide)⟩,fun h=>absurd rfl h⟩
            case measure =>
             have e2:=((HY.out.1.drew nq).set1 (q+1)).place
             rw [HPL.out]
             refine Nat.lt_of_le_of_lt (Nat.le_of_eq (congrArg (fun x=>2 * (s.size - x)+1) e2)) ?_
             have:=HJQ.out
             show 2 * (s.size - (q+1))+1 < 2 * (s.size - j)+1
             omega
          | true =>
           cases m3:((X[0].toNat:Int) == 48) with
           | false =>
            have HRV:Hid (rdParts true s.data.toList (q+1)=R):=HG.out (by
             rw [HBZ.out,HT0.out]
             rw [show decide (some X[0]=some (48:UInt8))=false from by
              simp only [decide_eq_false_iff_not]
              intro e
              have:=Option.some.inj e
              rw [this] at m3
              exact absurd m3 (by decide)]
             simp)
            have HY:Hid (VS b s q 0 c U/\w.grownBy U (some b)):=HU.out
            clear HBZ HG HZ HU
            go_wp2_with (first | (go_at_call 70;refine (CD.out _).mono ?_;rintro e w' ⟨rfl,rfl⟩))
            all_goals
             go_quiet (fail)
             go_wp2
             go_roundw
             case rel=>exact ⟨true,q+1,c,0,rfl,by have:=HJQ.out;omega,by have:=HJQ.out;omega,(HY.out.1.drew _).set1 (q+1),gb_set (gb_drew HY.out.2 _) _ _,fun _=>⟨fun _=>HRV.out,fun h=>absurd h (by decide)⟩,fun h=>absurd rfl h⟩
             case measure =>
              have e2:=((HY.out.1.drew nq).set1 (q+1)).place
              rw [HPL.out]
              refine Nat.lt_of_le_of_lt (Nat.le_of_eq (congrArg (fun x=>2 * (s.size - x)+1) e2)) ?_
              have:=HJQ.out
              show 2 * (s.size - (q+1))+1 < 2 * (s.size - j)+1
              omega
           | true =>
            have HRV:Hid (R=(2,j)):=by
             show R=(2,j)
             rw [<-HZ.out,if_pos]
             have h1:=of_decide_eq_true m2
             have h2:=HXk.out
             rw [HBZ.out,HT0.out,show decide (1 < k)=true from by simp;omega,show X[0]=48 from UInt8.toNat_inj.1 (by simp at m3;show X[0].toNat=48;omega)]
             decide
            clear HBZ HG HZ
            go_wp2_with (first | (go_at_call 70;refine (CD.out _).mono ?_;rintro e w' ⟨rfl,rfl⟩) | (go_at_call 56;refine (fail_first b s q c 2 j _ HU.out.1).mono ?_))
            all_goals rintro e w1 ⟨rfl,hr,hg⟩
            all_goals
             have y0:=hr.c0
             have y1:=hr.c1
             have yf:=hr.f1
             have HY:Hid (VS b s q 2 j w1/\w.grownBy w1 (some b)):=⟨hr,gb_trans HU.out.2 hg⟩
             clear hr hg g0 g1 gf HU
             go_wp2
             all_goals
              go_quiet (fail)
              go_wp2
              go_roundw
              case rel=>exact ⟨true,q+1,j,2,rfl,by have:=HJQ.out;omega,by have:=HJQ.out;omega,(HY.out.1.drew _).set1 (q+1),gb_set (gb_drew HY.out.2 _) _ _,fun h=>absurd h (by decide),fun _=>HRV.out⟩
              case measure =>
               have e2:=((HY.out.1.drew nq).set1 (q+1)).place
               rw [HPL.out]
               refine Nat.lt_of_le_of_lt (Nat.le_of_eq (congrArg (fun x=>2 * (s.size - x)+1) e2)) ?_
               have:=HJQ.out
               show 2 * (s.size - (q+1))+1 < 2 * (s.size - j)+1
               omega
      | false =>
       have HDT:Hid (¬ s.data.toList[q]?=some 46):=by
        show ¬ s.data.toList[q]?=some 46
        rw [get_data s q hqs]
        intro e
        have:=Option.some.inj e
        rw [this] at q46
        exact absurd q46 (by decide)
       by_cases hk0:k=0
       ·have m1:=emp_t2 (hXs.trans hk0)
        have m2:decide ((1:Int) < (X.size:Int))=false:=by simp;omega
        have HRV:Hid (R=(2,q)):=by
         show R=(2,q)
         rw [HQ.out,<-HST.out,if_pos hk0,hk0];rfl
        clear hk0 hXs HBZ HST
        cases st with
        | false =>
         go_wp2_with (first | (go_at_call 70;refine (CD.out _).mono ?_;rintro e w' ⟨rfl,rfl⟩) | (go_at_call 56;refine (fail_first b s q c 2 q _ HU.out.1).mono ?_))
         rintro e w1 ⟨rfl,hr,hg⟩
         have y0:=hr.c0
         have y1:=hr.c1
         have yf:=hr.f1
         have HY:Hid (VS b s q 2 q w1/\w.grownBy w1 (some b)):=⟨hr,gb_trans HU.out.2 hg⟩
         clear hr hg g0 g1 gf HU
         go_wp2
         all_goals
          go_quiet (fail)
          go_wp2
          go_roundw
          case rel=>exact ⟨false,q,q,2,rfl,by have:=HJQ.out;omega,by have:=HJQ.out;omega,HY.out.1.drew _,gb_drew HY.out.2 _,fun h=>absurd h (by decide),fun _=>HRV.out⟩
          case measure =>
           have e2:=(HY.out.1.drew nq).place
           rw [HPL.out]
           refine Nat.lt_of_le_of_lt (Nat.le_of_eq (congrArg (fun x=>2 * (s.size - x)+0) e2)) ?_
           have:=HJQ.out
           show 2 * (s.size - q)+0 < 2 * (s.size - j)+1
           omega
        | true =>
         cases ad with
         | false =>
          go_wp2_with (first | (go_at_call 70;refine (CD.out _).mono ?_;rintro e w' ⟨rfl,rfl⟩) | (go_at_call 56;refine (fail_first b s q c 2 q _ HU.out.1).mono ?_))
          rintro e w1 ⟨rfl,hr,hg⟩
          have y0:=hr.c0
          have y1:=hr.c1
          have yf:=hr.f1
          have HY:Hid (VS b s q 2 q w1/\w.grownBy w1 (some b)):=⟨hr,gb_trans HU.out.2 hg⟩
          clear hr hg g0 g1 gf HU
          go_wp2
          all_goals
           go_quiet (fail)
           go_wp2
           go_roundw
           case rel=>exact ⟨false,q,q,2,rfl,by have:=HJQ.out;omega,by have:=HJQ.out;omega,HY.out.1.drew _,gb_drew HY.out.2 _,fun h=>absurd h (by decide),fun _=>HRV.out⟩
           case measure =>
            have e2:=(HY.out.1.drew nq).place
            rw [HPL.out]
            refine Nat.lt_of_le_of_lt (Nat.le_of_eq (congrArg (fun x=>2 * (s.size - x)+0) e2)) ?_
            have:=HJQ.out
            show 2 * (s.size - q)+0 < 2 * (s.size - j)+1
            omega
         | true =>
          go_wp2_with (first | (go_at_call 70;refine (CD.out _).mono ?_;rintro e w' ⟨rfl,rfl⟩) | (go_at_call 56;refine (fail_first b s q c 2 q _ HU.out.1).mono ?_))
          rintro e w1 ⟨rfl,hr,hg⟩
          have y0:=hr.c0
          have y1:=hr.c1
          have yf:=hr.f1
          have HY:Hid (VS b s q 2 q w1/\w.grownBy w1 (some b)):=⟨hr,gb_trans HU.out.2 hg⟩
          clear hr hg g0 g1 gf HU
          go_wp2
          all_goals
           go_quiet (fail)
           go_wp2
           go_roundw
           case rel=>exact ⟨false,q,q,2,rfl,by have:=HJQ.out;omega,by have:=HJQ.out;omega,HY.out.1.drew _,gb_drew HY.out.2 _,fun h=>absurd h (by decide),fun _=>HRV.out⟩
           case measure =>
            have e2:=(HY.out.1.drew nq).place
            rw [HPL.out]
            refine Nat.lt_of_le_of_lt (Nat.le_of_eq (congrArg (fun x=>2 * (s.size - x)+0) e2)) ?_
            have:=HJQ.out
            show 2 * (s.size - q)+0 < 2 * (s.size - j)+1
            omega
       ·have m1:=emp_f2 (fun h=>hk0 (hXs.symm.trans h))
        have h0X:0 < X.size:=by omega
        have HT0:Hid (T[0]?=some X[0]):=by show T[0]?=some X[0];rw [<-HXT.out,get_data X 0 h0X]
        have HZ:Hid ((if badZ st T=true then (2,j) else if s.data.toList[j+k]?=some 46 then rdParts st s.data.toList (j+k+1) else (0,j+k))=R):=by
         have:=HST.out
         rw [if_neg hk0] at this
         exact this
        have HG:Hid (badZ st T=false->R=(0,q)):=by
         intro h
         have:=HZ.out
         rw [if_neg (by rw [h];decide)] at this
         rw [<-HQ.out,if_neg HDT.out] at this
         exact this.symm
        have HXk:Hid (X.size=k):=hXs
        clear hk0 hXs HST
        cases st with
        | false =>
         have HRV:Hid (R=(0,q)):=HG.out (by rw [HBZ.out];rfl)
         have HY:Hid (VS b s q 0 c U/\w.grownBy U (some b)):=HU.out
         clear HBZ HG HZ HU
         go_wp2_with (first | (go_at_call 70;refine (CD.out _).mono ?_;rintro e w' ⟨rfl,rfl⟩))
         all_goals
          go_quiet (fail)
          go_wp2
          go_roundw
          case rel=>exact ⟨false,q,c,0,rfl,by have:=HJQ.out;omega,by have:=HJQ.out;omega,HY.out.1.drew _,gb_drew HY.out.2 _,fun _=>⟨fun h=>absurd h (by decide),fun _=>HRV.out⟩,fun h=>absurd rfl h⟩
          case measure =>
           have e2:=(HY.out.1.drew nq).place
           rw [HPL.out]
           refine Nat.lt_of_le_of_lt (Nat.le_of_eq (congrArg (fun x=>2 * (s.size - x)+0) e2)) ?_
           have:=HJQ.out
           show 2 * (s.size - q)+0 < 2 * (s.size - j)+1
           omega
        | true =>
         cases ad with
         | false =>
          have HRV:Hid (R=(0,q)):=HG.out (by rw [HBZ.out];rfl)
          have HY:Hid (VS b s q 0 c U/\w.grownBy U (some b)):=HU.out
          clear HBZ HG HZ HU
          go_wp2_with (first | (go_at_call 70;refine (CD.out _).mono ?_;rintro e w' ⟨rfl,rfl⟩))
          all_goals
           go_quiet (fail)
           go_wp2
           go_roundw
           case rel=>exact ⟨false,q,c,0,rfl,by have:=HJQ.out;omega,by have:=HJQ.out;omega,HY.out.1.drew _,gb_drew HY.out.2 _,fun _=>⟨fun h=>absurd h (by decide),fun _=>HRV.out⟩,fun h=>absurd rfl h⟩
           case measure =>
            have e2:=(HY.out.1.drew nq).place
            rw [HPL.out]
            refine Nat.lt_of_le_of_lt (Nat.le_of_eq (congrArg (fun x=>2 * (s.size - x)+0) e2)) ?_
            have:=HJQ.out
            show 2 * (s.size - q)+0 < 2 * (s.size - j)+1
            omega
         | true =>
          cases m2:decide ((1:Int) < (X.size:Int)) with
          | false =>
           have HRV:Hid (R=(0,q)):=HG.out (by
            rw [HBZ.out]
            have h1:=of_decide_eq_false m2
            have h2:=HXk.out
            rw [show decide (1 < k)=false from by simp;omega];rfl)
           have HY:Hid (VS b s q 0 c U/\w.grownBy U (some b)):=HU.out
           clear HBZ HG HZ HU
           go_wp2_with (first | (go_at_call 70;refine (CD.out _).mono ?_;rintro e w' ⟨rfl,rfl⟩))
           all_goals
            go_quiet (fail)
            go_wp2
            go_roundw
            case rel=>exact ⟨false,q,c,0,rfl,by have:=HJQ.out;omega,by have:=HJQ.out;omega,HY.out.1.drew _,gb_drew HY.out.2 _,fun _=>⟨fun h=>absurd h (by decide),fun _=>HRV.out⟩,fun h=>absurd rfl h⟩
            case measure =>
             have e2:=(HY.out.1.drew nq).place
             rw [HPL.out]
             refine Nat.lt_of_le_of_lt (Nat.le_of_eq (congrArg (fun x=>2 * (s.size - x)+0) e2)) ?_
             have:=HJQ.out
             show 2 * (s.size - q)+0 < 2 * (s.size - j)+1
             omega
          | true =>
           cases m3:((X[0].toNat:Int) == 48) with
           | false =>
            have HRV:Hid (R=(0,q)):=HG.out (by
             rw [HBZ.out,HT0.out]
             rw [show decide (some X[0]=some (48:UInt8))=false from by
              simp only [decide_eq_false_iff_not]
              intro e
              have:=Option.some.inj e
              rw [this] at m3
              exact absurd m3 (by decide)]
             simp)
            have HY:Hid (VS b s q 0 c U/\w.grownBy U (some b)):=HU.out
            clear HBZ HG HZ HU
            go_wp2_with (first | (go_at_call 70;refine (CD.out _).mono ?_;rintro e w' ⟨rfl,rfl⟩))
            all_goals
             go_quiet (fail)
             go_wp2
             go_roundw
             case rel=>exact ⟨false,q,c,0,rfl,by have:=HJQ.out;omega,by have:=HJQ.out;omega,HY.out.1.drew _,gb_drew HY.out.2 _,fun _=>⟨fun h=>absurd h (by decide),fun _=>HRV.out⟩,fun h=>absurd rfl h⟩
             case measure =>
              have e2:=(HY.out.1.drew nq).place
              rw [HPL.out]
              refine Nat.lt_of_le_of_lt (Nat.le_of_eq (congrArg (fun x=>2 * (s.size - x)+0) e2)) ?_
              have:=HJQ.out
              show 2 * (s.size - q)+0 < 2 * (s.size - j)+1
              omega
           | true =>
            have HRV:Hid (R=(2,j)):=by
             show R=(2,j)
             rw [<-HZ.out,if_pos]
             have h1:=of_decide_eq_true m2
             have h2:=HXk.out
             rw [HBZ.out,HT0.out,show decide (1 < k)=true from by simp;omega,show X[0]=48 from UInt8.toNat_inj.1 (by simp at m3;show X[0].toNat=48;omega)]
             decide
            clear HBZ HG HZ
            go_wp2_with (first | (go_at_call 70;refine (CD.out _).mono ?_;rintro e w' ⟨rfl,rfl⟩) | (go_at_call 56;refine (fail_first b s q c 2 j _ HU.out.1).mono ?_))
            all_goals rintro e w1 ⟨rfl,hr,hg⟩
            all_goals
             have y0:=hr.c0
             have y1:=hr.c1
             have yf:=hr.f1
             have HY:Hid (VS b s q 2 j w1/\w.grownBy w1 (some b)):=⟨hr,gb_trans HU.out.2 hg⟩
             clear hr hg g0 g1 gf HU
             go_wp2
             all_goals
              go_quiet (fail)
              go_wp2
              go_roundw
              case rel=>exact ⟨false,q,j,2,rfl,by have:=HJQ.out;omega,by have:=HJQ.out;omega,HY.out.1.drew _,gb_drew HY.out.2 _,fun h=>absurd h (by decide),fun _=>HRV.out⟩
              case measure =>
               have e2:=(HY.out.1.drew nq).place
               rw [HPL.out]
               refine Nat.lt_of_le_of_lt (Nat.le_of_eq (congrArg (fun x=>2 * (s.size - x)+0) e2)) ?_
               have:=HJQ.out
               show 2 * (s.size - q)+0 < 2 * (s.size - j)+1
               omega
     ·have hd2:decide ((q:Int) < (s.size:Int))=false:=by simp;omega
      go_wp2
      go_quiet (fail)
      obtain ⟨W,hW⟩:∃W,wr.drewN nq=W:=⟨_,rfl⟩
      have e0:W.cell? ⟨b,0,none⟩=some (.string s):=by rw [<-hW];exact d0
      have e1:W.cell? ⟨b,1,none⟩=some (.int .i64 (q:Int)):=by rw [<-hW];exact d1
      have ef:W.frozen? ⟨b,1,none⟩=false:=by rw [<-hW];exact df
      have HW:Hid (VS b s q 0 c W/\w.grownBy W (some b)):=by
       show VS b s q 0 c W/\w.grownBy W (some b)
       rw [<-hW];exact ⟨HRS.out.drew _,gb_drew HGB.out _⟩
      rw [hW]
      clear hW d0 d1 df HRS HGB
      go_wp2
      go_quiet (fail)
      obtain ⟨U,hU⟩:∃U,W.drewN nq=U:=⟨_,rfl⟩
      have g0:U.cell? ⟨b,0,none⟩=some (.string s):=by rw [<-hU];exact e0
      have g1:U.cell? ⟨b,1,none⟩=some (.int .i64 (q:Int)):=by rw [<-hU];exact e1
      have gf:U.frozen? ⟨b,1,none⟩=false:=by rw [<-hU];exact ef
      have HU:Hid (VS b s q 0 c U/\w.grownBy U (some b)):=by
       show VS b s q 0 c U/\w.grownBy U (some b)
       rw [<-hU];exact ⟨HW.out.1.drew _,gb_drew HW.out.2 _⟩
      rw [hU]
      clear hU e0 e1 ef HW sl2
      have hXs:X.size=k:=by
       have h1:=HTl.out
       rw [<-HXT.out] at h1
       simpa using h1
      obtain ⟨ad,had⟩:∃ad,X.data.toList.all isD=ad:=⟨_,rfl⟩
      have CD:Hid (∀w,Calls Tryz.prog 70 #[.string X] w fun e w'=>e=.returned (.bool ad)/\w'=w):=fun w=>by rw [<-had];exact rdigits_any X w (by have:=HN.out;omega)
      have HBZ:Hid (badZ st T=(st && (ad && (decide (1 < k) && decide (T[0]?=some 48))))):=by
       show _=_
       rw [<-had,HXT.out];unfold badZ;rw [HTl.out]
      clear had
      have HJQ:Hid (i<=j/\j<=q/\q<=s.size):=by
       have a1:=HJ.out
       have a2:=HQ.out
       have a3:=HN.out
       exact ⟨a1.1,by omega,by omega⟩
      have hw:IntKind.i64.wrap ((q:Int)+1)=((q+1:Nat):Int):=by rw [IntKind.wrap_i64];have:=HJQ.out;omega
      have HDT:Hid (¬ s.data.toList[q]?=some 46):=by
       show ¬ s.data.toList[q]?=some 46
       rw [List.getElem?_eq_none (by simp;omega)]
       simp
      by_cases hk0:k=0
      ·have m1:=emp_t2 (hXs.trans hk0)
       have m2:decide ((1:Int) < (X.size:Int))=false:=by simp;omega
       have HRV:Hid (R=(2,q)):=by
        show R=(2,q)
        rw [HQ.out,<-HST.out,if_pos hk0,hk0];rfl
       clear hk0 hXs HBZ HST
       cases st with
       | false =>
        go_wp2_with (first | (go_at_call 70;refine (CD.out _).mono ?_;rintro e w' ⟨rfl,rfl⟩) | (go_at_call 56;refine (fail_first b s q c 2 q _ HU.out.1).mono ?_))
        rintro e w1 ⟨rfl,hr,hg⟩
        have y0:=hr.c0
        have y1:=hr.c1
        have yf:=hr.f1
        have HY:Hid (VS b s q 2 q w1/\w.grownBy w1 (some b)):=⟨hr,gb_trans HU.out.2 hg⟩
        clear hr hg g0 g1 gf HU
        go_wp2
        all_goals
         go_quiet (fail)
         go_wp2
         go_roundw
         case rel=>exact ⟨false,q,q,2,rfl,by have:=HJQ.out;omega,by have:=HJQ.out;omega,HY.out.1.drew _,gb_drew HY.out.2 _,fun h=>absurd h (by decide),fun _=>HRV.out⟩
         case measure =>
          have e2:=(HY.out.1.drew nq).place
          rw [HPL.out]
          refine Nat.lt_of_le_of_lt (Nat.le_of_eq (congrArg (fun x=>2 * (s.size - x)+0) e2)) ?_
          have:=HJQ.out
          show 2 * (s.size - q)+0 < 2 * (s.size - j)+1
          omega
       | true =>
        cases ad with
        | false =>
         go_wp2_with (first | (go_at_call 70;refine (CD.out _).mono ?_;rintro e w' ⟨rfl,rfl⟩) | (go_at_call 56;refine (fail_first b s q c 2 q _ HU.out.1).mono ?_))
         rintro e w1 ⟨rfl,hr,hg⟩
         have y0:=hr.c0
         have y1:=hr.c1
         have yf:=hr.f1
         have HY:Hid (VS b s q 2 q w1/\w.grownBy w1 (some b)):=⟨hr,gb_trans HU.out.2 hg⟩
         clear hr hg g0 g1 gf HU
         go_wp2
         all_goals
          go_quiet (fail)
          go_wp2
          go_roundw
          case rel=>exact ⟨false,q,q,2,rfl,by have:=HJQ.out;omega,by have:=HJQ.out;omega,HY.out.1.drew _,gb_drew HY.out.2 _,fun h=>absurd h (by decide),fun _=>HRV.out⟩
          case measure =>
           have e2:=(HY.out.1.drew nq).place
           rw [HPL.out]
           refine Nat.lt_of_le_of_lt (Nat.le_of_eq (congrArg (fun x=>2 * (s.size - x)+0) e2)) ?_
           have:=HJQ.out
           show 2 * (s.size - q)+0 < 2 * (s.size - j)+1
           omega
        | true =>
         go_wp2_with (first | (go_at_call 70;refine (CD.out _).mono ?_;rintro e w' ⟨rfl,rfl⟩) | (go_at_call 56;refine (fail_first b s q c 2 q _ HU.out.1).mono ?_))
         rintro e w1 ⟨rfl,hr,hg⟩
         have y0:=hr.c0
         have y1:=hr.c1
         have yf:=hr.f1
         have HY:Hid (VS b s q 2 q w1/\w.grownBy w1 (some b)):=⟨hr,gb_trans HU.out.2 hg⟩
         clear hr hg g0 g1 gf HU
         go_wp2
         all_goals
          go_quiet (fail)
          go_wp2
          go_roundw
          case rel=>exact ⟨false,q,q,2,rfl,by have:=HJQ.out;omega,by have:=HJQ.out;omega,HY.out.1.drew _,gb_drew HY.out.2 _,fun h=>absurd h (by decide),fun _=>HRV.out⟩
          case measure =>
           have e2:=(HY.out.1.drew nq).place
           rw [HPL.out]
           refine Nat.lt_of_le_of_lt (Nat.le_of_eq (congrArg (fun x=>2 * (s.size - x)+0) e2)) ?_
           have:=HJQ.out
           show 2 * (s.size - q)+0 < 2 * (s.size - j)+1
           omega
      ·have m1:=emp_f2 (fun h=>hk0 (hXs.symm.trans h))
       have h0X:0 < X.size:=by omega
       have HT0:Hid (T[0]?=some X[0]):=by show T[0]?=some X[0];rw [<-HXT.out,get_data X 0 h0X]
       have HZ:Hid ((if badZ st T=true then (2,j) else if s.data.toList[j+k]?=some 46 then rdParts st s.data.toList (j+k+1) else (0,j+k))=R):=by
        have:=HST.out
        rw [if_neg hk0] at this
        exact this
       have HG:Hid (badZ st T=false->R=(0,q)):=by
        intro h
        have:=HZ.out
        rw [if_neg (by rw [h];decide)] at this
        rw [<-HQ.out,if_neg HDT.out] at this
        exact this.symm
       have HXk:Hid (X.size=k):=hXs
       clear hk0 hXs HST
       cases st with
       | false =>
        have HRV:Hid (R=(0,q)):=HG.out (by rw [HBZ.out];rfl)
        have HY:Hid (VS b s q 0 c U/\w.grownBy U (some b)):=HU.out
        clear HBZ HG HZ HU
        go_wp2_with (first | (go_at_call 70;refine (CD.out _).mono ?_;rintro e w' ⟨rfl,rfl⟩))
        all_goals
         go_quiet (fail)
         go_wp2
         go_roundw
         case rel=>exact ⟨false,q,c,0,rfl,by have:=HJQ.out;omega,by have:=HJQ.out;omega,HY.out.1.drew _,gb_drew HY.out.2 _,fun _=>⟨fun h=>absurd h (by decide),fun _=>HRV.out⟩,fun h=>absurd rfl h⟩
         case measure =>
          have e2:=(HY.out.1.drew nq).place
          rw [HPL.out]
          refine Nat.lt_of_le_of_lt (Nat.le_of_eq (congrArg (fun x=>2 * (s.size - x)+0) e2)) ?_
          have:=HJQ.out
          show 2 * (s.size - q)+0 < 2 * (s.size - j)+1
          omega
       | true =>
        cases ad with
        | false =>
         have HRV:Hid (R=(0,q)):=HG.out (by rw [HBZ.out];rfl)
         have HY:Hid (VS b s q 0 c U/\w.grownBy U (some b)):=HU.out
         clear HBZ HG HZ HU
         go_wp2_with (first | (go_at_call 70;refine (CD.out _).mono ?_;rintro e w' ⟨rfl,rfl⟩))
         all_goals
          go_quiet (fail)
          go_wp2
          go_roundw
          case rel=>exact ⟨false,q,c,0,rfl,by have:=HJQ.out;omega,by have:=HJQ.out;omega,HY.out.1.drew _,gb_drew HY.out.2 _,fun _=>⟨fun h=>absurd h (by decide),fun _=>HRV.out⟩,fun h=>absurd rfl h⟩
          case measure =>
           have e2:=(HY.out.1.drew nq).place
           rw [HPL.out]
           refine Nat.lt_of_le_of_lt (Nat.le_of_eq (congrArg (fun x=>2 * (s.size - x)+0) e2)) ?_
           have:=HJQ.out
           show 2 * (s.size - q)+0 < 2 * (s.size - j)+1
           omega
        | true =>
         cases m2:decide ((1:Int) < (X.size:Int)) with
         | false =>
          have HRV:Hid (R=(0,q)):=HG.out (by
           rw [HBZ.out]
           have h1:=of_decide_eq_false m2
           have h2:=HXk.out
           rw [show decide (1 < k)=false from by simp;omega];rfl)
          have HY:Hid (VS b s q 0 c U/\w.grownBy U (some b)):=HU.out
          clear HBZ HG HZ HU
          go_wp2_with (first | (go_at_call 70;refine (CD.out _).mono ?_;rintro e w' ⟨rfl,rfl⟩))
          all_goals
           go_quiet (fail)
           go_wp2
           go_roundw
           case rel=>exact ⟨false,q,c,0,rfl,by have:=HJQ.out;omega,by have:=HJQ.out;omega,HY.out.1.drew _,gb_drew HY.out.2 _,fun _=>⟨fun h=>absurd h (by decide),fun _=>HRV.out⟩,fun h=>absurd rfl h⟩
           case measure =>
            have e2:=(HY.out.1.drew nq).place
            rw [HPL.out]
            refine Nat.lt_of_le_of_lt (Nat.le_of_eq (congrArg (fun x=>2 * (s.size - x)+0) e2)) ?_
            have:=HJQ.out
            show 2 * (s.size - q)+0 < 2 * (s.size - j)+1
            omega
         | true =>
          cases m3:((X[0].toNat:Int) == 48) with
          | false =>
           have HRV:Hid (R=(0,q)):=HG.out (by
            rw [HBZ.out,HT0.out]
            rw [show decide (some X[0]=some (48:UInt8))=false from by
             simp only [decide_eq_false_iff_not]
             intro e
             have:=Option.some.inj e
             rw [this] at m3
             exact absurd m3 (by decide)]
            simp)
           have HY:Hid (VS b s q 0 c U/\w.grownBy U (some b)):=HU.out
           clear HBZ HG HZ HU
           go_wp2_with (first | (go_at_call 70;refine (CD.out _).mono ?_;rintro e w' ⟨rfl,rfl⟩))
           all_goals
            go_quiet (fail)
            go_wp2
            go_roundw
            case rel=>exact ⟨false,q,c,0,rfl,by have:=HJQ.out;omega,by have:=HJQ.out;omega,HY.out.1.drew _,gb_drew HY.out.2 _,fun _=>⟨fun h=>absurd h (by decide),fun _=>HRV.out⟩,fun h=>absurd rfl h⟩
            case measure =>
             have e2:=(HY.out.1.drew nq).place
             rw [HPL.out]
             refine Nat.lt_of_le_of_lt (Nat.le_of_eq (congrArg (fun x=>2 * (s.size - x)+0) e2)) ?_
             have:=HJQ.out
             show 2 * (s.size - q)+0 < 2 * (s.size - j)+1
             omega
          | true =>
           have HRV:Hid (R=(2,j)):=by
            show R=(2,j)
            rw [<-HZ.out,if_pos]
            have h1:=of_decide_eq_true m2
            have h2:=HXk.out
            rw [HBZ.out,HT0.out,show decide (1 < k)=true from by simp;omega,show X[0]=48 from UInt8.toNat_inj.1 (by simp at m3;show X[0].toNat=48;omega)]
            decide
           clear HBZ HG HZ
           go_wp2_with (first | (go_at_call 70;refine (CD.out _).mono ?_;rintro e w' ⟨rfl,rfl⟩) | (go_at_call 56;refine (fail_first b s q c 2 j _ HU.out.1).mono ?_))
           all_goals rintro e w1 ⟨rfl,hr,hg⟩
           all_goals
            have y0:=hr.c0
            have y1:=hr.c1
            have yf:=hr.f1
            have HY:Hid (VS b s q 2 j w1/\w.grownBy w1 (some b)):=⟨hr,gb_trans HU.out.2 hg⟩
            clear hr hg g0 g1 gf HU
            go_wp2
            all_goals
             go_quiet (fail)
             go_wp2
             go_roundw
             case rel=>exact ⟨false,q,j,2,rfl,by have:=HJQ.out;omega,by have:=HJQ.out;omega,HY.out.1.drew _,gb_drew HY.out.2 _,fun h=>absurd h (by decide),fun _=>HRV.out⟩
             case measure =>
              have e2:=(HY.out.1.drew nq).place
              rw [HPL.out]
              refine Nat.lt_of_le_of_lt (Nat.le_of_eq (congrArg (fun x=>2 * (s.size - x)+0) e2)) ?_
              have:=HJQ.out
              show 2 * (s.size - q)+0 < 2 * (s.size - j)+1
              omega
end Go.Proofs.YtonfldbigenfhaaGreatDoor
