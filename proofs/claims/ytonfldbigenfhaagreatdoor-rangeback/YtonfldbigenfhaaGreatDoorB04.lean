import Derived.Test.YtonfldbigenfhaaGreatDoorB03
import Derived.Below
import Derived.Deep.RegionHeld3
import Derived.Laws.AppendOwn
import Derived.Deep.RegionLaw
import Derived.Deep.AppendLies
import Derived.Test.YtonfldbigenfhaaGreatDoorB02
import Derived.Shelf.Strings.Prefix
import Derived.Test.YtonfldbigenfhaaGreatDoorProg
namespace Go.Proofs.YtonfldbigenfhaaGreatDoor
open Go.RowKit
set_option linter.unusedVariables false
theorem emp_t {a:ByteArray} (h:a.size=0):a.toList.isEmpty=true:=by
 rw [Lib.toList_data,List.isEmpty_iff];exact List.length_eq_zero_iff.1 (by simpa using h)
theorem emp_f {a:ByteArray} (h:a.size ≠ 0):a.toList.isEmpty=false:=by
 rw [Lib.toList_data]
 cases hl:a.data.toList with
 | nil=>exact absurd (show a.size=0 from by show a.data.size=0;rw [<-Array.length_toList,hl];rfl) h
 | cons c l=>rfl
set_option maxHeartbeats 400000 in
theorem pre_e (a b:ByteArray) (w:World) (h:a.size=0\/b.size=0) :
  Calls Tryz.prog 76 #[.string a,.string b] w fun e w'=>e=.returned (.int .i64 (preC a.data.toList b.data.toList))/\w.grownBy w' none:=by
 have HE:Hid (preC a.data.toList b.data.toList=Lib.compareInt b.size a.size):=by
  show preC a.data.toList b.data.toList=Lib.compareInt b.size a.size
  rw [pre_empty]
  ·simp
  ·rcases h with h | h
   ·left;exact List.length_eq_zero_iff.1 (by simpa using h)
   ·right;exact List.length_eq_zero_iff.1 (by simpa using h)
 rw [HE.out]
 by_cases ha:a.size=0
 ·have c1:=emp_t ha
  have HA:Hid (a.size=0):=ha
  clear h ha
  go_enter Tryz.func76,Tryz.ntmps76
  go_wp2_with (first | (go_at_call 75;refine (cmpInt_any _ _ _).mono ?_;rintro e w' ⟨rfl,rfl⟩))
  all_goals (go_ret;exact ⟨rfl,gb_refl _ _⟩)
 ·have c1:=emp_f ha
  have c2:=emp_t (h.resolve_left ha)
  clear h ha
  go_enter Tryz.func76,Tryz.ntmps76
  go_wp2_with (first | (go_at_call 75;refine (cmpInt_any _ _ _).mono ?_;rintro e w' ⟨rfl,rfl⟩))
  all_goals (go_ret;exact ⟨rfl,gb_refl _ _⟩)
def sizeV:Value->Nat
 | .string s=>s.size
 | _=>0
theorem part_order (P Q:List UInt8) :
  (∃X1 T2 X2,partV P=.iface 169 (.string X1)/\partV Q=.iface T2 (.string X2)/\∀w,Calls Tryz.prog 202 #[.string X1,.iface T2 (.string X2)] w fun e w'=>e=.returned (.int .i64 (partC P Q))/\∃n,w'=w.drewN n) ∨
  (∃X1 T2 X2,partV P=.iface 171 (.string X1)/\partV Q=.iface T2 (.string X2)/\∀w,Calls Tryz.prog 205 #[.string X1,.iface T2 (.string X2)] w fun e w'=>e=.returned (.int .i64 (partC P Q))/\∃n,w'=w.drewN n):=by
 cases hp:numT P with
 | true =>
  left
  cases hq:numT Q with
  | true =>
   refine ⟨⟨(bareT P).toArray⟩,_,⟨(bareT Q).toArray⟩,by unfold partV;rw [hp];rfl,by unfold partV;rw [hq];rfl,fun w=>?_⟩
   rw [partC_nn hp hq]
   have s1:(⟨(bareT P).toArray⟩:ByteArray).size=(bareT P).length:=by show (bareT P).toArray.size=_;simp
   have s2:(⟨(bareT Q).toArray⟩:ByteArray).size=(bareT Q).length:=by show (bareT Q).toArray.size=_;simp
   by_cases h:((bareT P).length:Int)=(bareT Q).length
   ·rw [if_pos h];exact orderNN_eq _ _ w (by rw [s1,s2];omega)
   ·rw [if_neg h]
    have:=orderNN_ne ⟨(bareT P).toArray⟩ ⟨(bareT Q).toArray⟩ w (by rw [s1,s2];omega)
    rw [s1,s2] at this;exact this
  | false =>
   refine ⟨⟨(bareT P).toArray⟩,_,⟨Q.toArray⟩,by unfold partV;rw [hp];rfl,by unfold partV;rw [hq];rfl,fun w=>?_⟩
   rw [partC_nw hp hq];exact orderNW _ _ w
 | false =>
  right
  cases hq:numT Q with
  | true =>
   refine ⟨⟨P.toArray⟩,_,⟨(bareT Q).toArray⟩,by unfold partV;rw [hp];rfl,by unfold partV;rw [hq];rfl,fun w=>?_⟩
   rw [partC_wn hp hq];exact orderWN _ _ w
  | false =>
   refine ⟨⟨P.toArray⟩,_,⟨Q.toArray⟩,by unfold partV;rw [hp];rfl,by unfold partV;rw [hq];rfl,fun w=>?_⟩
   rw [partC_ww hp hq];exact orderWW _ _ w
set_option maxHeartbeats 4000000 in
set_option maxRecDepth 100000 in
theorem pre_f (a b:ByteArray) (w:World) (ha:a.size ≠ 0) (hb:b.size ≠ 0) (hs:a.size < 2 ^ 62) (hs':b.size < 2 ^ 62) :
  Calls Tryz.prog 76 #[.string a,.string b] w fun e w'=>e=.returned (.int .i64 (listC partC (splitD a.data.toList) (splitD b.data.toList)))/\w.grownBy w' none:=by
 have c1:=emp_f ha
 have c2:=emp_f hb
 obtain ⟨R,hR⟩:∃R,R=listC partC (splitD a.data.toList) (splitD b.data.toList):=⟨_,rfl⟩
 rw [<-hR]
 have HR:Hid (R=listC partC (splitD a.data.toList) (splitD b.data.toList)):=hR
 clear hR ha hb
 go_enter Tryz.func76,Tryz.ntmps76
 go_wp2_with (fail)
 go_loopw [0,1] (fun va vb wr=>∃x y:ByteArray,va=.string x/\vb=.string y/\x.size < 2 ^ 62/\y.size < 2 ^ 62/\R=listC partC (splitD x.data.toList) (splitD y.data.toList)/\w.grownBy wr none) (fun va _ _=>sizeV va)
 case atStart=>exact ⟨a,b,rfl,rfl,hs,hs',HR.out,gb_refl _ _⟩
 case round =>
  obtain ⟨x,y,rfl,rfl,hx,hy,hr,hgb⟩:=hrel
  have HX:Hid (R=listC partC (splitD x.data.toList) (splitD y.data.toList)):=hr
  have HG:Hid (w.grownBy wr none):=hgb
  have HB:Hid (x.size < 2 ^ 62/\y.size < 2 ^ 62):=⟨hx,hy⟩
  obtain ⟨P1,hP1⟩:∃P1,P1=cut1 x.data.toList:=⟨_,rfl⟩
  obtain ⟨P2,hP2⟩:∃P2,P2=cut2 x.data.toList:=⟨_,rfl⟩
  obtain ⟨P3,hP3⟩:∃P3,P3=cut3 x.data.toList:=⟨_,rfl⟩
  obtain ⟨Q1,hQ1⟩:∃Q1,Q1=cut1 y.data.toList:=⟨_,rfl⟩
  obtain ⟨Q2,hQ2⟩:∃Q2,Q2=cut2 y.data.toList:=⟨_,rfl⟩
  obtain ⟨Q3,hQ3⟩:∃Q3,Q3=cut3 y.data.toList:=⟨_,rfl⟩
  have HP:Hid (P1=cut1 x.data.toList/\P2=cut2 x.data.toList/\P3=cut3 x.data.toList):=⟨hP1,hP2,hP3⟩
  have HQ:Hid (Q1=cut1 y.data.toList/\Q2=cut2 y.data.toList/\Q3=cut3 y.data.toList):=⟨hQ1,hQ2,hQ3⟩
  have C1:=fun w=>cut_any x w hx
  rw [<-hP1,<-hP2,<-hP3] at C1
  have C2:=fun w=>cut_any y w hy
  rw [<-hQ1,<-hQ2,<-hQ3] at C2
  have p1:(⟨P1.toArray⟩:ByteArray).size < 2 ^ 62:=by
   have:=cut1_len x.data.toList
   rw [<-hP1] at this;show P1.toArray.size < _;simp at this ⊢;omega
  have q1:(⟨Q1.toArray⟩:ByteArray).size < 2 ^ 62:=by
   have:=cut1_len y.data.toList
   rw [<-hQ1] at this;show Q1.toArray.size < _;simp at this ⊢;omega
  have D1:Hid (∀w,Calls Tryz.prog 99 #[.string ⟨P1.toArray⟩] w fun e w'=>e=.returned (partV P1)/\w.grownBy w' none):=fun w=>partOf_any ⟨P1.toArray⟩ w p1
  have D2:Hid (∀w,Calls Tryz.prog 99 #[.string ⟨Q1.toArray⟩] w fun e w'=>e=.returned (partV Q1)/\w.grownBy w' none):=fun w=>partOf_any ⟨Q1.toArray⟩ w q1
  have HC1:Hid (∀w,Calls Tryz.prog 98 #[.string x,.string ⟨#[46]⟩] w fun e w'=>e=.returned (.tuple #[.string ⟨P1.toArray⟩,.string ⟨P2.toArray⟩,.bool P3])/\∃n,w'=w.drewN n):=C1
  have HC2:Hid (∀w,Calls Tryz.prog 98 #[.string y,.string ⟨#[46]⟩] w fun e w'=>e=.returned (.tuple #[.string ⟨Q1.toArray⟩,.string ⟨Q2.toArray⟩,.bool Q3])/\∃n,w'=w.drewN n):=C2
  clear hP1 hP2 hP3 hQ1 hQ2 hQ3 C1 C2 p1 q1 hr hgb hx hy
  obtain ⟨O,hO⟩:∃O,O=partC P1 Q1:=⟨_,rfl⟩
  have HS:Hid (R=if O=0 then (if P3=true then (if Q3=true then listC partC (splitD P2) (splitD Q2) else 1) else (if Q3=true then -1 else 0)) else O):=by
   show R=_
   have h1:=HP.out
   have h2:=HQ.out
   rw [HX.out,list_step,<-h1.1,<-h1.2.1,<-h1.2.2,<-h2.1,<-h2.2.1,<-h2.2.2,<-hO]
  have HL:Hid ((P3=true->P2.length < x.size)/\P2.length < 2 ^ 62/\Q2.length < 2 ^ 62):=by
   have h1:=HP.out
   have h2:=HQ.out
   have h3:=HB.out
   have z1:x.data.toList.length=x.size:=by simp
   have z2:y.data.toList.length=y.size:=by simp
   have l1:=cut2_len x.data.toList
   have l2:=cut2_len y.data.toList
   rw [<-h1.2.1] at l1
   rw [<-h2.2.1] at l2
   refine ⟨fun h=>?_,by omega,by omega⟩
   have:=(cut_yes (h1.2.2 ▸ h:cut3 x.data.toList=true)).2
   rw [<-h1.2.1] at this
   omega
  rcases part_order P1 Q1 with ⟨X1,T2,X2,hv1,hv2,ho⟩ | ⟨X1,T2,X2,hv1,hv2,ho⟩
  ·rw [<-hO] at ho
   rw [hv1] at D1
   rw [hv2] at D2
   have H0:Hid (∀w,Calls Tryz.prog 202 #[.string X1,.iface T2 (.string X2)] w fun e w'=>e=.returned (.int .i64 O)/\∃n,w'=w.drewN n):=ho
   clear ho hv1 hv2 hO
   have na:∀w,(nilAhead 357 169 (.string X1) "pantry/ver.order").run Tryz.prog w=.ok (some false) w:=fun w=>by kernel_rfl
   have hm:∀w,(method 357 169 (.string X1) "pantry/ver.order").run Tryz.prog w=.ok (202,.string X1) w:=fun w=>by kernel_rfl
   go_wp2_with (go_at_call 98;refine (HC1.out _).mono ?_)
   rintro e w1 ⟨rfl,n1,rfl⟩
   go_wp2_with (go_at_call 98;refine (HC2.out _).mono ?_)
   rintro e w1 ⟨rfl,n2,rfl⟩
   go_wp2
   go_region_with (first | (go_at_call_of 99 (Value.string ⟨P1.toArray⟩);refine (D1.out _).mono ?_;rintro e w3 ⟨rfl,hg3⟩) | (go_at_call_of 99 (Value.string ⟨Q1.toArray⟩);refine (D2.out _).mono ?_;rintro e w4 ⟨rfl,hg4⟩) | (go_at_call 202;refine (H0.out _).mono ?_;rintro e w5 ⟨rfl,n5,rfl⟩))
   all_goals
    have GB:Hid (w.grownBy w4 none):=gb_trans (gb_trans (gb_drew HG.out _) hg3) hg4
    clear hg3 hg4 na hm
    cases hz:(O == 0) with
    | false =>
     have HZ:Hid (R=O):=by
      show R=O
      rw [HS.out,if_neg (by simpa using hz)]
     go_wp2
     go_ret
     exact ⟨ret_int HZ.out.symm,gb_drew GB.out _⟩
    | true =>
     have HZ:Hid (O=0):=by
      show O=0
      simpa using hz
     cases P3 with
     | true =>
      cases Q3 with
      | true =>
       go_wp2
       go_roundw
       case rel =>
        refine ⟨⟨P2.toArray⟩,⟨Q2.toArray⟩,rfl,rfl,?_,?_,?_,gb_drew GB.out _⟩
        ·show P2.toArray.size < _
         have:=HL.out.2.1;simpa using this
        ·show Q2.toArray.size < _
         have:=HL.out.2.2;simpa using this
        ·rw [HS.out,if_pos HZ.out];rfl
       case measure =>
        have:=HL.out.1 rfl
        show P2.toArray.size < x.size
        simpa using this
      | false =>
       have HE:Hid (R=1):=by show R=1;rw [HS.out,if_pos HZ.out];rfl
       go_wp2
       go_ret
       exact ⟨ret_int HE.out.symm,gb_drew GB.out _⟩
     | false =>
      cases Q3 with
      | true =>
       have HE:Hid (R=-1):=by show R=-1;rw [HS.out,if_pos HZ.out];rfl
       go_wp2
       go_ret
       exact ⟨ret_int HE.out.symm,gb_drew GB.out _⟩
      | false =>
       have HE:Hid (R=0):=by show R=0;rw [HS.out,if_pos HZ.out];rfl
       go_wp2
       go_ret
       exact ⟨ret_int HE.out.symm,gb_drew GB.out _⟩
  ·rw [<-hO] at ho
   rw [hv1] at D1
   rw [hv2] at D2
   have H0:Hid (∀w,Calls Tryz.prog 205 #[.string X1,.iface T2 (.string X2)] w fun e w'=>e=.returned (.int .i64 O)/\∃n,w'=w.drewN n):=ho
   clear ho hv1 hv2 hO
   have na:∀w,(nilAhead 357 171 (.string X1) "pantry/ver.order").run Tryz.prog w=.ok (some false) w:=fun w=>by kernel_rfl
   have hm:∀w,(method 357 171 (.string X1) "pantry/ver.order").run Tryz.prog w=.ok (205,.string X1) w:=fun w=>by kernel_rfl
   go_wp2_with (go_at_call 98;refine (HC1.out _).mono ?_)
   rintro e w1 ⟨rfl,n1,rfl⟩
   go_wp2_with (go_at_call 98;refine (HC2.out _).mono ?_)
   rintro e w1 ⟨rfl,n2,rfl⟩
   go_wp2
   go_region_with (first | (go_at_call_of 99 (Value.string ⟨P1.toArray⟩);refine (D1.out _).mono ?_;rintro e w3 ⟨rfl,hg3⟩) | (go_at_call_of 99 (Value.string ⟨Q1.toArray⟩);refine (D2.out _).mono ?_;rintro e w4 ⟨rfl,hg4⟩) | (go_at_call 205;refine (H0.out _).mono ?_;rintro e w5 ⟨rfl,n5,rfl⟩))
   all_goals
    have GB:Hid (w.grownBy w4 none):=gb_trans (gb_trans (gb_drew HG.out _) hg3) hg4
    clear hg3 hg4 na hm
    cases hz:(O == 0) with
    | false =>
     have HZ:Hid (R=O):=by
      show R=O
      rw [HS.out,if_neg (by simpa using hz)]
     go_wp2
     go_ret
     exact ⟨ret_int HZ.out.symm,gb_drew GB.out _⟩
    | true =>
     have HZ:Hid (O=0):=by
      show O=0
      simpa using hz
     cases P3 with
     | true =>
      cases Q3 with
      | true =>
       go_wp2
       go_roundw
       case rel =>
        refine ⟨⟨P2.toArray⟩,⟨Q2.toArray⟩,rfl,rfl,?_,?_,?_,gb_drew GB.out _⟩
        ·show P2.toArray.size < _
         have:=HL.out.2.1;simpa using this
        ·show Q2.toArray.size < _
         have:=HL.out.2.2;simpa using this
        ·rw [HS.out,if_pos HZ.out];rfl
       case measure =>
        have:=HL.out.1 rfl
        show P2.toArray.size < x.size
        simpa using this
      | false =>
       have HE:Hid (R=1):=by show R=1;rw [HS.out,if_pos HZ.out];rfl
       go_wp2
       go_ret
       exact ⟨ret_int HE.out.symm,gb_drew GB.out _⟩
     | false =>
      cases Q3 with
      | true =>
       have HE:Hid (R=-1):=by show R=-1;rw [HS.out,if_pos HZ.out];rfl
       go_wp2
       go_ret
       exact ⟨ret_int HE.out.symm,gb_drew GB.out _⟩
      | false =>
       have HE:Hid (R=0):=by show R=0;rw [HS.out,if_pos HZ.out];rfl
       go_wp2
       go_ret
       exact ⟨ret_int HE.out.symm,gb_drew GB.out _⟩
theorem pre_any (a b:ByteArray) (w:World) (hs:a.size < 2 ^ 62) (hs':b.size < 2 ^ 62) :
  Calls Tryz.prog 76 #[.string a,.string b] w fun e w'=>e=.returned (.int .i64 (preC a.data.toList b.data.toList))/\w.grownBy w' none:=by
 by_cases h:a.size=0\/b.size=0
 ·exact pre_e a b w h
 ·have ha:a.size ≠ 0:=fun e=>h (Or.inl e)
  have hb:b.size ≠ 0:=fun e=>h (Or.inr e)
  rw [pre_full a.data.toList b.data.toList (fun e=>ha (by show a.data.size=0;rw [<-Array.length_toList,e];rfl)) (fun e=>hb (by show b.data.size=0;rw [<-Array.length_toList,e];rfl))]
  exact pre_f a b w ha hb hs hs'
open Go.RowKit
set_option linter.unusedVariables false
def or3 (x y z:Int):Int:=if x=0 then (if y=0 then z else y) else x
set_option maxHeartbeats 400000 in
theorem or_any (x y z:Int) (b:Nat) (w:World) (h0:w.cell? ⟨b,0,none⟩=some (.int .i64 x)) (h1:w.cell? ⟨b,1,none⟩=some (.int .i64 y)) (h2:w.cell? ⟨b,2,none⟩=some (.int .i64 z)) :
  Calls Tryz.prog 74 #[.slice (some ⟨b,0,none⟩) 3 3] w fun e w'=>e=.returned (.int .i64 (or3 x y z))/\w'=w:=by
 obtain ⟨R,hR⟩:∃R,R=or3 x y z:=⟨_,rfl⟩
 have HR:Hid (R=or3 x y z):=hR
 rw [<-hR]
 clear hR
 go_enter Tryz.func74,Tryz.ntmps74
 go_wp2
 go_loop [8] (fun i=>∃k:Nat,k<=3/\i=.int .i64 k/\(1<=k->x=0)/\(2<=k->y=0)/\(3<=k->z=0)) (fun i=>3 - (intOf i).toNat)
 case atStart=>exact ⟨0,by omega,rfl,by omega,by omega,by omega⟩
 case round =>
  obtain ⟨k,hk,rfl,k1,k2,k3⟩:=hrel
  rcases (show k=0\/k=1\/k=2\/k=3 by omega) with rfl | rfl | rfl | rfl
  ·clear k1 k2 k3 hk
   cases hz:(x == 0) with
   | true =>
    have hx:x=0:=by simpa using hz
    go_wp2
    go_round
    case rel=>exact ⟨1,by omega,rfl,fun _=>hx,by omega,by omega⟩
    case measure=>simp [intOf]
   | false =>
    have HZ:Hid (R=x):=by show R=x;rw [HR.out];unfold or3;rw [if_neg (by simpa using hz)]
    go_wp2
    go_ret
    exact ⟨ret_int HZ.out.symm,rfl⟩
  ·have hx:Hid (x=0):=k1 (by omega)
   clear k1 k2 k3 hk
   cases hz:(y == 0) with
   | true =>
    have hy:y=0:=by simpa using hz
    go_wp2
    go_round
    case rel=>exact ⟨2,by omega,rfl,fun _=>hx.out,fun _=>hy,by omega⟩
    case measure=>simp [intOf]
   | false =>
    have HZ:Hid (R=y):=by show R=y;rw [HR.out];unfold or3;rw [if_pos hx.out,if_neg (by simpa using hz)]
    go_wp2
    go_ret
    exact ⟨ret_int HZ.out.symm,rfl⟩
  ·have hx:Hid (x=0):=k1 (by omega)
   have hy:Hid (y=0):=k2 (by omega)
   clear k1 k2 k3 hk
   have HZ:Hid (R=z):=by show R=z;rw [HR.out];unfold or3;rw [if_pos hx.out,if_pos hy.out]
   cases hz:(z == 0) with
   | true =>
    have hy':z=0:=by simpa using hz
    go_wp2
    go_round
    case rel=>exact ⟨3,by omega,rfl,fun _=>hx.out,fun _=>hy.out,fun _=>hy'⟩
    case measure=>simp [intOf]
   | false =>
    go_wp2
    go_ret
    exact ⟨ret_int HZ.out.symm,rfl⟩
  ·have HZ:Hid (R=0):=by show R=0;rw [HR.out];unfold or3;rw [if_pos (k1 (by omega)),if_pos (k2 (by omega)),k3 (by omega)]
   clear k1 k2 k3 hk
   go_wp2
   go_ret
   exact ⟨ret_int HZ.out.symm,rfl⟩
theorem verC_or (a b:V):verC a b=if or3 (Lib.compareInt a.major b.major) (Lib.compareInt a.minor b.minor) (Lib.compareInt a.patch b.patch)=0 then preC a.pre b.pre else or3 (Lib.compareInt a.major b.major) (Lib.compareInt a.minor b.minor) (Lib.compareInt a.patch b.patch):=by
 rw [verC_eq];unfold or3
 repeat' split
 all_goals first | rfl | (exfalso;omega) | omega
set_option maxHeartbeats 800000 in
theorem compare_any (a1 a2 a3 b1 b2 b3:Int) (a4 a5 b4 b5:ByteArray) (w:World) (hs:a4.size < 2 ^ 62) (hs':b4.size < 2 ^ 62) :
  Calls Tryz.prog 44 #[.agg #[.int .i64 a1,.int .i64 a2,.int .i64 a3,.string a4,.string a5],.agg #[.int .i64 b1,.int .i64 b2,.int .i64 b3,.string b4,.string b5]] w fun e w'=>e=.returned (.int .i64 (verC ⟨a1,a2,a3,a4.data.toList⟩ ⟨b1,b2,b3,b4.data.toList⟩))/\w.grownBy w' none:=by
 obtain ⟨R,hR⟩:∃R,R=verC ⟨a1,a2,a3,a4.data.toList⟩ ⟨b1,b2,b3,b4.data.toList⟩:=⟨_,rfl⟩
 obtain ⟨x,hx⟩:∃x,x=Lib.compareInt a1 b1:=⟨_,rfl⟩
 obtain ⟨y,hy⟩:∃y,y=Lib.compareInt a2 b2:=⟨_,rfl⟩
 obtain ⟨z,hz⟩:∃z,z=Lib.compareInt a3 b3:=⟨_,rfl⟩
 obtain ⟨p,hp⟩:∃p,p=preC a4.data.toList b4.data.toList:=⟨_,rfl⟩
 obtain ⟨o,ho⟩:∃o,o=or3 x y z:=⟨_,rfl⟩
 have HR:Hid (R=if o=0 then p else o):=by
  show R=if o=0 then p else o
  rw [hR,verC_or,ho,hx,hy,hz,hp]
 have C1:Hid (∀w,Calls Tryz.prog 75 #[.int .i64 a1,.int .i64 b1] w fun e w'=>e=.returned (.int .i64 x)/\w'=w):=fun w=>by rw [hx];exact cmpInt_any _ _ w
 have C2:Hid (∀w,Calls Tryz.prog 75 #[.int .i64 a2,.int .i64 b2] w fun e w'=>e=.returned (.int .i64 y)/\w'=w):=fun w=>by rw [hy];exact cmpInt_any _ _ w
 have C3:Hid (∀w,Calls Tryz.prog 75 #[.int .i64 a3,.int .i64 b3] w fun e w'=>e=.returned (.int .i64 z)/\w'=w):=fun w=>by rw [hz];exact cmpInt_any _ _ w
 have CP:Hid (∀w,Calls Tryz.prog 76 #[.string a4,.string b4] w fun e w'=>e=.returned (.int .i64 p)/\w.grownBy w' none):=fun w=>by rw [hp];exact pre_any a4 b4 w hs hs'
 have CO:Hid (∀(b:Nat) (w:World),w.cell? ⟨b,0,none⟩=some (.int .i64 x)->w.cell? ⟨b,1,none⟩=some (.int .i64 y)->w.cell? ⟨b,2,none⟩=some (.int .i64 z)->Calls Tryz.prog 74 #[.slice (some ⟨b,0,none⟩) 3 3] w fun e w'=>e=.returned (.int .i64 o)/\w'=w):=fun b w h0 h1 h2=>by rw [ho];exact or_any x y z b w h0 h1 h2
 rw [<-hR]
 clear hR hx hy hz hp ho hs hs'
 go_enter Tryz.func44,Tryz.ntmps44
 go_wp2
 obtain ⟨W,hW⟩:∃W,(w.alloc (.cells #[.int .i64 a1,.int .i64 a2,.int .i64 a3,.string a4,.string a5] 35)).alloc (.cells #[.int .i64 b1,.int .i64 b2,.int .i64 b3,.string b4,.string b5] 35)=W:=⟨_,rfl⟩
 rw [hW]
 have g1:W.heap[w.heap.size]?=some (.cells #[.int .i64 a1,.int .i64 a2,.int .i64 a3,.string a4,.string a5] 35 (0,0)):=by
  rw [<-hW,Lib.alloc_old _ _ _ (by simp)]
  exact heap_alloc_new w _
 have g2:W.heap[w.heap.size+1]?=some (.cells #[.int .i64 b1,.int .i64 b2,.int .i64 b3,.string b4,.string b5] 35 (0,0)):=by
  rw [<-hW]
  have:=heap_alloc_new (w.alloc (.cells #[.int .i64 a1,.int .i64 a2,.int .i64 a3,.string a4,.string a5] 35)) (.cells #[.int .i64 b1,.int .i64 b2,.int .i64 b3,.string b4,.string b5] 35)
  rw [show (w.alloc (.cells #[.int .i64 a1,.int .i64 a2,.int .i64 a3,.string a4,.string a5] 35)).heap.size=w.heap.size+1 by simp] at this
  exact this
 have HGW:Hid (w.grownBy W none):=by
  show w.grownBy W none
  rw [<-hW]
  exact ⟨rfl,rfl,rfl,by simp;omega,fun k hk _=>by rw [Lib.alloc_old _ _ _ (by simp;omega),Lib.alloc_old _ _ _ hk]⟩
 have HSZ:Hid (W.heap.size=w.heap.size+2):=by
  show W.heap.size=w.heap.size+2
  rw [<-hW];simp
 obtain ⟨A,hA⟩:∃A,w.heap.size=A:=⟨_,rfl⟩
 rw [hA] at g1 g2
 rw [hA]
 have HA:Hid (W.heap.size=A+2):=by
  show W.heap.size=A+2
  rw [<-hA];exact HSZ.out
 have c0:W.cell? ⟨A,0,none⟩=some (.int .i64 a1):=by rw [Lib.cell_of_heap g1];rfl
 have c1:W.cell? ⟨A,1,none⟩=some (.int .i64 a2):=by rw [Lib.cell_of_heap g1];rfl
 have c2:W.cell? ⟨A,2,none⟩=some (.int .i64 a3):=by rw [Lib.cell_of_heap g1];rfl
 have c3:Hid (W.cell? ⟨A,3,none⟩=some (.string a4)):=by show W.cell? _=_;rw [Lib.cell_of_heap g1];rfl
 have d0:W.cell? ⟨A+1,0,none⟩=some (.int .i64 b1):=by rw [Lib.cell_of_heap g2];rfl
 have d1:W.cell? ⟨A+1,1,none⟩=some (.int .i64 b2):=by rw [Lib.cell_of_heap g2];rfl
 have d2:W.cell? ⟨A+1,2,none⟩=some (.int .i64 b3):=by rw [Lib.cell_of_heap g2];rfl
 have d3:Hid (W.cell? ⟨A+1,3,none⟩=some (.string b4)):=by show W.cell? _=_;rw [Lib.cell_of_heap g2];rfl
 clear hW hA HSZ g1 g2
 go_region_held3 (fun w'=>w'.cell? ⟨A,0,none⟩=some (.int .i64 a1)/\w'.cell? ⟨A,1,none⟩=some (.int .i64 a2)/\w'.cell? ⟨A,2,none⟩=some (.int .i64 a3)/\w'.cell? ⟨A+1,0,none⟩=some (.int .i64 b1)/\w'.cell? ⟨A+1,1,none⟩=some (.int .i64 b2)/\w'.cell? ⟨A+1,2,none⟩=some (.int .i64 b3)) (go_keep) (first | (go_at_call_of 75 (Value.int .i64 a1);refine (C1.out _).mono ?_;rintro e w' ⟨rfl,rfl⟩) | (go_at_call_of 75 (Value.int .i64 a2);refine (C2.out _).mono ?_;rintro e w' ⟨rfl,rfl⟩) | (go_at_call_of 75 (Value.int .i64 a3);refine (C3.out _).mono ?_;rintro e w' ⟨rfl,rfl⟩) | (go_at_call 74;refine (CO.out _ _ (by simp) (by simp) (by simp)).mono ?_;rintro e w' ⟨rfl,rfl⟩))
 obtain ⟨W2,hW2⟩:∃W2,(W.alloc (.cells #[.int .i64 x,.int .i64 y,.int .i64 z] 3)).drew=W2:=⟨_,rfl⟩
 rw [hW2]
 have hlt:A < W.heap.size/\A+1 < W.heap.size:=by have:=HA.out;omega
 have e3:W2.cell? ⟨A,3,none⟩=some (.string a4):=by
  rw [<-hW2]
  exact (World.cell?_of_block (show ((W.alloc _).drew).heap[A]?=W.heap[A]? from Lib.alloc_old W _ A hlt.1)).trans c3.out
 have f3:W2.cell? ⟨A+1,3,none⟩=some (.string b4):=by
  rw [<-hW2]
  exact (World.cell?_of_block (show ((W.alloc _).drew).heap[A+1]?=W.heap[A+1]? from Lib.alloc_old W _ (A+1) hlt.2)).trans d3.out
 have HG2:Hid (w.grownBy W2 none):=by
  show w.grownBy W2 none
  rw [<-hW2]
  have h1:W.grownBy ((W.alloc (.cells #[.int .i64 x,.int .i64 y,.int .i64 z] 3)).drew) none:=⟨rfl,rfl,rfl,by simp,fun k hk _=>Lib.alloc_old W _ k hk⟩
  exact gb_trans HGW.out h1
 clear hW2 hlt c0 c1 c2 c3 d0 d1 d2 d3 HA HGW C1 C2 C3 CO
 cases hz:(o == 0) with
 | false =>
  have HZ:Hid (R=o):=by show R=o;rw [HR.out,if_neg (by simpa using hz)]
  go_wp2
  go_ret
  exact ⟨ret_int HZ.out.symm,HG2.out⟩
 | true =>
  have HZ:Hid (R=p):=by show R=p;rw [HR.out,if_pos (by simpa using hz)]
  go_wp2_with (first | (go_at_call 76;refine (CP.out _).mono ?_;rintro e w4 ⟨rfl,hg4⟩))
  go_ret
  exact ⟨ret_int HZ.out.symm,gb_trans HG2.out hg4⟩
open Go.RowKit
set_option linter.unusedVariables false
theorem below_gb' {w w':World} (h:Below w.heap.size w w'):w.grownBy w' none:=⟨h.os,h.tape,h.output,h.size,fun k hk _=>h.block k hk⟩
open Go.RowKit
set_option linter.unusedVariables false
structure Sp where
 f1:Int
 f2:Int
 f3:Int
 f4:ByteArray
 f5:ByteArray
 t1:Int
 t2:Int
 t3:Int
 t4:ByteArray
 t5:ByteArray
 o:Bool
def spC (s:Sp):List Value:=[.int .i64 s.f1,.int .i64 s.f2,.int .i64 s.f3,.string s.f4,.string s.f5,.int .i64 s.t1,.int .i64 s.t2,.int .i64 s.t3,.string s.t4,.string s.t5,.bool s.o]
def vFrom (s:Sp):Vv:=⟨s.f1,s.f2,s.f3,s.f4.data.toList,s.f5.data.toList⟩
def vTo (s:Sp):Vv:=⟨s.t1,s.t2,s.t3,s.t4.data.toList,s.t5.data.toList⟩
def soundS (s:Sp):Bool:=soundV (vFrom s) && (s.o || soundV (vTo s))
def smallS (s:Sp):Prop:=s.f4.size<=1048576/\s.f5.size<=1048576/\s.t4.size<=1048576/\s.t5.size<=1048576
def EltAt (w:World) (p:Addr) (s:Sp):Prop:=w.cell? p=some (.int .i64 s.f1)/\w.cell? ⟨p.block,p.off+1,none⟩=some (.int .i64 s.f2)/\w.cell? ⟨p.block,p.off+2,none⟩=some (.int .i64 s.f3)/\w.cell? ⟨p.block,p.off+3,none⟩=some (.string s.f4)/\w.cell? ⟨p.block,p.off+4,none⟩=some (.string s.f5)/\w.cell? ⟨p.block,p.off+5,none⟩=some (.int .i64 s.t1)/\w.cell? ⟨p.block,p.off+6,none⟩=some (.int .i64 s.t2)/\w.cell? ⟨p.block,p.off+7,none⟩=some (.int .i64 s.t3)/\w.cell? ⟨p.block,p.off+8,none⟩=some (.string s.t4)/\w.cell? ⟨p.block,p.off+9,none⟩=some (.string s.t5)/\w.cell? ⟨p.block,p.off+10,none⟩=some (.bool s.o)
theorem EltAt.grow {w w':World} {p:Addr} {s:Sp} (h:EltAt w p s) (hg:w.grownBy w' none):EltAt w' p s:=by
 obtain ⟨h0,h1,h2,h3,h4,h5,h6,h7,h8,h9,h10⟩:=h
 exact ⟨hg.cell h0 (by simp),hg.cell h1 (by simp),hg.cell h2 (by simp),hg.cell h3 (by simp),hg.cell h4 (by simp),hg.cell h5 (by simp),hg.cell h6 (by simp),hg.cell h7 (by simp),hg.cell h8 (by simp),hg.cell h9 (by simp),hg.cell h10 (by simp)⟩
def SpAt (w:World) (a:Addr) (L:List Sp):Prop:=∀i (hi:i < L.length),EltAt w (a.add (i * 11)) L[i]
theorem SpAt.grow {w w':World} {a:Addr} {L:List Sp} (h:SpAt w a L) (hg:w.grownBy w' none):SpAt w' a L:=fun i hi=>(h i hi).grow hg
theorem add_off (a:Addr) (n k:Nat) (hk:0 < k):a.add (n+k)=⟨(a.add n).block,(a.add n).off+k,none⟩:=by
 unfold Addr.add
 rw [if_neg (by omega)]
 by_cases h:n=0
 ·rw [if_pos h,h];simp
 ·rw [if_neg h];simp [Nat.add_assoc]
theorem elt_of_cells {w:World} {a:Addr} {n:Nat} {s:Sp} (h:∀k v,(spC s)[k]?=some v->w.cell? (a.add (n+k))=some v):EltAt w (a.add n) s :=
 ⟨by have:=h 0 _ rfl;simpa using this,by have:=h 1 _ rfl;rw [add_off a n 1 (by omega)] at this;exact this,by have:=h 2 _ rfl;rw [add_off a n 2 (by omega)] at this;exact this,by have:=h 3 _ rfl;rw [add_off a n 3 (by omega)] at this;exact this,by have:=h 4 _ rfl;rw [add_off a n 4 (by omega)] at this;exact this,by have:=h 5 _ rfl;rw [add_off a n 5 (by omega)] at this;exact this,by have:=h 6 _ rfl;rw [add_off a n 6 (by omega)] at this;exact this,by have:=h 7 _ rfl;rw [add_off a n 7 (by omega)] at this;exact this,by have:=h 8 _ rfl;rw [add_off a n 8 (by omega)] at this;exact this,by have:=h 9 _ rfl;rw [add_off a n 9 (by omega)] at this;exact this,by have:=h 10 _ rfl;rw [add_off a n 10 (by omega)] at this;exact this⟩
open Go.RowKit
set_option linter.unusedVariables false
def cFrom (s:Sp):V:=⟨s.f1,s.f2,s.f3,s.f4.data.toList⟩
def cTo (s:Sp):V:=⟨s.t1,s.t2,s.t3,s.t4.data.toList⟩
def hasS (s:Sp) (v:V):Bool:=decide (verC (cFrom s) v<=0) && (s.o || decide (verC v (cTo s) < 0))
def holdsL (L:List Sp) (v:V):Bool:=L.any fun s=>hasS s v
end Go.Proofs.YtonfldbigenfhaaGreatDoor
namespace Go.Proofs
open Go.Shelf
def Tryz.lays99_ren:Go.Shelf.Ren:=⟨fun | 99=>106 | 206=>122 | n=>n,fun | 22=>54 | 23=>170 | 27=>118 | 28=>131 | 31=>93 | 37=>120 | 40=>236 | 41=>113 | 42=>140 | 43=>117 | 46=>178 | 47=>177 | 51=>210 | 52=>209 | 53=>196 | 54=>197 | 55=>213 | 59=>154 | 60=>155 | 63=>217 | 64=>228 | 67=>95 | 68=>112 | 69=>163 | 70=>119 | 71=>121 | 72=>122 | 73=>123 | 74=>124 | 75=>125 | 76=>126 | 77=>127 | 80=>128 | 81=>99 | 83=>98 | 84=>172 | 104=>38 | 105=>215 | 106=>216 | 111=>55 | 112=>97 | 114=>214 | 115=>189 | 116=>190 | 117=>191 | 118=>192 | 119=>232 | 122=>188 | 123=>193 | 124=>194 | 127=>160 | 131=>207 | 137=>233 | 138=>234 | 139=>235 | 146=>226 | 151=>227 | 164=>173 | 165=>174 | 166=>175 | 171=>195 | 172=>198 | 173=>199 | 174=>200 | 182=>202 | 183=>203 | 211=>218 | 212=>219 | 213=>220 | 218=>221 | 219=>222 | 220=>223 | 222=>137 | 228=>229 | 229=>230 | 232=>237 | 233=>238 | 238=>239 | 239=>240 | 240=>241 | 241=>242 | 242=>243 | 243=>244 | 244=>245 | 245=>246 | 246=>247 | 247=>248 | 248=>249 | 249=>250 | n=>n,fun | 1=>0 | 3=>2 | 4=>3 | 17=>1 | 18=>4 | 19=>5 | n=>n⟩
set_option maxRecDepth 100000 in
theorem Tryz.lays99:Go.Proofs.Lays.n99 Tryz.prog Tryz.lays99_ren:={
 mixed:=by kernel_rfl
 f99:=Tryz.func106.trans (congrArg some (by kernel_rfl))
 f206:=Tryz.func122.trans (congrArg some (by kernel_rfl))
 t3:=Tryz.underlying3
 a3:=Tryz.isAgg3
 z3:=Tryz.sizeOf3
 v3:=Tryz.zeroValue3
 t4:=Tryz.underlying4
 a4:=Tryz.isAgg4
 z4:=Tryz.sizeOf4
 v4:=Tryz.zeroValue4
 t9:=Tryz.underlying9
 a9:=Tryz.isAgg9
 z9:=Tryz.sizeOf9
 v9:=Tryz.zeroValue9 }
end Go.Proofs
