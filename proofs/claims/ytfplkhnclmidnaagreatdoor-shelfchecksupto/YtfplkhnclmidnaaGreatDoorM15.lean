import Derived.Test.YtfplkhnclmidnaaGreatDoorM14
import Derived.Below
import Derived.Deep.RegionHeld3
import Derived.Test.YtfplkhnclmidnaaGreatDoorM12
import Derived.Shelf.SlSortCmp.NoneTotal
import Derived.Test.YtfplkhnclmidnaaGreatDoorProg
import Derived.Test.YtfplkhnclmidnaaGreatDoorM13
import Derived.Test.YtfplkhnclmidnaaGreatDoorM11
namespace Go.Proofs.YtfplkhnclmidnaaGreatDoor.G
open Go.RowKit
set_option linter.unusedVariables false
theorem emp_t {a:ByteArray} (h:a.size=0):a.toList.isEmpty=true:=by
 rw [Lib.toList_data,List.isEmpty_iff];exact List.length_eq_zero_iff.1 (by simpa using h)
theorem emp_f {a:ByteArray} (h:a.size ≠ 0):a.toList.isEmpty=false:=by
 rw [Lib.toList_data]
 cases hl:a.data.toList with
 | nil=>exact absurd (show a.size=0 from by show a.data.size=0;rw [<-Array.length_toList,hl];rfl) h
 | cons c l=>rfl
set_option maxHeartbeats 400000 in
theorem pre_e (a b:ByteArray) (w:World) (h:a.size=0\/b.size=0) :
  Calls Tryz.prog 66 #[.string a,.string b] w fun e w'=>e=.returned (.int .i64 (preC a.data.toList b.data.toList))/\Gr w w':=by
 have HE:Hid (preC a.data.toList b.data.toList=Lib.compareInt b.size a.size):=by
  show preC a.data.toList b.data.toList=Lib.compareInt b.size a.size
  rw [pre_empty]
  ·simp
  ·rcases h with h | h
   ·left;exact List.length_eq_zero_iff.1 (by simpa using h)
   ·right;exact List.length_eq_zero_iff.1 (by simpa using h)
 rw [HE.out]
 by_cases ha:a.size=0
 ·have c1:=emp_t ha
  have HA:Hid (a.size=0):=ha
  clear h ha
  go_enter Tryz.func66,Tryz.ntmps66
  go_wp2_with (first | (go_at_call 65;refine (cmpInt_any _ _ _).mono ?_;rintro e w' ⟨rfl,rfl⟩))
  all_goals (go_ret;exact ⟨rfl,gr_refl _⟩)
 ·have c1:=emp_f ha
  have c2:=emp_t (h.resolve_left ha)
  clear h ha
  go_enter Tryz.func66,Tryz.ntmps66
  go_wp2_with (first | (go_at_call 65;refine (cmpInt_any _ _ _).mono ?_;rintro e w' ⟨rfl,rfl⟩))
  all_goals (go_ret;exact ⟨rfl,gr_refl _⟩)
def sizeV:Value->Nat
 | .string s=>s.size
 | _=>0
theorem part_order (P Q:List UInt8) :
  (∃X1 T2 X2,partV P=.iface 168 (.string X1)/\partV Q=.iface T2 (.string X2)/\∀w,Calls Tryz.prog 193 #[.string X1,.iface T2 (.string X2)] w fun e w'=>e=.returned (.int .i64 (partC P Q))/\∃n,w'=w.drewN n) ∨
  (∃X1 T2 X2,partV P=.iface 170 (.string X1)/\partV Q=.iface T2 (.string X2)/\∀w,Calls Tryz.prog 196 #[.string X1,.iface T2 (.string X2)] w fun e w'=>e=.returned (.int .i64 (partC P Q))/\∃n,w'=w.drewN n):=by
 cases hp:numT P with
 | true =>
  left
  cases hq:numT Q with
  | true =>
   refine ⟨⟨(bareT P).toArray⟩,_,⟨(bareT Q).toArray⟩,by unfold partV;rw [hp];rfl,by unfold partV;rw [hq];rfl,fun w=>?_⟩
   rw [partC_nn hp hq]
   have s1:(⟨(bareT P).toArray⟩:ByteArray).size=(bareT P).length:=by show (bareT P).toArray.size=_;simp
   have s2:(⟨(bareT Q).toArray⟩:ByteArray).size=(bareT Q).length:=by show (bareT Q).toArray.size=_;simp
   by_cases h:((bareT P).length:Int)=(bareT Q).length
   ·rw [if_pos h];exact orderNN_eq _ _ w (by rw [s1,s2];omega)
   ·rw [if_neg h]
    have:=orderNN_ne ⟨(bareT P).toArray⟩ ⟨(bareT Q).toArray⟩ w (by rw [s1,s2];omega)
    rw [s1,s2] at this;exact this
  | false =>
   refine ⟨⟨(bareT P).toArray⟩,_,⟨Q.toArray⟩,by unfold partV;rw [hp];rfl,by unfold partV;rw [hq];rfl,fun w=>?_⟩
   rw [partC_nw hp hq];exact orderNW _ _ w
 | false =>
  right
  cases hq:numT Q with
  | true =>
   refine ⟨⟨P.toArray⟩,_,⟨(bareT Q).toArray⟩,by unfold partV;rw [hp];rfl,by unfold partV;rw [hq];rfl,fun w=>?_⟩
   rw [partC_wn hp hq];exact orderWN _ _ w
  | false =>
   refine ⟨⟨P.toArray⟩,_,⟨Q.toArray⟩,by unfold partV;rw [hp];rfl,by unfold partV;rw [hq];rfl,fun w=>?_⟩
   rw [partC_ww hp hq];exact orderWW _ _ w
set_option maxHeartbeats 4000000 in
set_option maxRecDepth 100000 in
theorem pre_f (a b:ByteArray) (w:World) (ha:a.size ≠ 0) (hb:b.size ≠ 0) (hs:a.size < 2 ^ 62) (hs':b.size < 2 ^ 62) :
  Calls Tryz.prog 66 #[.string a,.string b] w fun e w'=>e=.returned (.int .i64 (listC partC (splitD a.data.toList) (splitD b.data.toList)))/\Gr w w':=by
 have c1:=emp_f ha
 have c2:=emp_f hb
 obtain ⟨R,hR⟩:∃R,R=listC partC (splitD a.data.toList) (splitD b.data.toList):=⟨_,rfl⟩
 rw [<-hR]
 have HR:Hid (R=listC partC (splitD a.data.toList) (splitD b.data.toList)):=hR
 clear hR ha hb
 go_enter Tryz.func66,Tryz.ntmps66
 go_wp2_with (fail)
 go_loopw [0,1] (fun va vb wr=>∃x y:ByteArray,va=.string x/\vb=.string y/\x.size < 2 ^ 62/\y.size < 2 ^ 62/\R=listC partC (splitD x.data.toList) (splitD y.data.toList)/\Gr w wr) (fun va _ _=>sizeV va)
 case atStart=>exact ⟨a,b,rfl,rfl,hs,hs',HR.out,gr_refl _⟩
 case round =>
  obtain ⟨x,y,rfl,rfl,hx,hy,hr,hgb⟩:=hrel
  have HX:Hid (R=listC partC (splitD x.data.toList) (splitD y.data.toList)):=hr
  have HG:Hid (Gr w wr):=hgb
  have HB:Hid (x.size < 2 ^ 62/\y.size < 2 ^ 62):=⟨hx,hy⟩
  obtain ⟨P1,hP1⟩:∃P1,P1=cut1 x.data.toList:=⟨_,rfl⟩
  obtain ⟨P2,hP2⟩:∃P2,P2=cut2 x.data.toList:=⟨_,rfl⟩
  obtain ⟨P3,hP3⟩:∃P3,P3=cut3 x.data.toList:=⟨_,rfl⟩
  obtain ⟨Q1,hQ1⟩:∃Q1,Q1=cut1 y.data.toList:=⟨_,rfl⟩
  obtain ⟨Q2,hQ2⟩:∃Q2,Q2=cut2 y.data.toList:=⟨_,rfl⟩
  obtain ⟨Q3,hQ3⟩:∃Q3,Q3=cut3 y.data.toList:=⟨_,rfl⟩
  have HP:Hid (P1=cut1 x.data.toList/\P2=cut2 x.data.toList/\P3=cut3 x.data.toList):=⟨hP1,hP2,hP3⟩
  have HQ:Hid (Q1=cut1 y.data.toList/\Q2=cut2 y.data.toList/\Q3=cut3 y.data.toList):=⟨hQ1,hQ2,hQ3⟩
  have C1:=fun w=>cut_any x w hx
  rw [<-hP1,<-hP2,<-hP3] at C1
  have C2:=fun w=>cut_any y w hy
  rw [<-hQ1,<-hQ2,<-hQ3] at C2
  have p1:(⟨P1.toArray⟩:ByteArray).size < 2 ^ 62:=by
   have:=cut1_len x.data.toList
   rw [<-hP1] at this;show P1.toArray.size < _;simp at this ⊢;omega
  have q1:(⟨Q1.toArray⟩:ByteArray).size < 2 ^ 62:=by
   have:=cut1_len y.data.toList
   rw [<-hQ1] at this;show Q1.toArray.size < _;simp at this ⊢;omega
  have D1:Hid (∀w,Calls Tryz.prog 81 #[.string ⟨P1.toArray⟩] w fun e w'=>e=.returned (partV P1)/\Gr w w'):=fun w=>partOf_any ⟨P1.toArray⟩ w p1
  have D2:Hid (∀w,Calls Tryz.prog 81 #[.string ⟨Q1.toArray⟩] w fun e w'=>e=.returned (partV Q1)/\Gr w w'):=fun w=>partOf_any ⟨Q1.toArray⟩ w q1
  have HC1:Hid (∀w,Calls Tryz.prog 80 #[.string x,.string ⟨#[46]⟩] w fun e w'=>e=.returned (.tuple #[.string ⟨P1.toArray⟩,.string ⟨P2.toArray⟩,.bool P3])/\∃n,w'=w.drewN n):=C1
  have HC2:Hid (∀w,Calls Tryz.prog 80 #[.string y,.string ⟨#[46]⟩] w fun e w'=>e=.returned (.tuple #[.string ⟨Q1.toArray⟩,.string ⟨Q2.toArray⟩,.bool Q3])/\∃n,w'=w.drewN n):=C2
  clear hP1 hP2 hP3 hQ1 hQ2 hQ3 C1 C2 p1 q1 hr hgb hx hy
  obtain ⟨O,hO⟩:∃O,O=partC P1 Q1:=⟨_,rfl⟩
  have HS:Hid (R=if O=0 then (if P3=true then (if Q3=true then listC partC (splitD P2) (splitD Q2) else 1) else (if Q3=true then -1 else 0)) else O):=by
   show R=_
   have h1:=HP.out
   have h2:=HQ.out
   rw [HX.out,list_step,<-h1.1,<-h1.2.1,<-h1.2.2,<-h2.1,<-h2.2.1,<-h2.2.2,<-hO]
  have HL:Hid ((P3=true->P2.length < x.size)/\P2.length < 2 ^ 62/\Q2.length < 2 ^ 62):=by
   have h1:=HP.out
   have h2:=HQ.out
   have h3:=HB.out
   have z1:x.data.toList.length=x.size:=by simp
   have z2:y.data.toList.length=y.size:=by simp
   have l1:=cut2_len x.data.toList
   have l2:=cut2_len y.data.toList
   rw [<-h1.2.1] at l1
   rw [<-h2.2.1] at l2
   refine ⟨fun h=>?_,by omega,by omega⟩
   have:=(cut_yes (h1.2.2 ▸ h:cut3 x.data.toList=true)).2
   rw [<-h1.2.1] at this
   omega
  rcases part_order P1 Q1 with ⟨X1,T2,X2,hv1,hv2,ho⟩ | ⟨X1,T2,X2,hv1,hv2,ho⟩
  ·rw [<-hO] at ho
   rw [hv1] at D1
   rw [hv2] at D2
   have H0:Hid (∀w,Calls Tryz.prog 193 #[.string X1,.iface T2 (.string X2)] w fun e w'=>e=.returned (.int .i64 O)/\∃n,w'=w.drewN n):=ho
   clear ho hv1 hv2 hO
   have na:∀w,(nilAhead 370 168 (.string X1) "pantry/ver.order").run Tryz.prog w=.ok (some false) w:=fun w=>by kernel_rfl
   have hm:∀w,(method 370 168 (.string X1) "pantry/ver.order").run Tryz.prog w=.ok (193,.string X1) w:=fun w=>by kernel_rfl
   go_wp2_with (go_at_call 80;refine (HC1.out _).mono ?_)
   rintro e w1 ⟨rfl,n1,rfl⟩
   go_wp2_with (go_at_call 80;refine (HC2.out _).mono ?_)
   rintro e w1 ⟨rfl,n2,rfl⟩
   go_wp2
   go_region_with (first | (go_at_call_of 81 (Value.string ⟨P1.toArray⟩);refine (D1.out _).mono ?_;rintro e w3 ⟨rfl,hg3⟩) | (go_at_call_of 81 (Value.string ⟨Q1.toArray⟩);refine (D2.out _).mono ?_;rintro e w4 ⟨rfl,hg4⟩) | (go_at_call 193;refine (H0.out _).mono ?_;rintro e w5 ⟨rfl,n5,rfl⟩))
   all_goals
    have GB:Hid (Gr w w4):=gr_trans (gr_trans (gr_drew HG.out _) hg3) hg4
    clear hg3 hg4 na hm
    cases hz:(O == 0) with
    | false =>
     have HZ:Hid (R=O):=by
      show R=O
      rw [HS.out,if_neg (by simpa using hz)]
     go_wp2
     go_ret
     exact ⟨ret_int HZ.out.symm,gr_drew GB.out _⟩
    | true =>
     have HZ:Hid (O=0):=by
      show O=0
      simpa using hz
     cases P3 with
     | true =>
      cases Q3 with
      | true =>
       go_wp2
       go_roundw
       case rel =>
        refine ⟨⟨P2.toArray⟩,⟨Q2.toArray⟩,rfl,rfl,?_,?_,?_,gr_drew GB.out _⟩
        ·show P2.toArray.size < _
         have:=HL.out.2.1;simpa using this
        ·show Q2.toArray.size < _
         have:=HL.out.2.2;simpa using this
        ·rw [HS.out,if_pos HZ.out];rfl
       case measure =>
        have:=HL.out.1 rfl
        show P2.toArray.size < x.size
        simpa using this
      | false =>
       have HE:Hid (R=1):=by show R=1;rw [HS.out,if_pos HZ.out];rfl
       go_wp2
       go_ret
       exact ⟨ret_int HE.out.symm,gr_drew GB.out _⟩
     | false =>
      cases Q3 with
      | true =>
       have HE:Hid (R=-1):=by show R=-1;rw [HS.out,if_pos HZ.out];rfl
       go_wp2
       go_ret
       exact ⟨ret_int HE.out.symm,gr_drew GB.out _⟩
      | false =>
       have HE:Hid (R=0):=by show R=0;rw [HS.out,if_pos HZ.out];rfl
       go_wp2
       go_ret
       exact ⟨ret_int HE.out.symm,gr_drew GB.out _⟩
  ·rw [<-hO] at ho
   rw [hv1] at D1
   rw [hv2] at D2
   have H0:Hid (∀w,Calls Tryz.prog 196 #[.string X1,.iface T2 (.string X2)] w fun e w'=>e=.returned (.int .i64 O)/\∃n,w'=w.drewN n):=ho
   clear ho hv1 hv2 hO
   have na:∀w,(nilAhead 370 170 (.string X1) "pantry/ver.order").run Tryz.prog w=.ok (some false) w:=fun w=>by kernel_rfl
   have hm:∀w,(method 370 170 (.string X1) "pantry/ver.order").run Tryz.prog w=.ok (196,.string X1) w:=fun w=>by kernel_rfl
   go_wp2_with (go_at_call 80;refine (HC1.out _).mono ?_)
   rintro e w1 ⟨rfl,n1,rfl⟩
   go_wp2_with (go_at_call 80;refine (HC2.out _).mono ?_)
   rintro e w1 ⟨rfl,n2,rfl⟩
   go_wp2
   go_region_with (first | (go_at_call_of 81 (Value.string ⟨P1.toArray⟩);refine (D1.out _).mono ?_;rintro e w3 ⟨rfl,hg3⟩) | (go_at_call_of 81 (Value.string ⟨Q1.toArray⟩);refine (D2.out _).mono ?_;rintro e w4 ⟨rfl,hg4⟩) | (go_at_call 196;refine (H0.out _).mono ?_;rintro e w5 ⟨rfl,n5,rfl⟩))
   all_goals
    have GB:Hid (Gr w w4):=gr_trans (gr_trans (gr_drew HG.out _) hg3) hg4
    clear hg3 hg4 na hm
    cases hz:(O == 0) with
    | false =>
     have HZ:Hid (R=O):=by
      show R=O
      rw [HS.out,if_neg (by simpa using hz)]
     go_wp2
     go_ret
     exact ⟨ret_int HZ.out.symm,gr_drew GB.out _⟩
    | true =>
     have HZ:Hid (O=0):=by
      show O=0
      simpa using hz
     cases P3 with
     | true =>
      cases Q3 with
      | true =>
       go_wp2
       go_roundw
       case rel =>
        refine ⟨⟨P2.toArray⟩,⟨Q2.toArray⟩,rfl,rfl,?_,?_,?_,gr_drew GB.out _⟩
        ·show P2.toArray.size < _
         have:=HL.out.2.1;simpa using this
        ·show Q2.toArray.size < _
         have:=HL.out.2.2;simpa using this
        ·rw [HS.out,if_pos HZ.out];rfl
       case measure =>
        have:=HL.out.1 rfl
        show P2.toArray.size < x.size
        simpa using this
      | false =>
       have HE:Hid (R=1):=by show R=1;rw [HS.out,if_pos HZ.out];rfl
       go_wp2
       go_ret
       exact ⟨ret_int HE.out.symm,gr_drew GB.out _⟩
     | false =>
      cases Q3 with
      | true =>
       have HE:Hid (R=-1):=by show R=-1;rw [HS.out,if_pos HZ.out];rfl
       go_wp2
       go_ret
       exact ⟨ret_int HE.out.symm,gr_drew GB.out _⟩
      | false =>
       have HE:Hid (R=0):=by show R=0;rw [HS.out,if_pos HZ.out];rfl
       go_wp2
       go_ret
       exact ⟨ret_int HE.out.symm,gr_drew GB.out _⟩
theorem pre_any (a b:ByteArray) (w:World) (hs:a.size < 2 ^ 62) (hs':b.size < 2 ^ 62) :
  Calls Tryz.prog 66 #[.string a,.string b] w fun e w'=>e=.returned (.int .i64 (preC a.data.toList b.data.toList))/\Gr w w':=by
 by_cases h:a.size=0\/b.size=0
 ·exact pre_e a b w h
 ·have ha:a.size ≠ 0:=fun e=>h (Or.inl e)
  have hb:b.size ≠ 0:=fun e=>h (Or.inr e)
  rw [pre_full a.data.toList b.data.toList (fun e=>ha (by show a.data.size=0;rw [<-Array.length_toList,e];rfl)) (fun e=>hb (by show b.data.size=0;rw [<-Array.length_toList,e];rfl))]
  exact pre_f a b w ha hb hs hs'
end Go.Proofs.YtfplkhnclmidnaaGreatDoor.G
namespace Go.Proofs.YtfplkhnclmidnaaGreatDoor.G
open Go.RowKit
set_option linter.unusedVariables false
def or3 (x y z:Int):Int:=if x=0 then (if y=0 then z else y) else x
set_option maxHeartbeats 400000 in
theorem or_any (x y z:Int) (b:Nat) (w:World) (h0:w.cell? ⟨b,0,none⟩=some (.int .i64 x)) (h1:w.cell? ⟨b,1,none⟩=some (.int .i64 y)) (h2:w.cell? ⟨b,2,none⟩=some (.int .i64 z)) :
  Calls Tryz.prog 64 #[.slice (some ⟨b,0,none⟩) 3 3] w fun e w'=>e=.returned (.int .i64 (or3 x y z))/\w'=w:=by
 obtain ⟨R,hR⟩:∃R,R=or3 x y z:=⟨_,rfl⟩
 have HR:Hid (R=or3 x y z):=hR
 rw [<-hR]
 clear hR
 go_enter Tryz.func64,Tryz.ntmps64
 go_wp2
 go_loop [8] (fun i=>∃k:Nat,k<=3/\i=.int .i64 k/\(1<=k->x=0)/\(2<=k->y=0)/\(3<=k->z=0)) (fun i=>3 - (intOf i).toNat)
 case atStart=>exact ⟨0,by omega,rfl,by omega,by omega,by omega⟩
 case round =>
  obtain ⟨k,hk,rfl,k1,k2,k3⟩:=hrel
  rcases (show k=0\/k=1\/k=2\/k=3 by omega) with rfl | rfl | rfl | rfl
  ·clear k1 k2 k3 hk
   cases hz:(x == 0) with
   | true =>
    have hx:x=0:=by simpa using hz
    go_wp2
    go_round
    case rel=>exact ⟨1,by omega,rfl,fun _=>hx,by omega,by omega⟩
    case measure=>simp [intOf]
   | false =>
    have HZ:Hid (R=x):=by show R=x;rw [HR.out];unfold or3;rw [if_neg (by simpa using hz)]
    go_wp2
    go_ret
    exact ⟨ret_int HZ.out.symm,rfl⟩
  ·have hx:Hid (x=0):=k1 (by omega)
   clear k1 k2 k3 hk
   cases hz:(y == 0) with
   | true =>
    have hy:y=0:=by simpa using hz
    go_wp2
    go_round
    case rel=>exact ⟨2,by omega,rfl,fun _=>hx.out,fun _=>hy,by omega⟩
    case measure=>simp [intOf]
   | false =>
    have HZ:Hid (R=y):=by show R=y;rw [HR.out];unfold or3;rw [if_pos hx.out,if_neg (by simpa using hz)]
    go_wp2
    go_ret
    exact ⟨ret_int HZ.out.symm,rfl⟩
  ·have hx:Hid (x=0):=k1 (by omega)
   have hy:Hid (y=0):=k2 (by omega)
   clear k1 k2 k3 hk
   have HZ:Hid (R=z):=by show R=z;rw [HR.out];unfold or3;rw [if_pos hx.out,if_pos hy.out]
   cases hz:(z == 0) with
   | true =>
    have hy':z=0:=by simpa using hz
    go_wp2
    go_round
    case rel=>exact ⟨3,by omega,rfl,fun _=>hx.out,fun _=>hy.out,fun _=>hy'⟩
    case measure=>simp [intOf]
   | false =>
    go_wp2
    go_ret
    exact ⟨ret_int HZ.out.symm,rfl⟩
  ·have HZ:Hid (R=0):=by show R=0;rw [HR.out];unfold or3;rw [if_pos (k1 (by omega)),if_pos (k2 (by omega)),k3 (by omega)]
   clear k1 k2 k3 hk
   go_wp2
   go_ret
   exact ⟨ret_int HZ.out.symm,rfl⟩
theorem verC_or (a b:V):verC a b=if or3 (Lib.compareInt a.major b.major) (Lib.compareInt a.minor b.minor) (Lib.compareInt a.patch b.patch)=0 then preC a.pre b.pre else or3 (Lib.compareInt a.major b.major) (Lib.compareInt a.minor b.minor) (Lib.compareInt a.patch b.patch):=by
 rw [verC_eq];unfold or3
 repeat' split
 all_goals first | rfl | (exfalso;omega) | omega
set_option maxHeartbeats 800000 in
theorem compare_any (a1 a2 a3 b1 b2 b3:Int) (a4 a5 b4 b5:ByteArray) (w:World) (hs:a4.size < 2 ^ 62) (hs':b4.size < 2 ^ 62) :
  Calls Tryz.prog 50 #[.agg #[.int .i64 a1,.int .i64 a2,.int .i64 a3,.string a4,.string a5],.agg #[.int .i64 b1,.int .i64 b2,.int .i64 b3,.string b4,.string b5]] w fun e w'=>e=.returned (.int .i64 (verC ⟨a1,a2,a3,a4.data.toList⟩ ⟨b1,b2,b3,b4.data.toList⟩))/\Gr w w':=by
 obtain ⟨R,hR⟩:∃R,R=verC ⟨a1,a2,a3,a4.data.toList⟩ ⟨b1,b2,b3,b4.data.toList⟩:=⟨_,rfl⟩
 obtain ⟨x,hx⟩:∃x,x=Lib.compareInt a1 b1:=⟨_,rfl⟩
 obtain ⟨y,hy⟩:∃y,y=Lib.compareInt a2 b2:=⟨_,rfl⟩
 obtain ⟨z,hz⟩:∃z,z=Lib.compareInt a3 b3:=⟨_,rfl⟩
 obtain ⟨p,hp⟩:∃p,p=preC a4.data.toList b4.data.toList:=⟨_,rfl⟩
 obtain ⟨o,ho⟩:∃o,o=or3 x y z:=⟨_,rfl⟩
 have HR:Hid (R=if o=0 then p else o):=by
  show R=if o=0 then p else o
  rw [hR,verC_or,ho,hx,hy,hz,hp]
 have C1:Hid (∀w,Calls Tryz.prog 65 #[.int .i64 a1,.int .i64 b1] w fun e w'=>e=.returned (.int .i64 x)/\w'=w):=fun w=>by rw [hx];exact cmpInt_any _ _ w
 have C2:Hid (∀w,Calls Tryz.prog 65 #[.int .i64 a2,.int .i64 b2] w fun e w'=>e=.returned (.int .i64 y)/\w'=w):=fun w=>by rw [hy];exact cmpInt_any _ _ w
 have C3:Hid (∀w,Calls Tryz.prog 65 #[.int .i64 a3,.int .i64 b3] w fun e w'=>e=.returned (.int .i64 z)/\w'=w):=fun w=>by rw [hz];exact cmpInt_any _ _ w
 have CP:Hid (∀w,Calls Tryz.prog 66 #[.string a4,.string b4] w fun e w'=>e=.returned (.int .i64 p)/\Gr w w'):=fun w=>by rw [hp];exact pre_any a4 b4 w hs hs'
 have CO:Hid (∀(b:Nat) (w:World),w.cell? ⟨b,0,none⟩=some (.int .i64 x)->w.cell? ⟨b,1,none⟩=some (.int .i64 y)->w.cell? ⟨b,2,none⟩=some (.int .i64 z)->Calls Tryz.prog 64 #[.slice (some ⟨b,0,none⟩) 3 3] w fun e w'=>e=.returned (.int .i64 o)/\w'=w):=fun b w h0 h1 h2=>by rw [ho];exact or_any x y z b w h0 h1 h2
 rw [<-hR]
 clear hR hx hy hz hp ho hs hs'
 go_enter Tryz.func50,Tryz.ntmps50
 go_wp2
 obtain ⟨W,hW⟩:∃W,(w.alloc (.cells #[.int .i64 a1,.int .i64 a2,.int .i64 a3,.string a4,.string a5] 70)).alloc (.cells #[.int .i64 b1,.int .i64 b2,.int .i64 b3,.string b4,.string b5] 70)=W:=⟨_,rfl⟩
 rw [hW]
 have g1:W.heap[w.heap.size]?=some (.cells #[.int .i64 a1,.int .i64 a2,.int .i64 a3,.string a4,.string a5] 70 (0,0)):=by
  rw [<-hW,Lib.alloc_old _ _ _ (by simp)]
  exact heap_alloc_new w _
 have g2:W.heap[w.heap.size+1]?=some (.cells #[.int .i64 b1,.int .i64 b2,.int .i64 b3,.string b4,.string b5] 70 (0,0)):=by
  rw [<-hW]
  have:=heap_alloc_new (w.alloc (.cells #[.int .i64 a1,.int .i64 a2,.int .i64 a3,.string a4,.string a5] 70)) (.cells #[.int .i64 b1,.int .i64 b2,.int .i64 b3,.string b4,.string b5] 70)
  rw [show (w.alloc (.cells #[.int .i64 a1,.int .i64 a2,.int .i64 a3,.string a4,.string a5] 70)).heap.size=w.heap.size+1 by simp] at this
  exact this
 have HGW:Hid (Gr w W):=by
  show Gr w W
  rw [<-hW]
  exact ⟨⟨rfl,rfl,rfl,by simp;omega,fun k hk _=>by rw [Lib.alloc_old _ _ _ (by simp;omega),Lib.alloc_old _ _ _ hk]⟩,Nat.le_refl _⟩
 have HSZ:Hid (W.heap.size=w.heap.size+2):=by
  show W.heap.size=w.heap.size+2
  rw [<-hW];simp
 obtain ⟨A,hA⟩:∃A,w.heap.size=A:=⟨_,rfl⟩
 rw [hA] at g1 g2
 rw [hA]
 have HA:Hid (W.heap.size=A+2):=by
  show W.heap.size=A+2
  rw [<-hA];exact HSZ.out
 have c0:W.cell? ⟨A,0,none⟩=some (.int .i64 a1):=by rw [Lib.cell_of_heap g1];rfl
 have c1:W.cell? ⟨A,1,none⟩=some (.int .i64 a2):=by rw [Lib.cell_of_heap g1];rfl
 have c2:W.cell? ⟨A,2,none⟩=some (.int .i64 a3):=by rw [Lib.cell_of_heap g1];rfl
 have c3:Hid (W.cell? ⟨A,3,none⟩=some (.string a4)):=by show W.cell? _=_;rw [Lib.cell_of_heap g1];rfl
 have d0:W.cell? ⟨A+1,0,none⟩=some (.int .i64 b1):=by rw [Lib.cell_of_heap g2];rfl
 have d1:W.cell? ⟨A+1,1,none⟩=some (.int .i64 b2):=by rw [Lib.cell_of_heap g2];rfl
 have d2:W.cell? ⟨A+1,2,none⟩=some (.int .i64 b3):=by rw [Lib.cell_of_heap g2];rfl
 have d3:Hid (W.cell? ⟨A+1,3,none⟩=some (.string b4)):=by show W.cell? _=_;rw [Lib.cell_of_heap g2];rfl
 clear hW hA HSZ g1 g2
 go_region_held3 (fun w'=>w'.cell? ⟨A,0,none⟩=some (.int .i64 a1)/\w'.cell? ⟨A,1,none⟩=some (.int .i64 a2)/\w'.cell? ⟨A,2,none⟩=some (.int .i64 a3)/\w'.cell? ⟨A+1,0,none⟩=some (.int .i64 b1)/\w'.cell? ⟨A+1,1,none⟩=some (.int .i64 b2)/\w'.cell? ⟨A+1,2,none⟩=some (.int .i64 b3)) (go_keep) (first | (go_at_call_of 65 (Value.int .i64 a1);refine (C1.out _).mono ?_;rintro e w' ⟨rfl,rfl⟩) | (go_at_call_of 65 (Value.int .i64 a2);refine (C2.out _).mono ?_;rintro e w' ⟨rfl,rfl⟩) | (go_at_call_of 65 (Value.int .i64 a3);refine (C3.out _).mono ?_;rintro e w' ⟨rfl,rfl⟩) | (go_at_call 64;refine (CO.out _ _ (by simp) (by simp) (by simp)).mono ?_;rintro e w' ⟨rfl,rfl⟩))
 obtain ⟨W2,hW2⟩:∃W2,(W.alloc (.cells #[.int .i64 x,.int .i64 y,.int .i64 z] 3)).drew=W2:=⟨_,rfl⟩
 rw [hW2]
 have hlt:A < W.heap.size/\A+1 < W.heap.size:=by have:=HA.out;omega
 have e3:W2.cell? ⟨A,3,none⟩=some (.string a4):=by
  rw [<-hW2]
  exact (World.cell?_of_block (show ((W.alloc _).drew).heap[A]?=W.heap[A]? from Lib.alloc_old W _ A hlt.1)).trans c3.out
 have f3:W2.cell? ⟨A+1,3,none⟩=some (.string b4):=by
  rw [<-hW2]
  exact (World.cell?_of_block (show ((W.alloc _).drew).heap[A+1]?=W.heap[A+1]? from Lib.alloc_old W _ (A+1) hlt.2)).trans d3.out
 have HG2:Hid (Gr w W2):=by
  show Gr w W2
  rw [<-hW2]
  have h1:Gr W ((W.alloc (.cells #[.int .i64 x,.int .i64 y,.int .i64 z] 3)).drew):=⟨⟨rfl,rfl,rfl,by simp,fun k hk _=>Lib.alloc_old W _ k hk⟩,Nat.le_succ _⟩
  exact gr_trans HGW.out h1
 clear hW2 hlt c0 c1 c2 c3 d0 d1 d2 d3 HA HGW C1 C2 C3 CO
 cases hz:(o == 0) with
 | false =>
  have HZ:Hid (R=o):=by show R=o;rw [HR.out,if_neg (by simpa using hz)]
  go_wp2
  go_ret
  exact ⟨ret_int HZ.out.symm,HG2.out⟩
 | true =>
  have HZ:Hid (R=p):=by show R=p;rw [HR.out,if_pos (by simpa using hz)]
  go_wp2_with (first | (go_at_call 66;refine (CP.out _).mono ?_;rintro e w4 ⟨rfl,hg4⟩))
  go_ret
  exact ⟨ret_int HZ.out.symm,gr_trans HG2.out hg4⟩
end Go.Proofs.YtfplkhnclmidnaaGreatDoor.G
namespace Go.Proofs.YtfplkhnclmidnaaGreatDoor
open Go.RowKit
set_option linter.unusedVariables false
set_option maxRecDepth 100000 in
set_option maxHeartbeats 800000 in
theorem cmpE_any (x y:Er) (w:World) (hx:x.a4.size<=1048576) (hy:y.a4.size<=1048576) :
  Calls Tryz.prog 131 #[.agg (erC x).toArray,.agg (erC y).toArray] w fun e w'=>e=.returned (.int .i64 (verC (toEd x).at_ (toEd y).at_))/\Gr w w':=by
 obtain ⟨a1,a2,a3,a4,a5,l,d⟩:=x
 obtain ⟨b1,b2,b3,b4,b5,m,c⟩:=y
 obtain ⟨r,hr⟩:∃r,verC (toEd ⟨a1,a2,a3,a4,a5,l,d⟩).at_ (toEd ⟨b1,b2,b3,b4,b5,m,c⟩).at_=r:=⟨_,rfl⟩
 have CC:Hid (∀w,Calls Tryz.prog 50 #[.agg #[.int .i64 a1,.int .i64 a2,.int .i64 a3,.string a4,.string a5],.agg #[.int .i64 b1,.int .i64 b2,.int .i64 b3,.string b4,.string b5]] w fun e w'=>e=.returned (.int .i64 r)/\Gr w w'):=fun w=>by
  rw [<-hr];exact G.compare_any a1 a2 a3 b1 b2 b3 a4 a5 b4 b5 w (by simp at hx;omega) (by simp at hy;omega)
 rw [hr]
 clear hr hx hy
 show Calls Tryz.prog 131 #[.agg #[.int .i64 a1,.int .i64 a2,.int .i64 a3,.string a4,.string a5,.int .i64 l,.int .i64 d],.agg #[.int .i64 b1,.int .i64 b2,.int .i64 b3,.string b4,.string b5,.int .i64 m,.int .i64 c]] w _
 go_enter Tryz.func131,Tryz.ntmps131
 go_wp2_with (first | (go_at_call 50;refine (CC.out _).mono ?_))
 rintro e w1 ⟨rfl,hg⟩
 go_wp2
 go_ret
 exact ⟨rfl,gr_trans (gr_alloc (gr_alloc (gr_refl w) _) _) hg⟩
end Go.Proofs.YtfplkhnclmidnaaGreatDoor
namespace Go.Proofs
open Go.Shelf
def Tryz.laysSort_ren:Go.Shelf.Ren:=⟨fun | 6=>130 | 14=>152 | 15=>153 | 20=>160 | 21=>161 | 22=>162 | 23=>163 | 24=>164 | 25=>165 | 26=>166 | 27=>167 | 28=>168 | 29=>169 | 46=>172 | 47=>173 | 48=>174 | 49=>175 | 50=>176 | 57=>177 | n=>n,fun | 22=>186 | 23=>207 | 24=>189 | 25=>208 | 27=>34 | 29=>111 | 37=>221 | 38=>222 | 39=>212 | 42=>87 | 44=>228 | 45=>229 | 46=>230 | 47=>231 | 48=>232 | 49=>233 | 50=>234 | 51=>235 | 52=>236 | 53=>223 | 54=>237 | 55=>50 | 66=>243 | 67=>244 | 68=>245 | 69=>246 | 70=>144 | 71=>247 | 76=>248 | 77=>28 | 78=>249 | 81=>250 | 82=>251 | 83=>252 | 84=>253 | 85=>254 | 86=>255 | 87=>103 | 88=>256 | 89=>257 | 90=>258 | 91=>209 | 92=>259 | 93=>260 | 94=>261 | 95=>262 | 96=>269 | n=>n,fun n=>n⟩
set_option maxRecDepth 100000 in
theorem Tryz.laysSort:Go.Proofs.SlLaysF0.n6 Tryz.prog Tryz.laysSort_ren:={
 mixed:=by kernel_rfl
 f6:=⟨ "slices.SortFunc[[]pantry/span.edge,pantry/span.edge]",by decide,Tryz.func130.trans (congrArg some (by kernel_rfl))⟩
 f14:=⟨ "slices.pdqsortCmpFunc[pantry/span.edge]",by decide,Tryz.func152.trans (congrArg some (by kernel_rfl))⟩
 f15:=Tryz.func153.trans (congrArg some (by kernel_rfl))
 f20:=⟨ "slices.insertionSortCmpFunc[pantry/span.edge]",by decide,Tryz.func160.trans (congrArg some (by kernel_rfl))⟩
 f21:=⟨ "slices.heapSortCmpFunc[pantry/span.edge]",by decide,Tryz.func161.trans (congrArg some (by kernel_rfl))⟩
 f22:=⟨ "slices.breakPatternsCmpFunc[pantry/span.edge]",by decide,Tryz.func162.trans (congrArg some (by kernel_rfl))⟩
 f23:=⟨ "slices.choosePivotCmpFunc[pantry/span.edge]",by decide,Tryz.func163.trans (congrArg some (by kernel_rfl))⟩
 f24:=⟨ "slices.reverseRangeCmpFunc[pantry/span.edge]",by decide,Tryz.func164.trans (congrArg some (by kernel_rfl))⟩
 f25:=⟨ "slices.partialInsertionSortCmpFunc[pantry/span.edge]",by decide,Tryz.func165.trans (congrArg some (by kernel_rfl))⟩
 f26:=⟨ "slices.partitionEqualCmpFunc[pantry/span.edge]",by decide,Tryz.func166.trans (congrArg some (by kernel_rfl))⟩
 f27:=⟨ "slices.partitionCmpFunc[pantry/span.edge]",by decide,Tryz.func167.trans (congrArg some (by kernel_rfl))⟩
 f28:=Tryz.func168.trans (congrArg some (by kernel_rfl))
 f29:=Tryz.func169.trans (congrArg some (by kernel_rfl))
 f46:=⟨ "slices.siftDownCmpFunc[pantry/span.edge]",by decide,Tryz.func172.trans (congrArg some (by kernel_rfl))⟩
 f47:=Tryz.func173.trans (congrArg some (by kernel_rfl))
 f48:=Tryz.func174.trans (congrArg some (by kernel_rfl))
 f49:=⟨ "slices.medianAdjacentCmpFunc[pantry/span.edge]",by decide,Tryz.func175.trans (congrArg some (by kernel_rfl))⟩
 f50:=⟨ "slices.medianCmpFunc[pantry/span.edge]",by decide,Tryz.func176.trans (congrArg some (by kernel_rfl))⟩
 f57:=⟨ "slices.order2CmpFunc[pantry/span.edge]",by decide,Tryz.func177.trans (congrArg some (by kernel_rfl))⟩
 t0:=Tryz.underlying0
 a0:=Tryz.isAgg0
 z0:=Tryz.sizeOf0
 v0:=Tryz.zeroValue0
 t3:=Tryz.underlying3
 a3:=Tryz.isAgg3
 z3:=Tryz.sizeOf3
 v3:=Tryz.zeroValue3
 t4:=Tryz.underlying4
 a4:=Tryz.isAgg4
 z4:=Tryz.sizeOf4
 v4:=Tryz.zeroValue4
 t5:=Tryz.underlying5
 a5:=Tryz.isAgg5
 z5:=Tryz.sizeOf5
 v5:=Tryz.zeroValue5
 t9:=Tryz.underlying9
 a9:=Tryz.isAgg9
 z9:=Tryz.sizeOf9
 v9:=Tryz.zeroValue9
 t22:=Tryz.underlying186
 a22:=Tryz.isAgg186
 z22:=Tryz.sizeOf186
 v22:=Tryz.zeroValue186
 t25:=Tryz.underlying208
 a25:=Tryz.isAgg208
 z25:=Tryz.sizeOf208
 v25:=Tryz.zeroValue208
 t39:=Tryz.underlying212
 a39:=Tryz.isAgg212
 z39:=Tryz.sizeOf212
 v39:=Tryz.zeroValue212
 t45:=Tryz.underlying229
 a45:=Tryz.isAgg229
 z45:=Tryz.sizeOf229
 v45:=Tryz.zeroValue229
 t46:=Tryz.underlying230
 a46:=Tryz.isAgg230
 z46:=Tryz.sizeOf230
 v46:=Tryz.zeroValue230
 t50:=Tryz.underlying234
 a50:=Tryz.isAgg234
 z50:=Tryz.sizeOf234
 v50:=Tryz.zeroValue234
 t53:=Tryz.underlying223
 a53:=Tryz.isAgg223
 z53:=Tryz.sizeOf223
 v53:=Tryz.zeroValue223
 t55:=Tryz.underlying50
 a55:=Tryz.isAgg50
 z55:=Tryz.sizeOf50
 v55:=Tryz.zeroValue50
 t66:=Tryz.underlying243
 a66:=Tryz.isAgg243
 z66:=Tryz.sizeOf243
 v66:=Tryz.zeroValue243
 t70:=Tryz.underlying144
 a70:=Tryz.isAgg144
 z70:=Tryz.sizeOf144
 v70:=Tryz.zeroValue144
 t76:=Tryz.underlying248
 a76:=Tryz.isAgg248
 z76:=Tryz.sizeOf248
 v76:=Tryz.zeroValue248
 t77:=Tryz.underlying28
 a77:=Tryz.isAgg28
 z77:=Tryz.sizeOf28
 v77:=Tryz.zeroValue28 }
end Go.Proofs
namespace Go.Proofs.YtfplkhnclmidnaaGreatDoor
open Go.RowKit Go.Shelf Go.Sort
set_option linter.unusedVariables false
abbrev Eb:={e:Er // e.a4.size<=1048576}
instance:Inhabited Eb:=⟨⟨default,by show (0:Nat)<=_;omega⟩⟩
def encB (x:Eb):List Value:=erC x.1
def cfB (x y:Eb):Int:=verC (toEd x.1).at_ (toEd y.1).at_
theorem swoB:SWO (ltOf cfB) where
 irrefl x:=by unfold ltOf cfB;rw [v_self];rfl
 trans x y z h1 h2:=by
  unfold ltOf cfB at *
  have a1:=of_decide_eq_true h1
  have a2:=of_decide_eq_true h2
  exact decide_eq_true (v_lt_trans a1 a2)
 ntrans x y z h1 h2:=by
  unfold ltOf cfB at *
  have a1:=of_decide_eq_false h1
  have a2:=of_decide_eq_false h2
  apply decide_eq_false
  intro h3
  have b1:=v_anti (toEd x.1).at_ (toEd y.1).at_
  have b2:=v_anti (toEd y.1).at_ (toEd z.1).at_
  have b3:=v_le_trans (show verC (toEd z.1).at_ (toEd y.1).at_<=0 by omega) (show verC (toEd y.1).at_ (toEd x.1).at_<=0 by omega)
  have b4:=v_anti (toEd z.1).at_ (toEd x.1).at_
  omega
theorem gr_grow {w w':World} (h:Gr w w'):∃q os,w'=grow (w.drewN q) os:=by
 refine ⟨w'.drawn - w.drawn,w'.heap.extract w.heap.size w'.heap.size,?_⟩
 obtain ⟨hg,hd⟩:=h
 have hh:w'.heap=w.heap++w'.heap.extract w.heap.size w'.heap.size:=by
  apply Array.ext_getElem?
  intro k
  by_cases hk:k < w.heap.size
  ·rw [Array.getElem?_append_left hk];exact hg.block k hk (by simp)
  ·rw [Array.getElem?_append_right (by omega),Array.getElem?_extract]
   by_cases hk2:k < w'.heap.size
   ·rw [if_pos (by omega)];congr 1;omega
   ·rw [if_neg (by omega),Array.getElem?_eq_none (by omega)]
 have h1:=hg.os
 have h2:=hg.tape
 have h3:=hg.output
 cases w';cases w
 simp only [grow,World.drewN,World.mk.injEq] at *
 exact ⟨hh,h2,by omega,h1,h3⟩
theorem cmpB (w:World) (blk off size:Nat):CmpLays Tryz.prog 131 #[] encB 7 cfB blk off size w:=by
 intro m os dk hdk x y
 refine (cmpE_any x.1 y.1 _ x.2 y.2).mono ?_
 rintro e w' ⟨rfl,hg⟩
 exact ⟨rfl,gr_grow hg⟩
theorem encLen (x:Eb):(encB x).length=7:=rfl
theorem encOne (x:Eb):∀v ∈ encB x,v.oneCell'=true:=er_one x.1
theorem flatB (d:Array Eb):(flatK encB 7 d).toList=(d.toList.map (·.1)).flatMap erC:=by
 apply List.ext_getElem?
 intro j
 have hl:((d.toList.map (·.1)).flatMap erC).length=d.size * 7:=by
  have:∀L:List Er,(L.flatMap erC).length=L.length * 7:=by
   intro L
   induction L with
   | nil=>rfl
   | cons e L ih=>rw [List.flatMap_cons,List.length_append,ih,List.length_cons];show 7+_=_;omega
  rw [this];simp
 by_cases hj:j < d.size * 7
 ·have hi:j / 7 < d.size:=by omega
  have h1:(flatK encB 7 d).toList[j]?=some ((encB d[j / 7]!)[j % 7]!):=by
   rw [Array.getElem?_toList,Array.getElem?_eq_getElem (by simpa using hj)]
   have:=get_flatK encB 7 d j hj
   rw [getElem!_pos _ j (by simpa using hj)] at this
   rw [this]
  have h2:=flat_er (d.toList.map (·.1)) (j / 7) (by simpa using hi) (j % 7) ((encB d[j / 7]!)[j % 7]!) (by
   rw [getElem!_pos d (j / 7) hi]
   have hk:j % 7 < (encB d[j / 7]).length:=by rw [encLen];omega
   rw [getElem!_pos _ (j % 7) hk]
   rw [List.getElem_map,Array.getElem_toList]
   exact List.getElem?_eq_getElem hk)
  rw [show j / 7 * 7+j % 7=j by omega] at h2
  rw [h1,h2]
 ·rw [List.getElem?_eq_none (by simp;omega),List.getElem?_eq_none (by rw [hl];omega)]
theorem eg:∀args w,(callFunc 131 args).run Tryz.prog w=.ok (.enter 131 args) w:=enters_of Tryz.func131 (by kernel_rfl) rfl
set_option maxRecDepth 100000 in
theorem sortSays:SortSays:=by
 intro ve E base w hown hlen hsmall
 obtain ⟨D,hD⟩:∃D:Array Eb,D.toList.map (·.1)=E:=⟨(E.attach.map fun e=>(⟨e.1,hsmall e.1 e.2⟩:Eb)).toArray,by simp⟩
 have hDs:D.size=E.length:=by rw [<-hD];simp
 have hown':=hown
 rcases hown.2 with ⟨rfl,h0⟩ | ⟨g,cap,cur,rfl,hb,hg,hn,hm,hs,ht⟩
 ·refine (AnyF.slices_SortFunc_none Tryz.laysSort none 0 (.func (.func 131) #[] #[]) w).mono ?_
  rintro e w' ⟨rfl,rfl⟩
  have hE:E=[]:=List.eq_nil_of_length_eq_zero h0
  subst hE
  exact ⟨rfl,[],List.Perm.refl _,List.Pairwise.nil,hown',⟨rfl,rfl,rfl,Nat.le_refl _,fun _ _ _=>rfl⟩⟩
 ·have hH:HoldsK encB 7 w g 0 D:=by
   intro j hj
   have hj':j < (E.flatMap erC).length:=by rw [hown.1,<-hDs];simpa using hj
   refine ⟨?_,Lib.frozen_of_heap hg _⟩
   have h1:(flatK encB 7 D).toList[j]?=(E.flatMap erC)[j]?:=by rw [flatB,hD]
   rw [Array.getElem?_toList,Array.getElem?_eq_getElem hj] at h1
   rw [Nat.zero_add,Lib.cell_of_heap hg]
   rw [getElem!_pos _ j hj]
   show cur[j]?=some (id _)
   rw [id,h1,<-ht,List.getElem?_take_of_lt (by rw [hown.1] at hj';exact hj')]
   simp
  rw [<-hDs]
  refine (AnyQ.slices_SortFunc Tryz.laysSort 7 Tryz.isAgg189 Tryz.sizeOf189 encB encLen encOne cfB swoB 131 #[] g 0 cap D w eg (cmpB w g 0 D.size) hH (Array.getElem?_eq_some_iff.1 hg).1 (by omega)).mono ?_
  rintro e w' ⟨rfl,d',m,os,hperm,hsort,hw'⟩
  have hds:d'.size=D.size:=hperm.1
  have hgl:g < w.heap.size:=(Array.getElem?_eq_some_iff.1 hg).1
  have hheap:w'.heap=(w.heap.modify g (onCells (putCells id 0 (flatK encB 7 d'))))++os:=by rw [hw'];rfl
  have hg':w'.heap[g]?=some (.cells (putCells id 0 (flatK encB 7 d') cur) 189):=by
   rw [hheap,Array.getElem?_append_left (by simpa using hgl),Array.getElem?_modify,if_pos rfl,hg];rfl
  have hFs:(flatK encB 7 d').size=D.size * 7:=by simp [hds]
  have hcs:D.size * 7<=cur.size:=by rw [hs,hDs];omega
  have hlen2:((d'.toList.map (·.1)).flatMap erC).length=D.size * 7:=by rw [<-flatB,Array.length_toList,hFs]
  refine ⟨rfl,d'.toList.map (·.1),?_,?_,⟨?_,.inr ⟨g,cap,_,?_,hb,hg',?_,hm,?_,?_⟩⟩,?_⟩
  ·rw [<-hD]
   apply List.Perm.map
   have:=hperm.2.2
   rw [Array.extract_size] at this
   rw [show d'.extract 0 D.size=d' by rw [<-hds,Array.extract_size]] at this
   exact this
  ·show List.Pairwise _ _
   rw [List.pairwise_iff_getElem]
   intro i j hi hj hij
   simp only [List.length_map,Array.length_toList] at hi hj
   have:=hsort i j (Nat.zero_le _) hij (by omega)
   rw [getElem!_pos d' j hj,getElem!_pos d' i hi] at this
   have h3:=of_decide_eq_false this
   have h4:=v_anti (toEd d'[j].1).at_ (toEd d'[i].1).at_
   simp only [List.getElem_map,Array.getElem_toList]
   unfold cfB at h3
   omega
  ·rw [hlen2];simp [hds]
  ·simp [hds]
  ·simp [hds];omega
  ·simp [putCells,hs]
  ·rw [show (d'.toList.map (·.1)).length=D.size by simp [hds],<-flatB]
   apply List.ext_getElem?
   intro j
   by_cases hj:j < D.size * 7
   ·rw [List.getElem?_take_of_lt hj,Array.getElem?_toList,Array.getElem?_toList]
    rw [putCells,Array.getElem?_mapIdx,Array.getElem?_eq_getElem (show j < cur.size by omega)]
    rw [Option.map_some,if_pos ⟨Nat.zero_le _,by omega⟩,Nat.sub_zero,id,getElem!_pos _ j (by omega)]
    exact (Array.getElem?_eq_getElem _).symm
   ·rw [List.getElem?_eq_none (by simp;omega),List.getElem?_eq_none (by rw [Array.length_toList];omega)]
  ·refine ⟨by rw [hw'];rfl,by rw [hw'];rfl,by rw [hw'];rfl,?_,?_⟩
   ·rw [hheap];simp
   ·intro k hk hne
    have hkg:g ≠ k:=by
     intro h;subst h;exact hne rfl
    rw [hheap,Array.getElem?_append_left (by simpa using hk),Array.getElem?_modify,if_neg hkg]
open Go.RowKit
set_option linter.unusedVariables false
theorem sps_slice {w:World} {sl:Value} {L:List Sp} (h:SpS w sl L):∃o n c,sl=.slice o n c:=by
 rcases h with ⟨rfl,_⟩ | ⟨a,cap,rfl,_⟩
 ·exact ⟨_,_,_,rfl⟩
 ·exact ⟨_,_,_,rfl⟩
theorem SweepPost.from {ch:Int->Bool} {Ls:List (List Sp)} {w w1:World} {e:Ending} {w':World} (hg:w.grownBy w1 none) (h:SweepPost ch Ls w1 e w'):SweepPost ch Ls w e w':=by
 refine ⟨gb_trans hg h.1,?_⟩
 rcases h.2 with h1 | ⟨h1,E,vs,h2,h3,h4,h5,h6⟩
 ·exact Or.inl h1
 ·exact Or.inr ⟨h1,E,vs,h2,h3,h4,h5,own_down h6 hg.size⟩
theorem SweepPost.two {ch:Int->Bool} {Ls:List (List Sp)} {w:World} {e:Ending} {w':World} (h:SweepPost ch Ls w e w'):∃o n c r,e=.returned (.tuple #[.slice o n c,.int .i64 r]):=by
 rcases h.2 with ⟨_,rfl⟩ | ⟨_,E,vs,_,_,rfl,hs,_⟩
 ·exact ⟨_,_,_,_,rfl⟩
 ·obtain ⟨o,n,c,rfl⟩:=sps_slice hs
  exact ⟨_,_,_,_,rfl⟩
set_option maxRecDepth 100000 in
set_option maxHeartbeats 1600000 in
theorem normal_any (sl:Value) (L:List Sp) (w:World) (h:SpS w sl L) (hL:L.length<=1048576) (hsz:∀s ∈ L,smallS s) :
  Calls Tryz.prog 74 #[sl] w (SweepPost (fun x=>decide (0 < x)) [L] w):=by
 have HA:Hid (SpS w sl L):=h
 have CS:Hid (∀a w,Lists w a [L]->Calls Tryz.prog 91 #[.func (.func 92) #[] #[],.slice (some a) 1 1] w (SweepPost (fun x=>decide (0 < x)) [L] w)):=fun a w h=>sweep_some sortSays a 1 1 [L] w rfl (by omega) (by omega) h (by intro l hl;simp at hl;subst hl;exact ⟨hL,hsz⟩)
 obtain ⟨o,n,c,rfl⟩:=sps_slice h
 clear h hL hsz
 go_enter Tryz.func74,Tryz.ntmps74
 go_wp2_with (first | (go_at_call 91;refine (CS.out _ _ ?_).mono ?_))
 ·have hg:=gb_alloc (gb_refl w none) (.cells #[.slice o n c] 113)
  intro j hj
  have hj':j=0:=by simp at hj;omega
  subst hj'
  exact ⟨.slice o n c,by rw [show (⟨w.heap.size,0,none⟩:Addr).add 0=⟨w.heap.size,0,none⟩ from add_zero_off _ _,Lib.cell_of_heap (heap_alloc_new w _)];rfl,HA.out.grow hg⟩
 intro e w1 hp
 have HP:=SweepPost.from (gb_alloc (gb_refl w none) _) hp
 clear hp
 obtain ⟨o2,n2,c2,r2,rfl⟩:=HP.two
 have HQ:Hid (SweepPost (fun x=>decide (0 < x)) [L] w (.returned (.tuple #[.slice o2 n2 c2,.int .i64 r2])) w1):=HP
 clear HP
 go_wp2
 exact bodyPost_ret (results_tmp2 (t:=2) (u:=3) rfl _ _ _) rfl HQ.out
set_option maxRecDepth 100000 in
set_option maxHeartbeats 1600000 in
theorem meet_any (sl sm:Value) (L M:List Sp) (w:World) (h:SpS w sl L) (h':SpS w sm M) (hL:L.length<=1048576) (hsz:∀s ∈ L,smallS s) (hM:M.length<=1048576) (hsm:∀s ∈ M,smallS s) :
  Calls Tryz.prog 110 #[sl,sm] w (SweepPost (fun x=>decide (x=((2:Nat):Int))) [L,M] w):=by
 have HA:Hid (SpS w sl L):=h
 have HB:Hid (SpS w sm M):=h'
 have CS:Hid (∀a w,Lists w a [L,M]->Calls Tryz.prog 91 #[.func (.func 128) #[] #[],.slice (some a) 2 2] w (SweepPost (fun x=>decide (x=((2:Nat):Int))) [L,M] w)):=fun a w h=>sweep_every sortSays a 2 2 [L,M] w rfl (by omega) (by omega) h (by intro l hl;simp at hl;rcases hl with rfl | rfl <;> first | exact ⟨hL,hsz⟩ | exact ⟨hM,hsm⟩)
 obtain ⟨o,n,c,rfl⟩:=sps_slice h
 obtain ⟨o',n',c',rfl⟩:=sps_slice h'
 clear h'
 clear hM hsm
 clear h hL hsz
 go_enter Tryz.func110,Tryz.ntmps110
 go_wp2_with (first | (go_at_call 91;refine (CS.out _ _ ?_).mono ?_))
 ·have hg:=gb_alloc (gb_refl w none) (.cells #[.slice o n c,.slice o' n' c'] 113)
  intro j hj
  have hj':j=0\/j=1:=by simp at hj;omega
  rcases hj' with rfl | rfl
  ·exact ⟨.slice o n c,by rw [show (⟨w.heap.size,0,none⟩:Addr).add 0=⟨w.heap.size,0,none⟩ from add_zero_off _ _,Lib.cell_of_heap (heap_alloc_new w _)];rfl,HA.out.grow hg⟩
  ·exact ⟨.slice o' n' c',by rw [show (⟨w.heap.size,0,none⟩:Addr).add 1=⟨w.heap.size,1,none⟩ from add_zero_off _ _,Lib.cell_of_heap (heap_alloc_new w _)];rfl,HB.out.grow hg⟩
 intro e w1 hp
 have HP:=SweepPost.from (gb_alloc (gb_refl w none) _) hp
 clear hp
 obtain ⟨o2,n2,c2,r2,rfl⟩:=HP.two
 have HQ:Hid (SweepPost (fun x=>decide (x=((2:Nat):Int))) [L,M] w (.returned (.tuple #[.slice o2 n2 c2,.int .i64 r2])) w1):=HP
 clear HP
 go_wp2
 exact bodyPost_ret (results_tmp2 (t:=4) (u:=5) rfl _ _ _) rfl HQ.out
set_option linter.unusedVariables false
theorem tog_sub_list (h:V->Bool):∀(ps:List V) (on:Bool),(tog h on ps).Sublist ps
 | [],on=>List.Sublist.slnil
 | p :: ps,on=>by
  rw [tog]
  split
  ·exact (tog_sub_list h ps on).cons _
  ·exact (tog_sub_list h ps (h p)).cons_cons _
def par:List V->V->Bool
 | [],_=>false
 | t :: r,x=>decide (verC t x<=0) ^^ par r x
theorem par_none (T:List V) (x:V) (h:∀t ∈ T,verC x t < 0):par T x=false:=by
 induction T with
 | nil=>rfl
 | cons t r ih =>
  have h1:=h t (by simp)
  have h2:=v_anti x t
  rw [par,ih (fun t' ht'=>h t' (by simp [ht'])),decide_eq_false (by omega)]
  rfl
theorem rising_tail {t:V} {r:List V} (h:Rising (t :: r)):Rising r:=(List.pairwise_cons.1 h).2
theorem rising_head {t:V} {r:List V} (h:Rising (t :: r)):∀x ∈ r,verC t x < 0:=(List.pairwise_cons.1 h).1
theorem cFrom_spV (x y:V) (o:Bool):cFrom (spV x y o)=x:=by
 cases x;simp [cFrom,spV]
theorem cTo_spV (x y:V) (o:Bool):cTo (spV x y o)=y:=by
 cases y;simp [cTo,spV]
theorem outs_par:∀(T:List V),Rising T->∀x,holdsL (outs T) x=par T x
 | [],_,x=>rfl
 | [a],_,x=>by
  rw [outs,holdsL,List.any_cons,List.any_nil,hasS,cFrom_spV,par,par]
  show (decide (verC a x<=0) && (true || _) || false)=_
  cases decide (verC a x<=0) <;> rfl
 | a :: b :: r,h,x=>by
  have hab:verC a b < 0:=rising_head h b (by simp)
  have hr:=rising_tail h
  have ih:=outs_par r (rising_tail hr) x
  unfold holdsL at ih
  rw [outs,holdsL,List.any_cons,ih,hasS,cFrom_spV,cTo_spV,par,par]
  show (decide (verC a x<=0) && (false || decide (verC x b < 0)) || par r x)=_
  have a1:=v_anti x b
  by_cases hb:verC b x<=0
  ·have ha:verC a x<=0:=v_le_trans (show verC a b<=0 by omega) hb
   rw [decide_eq_true ha,decide_eq_true hb,decide_eq_false (by omega)]
   cases par r x <;> rfl
  ·have hp:par r x=false:=par_none r x fun t ht=>v_lt_trans (show verC x b < 0 by omega) (rising_head hr t ht)
   rw [hp,decide_eq_false hb,decide_eq_true (show verC x b < 0 by omega)]
   cases decide (verC a x<=0) <;> rfl
def NF (N:List Sp):Prop:=∃T,N=outs T/\Rising T/\(∀t ∈ T,okParts true t.pre=true/\t.pre.length<=1048576)/\T.length<=4194304
theorem NF.len {N:List Sp} (h:NF N):N.length<=4194304:=by
 obtain ⟨T,rfl,_,_,hl⟩:=h
 have:∀T:List V,(outs T).length<=T.length:=by
  intro T
  induction T using outs.induct with
  | case1=>simp [outs]
  | case2 x=>simp [outs]
  | case3 x y r ih=>rw [outs,List.length_cons,List.length_cons,List.length_cons];omega
 exact Nat.le_trans (this T) hl
theorem outs_mem:∀(T:List V) (s:Sp),s ∈ outs T->(∃x ∈ T,s=spV x zeroV0 true)\/∃x ∈ T,∃y ∈ T,s=spV x y false
 | [],s,h=>by simp [outs] at h
 | [a],s,h=>by
  have e:s=spV a zeroV0 true:=by simpa [outs] using h
  exact Or.inl ⟨a,by simp,e⟩
 | a :: b :: r,s,h=>by
  rw [outs] at h
  rcases List.mem_cons.1 h with e | h
  ·exact Or.inr ⟨a,by simp,b,by simp,e⟩
  ·rcases outs_mem r s h with ⟨x,hx,e⟩ | ⟨x,hx,y,hy,e⟩
   ·exact Or.inl ⟨x,by simp [hx],e⟩
   ·exact Or.inr ⟨x,by simp [hx],y,by simp [hy],e⟩
theorem NF.small {N:List Sp} (h:NF N):∀s ∈ N,smallS s:=by
 obtain ⟨T,rfl,_,hp,hl⟩:=h
 have hsz:∀l:List UInt8,(⟨l.toArray⟩:ByteArray).size=l.length:=fun l=>by simp [ByteArray.size]
 have h0:(⟨#[]⟩:ByteArray).size=0:=rfl
 intro s hs
 rcases outs_mem T s hs with ⟨x,hx,rfl⟩ | ⟨x,hx,y,hy,rfl⟩
 ·refine ⟨?_,?_,?_,?_⟩
  ·show (⟨x.pre.toArray⟩:ByteArray).size<=_;rw [hsz];exact (hp x hx).2
  ·show (⟨#[]⟩:ByteArray).size<=_;rw [h0];omega
  ·show (⟨zeroV0.pre.toArray⟩:ByteArray).size<=_;rw [hsz];show 0<=_;omega
  ·show (⟨#[]⟩:ByteArray).size<=_;rw [h0];omega
 ·refine ⟨?_,?_,?_,?_⟩
  ·show (⟨x.pre.toArray⟩:ByteArray).size<=_;rw [hsz];exact (hp x hx).2
  ·show (⟨#[]⟩:ByteArray).size<=_;rw [h0];omega
  ·show (⟨y.pre.toArray⟩:ByteArray).size<=_;rw [hsz];exact (hp y hy).2
  ·show (⟨#[]⟩:ByteArray).size<=_;rw [h0];omega
theorem er_ok (Ls:List (List Sp)) (h:Ls.all (·.all soundS)=true):∀(k:Nat),∀e ∈ erL k Ls,okParts true (toEd e).at_.pre=true:=by
 induction Ls with
 | nil=>intro k e he;simp [erL] at he
 | cons l Ls ih =>
  intro k e he
  rw [List.all_cons,Bool.and_eq_true] at h
  rw [erL] at he
  rcases List.mem_append.1 he with he | he
  ·obtain ⟨s,hs,he⟩:=List.mem_flatMap.1 he
   have hm:=List.all_eq_true.1 h.1 s hs
   unfold soundS at hm
   rw [Bool.and_eq_true] at hm
   have hf:okParts true s.f4.data.toList=true:=by
    have:=hm.1
    unfold soundV vFrom at this
    simp only [Bool.and_eq_true] at this
    exact this.2.2.2.1
   unfold erS at he
   split at he
   ·simp at he;rw [he];exact hf
   ·rename_i ho
    have ht:okParts true s.t4.data.toList=true:=by
     have:=hm.2
     rw [Bool.or_eq_true] at this
     rcases this with h | this
     ·exact absurd h ho
     ·unfold soundV vTo at this
      simp only [Bool.and_eq_true] at this
      exact this.2.2.2.1
    split at he
    ·simp at he
     rcases he with rfl | rfl
     ·exact hf
     ·exact ht
    ·simp at he
  ·exact ih h.2 (k+1) e he
end Go.Proofs.YtfplkhnclmidnaaGreatDoor
