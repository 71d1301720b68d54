import Derived.Test.YtonfldbigenfhaaGreatDoorM06
import Derived.Below
import Derived.Deep.RegionHeld3
import Derived.Test.YtonfldbigenfhaaGreatDoorM08
import Derived.Shelf.SlSortCmp.NoneTotal
import Derived.Test.YtonfldbigenfhaaGreatDoorProg
namespace Go.Proofs.YtonfldbigenfhaaGreatDoor
open Go.RowKit
set_option linter.unusedVariables false
def Gr (w w':World):Prop:=w.grownBy w' none/\w.drawn<=w'.drawn
theorem gr_refl (w:World):Gr w w:=⟨gb_refl w none,Nat.le_refl _⟩
theorem gr_drew {w w':World} (h:Gr w w') (n:Nat):Gr w (w'.drewN n):=⟨gb_drew h.1 n,Nat.le_trans h.2 (by simp [World.drewN])⟩
theorem gr_trans {w w1 w2:World} (h:Gr w w1) (h':Gr w1 w2):Gr w w2:=⟨gb_trans h.1 h'.1,Nat.le_trans h.2 h'.2⟩
theorem gr_alloc {w w':World} (h:Gr w w') (o:Obj):Gr w (w'.alloc o):=⟨gb_alloc h.1 o,h.2⟩
theorem gr_bytes (w:World) (e:TypeId) (s:ByteArray):Gr w (Lib.bytesWorld w e s):=⟨gb_bytes w e s,Nat.le_succ w.drawn⟩
end Go.Proofs.YtonfldbigenfhaaGreatDoor
namespace Go.Proofs.YtonfldbigenfhaaGreatDoor.G
open Go.RowKit
set_option maxHeartbeats 400000 in
theorem isDigits_any (s:ByteArray) (w:World) (hs:s.size < 2 ^ 62) :
  Calls Tryz.prog 112 #[.string s] w fun e w'=>e=.returned (.bool (numT s.data.toList))/\Gr w w':=by
 have kc:=fun (w:World)=>Lib.run_convert_string_bytes (P:=Tryz.prog) w 9 120 5 s Tryz.underlying9 Tryz.underlying120 Tryz.underlying5
 obtain ⟨W,hW⟩:∃W,Lib.bytesWorld w 5 s=W:=⟨_,rfl⟩
 have HC:Hid (∀j,(hj:j < s.size)->W.cell? ⟨w.heap.size,j,none⟩=some (.int .u8 (s[j].toNat:Int))):=by
  show ∀j,(hj:j < s.size)->W.cell? ⟨w.heap.size,j,none⟩=some (.int .u8 (s[j].toNat:Int))
  intro j hj
  rw [<-hW,Lib.bytesWorld_cell w _ s j hj]
  have:s.data.toList.getD j 0=s[j]:=by
   rw [List.getD_eq_getElem?_getD,get_data s j hj];rfl
  rw [this]
 have HG:Hid (Gr w W):=by show Gr w W;rw [<-hW];exact gr_bytes w _ s
 have kw:=kc w
 rw [hW] at kw
 clear kc hW
 go_enter Tryz.func112,Tryz.ntmps112
 go_wp2
 go_loop [8] (fun i=>∃k:Nat,k<=s.size/\i=.int .i64 k/\∀j,(hj:j < s.size)->j < k->isD s[j]=true) (fun i=>s.size - (intOf i).toNat)
 case atStart=>exact ⟨0,Nat.zero_le _,rfl,fun j hj h=>absurd h (by omega)⟩
 case round =>
  obtain ⟨k,hk,rfl,hp⟩:=hrel
  have HP:Hid (∀j,(hj:j < s.size)->j < k->isD s[j]=true):=hp
  clear hp
  by_cases hlt:k < s.size
  ·have ck:=HC.out k hlt
   cases hd:isD s[k] with
   | true =>
    go_wp2_with (go_at_call 138;refine (isDigit_any _ _).mono ?_;rintro e w' ⟨rfl,rfl⟩)
    go_round
    case rel =>
     refine ⟨k+1,by omega,by go_num,fun j hj hjk=>?_⟩
     by_cases hjk':j < k
     ·exact HP.out j hj hjk'
     ·have e:j=k:=by omega
      subst e
      exact hd
    case measure=>simp [intOf];omega
   | false =>
    have HN:Hid (numT s.data.toList=false):=by
     show numT s.data.toList=false
     unfold numT
     have:s.data.toList.all isD=false:=by
      rw [List.all_eq_false]
      exact ⟨s[k],List.mem_of_getElem? (get_data s k hlt),by simp [hd]⟩
     rw [this,Bool.and_false]
    go_wp2_with (go_at_call 138;refine (isDigit_any _ _).mono ?_;rintro e w' ⟨rfl,rfl⟩)
    go_ret
    exact ⟨ret_bool HN.out.symm,HG.out⟩
  ·have hks:k=s.size:=by omega
   have HA:Hid (s.data.toList.all isD=true):=by
    show s.data.toList.all isD=true
    rw [List.all_eq_true]
    intro c hc
    obtain ⟨j,hj,rfl⟩:=List.getElem_of_mem hc
    exact HP.out j (by simpa using hj) (by simp at hj;have:s.size=s.data.size:=rfl;omega)
   clear hks hk
   go_wp2
   go_ret
   refine ⟨ret_bool ?_,HG.out⟩
   unfold numT
   rw [Lib.toList_data,HA.out,Bool.and_true]
end Go.Proofs.YtonfldbigenfhaaGreatDoor.G
namespace Go.Proofs.YtonfldbigenfhaaGreatDoor.G
open Go.RowKit
set_option linter.unusedVariables false
def partV (l:List UInt8):Value:=if numT l then .iface 169 (.string ⟨(bareT l).toArray⟩) else .iface 171 (.string ⟨l.toArray⟩)
set_option maxHeartbeats 400000 in
theorem partOf_any (s:ByteArray) (w:World) (hs:s.size < 2 ^ 62) :
  Calls Tryz.prog 99 #[.string s] w fun e w'=>e=.returned (partV s.data.toList)/\Gr w w':=by
 unfold partV
 cases hn:numT s.data.toList with
 | true =>
  have HN:Hid (numT s.data.toList=true):=hn
  clear hn
  rw [if_pos rfl]
  go_enter Tryz.func99,Tryz.ntmps99
  go_wp2_with (first | (go_at_call 112;refine (isDigits_any _ _ hs).mono ?_;rw [HN.out];rintro e w1 ⟨rfl,hg1⟩) | (go_at_call 115;refine (trim_any _ _).mono ?_;rintro e w' ⟨rfl,rfl⟩))
  go_ret
  exact ⟨rfl,hg1⟩
 | false =>
  have HN:Hid (numT s.data.toList=false):=hn
  clear hn
  rw [if_neg (by simp)]
  go_enter Tryz.func99,Tryz.ntmps99
  go_wp2_with (first | (go_at_call 112;refine (isDigits_any _ _ hs).mono ?_;rw [HN.out];rintro e w1 ⟨rfl,hg1⟩))
  go_ret
  exact ⟨rfl,hg1⟩
theorem taNN (b:ByteArray) (w:World):(Instr.typeAssert (.iface 169 (.string b)) 157 169 true).run Tryz.prog w=.ok (.tuple #[.string b,.bool true]) w:=by kernel_rfl
theorem taWN (b:ByteArray) (w:World):(Instr.typeAssert (.iface 171 (.string b)) 157 169 true).run Tryz.prog w=.ok (.tuple #[.string ⟨#[]⟩,.bool false]) w:=by kernel_rfl
theorem taWW (b:ByteArray) (w:World):(Instr.typeAssert (.iface 171 (.string b)) 157 171 true).run Tryz.prog w=.ok (.tuple #[.string b,.bool true]) w:=by kernel_rfl
theorem taNW (b:ByteArray) (w:World):(Instr.typeAssert (.iface 169 (.string b)) 157 171 true).run Tryz.prog w=.ok (.tuple #[.string ⟨#[]⟩,.bool false]) w:=by kernel_rfl
set_option maxHeartbeats 400000 in
theorem orderNN_eq (a b:ByteArray) (w:World) (h:a.size=b.size):Calls Tryz.prog 202 #[.string a,.iface 169 (.string b)] w fun e w'=>e=.returned (.int .i64 (Lib.compareBytes a.data.toList b.data.toList))/\∃n,w'=w.drewN n:=by
 have ta:=taNN b
 have hd:((a.size:Int) == (b.size:Int))=true:=by simp;omega
 clear h
 go_enter Tryz.func202,Tryz.ntmps202
 go_wp2_with (first | (go_at_call 203;refine (cmpN_any _ _ _).mono ?_;rintro e w' ⟨rfl,rfl⟩))
 go_ret
 exact ⟨rfl,0,rfl⟩
set_option maxHeartbeats 400000 in
theorem orderNN_ne (a b:ByteArray) (w:World) (h:¬ a.size=b.size):Calls Tryz.prog 202 #[.string a,.iface 169 (.string b)] w fun e w'=>e=.returned (.int .i64 (Lib.compareInt a.size b.size))/\∃n,w'=w.drewN n:=by
 have ta:=taNN b
 have hd:((a.size:Int) == (b.size:Int))=false:=by simp;omega
 clear h
 go_enter Tryz.func202,Tryz.ntmps202
 go_wp2_with (first | (go_at_call 75;refine (cmpInt_any _ _ _).mono ?_;rintro e w' ⟨rfl,rfl⟩))
 go_ret
 exact ⟨rfl,0,rfl⟩
set_option maxHeartbeats 400000 in
theorem orderNW (a b:ByteArray) (w:World):Calls Tryz.prog 202 #[.string a,.iface 171 (.string b)] w fun e w'=>e=.returned (.int .i64 (-1))/\∃n,w'=w.drewN n:=by
 have ta:=taWN b
 go_enter Tryz.func202,Tryz.ntmps202
 go_wp2
 go_ret
 exact ⟨rfl,0,rfl⟩
set_option maxHeartbeats 400000 in
theorem orderWN (a b:ByteArray) (w:World):Calls Tryz.prog 205 #[.string a,.iface 169 (.string b)] w fun e w'=>e=.returned (.int .i64 1)/\∃n,w'=w.drewN n:=by
 have ta:=taNW b
 go_enter Tryz.func205,Tryz.ntmps205
 go_wp2
 go_ret
 exact ⟨rfl,0,rfl⟩
set_option maxHeartbeats 400000 in
theorem orderWW (a b:ByteArray) (w:World):Calls Tryz.prog 205 #[.string a,.iface 171 (.string b)] w fun e w'=>e=.returned (.int .i64 (Lib.compareBytes a.data.toList b.data.toList))/\∃n,w'=w.drewN n:=by
 have ta:=taWW b
 go_enter Tryz.func205,Tryz.ntmps205
 go_wp2_with (first | (go_at_call 206;refine (cmpW_any _ _ _).mono ?_;rintro e w' ⟨rfl,rfl⟩))
 go_ret
 exact ⟨rfl,0,rfl⟩
end Go.Proofs.YtonfldbigenfhaaGreatDoor.G
namespace Go.Proofs.YtonfldbigenfhaaGreatDoor.G
open Go.RowKit
set_option linter.unusedVariables false
theorem emp_t {a:ByteArray} (h:a.size=0):a.toList.isEmpty=true:=by
 rw [Lib.toList_data,List.isEmpty_iff];exact List.length_eq_zero_iff.1 (by simpa using h)
theorem emp_f {a:ByteArray} (h:a.size ≠ 0):a.toList.isEmpty=false:=by
 rw [Lib.toList_data]
 cases hl:a.data.toList with
 | nil=>exact absurd (show a.size=0 from by show a.data.size=0;rw [<-Array.length_toList,hl];rfl) h
 | cons c l=>rfl
set_option maxHeartbeats 400000 in
theorem pre_e (a b:ByteArray) (w:World) (h:a.size=0\/b.size=0) :
  Calls Tryz.prog 76 #[.string a,.string b] w fun e w'=>e=.returned (.int .i64 (preC a.data.toList b.data.toList))/\Gr w w':=by
 have HE:Hid (preC a.data.toList b.data.toList=Lib.compareInt b.size a.size):=by
  show preC a.data.toList b.data.toList=Lib.compareInt b.size a.size
  rw [pre_empty]
  ·simp
  ·rcases h with h | h
   ·left;exact List.length_eq_zero_iff.1 (by simpa using h)
   ·right;exact List.length_eq_zero_iff.1 (by simpa using h)
 rw [HE.out]
 by_cases ha:a.size=0
 ·have c1:=emp_t ha
  have HA:Hid (a.size=0):=ha
  clear h ha
  go_enter Tryz.func76,Tryz.ntmps76
  go_wp2_with (first | (go_at_call 75;refine (cmpInt_any _ _ _).mono ?_;rintro e w' ⟨rfl,rfl⟩))
  all_goals (go_ret;exact ⟨rfl,gr_refl _⟩)
 ·have c1:=emp_f ha
  have c2:=emp_t (h.resolve_left ha)
  clear h ha
  go_enter Tryz.func76,Tryz.ntmps76
  go_wp2_with (first | (go_at_call 75;refine (cmpInt_any _ _ _).mono ?_;rintro e w' ⟨rfl,rfl⟩))
  all_goals (go_ret;exact ⟨rfl,gr_refl _⟩)
def sizeV:Value->Nat
 | .string s=>s.size
 | _=>0
theorem part_order (P Q:List UInt8) :
  (∃X1 T2 X2,partV P=.iface 169 (.string X1)/\partV Q=.iface T2 (.string X2)/\∀w,Calls Tryz.prog 202 #[.string X1,.iface T2 (.string X2)] w fun e w'=>e=.returned (.int .i64 (partC P Q))/\∃n,w'=w.drewN n) ∨
  (∃X1 T2 X2,partV P=.iface 171 (.string X1)/\partV Q=.iface T2 (.string X2)/\∀w,Calls Tryz.prog 205 #[.string X1,.iface T2 (.string X2)] w fun e w'=>e=.returned (.int .i64 (partC P Q))/\∃n,w'=w.drewN n):=by
 cases hp:numT P with
 | true =>
  left
  cases hq:numT Q with
  | true =>
   refine ⟨⟨(bareT P).toArray⟩,_,⟨(bareT Q).toArray⟩,by unfold partV;rw [hp];rfl,by unfold partV;rw [hq];rfl,fun w=>?_⟩
   rw [partC_nn hp hq]
   have s1:(⟨(bareT P).toArray⟩:ByteArray).size=(bareT P).length:=by show (bareT P).toArray.size=_;simp
   have s2:(⟨(bareT Q).toArray⟩:ByteArray).size=(bareT Q).length:=by show (bareT Q).toArray.size=_;simp
   by_cases h:((bareT P).length:Int)=(bareT Q).length
   ·rw [if_pos h];exact orderNN_eq _ _ w (by rw [s1,s2];omega)
   ·rw [if_neg h]
    have:=orderNN_ne ⟨(bareT P).toArray⟩ ⟨(bareT Q).toArray⟩ w (by rw [s1,s2];omega)
    rw [s1,s2] at this;exact this
  | false =>
   refine ⟨⟨(bareT P).toArray⟩,_,⟨Q.toArray⟩,by unfold partV;rw [hp];rfl,by unfold partV;rw [hq];rfl,fun w=>?_⟩
   rw [partC_nw hp hq];exact orderNW _ _ w
 | false =>
  right
  cases hq:numT Q with
  | true =>
   refine ⟨⟨P.toArray⟩,_,⟨(bareT Q).toArray⟩,by unfold partV;rw [hp];rfl,by unfold partV;rw [hq];rfl,fun w=>?_⟩
   rw [partC_wn hp hq];exact orderWN _ _ w
  | false =>
   refine ⟨⟨P.toArray⟩,_,⟨Q.toArray⟩,by unfold partV;rw [hp];rfl,by unfold partV;rw [hq];rfl,fun w=>?_⟩
   rw [partC_ww hp hq];exact orderWW _ _ w
set_option maxHeartbeats 4000000 in
set_option maxRecDepth 100000 in
theorem pre_f (a b:ByteArray) (w:World) (ha:a.size ≠ 0) (hb:b.size ≠ 0) (hs:a.size < 2 ^ 62) (hs':b.size < 2 ^ 62) :
  Calls Tryz.prog 76 #[.string a,.string b] w fun e w'=>e=.returned (.int .i64 (listC partC (splitD a.data.toList) (splitD b.data.toList)))/\Gr w w':=by
 have c1:=emp_f ha
 have c2:=emp_f hb
 obtain ⟨R,hR⟩:∃R,R=listC partC (splitD a.data.toList) (splitD b.data.toList):=⟨_,rfl⟩
 rw [<-hR]
 have HR:Hid (R=listC partC (splitD a.data.toList) (splitD b.data.toList)):=hR
 clear hR ha hb
 go_enter Tryz.func76,Tryz.ntmps76
 go_wp2_with (fail)
 go_loopw [0,1] (fun va vb wr=>∃x y:ByteArray,va=.string x/\vb=.string y/\x.size < 2 ^ 62/\y.size < 2 ^ 62/\R=listC partC (splitD x.data.toList) (splitD y.data.toList)/\Gr w wr) (fun va _ _=>sizeV va)
 case atStart=>exact ⟨a,b,rfl,rfl,hs,hs',HR.out,gr_refl _⟩
 case round =>
  obtain ⟨x,y,rfl,rfl,hx,hy,hr,hgb⟩:=hrel
  have HX:Hid (R=listC partC (splitD x.data.toList) (splitD y.data.toList)):=hr
  have HG:Hid (Gr w wr):=hgb
  have HB:Hid (x.size < 2 ^ 62/\y.size < 2 ^ 62):=⟨hx,hy⟩
  obtain ⟨P1,hP1⟩:∃P1,P1=cut1 x.data.toList:=⟨_,rfl⟩
  obtain ⟨P2,hP2⟩:∃P2,P2=cut2 x.data.toList:=⟨_,rfl⟩
  obtain ⟨P3,hP3⟩:∃P3,P3=cut3 x.data.toList:=⟨_,rfl⟩
  obtain ⟨Q1,hQ1⟩:∃Q1,Q1=cut1 y.data.toList:=⟨_,rfl⟩
  obtain ⟨Q2,hQ2⟩:∃Q2,Q2=cut2 y.data.toList:=⟨_,rfl⟩
  obtain ⟨Q3,hQ3⟩:∃Q3,Q3=cut3 y.data.toList:=⟨_,rfl⟩
  have HP:Hid (P1=cut1 x.data.toList/\P2=cut2 x.data.toList/\P3=cut3 x.data.toList):=⟨hP1,hP2,hP3⟩
  have HQ:Hid (Q1=cut1 y.data.toList/\Q2=cut2 y.data.toList/\Q3=cut3 y.data.toList):=⟨hQ1,hQ2,hQ3⟩
  have C1:=fun w=>cut_any x w hx
  rw [<-hP1,<-hP2,<-hP3] at C1
  have C2:=fun w=>cut_any y w hy
  rw [<-hQ1,<-hQ2,<-hQ3] at C2
  have p1:(⟨P1.toArray⟩:ByteArray).size < 2 ^ 62:=by
   have:=cut1_len x.data.toList
   rw [<-hP1] at this;show P1.toArray.size < _;simp at this ⊢;omega
  have q1:(⟨Q1.toArray⟩:ByteArray).size < 2 ^ 62:=by
   have:=cut1_len y.data.toList
   rw [<-hQ1] at this;show Q1.toArray.size < _;simp at this ⊢;omega
  have D1:Hid (∀w,Calls Tryz.prog 99 #[.string ⟨P1.toArray⟩] w fun e w'=>e=.returned (partV P1)/\Gr w w'):=fun w=>partOf_any ⟨P1.toArray⟩ w p1
  have D2:Hid (∀w,Calls Tryz.prog 99 #[.string ⟨Q1.toArray⟩] w fun e w'=>e=.returned (partV Q1)/\Gr w w'):=fun w=>partOf_any ⟨Q1.toArray⟩ w q1
  have HC1:Hid (∀w,Calls Tryz.prog 98 #[.string x,.string ⟨#[46]⟩] w fun e w'=>e=.returned (.tuple #[.string ⟨P1.toArray⟩,.string ⟨P2.toArray⟩,.bool P3])/\∃n,w'=w.drewN n):=C1
  have HC2:Hid (∀w,Calls Tryz.prog 98 #[.string y,.string ⟨#[46]⟩] w fun e w'=>e=.returned (.tuple #[.string ⟨Q1.toArray⟩,.string ⟨Q2.toArray⟩,.bool Q3])/\∃n,w'=w.drewN n):=C2
  clear hP1 hP2 hP3 hQ1 hQ2 hQ3 C1 C2 p1 q1 hr hgb hx hy
  obtain ⟨O,hO⟩:∃O,O=partC P1 Q1:=⟨_,rfl⟩
  have HS:Hid (R=if O=0 then (if P3=true then (if Q3=true then listC partC (splitD P2) (splitD Q2) else 1) else (if Q3=true then -1 else 0)) else O):=by
   show R=_
   have h1:=HP.out
   have h2:=HQ.out
   rw [HX.out,list_step,<-h1.1,<-h1.2.1,<-h1.2.2,<-h2.1,<-h2.2.1,<-h2.2.2,<-hO]
  have HL:Hid ((P3=true->P2.length < x.size)/\P2.length < 2 ^ 62/\Q2.length < 2 ^ 62):=by
   have h1:=HP.out
   have h2:=HQ.out
   have h3:=HB.out
   have z1:x.data.toList.length=x.size:=by simp
   have z2:y.data.toList.length=y.size:=by simp
   have l1:=cut2_len x.data.toList
   have l2:=cut2_len y.data.toList
   rw [<-h1.2.1] at l1
   rw [<-h2.2.1] at l2
   refine ⟨fun h=>?_,by omega,by omega⟩
   have:=(cut_yes (h1.2.2 ▸ h:cut3 x.data.toList=true)).2
   rw [<-h1.2.1] at this
   omega
  rcases part_order P1 Q1 with ⟨X1,T2,X2,hv1,hv2,ho⟩ | ⟨X1,T2,X2,hv1,hv2,ho⟩
  ·rw [<-hO] at ho
   rw [hv1] at D1
   rw [hv2] at D2
   have H0:Hid (∀w,Calls Tryz.prog 202 #[.string X1,.iface T2 (.string X2)] w fun e w'=>e=.returned (.int .i64 O)/\∃n,w'=w.drewN n):=ho
   clear ho hv1 hv2 hO
   have na:∀w,(nilAhead 357 169 (.string X1) "pantry/ver.order").run Tryz.prog w=.ok (some false) w:=fun w=>by kernel_rfl
   have hm:∀w,(method 357 169 (.string X1) "pantry/ver.order").run Tryz.prog w=.ok (202,.string X1) w:=fun w=>by kernel_rfl
   go_wp2_with (go_at_call 98;refine (HC1.out _).mono ?_)
   rintro e w1 ⟨rfl,n1,rfl⟩
   go_wp2_with (go_at_call 98;refine (HC2.out _).mono ?_)
   rintro e w1 ⟨rfl,n2,rfl⟩
   go_wp2
   go_region_with (first | (go_at_call_of 99 (Value.string ⟨P1.toArray⟩);refine (D1.out _).mono ?_;rintro e w3 ⟨rfl,hg3⟩) | (go_at_call_of 99 (Value.string ⟨Q1.toArray⟩);refine (D2.out _).mono ?_;rintro e w4 ⟨rfl,hg4⟩) | (go_at_call 202;refine (H0.out _).mono ?_;rintro e w5 ⟨rfl,n5,rfl⟩))
   all_goals
    have GB:Hid (Gr w w4):=gr_trans (gr_trans (gr_drew HG.out _) hg3) hg4
    clear hg3 hg4 na hm
    cases hz:(O == 0) with
    | false =>
     have HZ:Hid (R=O):=by
      show R=O
      rw [HS.out,if_neg (by simpa using hz)]
     go_wp2
     go_ret
     exact ⟨ret_int HZ.out.symm,gr_drew GB.out _⟩
    | true =>
     have HZ:Hid (O=0):=by
      show O=0
      simpa using hz
     cases P3 with
     | true =>
      cases Q3 with
      | true =>
       go_wp2
       go_roundw
       case rel =>
        refine ⟨⟨P2.toArray⟩,⟨Q2.toArray⟩,rfl,rfl,?_,?_,?_,gr_drew GB.out _⟩
        ·show P2.toArray.size < _
         have:=HL.out.2.1;simpa using this
        ·show Q2.toArray.size < _
         have:=HL.out.2.2;simpa using this
        ·rw [HS.out,if_pos HZ.out];rfl
       case measure =>
        have:=HL.out.1 rfl
        show P2.toArray.size < x.size
        simpa using this
      | false =>
       have HE:Hid (R=1):=by show R=1;rw [HS.out,if_pos HZ.out];rfl
       go_wp2
       go_ret
       exact ⟨ret_int HE.out.symm,gr_drew GB.out _⟩
     | false =>
      cases Q3 with
      | true =>
       have HE:Hid (R=-1):=by show R=-1;rw [HS.out,if_pos HZ.out];rfl
       go_wp2
       go_ret
       exact ⟨ret_int HE.out.symm,gr_drew GB.out _⟩
      | false =>
       have HE:Hid (R=0):=by show R=0;rw [HS.out,if_pos HZ.out];rfl
       go_wp2
       go_ret
       exact ⟨ret_int HE.out.symm,gr_drew GB.out _⟩
  ·rw [<-hO] at ho
   rw [hv1] at D1
   rw [hv2] at D2
   have H0:Hid (∀w,Calls Tryz.prog 205 #[.string X1,.iface T2 (.string X2)] w fun e w'=>e=.returned (.int .i64 O)/\∃n,w'=w.drewN n):=ho
   clear ho hv1 hv2 hO
   have na:∀w,(nilAhead 357 171 (.string X1) "pantry/ver.order").run Tryz.prog w=.ok (some false) w:=fun w=>by kernel_rfl
   have hm:∀w,(method 357 171 (.string X1) "pantry/ver.order").run Tryz.prog w=.ok (205,.string X1) w:=fun w=>by kernel_rfl
   go_wp2_with (go_at_call 98;refine (HC1.out _).mono ?_)
   rintro e w1 ⟨rfl,n1,rfl⟩
   go_wp2_with (go_at_call 98;refine (HC2.out _).mono ?_)
   rintro e w1 ⟨rfl,n2,rfl⟩
   go_wp2
   go_region_with (first | (go_at_call_of 99 (Value.string ⟨P1.toArray⟩);refine (D1.out _).mono ?_;rintro e w3 ⟨rfl,hg3⟩) | (go_at_call_of 99 (Value.string ⟨Q1.toArray⟩);refine (D2.out _).mono ?_;rintro e w4 ⟨rfl,hg4⟩) | (go_at_call 205;refine (H0.out _).mono ?_;rintro e w5 ⟨rfl,n5,rfl⟩))
   all_goals
    have GB:Hid (Gr w w4):=gr_trans (gr_trans (gr_drew HG.out _) hg3) hg4
    clear hg3 hg4 na hm
    cases hz:(O == 0) with
    | false =>
     have HZ:Hid (R=O):=by
      show R=O
      rw [HS.out,if_neg (by simpa using hz)]
     go_wp2
     go_ret
     exact ⟨ret_int HZ.out.symm,gr_drew GB.out _⟩
    | true =>
     have HZ:Hid (O=0):=by
      show O=0
      simpa using hz
     cases P3 with
     | true =>
      cases Q3 with
      | true =>
       go_wp2
       go_roundw
       case rel =>
        refine ⟨⟨P2.toArray⟩,⟨Q2.toArray⟩,rfl,rfl,?_,?_,?_,gr_drew GB.out _⟩
        ·show P2.toArray.size < _
         have:=HL.out.2.1;simpa using this
        ·show Q2.toArray.size < _
         have:=HL.out.2.2;simpa using this
        ·rw [HS.out,if_pos HZ.out];rfl
       case measure =>
        have:=HL.out.1 rfl
        show P2.toArray.size < x.size
        simpa using this
      | false =>
       have HE:Hid (R=1):=by show R=1;rw [HS.out,if_pos HZ.out];rfl
       go_wp2
       go_ret
       exact ⟨ret_int HE.out.symm,gr_drew GB.out _⟩
     | false =>
      cases Q3 with
      | true =>
       have HE:Hid (R=-1):=by show R=-1;rw [HS.out,if_pos HZ.out];rfl
       go_wp2
       go_ret
       exact ⟨ret_int HE.out.symm,gr_drew GB.out _⟩
      | false =>
       have HE:Hid (R=0):=by show R=0;rw [HS.out,if_pos HZ.out];rfl
       go_wp2
       go_ret
       exact ⟨ret_int HE.out.symm,gr_drew GB.out _⟩
theorem pre_any (a b:ByteArray) (w:World) (hs:a.size < 2 ^ 62) (hs':b.size < 2 ^ 62) :
  Calls Tryz.prog 76 #[.string a,.string b] w fun e w'=>e=.returned (.int .i64 (preC a.data.toList b.data.toList))/\Gr w w':=by
 by_cases h:a.size=0\/b.size=0
 ·exact pre_e a b w h
 ·have ha:a.size ≠ 0:=fun e=>h (Or.inl e)
  have hb:b.size ≠ 0:=fun e=>h (Or.inr e)
  rw [pre_full a.data.toList b.data.toList (fun e=>ha (by show a.data.size=0;rw [<-Array.length_toList,e];rfl)) (fun e=>hb (by show b.data.size=0;rw [<-Array.length_toList,e];rfl))]
  exact pre_f a b w ha hb hs hs'
end Go.Proofs.YtonfldbigenfhaaGreatDoor.G
namespace Go.Proofs.YtonfldbigenfhaaGreatDoor.G
open Go.RowKit
set_option linter.unusedVariables false
def or3 (x y z:Int):Int:=if x=0 then (if y=0 then z else y) else x
set_option maxHeartbeats 400000 in
theorem or_any (x y z:Int) (b:Nat) (w:World) (h0:w.cell? ⟨b,0,none⟩=some (.int .i64 x)) (h1:w.cell? ⟨b,1,none⟩=some (.int .i64 y)) (h2:w.cell? ⟨b,2,none⟩=some (.int .i64 z)) :
  Calls Tryz.prog 74 #[.slice (some ⟨b,0,none⟩) 3 3] w fun e w'=>e=.returned (.int .i64 (or3 x y z))/\w'=w:=by
 obtain ⟨R,hR⟩:∃R,R=or3 x y z:=⟨_,rfl⟩
 have HR:Hid (R=or3 x y z):=hR
 rw [<-hR]
 clear hR
 go_enter Tryz.func74,Tryz.ntmps74
 go_wp2
 go_loop [8] (fun i=>∃k:Nat,k<=3/\i=.int .i64 k/\(1<=k->x=0)/\(2<=k->y=0)/\(3<=k->z=0)) (fun i=>3 - (intOf i).toNat)
 case atStart=>exact ⟨0,by omega,rfl,by omega,by omega,by omega⟩
 case round =>
  obtain ⟨k,hk,rfl,k1,k2,k3⟩:=hrel
  rcases (show k=0\/k=1\/k=2\/k=3 by omega) with rfl | rfl | rfl | rfl
  ·clear k1 k2 k3 hk
   cases hz:(x == 0) with
   | true =>
    have hx:x=0:=by simpa using hz
    go_wp2
    go_round
    case rel=>exact ⟨1,by omega,rfl,fun _=>hx,by omega,by omega⟩
    case measure=>simp [intOf]
   | false =>
    have HZ:Hid (R=x):=by show R=x;rw [HR.out];unfold or3;rw [if_neg (by simpa using hz)]
    go_wp2
    go_ret
    exact ⟨ret_int HZ.out.symm,rfl⟩
  ·have hx:Hid (x=0):=k1 (by omega)
   clear k1 k2 k3 hk
   cases hz:(y == 0) with
   | true =>
    have hy:y=0:=by simpa using hz
    go_wp2
    go_round
    case rel=>exact ⟨2,by omega,rfl,fun _=>hx.out,fun _=>hy,by omega⟩
    case measure=>simp [intOf]
   | false =>
    have HZ:Hid (R=y):=by show R=y;rw [HR.out];unfold or3;rw [if_pos hx.out,if_neg (by simpa using hz)]
    go_wp2
    go_ret
    exact ⟨ret_int HZ.out.symm,rfl⟩
  ·have hx:Hid (x=0):=k1 (by omega)
   have hy:Hid (y=0):=k2 (by omega)
   clear k1 k2 k3 hk
   have HZ:Hid (R=z):=by show R=z;rw [HR.out];unfold or3;rw [if_pos hx.out,if_pos hy.out]
   cases hz:(z == 0) with
   | true =>
    have hy':z=0:=by simpa using hz
    go_wp2
    go_round
    case rel=>exact ⟨3,by omega,rfl,fun _=>hx.out,fun _=>hy.out,fun _=>hy'⟩
    case measure=>simp [intOf]
   | false =>
    go_wp2
    go_ret
    exact ⟨ret_int HZ.out.symm,rfl⟩
  ·have HZ:Hid (R=0):=by show R=0;rw [HR.out];unfold or3;rw [if_pos (k1 (by omega)),if_pos (k2 (by omega)),k3 (by omega)]
   clear k1 k2 k3 hk
   go_wp2
   go_ret
   exact ⟨ret_int HZ.out.symm,rfl⟩
theorem verC_or (a b:V):verC a b=if or3 (Lib.compareInt a.major b.major) (Lib.compareInt a.minor b.minor) (Lib.compareInt a.patch b.patch)=0 then preC a.pre b.pre else or3 (Lib.compareInt a.major b.major) (Lib.compareInt a.minor b.minor) (Lib.compareInt a.patch b.patch):=by
 rw [verC_eq];unfold or3
 repeat' split
 all_goals first | rfl | (exfalso;omega) | omega
set_option maxHeartbeats 800000 in
theorem compare_any (a1 a2 a3 b1 b2 b3:Int) (a4 a5 b4 b5:ByteArray) (w:World) (hs:a4.size < 2 ^ 62) (hs':b4.size < 2 ^ 62) :
  Calls Tryz.prog 44 #[.agg #[.int .i64 a1,.int .i64 a2,.int .i64 a3,.string a4,.string a5],.agg #[.int .i64 b1,.int .i64 b2,.int .i64 b3,.string b4,.string b5]] w fun e w'=>e=.returned (.int .i64 (verC ⟨a1,a2,a3,a4.data.toList⟩ ⟨b1,b2,b3,b4.data.toList⟩))/\Gr w w':=by
 obtain ⟨R,hR⟩:∃R,R=verC ⟨a1,a2,a3,a4.data.toList⟩ ⟨b1,b2,b3,b4.data.toList⟩:=⟨_,rfl⟩
 obtain ⟨x,hx⟩:∃x,x=Lib.compareInt a1 b1:=⟨_,rfl⟩
 obtain ⟨y,hy⟩:∃y,y=Lib.compareInt a2 b2:=⟨_,rfl⟩
 obtain ⟨z,hz⟩:∃z,z=Lib.compareInt a3 b3:=⟨_,rfl⟩
 obtain ⟨p,hp⟩:∃p,p=preC a4.data.toList b4.data.toList:=⟨_,rfl⟩
 obtain ⟨o,ho⟩:∃o,o=or3 x y z:=⟨_,rfl⟩
 have HR:Hid (R=if o=0 then p else o):=by
  show R=if o=0 then p else o
  rw [hR,verC_or,ho,hx,hy,hz,hp]
 have C1:Hid (∀w,Calls Tryz.prog 75 #[.int .i64 a1,.int .i64 b1] w fun e w'=>e=.returned (.int .i64 x)/\w'=w):=fun w=>by rw [hx];exact cmpInt_any _ _ w
 have C2:Hid (∀w,Calls Tryz.prog 75 #[.int .i64 a2,.int .i64 b2] w fun e w'=>e=.returned (.int .i64 y)/\w'=w):=fun w=>by rw [hy];exact cmpInt_any _ _ w
 have C3:Hid (∀w,Calls Tryz.prog 75 #[.int .i64 a3,.int .i64 b3] w fun e w'=>e=.returned (.int .i64 z)/\w'=w):=fun w=>by rw [hz];exact cmpInt_any _ _ w
 have CP:Hid (∀w,Calls Tryz.prog 76 #[.string a4,.string b4] w fun e w'=>e=.returned (.int .i64 p)/\Gr w w'):=fun w=>by rw [hp];exact pre_any a4 b4 w hs hs'
 have CO:Hid (∀(b:Nat) (w:World),w.cell? ⟨b,0,none⟩=some (.int .i64 x)->w.cell? ⟨b,1,none⟩=some (.int .i64 y)->w.cell? ⟨b,2,none⟩=some (.int .i64 z)->Calls Tryz.prog 74 #[.slice (some ⟨b,0,none⟩) 3 3] w fun e w'=>e=.returned (.int .i64 o)/\w'=w):=fun b w h0 h1 h2=>by rw [ho];exact or_any x y z b w h0 h1 h2
 rw [<-hR]
 clear hR hx hy hz hp ho hs hs'
 go_enter Tryz.func44,Tryz.ntmps44
 go_wp2
 obtain ⟨W,hW⟩:∃W,(w.alloc (.cells #[.int .i64 a1,.int .i64 a2,.int .i64 a3,.string a4,.string a5] 35)).alloc (.cells #[.int .i64 b1,.int .i64 b2,.int .i64 b3,.string b4,.string b5] 35)=W:=⟨_,rfl⟩
 rw [hW]
 have g1:W.heap[w.heap.size]?=some (.cells #[.int .i64 a1,.int .i64 a2,.int .i64 a3,.string a4,.string a5] 35 (0,0)):=by
  rw [<-hW,Lib.alloc_old _ _ _ (by simp)]
  exact heap_alloc_new w _
 have g2:W.heap[w.heap.size+1]?=some (.cells #[.int .i64 b1,.int .i64 b2,.int .i64 b3,.string b4,.string b5] 35 (0,0)):=by
  rw [<-hW]
  have:=heap_alloc_new (w.alloc (.cells #[.int .i64 a1,.int .i64 a2,.int .i64 a3,.string a4,.string a5] 35)) (.cells #[.int .i64 b1,.int .i64 b2,.int .i64 b3,.string b4,.string b5] 35)
  rw [show (w.alloc (.cells #[.int .i64 a1,.int .i64 a2,.int .i64 a3,.string a4,.string a5] 35)).heap.size=w.heap.size+1 by simp] at this
  exact this
 have HGW:Hid (Gr w W):=by
  show Gr w W
  rw [<-hW]
  exact ⟨⟨rfl,rfl,rfl,by simp;omega,fun k hk _=>by rw [Lib.alloc_old _ _ _ (by simp;omega),Lib.alloc_old _ _ _ hk]⟩,Nat.le_refl _⟩
 have HSZ:Hid (W.heap.size=w.heap.size+2):=by
  show W.heap.size=w.heap.size+2
  rw [<-hW];simp
 obtain ⟨A,hA⟩:∃A,w.heap.size=A:=⟨_,rfl⟩
 rw [hA] at g1 g2
 rw [hA]
 have HA:Hid (W.heap.size=A+2):=by
  show W.heap.size=A+2
  rw [<-hA];exact HSZ.out
 have c0:W.cell? ⟨A,0,none⟩=some (.int .i64 a1):=by rw [Lib.cell_of_heap g1];rfl
 have c1:W.cell? ⟨A,1,none⟩=some (.int .i64 a2):=by rw [Lib.cell_of_heap g1];rfl
 have c2:W.cell? ⟨A,2,none⟩=some (.int .i64 a3):=by rw [Lib.cell_of_heap g1];rfl
 have c3:Hid (W.cell? ⟨A,3,none⟩=some (.string a4)):=by show W.cell? _=_;rw [Lib.cell_of_heap g1];rfl
 have d0:W.cell? ⟨A+1,0,none⟩=some (.int .i64 b1):=by rw [Lib.cell_of_heap g2];rfl
 have d1:W.cell? ⟨A+1,1,none⟩=some (.int .i64 b2):=by rw [Lib.cell_of_heap g2];rfl
 have d2:W.cell? ⟨A+1,2,none⟩=some (.int .i64 b3):=by rw [Lib.cell_of_heap g2];rfl
 have d3:Hid (W.cell? ⟨A+1,3,none⟩=some (.string b4)):=by show W.cell? _=_;rw [Lib.cell_of_heap g2];rfl
 clear hW hA HSZ g1 g2
 go_region_held3 (fun w'=>w'.cell? ⟨A,0,none⟩=some (.int .i64 a1)/\w'.cell? ⟨A,1,none⟩=some (.int .i64 a2)/\w'.cell? ⟨A,2,none⟩=some (.int .i64 a3)/\w'.cell? ⟨A+1,0,none⟩=some (.int .i64 b1)/\w'.cell? ⟨A+1,1,none⟩=some (.int .i64 b2)/\w'.cell? ⟨A+1,2,none⟩=some (.int .i64 b3)) (go_keep) (first | (go_at_call_of 75 (Value.int .i64 a1);refine (C1.out _).mono ?_;rintro e w' ⟨rfl,rfl⟩) | (go_at_call_of 75 (Value.int .i64 a2);refine (C2.out _).mono ?_;rintro e w' ⟨rfl,rfl⟩) | (go_at_call_of 75 (Value.int .i64 a3);refine (C3.out _).mono ?_;rintro e w' ⟨rfl,rfl⟩) | (go_at_call 74;refine (CO.out _ _ (by simp) (by simp) (by simp)).mono ?_;rintro e w' ⟨rfl,rfl⟩))
 obtain ⟨W2,hW2⟩:∃W2,(W.alloc (.cells #[.int .i64 x,.int .i64 y,.int .i64 z] 3)).drew=W2:=⟨_,rfl⟩
 rw [hW2]
 have hlt:A < W.heap.size/\A+1 < W.heap.size:=by have:=HA.out;omega
 have e3:W2.cell? ⟨A,3,none⟩=some (.string a4):=by
  rw [<-hW2]
  exact (World.cell?_of_block (show ((W.alloc _).drew).heap[A]?=W.heap[A]? from Lib.alloc_old W _ A hlt.1)).trans c3.out
 have f3:W2.cell? ⟨A+1,3,none⟩=some (.string b4):=by
  rw [<-hW2]
  exact (World.cell?_of_block (show ((W.alloc _).drew).heap[A+1]?=W.heap[A+1]? from Lib.alloc_old W _ (A+1) hlt.2)).trans d3.out
 have HG2:Hid (Gr w W2):=by
  show Gr w W2
  rw [<-hW2]
  have h1:Gr W ((W.alloc (.cells #[.int .i64 x,.int .i64 y,.int .i64 z] 3)).drew):=⟨⟨rfl,rfl,rfl,by simp,fun k hk _=>Lib.alloc_old W _ k hk⟩,Nat.le_succ _⟩
  exact gr_trans HGW.out h1
 clear hW2 hlt c0 c1 c2 c3 d0 d1 d2 d3 HA HGW C1 C2 C3 CO
 cases hz:(o == 0) with
 | false =>
  have HZ:Hid (R=o):=by show R=o;rw [HR.out,if_neg (by simpa using hz)]
  go_wp2
  go_ret
  exact ⟨ret_int HZ.out.symm,HG2.out⟩
 | true =>
  have HZ:Hid (R=p):=by show R=p;rw [HR.out,if_pos (by simpa using hz)]
  go_wp2_with (first | (go_at_call 76;refine (CP.out _).mono ?_;rintro e w4 ⟨rfl,hg4⟩))
  go_ret
  exact ⟨ret_int HZ.out.symm,gr_trans HG2.out hg4⟩
end Go.Proofs.YtonfldbigenfhaaGreatDoor.G
namespace Go.Proofs.YtonfldbigenfhaaGreatDoor
open Go.RowKit
set_option linter.unusedVariables false
set_option maxRecDepth 100000 in
set_option maxHeartbeats 800000 in
theorem cmpE_any (x y:Er) (w:World) (hx:x.a4.size<=1048576) (hy:y.a4.size<=1048576) :
  Calls Tryz.prog 104 #[.agg (erC x).toArray,.agg (erC y).toArray] w fun e w'=>e=.returned (.int .i64 (verC (toEd x).at_ (toEd y).at_))/\Gr w w':=by
 obtain ⟨a1,a2,a3,a4,a5,l,d⟩:=x
 obtain ⟨b1,b2,b3,b4,b5,m,c⟩:=y
 obtain ⟨r,hr⟩:∃r,verC (toEd ⟨a1,a2,a3,a4,a5,l,d⟩).at_ (toEd ⟨b1,b2,b3,b4,b5,m,c⟩).at_=r:=⟨_,rfl⟩
 have CC:Hid (∀w,Calls Tryz.prog 44 #[.agg #[.int .i64 a1,.int .i64 a2,.int .i64 a3,.string a4,.string a5],.agg #[.int .i64 b1,.int .i64 b2,.int .i64 b3,.string b4,.string b5]] w fun e w'=>e=.returned (.int .i64 r)/\Gr w w'):=fun w=>by
  rw [<-hr];exact G.compare_any a1 a2 a3 b1 b2 b3 a4 a5 b4 b5 w (by simp at hx;omega) (by simp at hy;omega)
 rw [hr]
 clear hr hx hy
 show Calls Tryz.prog 104 #[.agg #[.int .i64 a1,.int .i64 a2,.int .i64 a3,.string a4,.string a5,.int .i64 l,.int .i64 d],.agg #[.int .i64 b1,.int .i64 b2,.int .i64 b3,.string b4,.string b5,.int .i64 m,.int .i64 c]] w _
 go_enter Tryz.func104,Tryz.ntmps104
 go_wp2_with (first | (go_at_call 44;refine (CC.out _).mono ?_))
 rintro e w1 ⟨rfl,hg⟩
 go_wp2
 go_ret
 exact ⟨rfl,gr_trans (gr_alloc (gr_alloc (gr_refl w) _) _) hg⟩
end Go.Proofs.YtonfldbigenfhaaGreatDoor
namespace Go.Proofs
open Go.Shelf
def Tryz.laysSort_ren:Go.Shelf.Ren:=⟨fun | 6=>103 | 14=>119 | 15=>120 | 20=>148 | 21=>149 | 22=>150 | 23=>151 | 24=>152 | 25=>153 | 26=>154 | 27=>155 | 28=>156 | 29=>157 | 46=>172 | 47=>173 | 48=>174 | 49=>175 | 50=>176 | 57=>183 | n=>n,fun | 22=>132 | 23=>161 | 24=>135 | 25=>162 | 27=>131 | 29=>117 | 37=>176 | 38=>177 | 39=>178 | 42=>55 | 44=>201 | 45=>202 | 46=>203 | 47=>204 | 48=>205 | 49=>206 | 50=>207 | 51=>208 | 52=>209 | 53=>210 | 54=>197 | 55=>196 | 66=>221 | 67=>222 | 68=>223 | 69=>224 | 70=>137 | 71=>225 | 76=>229 | 77=>230 | 78=>231 | 81=>128 | 82=>239 | 83=>240 | 84=>241 | 85=>242 | 86=>243 | 87=>99 | 88=>244 | 89=>245 | 90=>246 | 91=>160 | 92=>247 | 93=>248 | 94=>249 | 95=>250 | 96=>173 | n=>n,fun n=>n⟩
set_option maxRecDepth 100000 in
theorem Tryz.laysSort:Go.Proofs.SlLaysF0.n6 Tryz.prog Tryz.laysSort_ren:={
 mixed:=by kernel_rfl
 f6:=⟨"slices.SortFunc[[]pantry/span.edge,pantry/span.edge]",by decide,Tryz.func103.trans (congrArg some (by kernel_rfl))⟩
 f14:=⟨"slices.pdqsortCmpFunc[pantry/span.edge]",by decide,Tryz.func119.trans (congrArg some (by kernel_rfl))⟩
 f15:=Tryz.func120.trans (congrArg some (by kernel_rfl))
 f20:=⟨"slices.insertionSortCmpFunc[pantry/span.edge]",by decide,Tryz.func148.trans (congrArg some (by kernel_rfl))⟩
 f21:=⟨"slices.heapSortCmpFunc[pantry/span.edge]",by decide,Tryz.func149.trans (congrArg some (by kernel_rfl))⟩
 f22:=⟨"slices.breakPatternsCmpFunc[pantry/span.edge]",by decide,Tryz.func150.trans (congrArg some (by kernel_rfl))⟩
 f23:=⟨"slices.choosePivotCmpFunc[pantry/span.edge]",by decide,Tryz.func151.trans (congrArg some (by kernel_rfl))⟩
 f24:=⟨"slices.reverseRangeCmpFunc[pantry/span.edge]",by decide,Tryz.func152.trans (congrArg some (by kernel_rfl))⟩
 f25:=⟨"slices.partialInsertionSortCmpFunc[pantry/span.edge]",by decide,Tryz.func153.trans (congrArg some (by kernel_rfl))⟩
 f26:=⟨"slices.partitionEqualCmpFunc[pantry/span.edge]",by decide,Tryz.func154.trans (congrArg some (by kernel_rfl))⟩
 f27:=⟨"slices.partitionCmpFunc[pantry/span.edge]",by decide,Tryz.func155.trans (congrArg some (by kernel_rfl))⟩
 f28:=Tryz.func156.trans (congrArg some (by kernel_rfl))
 f29:=Tryz.func157.trans (congrArg some (by kernel_rfl))
 f46:=⟨"slices.siftDownCmpFunc[pantry/span.edge]",by decide,Tryz.func172.trans (congrArg some (by kernel_rfl))⟩
 f47:=Tryz.func173.trans (congrArg some (by kernel_rfl))
 f48:=Tryz.func174.trans (congrArg some (by kernel_rfl))
 f49:=⟨"slices.medianAdjacentCmpFunc[pantry/span.edge]",by decide,Tryz.func175.trans (congrArg some (by kernel_rfl))⟩
 f50:=⟨"slices.medianCmpFunc[pantry/span.edge]",by decide,Tryz.func176.trans (congrArg some (by kernel_rfl))⟩
 f57:=⟨"slices.order2CmpFunc[pantry/span.edge]",by decide,Tryz.func183.trans (congrArg some (by kernel_rfl))⟩
 t0:=Tryz.underlying0
 a0:=Tryz.isAgg0
 z0:=Tryz.sizeOf0
 v0:=Tryz.zeroValue0
 t3:=Tryz.underlying3
 a3:=Tryz.isAgg3
 z3:=Tryz.sizeOf3
 v3:=Tryz.zeroValue3
 t4:=Tryz.underlying4
 a4:=Tryz.isAgg4
 z4:=Tryz.sizeOf4
 v4:=Tryz.zeroValue4
 t5:=Tryz.underlying5
 a5:=Tryz.isAgg5
 z5:=Tryz.sizeOf5
 v5:=Tryz.zeroValue5
 t9:=Tryz.underlying9
 a9:=Tryz.isAgg9
 z9:=Tryz.sizeOf9
 v9:=Tryz.zeroValue9
 t22:=Tryz.underlying132
 a22:=Tryz.isAgg132
 z22:=Tryz.sizeOf132
 v22:=Tryz.zeroValue132
 t25:=Tryz.underlying162
 a25:=Tryz.isAgg162
 z25:=Tryz.sizeOf162
 v25:=Tryz.zeroValue162
 t39:=Tryz.underlying178
 a39:=Tryz.isAgg178
 z39:=Tryz.sizeOf178
 v39:=Tryz.zeroValue178
 t45:=Tryz.underlying202
 a45:=Tryz.isAgg202
 z45:=Tryz.sizeOf202
 v45:=Tryz.zeroValue202
 t46:=Tryz.underlying203
 a46:=Tryz.isAgg203
 z46:=Tryz.sizeOf203
 v46:=Tryz.zeroValue203
 t50:=Tryz.underlying207
 a50:=Tryz.isAgg207
 z50:=Tryz.sizeOf207
 v50:=Tryz.zeroValue207
 t53:=Tryz.underlying210
 a53:=Tryz.isAgg210
 z53:=Tryz.sizeOf210
 v53:=Tryz.zeroValue210
 t55:=Tryz.underlying196
 a55:=Tryz.isAgg196
 z55:=Tryz.sizeOf196
 v55:=Tryz.zeroValue196
 t66:=Tryz.underlying221
 a66:=Tryz.isAgg221
 z66:=Tryz.sizeOf221
 v66:=Tryz.zeroValue221
 t70:=Tryz.underlying137
 a70:=Tryz.isAgg137
 z70:=Tryz.sizeOf137
 v70:=Tryz.zeroValue137
 t76:=Tryz.underlying229
 a76:=Tryz.isAgg229
 z76:=Tryz.sizeOf229
 v76:=Tryz.zeroValue229
 t77:=Tryz.underlying230
 a77:=Tryz.isAgg230
 z77:=Tryz.sizeOf230
 v77:=Tryz.zeroValue230 }
end Go.Proofs
