import Derived.Test.YtonfldbigenfhaaGreatDoorB34
import Derived.Test.YtonfldbigenfhaaGreatDoorB16
import Derived.Test.YtonfldbigenfhaaGreatDoorB02
import Derived.Test.YtonfldbigenfhaaGreatDoorB17
import Derived.Test.YtonfldbigenfhaaGreatDoorB29
namespace Go.Proofs.YtonfldbigenfhaaGreatDoor
open Go.RowKit
set_option linter.unusedVariables false
def VR (v:Nat) (y1 y2 y3:Int) (x4 x5:ByteArray) (w:World):Prop:=w.heap[v]?=some (.cells #[.int .i64 y1,.int .i64 y2,.int .i64 y3,.string x4,.string x5] 39 (0,0))
theorem VR.cells {v:Nat} {y1 y2 y3:Int} {x4 x5:ByteArray} {w:World} (h:VR v y1 y2 y3 x4 x5 w):w.cell? ⟨v,0,none⟩=some (.int .i64 y1)/\w.cell? ⟨v,1,none⟩=some (.int .i64 y2)/\w.cell? ⟨v,2,none⟩=some (.int .i64 y3)/\w.cell? ⟨v,3,none⟩=some (.string x4)/\w.cell? ⟨v,4,none⟩=some (.string x5) :=
 ⟨by rw [Lib.cell_of_heap h];rfl,by rw [Lib.cell_of_heap h];rfl,by rw [Lib.cell_of_heap h];rfl,by rw [Lib.cell_of_heap h];rfl,by rw [Lib.cell_of_heap h];rfl⟩
theorem VR.f {v:Nat} {y1 y2 y3:Int} {x4 x5:ByteArray} {w:World} (h:VR v y1 y2 y3 x4 x5 w) (o:Nat):w.frozen? ⟨v,o,none⟩=false:=Lib.frozen_of_heap h o
theorem VR.grow {b v:Nat} {y1 y2 y3:Int} {x4 x5:ByteArray} {w w':World} (h:VR v y1 y2 y3 x4 x5 w) (hg:w.grownBy w' (some b)) (hn:v ≠ b):VR v y1 y2 y3 x4 x5 w':=by
 unfold VR at h ⊢
 rw [hg.block v ((Array.getElem?_eq_some_iff.1 h).1) (by simpa using hn)];exact h
theorem VR.set3 {v:Nat} {y1 y2 y3:Int} {x4 x5:ByteArray} {w:World} (h:VR v y1 y2 y3 x4 x5 w) (z:ByteArray):VR v y1 y2 y3 z x5 (w.setCell ⟨v,3,none⟩ (.string z)):=by
 unfold VR at h ⊢;simp [World.setCell,Array.getElem?_modify,h]
theorem VR.set4 {v:Nat} {y1 y2 y3:Int} {x4 x5:ByteArray} {w:World} (h:VR v y1 y2 y3 x4 x5 w) (z:ByteArray):VR v y1 y2 y3 x4 z (w.setCell ⟨v,4,none⟩ (.string z)):=by
 unfold VR at h ⊢;simp [World.setCell,Array.getElem?_modify,h]
theorem VR.other {v u:Nat} {y1 y2 y3:Int} {x4 x5:ByteArray} {w:World} (h:VR v y1 y2 y3 x4 x5 w) (hn:v ≠ u) (o:Nat) (x:Value):VR v y1 y2 y3 x4 x5 (w.setCell ⟨u,o,none⟩ x):=by
 unfold VR at h ⊢;rw [<-h];exact heap_setCell_other w _ v x hn
theorem VS.other {b v:Nat} {s:ByteArray} {i:Nat} {E:Int} {a:Nat} {w:World} (h:VS b s i E a w) (hn:b ≠ v) (o:Nat) (x:Value):VS b s i E a (w.setCell ⟨v,o,none⟩ x):=by
 unfold VS at h ⊢;rw [<-h];exact heap_setCell_other w _ b x hn
theorem G2.set1 {b v:Nat} {w w1:World} (h:G2 b v w w1) (o:Nat) (x:Value):G2 b v w (w1.setCell ⟨b,o,none⟩ x) :=
 ⟨h.os,h.tape,h.output,by simpa [World.setCell] using h.size,fun k hk h1 h2=>by rw [<-h.block k hk h1 h2];exact heap_setCell_other w1 _ k x (fun e=>h1 e)⟩
open Go.RowKit
set_option linter.unusedVariables false
def GR (g b:Nat) (w:World):Prop:=w.cell? ⟨g,0,none⟩=some (.pointer (some ⟨b,0,none⟩))
theorem GR.drew {g b:Nat} {w:World} (h:GR g b w) (n:Nat):GR g b (w.drewN n):=h
theorem GR.growb {g b q:Nat} {w w':World} (h:GR g b w) (hg:w.grownBy w' (some q)) (hn:g ≠ q):GR g b w':=hg.cell h (by simpa using hn)
theorem GR.grow {g b:Nat} {w w':World} (h:GR g b w) (hg:w.grownBy w' none):GR g b w':=hg.cell h (by simp)
theorem GR.other {g b v:Nat} {w:World} (h:GR g b w) (hn:g ≠ v) (o:Nat) (x:Value):GR g b (w.setCell ⟨v,o,none⟩ x):=by
 unfold GR at h ⊢
 unfold World.cell? at h ⊢
 rw [heap_setCell_other w _ g x (by simpa using hn)];exact h
theorem prefix_take:∀(l t:List UInt8),Lib.hasPrefix l t=(decide (t.length<=l.length) && (l.take t.length == t))
 | l,[]=>by cases l <;> simp [Lib.hasPrefix]
 | [],c :: t=>by simp [Lib.hasPrefix]
 | x :: l,c :: t=>by
  show (c == x && Lib.hasPrefix l t)=_
  rw [prefix_take l t]
  simp only [List.length_cons,List.take_succ_cons,Nat.add_le_add_iff_right]
  rw [Bool.eq_iff_iff]
  simp only [Bool.and_eq_true,beq_iff_eq,decide_eq_true_eq,List.cons.injEq]
  constructor
  ·rintro ⟨h1,h2,h3⟩;exact ⟨h2,h1.symm,h3⟩
  ·rintro ⟨h2,h1,h3⟩;exact ⟨h1.symm,h2,h3⟩
theorem prefix_fits (l t:List UInt8) (i:Nat) (h:i+t.length<=l.length):Lib.hasPrefix (l.drop i) t=(subT l i t.length == t):=by
 rw [prefix_take]
 unfold subT
 rw [decide_eq_true (by rw [List.length_drop];omega),Bool.true_and]
theorem prefix_long (l t:List UInt8) (i:Nat) (h:¬ i+t.length<=l.length) (hi:i<=l.length):Lib.hasPrefix (l.drop i) t=false:=by
 rw [prefix_take,decide_eq_false (by rw [List.length_drop];omega),Bool.false_and]
theorem toList_eq (a b:ByteArray):(a.toList == b.toList)=(a.data.toList == b.data.toList):=by rw [Go.Lib.toList_data,Go.Lib.toList_data]
set_option maxRecDepth 100000 in
set_option maxHeartbeats 800000 in
theorem is_late (g b:Nat) (s t:ByteArray) (i:Nat) (E:Int) (a:Nat) (w:World) (hE:¬ E=0) (hg:GR g b w) (h:VS b s i E a w) :
  Calls Tryz.prog 36 #[.pointer (some ⟨g,0,none⟩),.string t] w fun e w'=>e=.returned (.bool false)/\∃n,w'=w.drewN n:=by
 have h0:=h.c0
 have h1:=h.c1
 have h2:=h.c2
 have hn:(E == 0)=false:=by simpa using hE
 have g0:w.cell? ⟨g,0,none⟩=some (.pointer (some ⟨b,0,none⟩)):=hg
 clear h hg hE
 go_enter Tryz.func36,Tryz.ntmps36
 go_wp2
 go_quiet (fail)
 go_wp2
 go_ret
 exact ⟨rfl,_,rfl⟩
set_option maxRecDepth 100000 in
set_option maxHeartbeats 800000 in
theorem is_any (g b:Nat) (s t:ByteArray) (i:Nat) (a:Nat) (w:World) (hi:i<=s.size) (hg:GR g b w) (h:VS b s i 0 a w) (hs:s.size < 2 ^ 61) (ht:t.size < 2 ^ 61) :
  Calls Tryz.prog 36 #[.pointer (some ⟨g,0,none⟩),.string t] w fun e w'=>e=.returned (.bool (Lib.hasPrefix (s.data.toList.drop i) t.data.toList))/\∃n,w'=w.drewN n:=by
 have h0:=h.c0
 have h1:=h.c1
 have h2:=h.c2
 have g0:w.cell? ⟨g,0,none⟩=some (.pointer (some ⟨b,0,none⟩)):=hg
 have hw:IntKind.i64.wrap ((i:Int)+(t.size:Int))=(i:Int)+(t.size:Int):=by rw [IntKind.wrap_i64];omega
 clear h hg
 by_cases hf:i+t.size<=s.size
 ·have hle:decide ((i:Int)+(t.size:Int)<=(s.size:Int))=true:=by simp;omega
  obtain ⟨X,hX⟩:∃X:ByteArray,X=⟨(subT s.data.toList i t.size).toArray⟩:=⟨_,rfl⟩
  have sl:∀wx,(Instr.slice 9 (.string s) (some (.int .i64 (i:Int))) (some (.int .i64 ((i:Int)+(t.size:Int)))) none).run Tryz.prog wx=.ok (.string X) wx:=fun wx=>by
   rw [hX]
   have:=run_sub s i (i+t.size) (by omega) hf wx
   rw [show i+t.size - i=t.size by omega,show ((i+t.size:Nat):Int)=(i:Int)+(t.size:Int) by omega] at this
   exact this
  have hp:=prefix_fits s.data.toList t.data.toList i (by simpa using hf)
  obtain ⟨r,hr⟩:∃r,(X.toList == t.toList)=r:=⟨_,rfl⟩
  have HP:Hid (Lib.hasPrefix (s.data.toList.drop i) t.data.toList=r):=by
   show _=_
   rw [hp,<-hr,toList_eq,hX]
   simp
  rw [HP.out]
  clear hX hp hf hi hs ht
  cases r with
  | true =>
   go_enter Tryz.func36,Tryz.ntmps36
   go_wp2
   go_quiet (fail)
   go_wp2
   go_ret
   exact ⟨rfl,_,rfl⟩
  | false =>
   go_enter Tryz.func36,Tryz.ntmps36
   go_wp2
   go_quiet (fail)
   go_wp2
   go_ret
   exact ⟨rfl,_,rfl⟩
 ·have hle:decide ((i:Int)+(t.size:Int)<=(s.size:Int))=false:=by simp;omega
  have HP:Hid (Lib.hasPrefix (s.data.toList.drop i) t.data.toList=false):=prefix_long s.data.toList t.data.toList i (by simpa using hf) (by simpa using hi)
  rw [HP.out]
  clear hf hi hs ht
  go_enter Tryz.func36,Tryz.ntmps36
  go_wp2
  go_quiet (fail)
  go_wp2
  go_ret
  exact ⟨rfl,_,rfl⟩
end Go.Proofs.YtonfldbigenfhaaGreatDoor
