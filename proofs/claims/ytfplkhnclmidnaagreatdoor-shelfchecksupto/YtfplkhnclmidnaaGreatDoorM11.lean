import Derived.Test.YtfplkhnclmidnaaGreatDoorM10
import Derived.Test.YtfplkhnclmidnaaGreatDoorM02
import Derived.Test.YtfplkhnclmidnaaGreatDoorM09
import Derived.Test.YtfplkhnclmidnaaGreatDoorM05
import Derived.Deep.RegionHeld3
import Derived.Test.YtfplkhnclmidnaaGreatDoorM03
import Derived.Test.YtfplkhnclmidnaaGreatDoorM01
namespace Go.Proofs.YtfplkhnclmidnaaGreatDoor
open Go.RowKit
set_option linter.unusedVariables false
set_option maxHeartbeats 1600000 in
theorem rcompare_any (a1 a2 a3 b1 b2 b3:Int) (a4 a5 b4 b5:ByteArray) (w:World) (hs:a4.size<=1048576) (hs':b4.size<=1048576) :
  Calls Tryz.prog 36 #[.agg #[.int .i64 a1,.int .i64 a2,.int .i64 a3,.string a4,.string a5],.agg #[.int .i64 b1,.int .i64 b2,.int .i64 b3,.string b4,.string b5]] w fun e w'=>e=.returned (.int .i64 (verC ⟨a1,a2,a3,a4.data.toList⟩ ⟨b1,b2,b3,b4.data.toList⟩))/\Below w.heap.size w w':=by
 obtain ⟨R,hR⟩:∃R,R=verC ⟨a1,a2,a3,a4.data.toList⟩ ⟨b1,b2,b3,b4.data.toList⟩:=⟨_,rfl⟩
 have HR:Hid (R=verC ⟨a1,a2,a3,a4.data.toList⟩ ⟨b1,b2,b3,b4.data.toList⟩):=hR
 obtain ⟨p,hp⟩:∃p,p=listC partC (splitD a4.data.toList) (splitD b4.data.toList):=⟨_,rfl⟩
 have HP:Hid (p=listC partC (splitD a4.data.toList) (splitD b4.data.toList)):=hp
 have OP:Hid (∀w,Calls Tryz.prog 57 #[.string a4,.string b4] w fun e w'=>e=.returned (.int .i64 p)/\Below w.heap.size w w'):=fun w=>by rw [hp];exact rorderPre_any a4 b4 w hs hs'
 have B2:Hid (∀o1 o2,Below w.heap.size w ((w.alloc o1).alloc o2)):=fun o1 o2=>gb_below (gb_alloc (gb_alloc (gb_refl w none) _) _)
 rw [<-hR]
 clear hR hp hs hs'
 cases h1:(a1 == b1) with
 | false =>
  have HZ:Hid (R=Lib.compareInt a1 b1):=by
   show R=_
   rw [HR.out,verC_eq]
   simp only
   rw [if_neg (fun e=>(by simpa using h1:¬ a1=b1) (cmp_zero.1 e))]
  go_enter Tryz.func36,Tryz.ntmps36
  go_wp2_with (first | (go_at_call 56;refine (rorder_any _ _ _).mono ?_;rintro e w' ⟨rfl,rfl⟩) | (go_at_call 57;refine (OP.out _).mono ?_;rintro e w3 ⟨rfl,hb3⟩))
  go_ret
  exact ⟨ret_int HZ.out.symm,B2.out _ _⟩
 | true =>
  cases h2:(a2 == b2) with
  | false =>
   have HZ:Hid (R=Lib.compareInt a2 b2):=by
    show R=_
    rw [HR.out,verC_eq]
    simp only
    rw [if_pos (cmp_zero.2 (eq_of_beq h1)),if_neg (fun e=>(by simpa using h2:¬ a2=b2) (cmp_zero.1 e))]
   go_enter Tryz.func36,Tryz.ntmps36
   go_wp2_with (first | (go_at_call 56;refine (rorder_any _ _ _).mono ?_;rintro e w' ⟨rfl,rfl⟩) | (go_at_call 57;refine (OP.out _).mono ?_;rintro e w3 ⟨rfl,hb3⟩))
   go_ret
   exact ⟨ret_int HZ.out.symm,B2.out _ _⟩
  | true =>
   cases h3:(a3 == b3) with
   | false =>
    have HZ:Hid (R=Lib.compareInt a3 b3):=by
     show R=_
     rw [HR.out,verC_eq]
     simp only
     rw [if_pos (cmp_zero.2 (eq_of_beq h1)),if_pos (cmp_zero.2 (eq_of_beq h2)),if_neg (fun e=>(by simpa using h3:¬ a3=b3) (cmp_zero.1 e))]
    go_enter Tryz.func36,Tryz.ntmps36
    go_wp2_with (first | (go_at_call 56;refine (rorder_any _ _ _).mono ?_;rintro e w' ⟨rfl,rfl⟩) | (go_at_call 57;refine (OP.out _).mono ?_;rintro e w3 ⟨rfl,hb3⟩))
    go_ret
    exact ⟨ret_int HZ.out.symm,B2.out _ _⟩
   | true =>
    have HQ:Hid (R=preC a4.data.toList b4.data.toList):=by
     show R=_
     rw [HR.out,verC_eq]
     simp only
     rw [if_pos (cmp_zero.2 (eq_of_beq h1)),if_pos (cmp_zero.2 (eq_of_beq h2)),if_pos (cmp_zero.2 (eq_of_beq h3))]
    cases he:(a4.toList == b4.toList) with
    | true =>
     have HZ:Hid (R=0):=by
      show R=0
      have e:a4.data.toList=b4.data.toList:=by rw [<-Lib.toList_data,<-Lib.toList_data];exact eq_of_beq he
      rw [HQ.out,e];exact good_pre.self _
     go_enter Tryz.func36,Tryz.ntmps36
     go_wp2_with (first | (go_at_call 56;refine (rorder_any _ _ _).mono ?_;rintro e w' ⟨rfl,rfl⟩) | (go_at_call 57;refine (OP.out _).mono ?_;rintro e w3 ⟨rfl,hb3⟩))
     go_ret
     exact ⟨ret_int HZ.out.symm,B2.out _ _⟩
    | false =>
     by_cases ha:a4.size=0
     ·have c1:=emp_t ha
      have HZ:Hid (R=1):=by
       show R=1
       have e:a4.data.toList=[]:=List.length_eq_zero_iff.1 (by simpa using ha)
       have hb:b4.data.toList ≠ []:=by
        intro hb
        rw [Lib.toList_data,Lib.toList_data,e,hb] at he
        exact absurd he (by decide)
       rw [HQ.out,pre_empty _ _ (Or.inl e),e]
       exact cmp_gt (by have:=List.length_pos_iff.2 hb;simp only [List.length_nil];omega)
      clear ha
      go_enter Tryz.func36,Tryz.ntmps36
      go_wp2_with (first | (go_at_call 56;refine (rorder_any _ _ _).mono ?_;rintro e w' ⟨rfl,rfl⟩) | (go_at_call 57;refine (OP.out _).mono ?_;rintro e w3 ⟨rfl,hb3⟩))
      go_ret
      exact ⟨ret_int HZ.out.symm,B2.out _ _⟩
     ·have c1:=emp_f ha
      by_cases hb:b4.size=0
      ·have c2:=emp_t hb
       have HZ:Hid (R=-1):=by
        show R=-1
        have e:b4.data.toList=[]:=List.length_eq_zero_iff.1 (by simpa using hb)
        have ha':a4.data.toList ≠ []:=fun h=>ha (by show a4.data.size=0;rw [<-Array.length_toList,h];rfl)
        rw [HQ.out,pre_empty _ _ (Or.inr e),e]
        exact cmp_lt (by have:=List.length_pos_iff.2 ha';simp only [List.length_nil];omega)
       clear ha hb
       go_enter Tryz.func36,Tryz.ntmps36
       go_wp2_with (first | (go_at_call 56;refine (rorder_any _ _ _).mono ?_;rintro e w' ⟨rfl,rfl⟩) | (go_at_call 57;refine (OP.out _).mono ?_;rintro e w3 ⟨rfl,hb3⟩))
       go_ret
       exact ⟨ret_int HZ.out.symm,B2.out _ _⟩
      ·have c2:=emp_f hb
       have HZ:Hid (R=p):=by
        show R=p
        rw [HQ.out,HP.out]
        exact pre_full _ _ (fun h=>ha (by show a4.data.size=0;rw [<-Array.length_toList,h];rfl)) (fun h=>hb (by show b4.data.size=0;rw [<-Array.length_toList,h];rfl))
       clear ha hb
       go_enter Tryz.func36,Tryz.ntmps36
       go_wp2_with (first | (go_at_call 56;refine (rorder_any _ _ _).mono ?_;rintro e w' ⟨rfl,rfl⟩) | (go_at_call 57;refine (OP.out _).mono ?_;rintro e w3 ⟨rfl,hb3⟩))
       go_ret
       exact ⟨ret_int HZ.out.symm,(B2.out _ _).trans (hb3.mono (B2.out _ _).size)⟩
open Go.RowKit
set_option linter.unusedVariables false
def okV (s:ByteArray):Bool:=decide ((parseV s.data.toList).1=0)
def verO (s:ByteArray):Vv:=(parseV s.data.toList).2.2
def cutV (v:Vv):V:=⟨v.major,v.minor,v.patch,v.pre⟩
def togB (s t:ByteArray):Bool:=okV s && (okV t && decide (verC (cutV (verO s)) (cutV (verO t))=0))
theorem sub_shortV (l:List UInt8) (i k:Nat):(subT l i k).length<=l.length:=by unfold subT;simp;omega
theorem opt_lenV (c:UInt8) (st:Bool) (l:List UInt8) (i:Nat):(optP c st l i).2.2.length<=l.length:=by
 unfold optP
 repeat' split
 all_goals first | exact sub_shortV _ _ _ | exact Nat.zero_le _
theorem pre_100 (s:ByteArray):(verO s).pre.length<=100:=by
 unfold verO parseV
 split
 ·exact Nat.zero_le _
 ·rename_i h
  unfold rdVer
  repeat' split
  all_goals first | exact Nat.zero_le _ | (have:=opt_lenV 45 true s.data.toList (rdNums s.data.toList).2.1;simp only [];omega)
theorem isVersion_any (s:ByteArray) (w:World) (hs:s.size < 2 ^ 62):Calls Tryz.prog 16 #[.string s] w fun e w'=>e=.returned (.bool (okV s))/\w.grownBy w' none:=by
 have CR:Hid (∀w,Calls Tryz.prog 34 #[.string s] w fun e w'=>(∃(x1 x2 x3:Int) (x4 x5:ByteArray) (k:Int),e=.returned (.tuple #[.agg #[.int .i64 x1,.int .i64 x2,.int .i64 x3,.string x4,.string x5],.int .i64 (parseV s.data.toList).1,.int .i64 k]))/\w.grownBy w' none):=fun w=>(readv_any s w hs).mono fun e w' ⟨h1,h2⟩=>⟨⟨_,_,_,_,_,_,h1⟩,h2⟩
 unfold okV
 obtain ⟨E,hE⟩:∃E,(parseV s.data.toList).1=E:=⟨_,rfl⟩
 rw [hE] at CR ⊢
 clear hE
 have hd:decide (E=0)=(E == 0):=by rw [Bool.eq_iff_iff];simp
 rw [hd]
 clear hd
 go_enter Tryz.func16,Tryz.ntmps16
 go_wp2_with (first | (go_at_call 34;refine (CR.out _).mono ?_))
 rintro e w1 ⟨⟨x1,x2,x3,x4,x5,k,rfl⟩,hg⟩
 cases hz:(E == 0) with
 | true =>
  go_wp2
  go_ret
  exact ⟨ret_bool hz.symm,gb_trans hg (gb_alloc (gb_refl w1 none) _)⟩
 | false =>
  go_wp2
  go_ret
  exact ⟨ret_bool hz.symm,gb_trans hg (gb_alloc (gb_refl w1 none) _)⟩
set_option maxRecDepth 100000 in
set_option maxHeartbeats 800000 in
theorem refVersion_any (s:ByteArray) (w:World) (hs:s.size < 2 ^ 62):Calls Tryz.prog 37 #[.string s] w fun e w'=>e=.returned (valV (verO s))/\w.grownBy w' none:=by
 have CR:Hid (∀w,Calls Tryz.prog 34 #[.string s] w fun e w'=>(∃(E k:Int),e=.returned (.tuple #[valV (verO s),.int .i64 E,.int .i64 k]))/\w.grownBy w' none):=fun w=>(readv_any s w hs).mono fun e w' ⟨h1,h2⟩=>⟨⟨_,_,h1⟩,h2⟩
 unfold valV at CR ⊢
 obtain ⟨x1,h1⟩:∃x,(verO s).major=x:=⟨_,rfl⟩
 obtain ⟨x2,h2⟩:∃x,(verO s).minor=x:=⟨_,rfl⟩
 obtain ⟨x3,h3⟩:∃x,(verO s).patch=x:=⟨_,rfl⟩
 obtain ⟨x4,h4⟩:∃x:ByteArray,⟨(verO s).pre.toArray⟩=x:=⟨_,rfl⟩
 obtain ⟨x5,h5⟩:∃x:ByteArray,⟨(verO s).build.toArray⟩=x:=⟨_,rfl⟩
 rw [h1,h2,h3,h4,h5] at CR ⊢
 clear h1 h2 h3 h4 h5 hs
 go_enter Tryz.func37,Tryz.ntmps37
 go_wp2_with (first | (go_at_call 34;refine (CR.out _).mono ?_))
 rintro e w1 ⟨⟨E,k,rfl⟩,hg⟩
 obtain ⟨A,hA⟩:∃A,w.heap.size=A:=⟨_,rfl⟩
 have hx:VR A 0 0 0 ⟨#[]⟩ ⟨#[]⟩ w1:=by
  show w1.heap[A]?=_
  rw [<-hA,hg.block w.heap.size (by simp) (by simp)]
  exact heap_alloc_new w _
 have HXA:Hid (VR A 0 0 0 ⟨#[]⟩ ⟨#[]⟩ w1):=hx
 have HG:Hid (w.grownBy w1 none):=gb_trans (gb_alloc (gb_refl w none) _) hg
 have HWA:Hid (w.heap.size<=A):=Nat.le_of_eq hA
 have hlt0:A < w1.heap.size:=(Array.getElem?_eq_some_iff.1 hx).1
 try rw [hA]
 clear hA hx hg
 obtain ⟨ca0,ca1,ca2,ca3,ca4⟩:=HXA.out.cells
 have ra:=HXA.out.f
 go_wp2
 refine bodyPost_ret (results_cell_row rfl _ _ A 76 #[.int .i64 x1,.int .i64 x2,.int .i64 x3,.string x4,.string x5] (0,0) _ rfl (by rw [Lib.alloc_old _ _ _ (by simpa [World.setCell] using hlt0)];exact putr_row HXA.out x1 x2 x3 x4 x5) Tryz.underlying76 rfl (by kernel_rfl)) rfl ⟨rfl,gb_alloc (put5_gb0 HG.out HWA.out x1 x2 x3 x4 x5) _⟩
set_option maxRecDepth 100000 in
set_option maxHeartbeats 1600000 in
theorem together_any (s t:ByteArray) (w:World) (hs:s.size < 2 ^ 62) (ht:t.size < 2 ^ 62):Calls Tryz.prog 18 #[.string s,.string t] w fun e w'=>e=.returned (.bool (togB s t))/\w.grownBy w' none:=by
 have IS:Hid (∀w,Calls Tryz.prog 16 #[.string s] w fun e w'=>e=.returned (.bool (okV s))/\w.grownBy w' none):=fun w=>isVersion_any s w hs
 have IT:Hid (∀w,Calls Tryz.prog 16 #[.string t] w fun e w'=>e=.returned (.bool (okV t))/\w.grownBy w' none):=fun w=>isVersion_any t w ht
 have p1:=pre_100 s
 have p2:=pre_100 t
 have VS1:Hid (∀w,Calls Tryz.prog 37 #[.string s] w fun e w'=>e=.returned (valV (verO s))/\w.grownBy w' none):=fun w=>refVersion_any s w hs
 have VT1:Hid (∀w,Calls Tryz.prog 37 #[.string t] w fun e w'=>e=.returned (valV (verO t))/\w.grownBy w' none):=fun w=>refVersion_any t w ht
 have CC:Hid (∀w,Calls Tryz.prog 36 #[valV (verO s),valV (verO t)] w fun e w'=>e=.returned (.int .i64 (verC (cutV (verO s)) (cutV (verO t))))/\w.grownBy w' none):=fun w=>by
  refine (rcompare_any _ _ _ _ _ _ _ _ _ _ w (by show (verO s).pre.toArray.size<=_;simp;omega) (by show (verO t).pre.toArray.size<=_;simp;omega)).mono ?_
  rintro e w' ⟨rfl,h⟩
  refine ⟨?_,⟨h.os,h.tape,h.output,h.size,fun k hk _=>h.block k hk⟩⟩
  simp [cutV]
 unfold togB
 obtain ⟨bs,hbs⟩:∃b,okV s=b:=⟨_,rfl⟩
 obtain ⟨bt,hbt⟩:∃b,okV t=b:=⟨_,rfl⟩
 obtain ⟨Vs,hVs⟩:∃v,valV (verO s)=v:=⟨_,rfl⟩
 obtain ⟨Vt,hVt⟩:∃v,valV (verO t)=v:=⟨_,rfl⟩
 obtain ⟨R,hR⟩:∃R,verC (cutV (verO s)) (cutV (verO t))=R:=⟨_,rfl⟩
 rw [hbs] at IS ⊢
 rw [hbt] at IT ⊢
 rw [hR] at CC ⊢
 rw [hVs] at VS1 CC
 rw [hVt] at VT1 CC
 have hd:decide (R=0)=(R == 0):=by rw [Bool.eq_iff_iff];simp
 rw [hd]
 clear hd hbs hbt hVs hVt hR p1 p2 hs ht
 have HG:Hid (w.grownBy w none):=gb_refl _ _
 go_enter Tryz.func18,Tryz.ntmps18
 go_wp2_with (first | (go_at_call 16;refine (IS.out _).mono ?_))
 rintro e w1 ⟨rfl,hg⟩
 replace HG:Hid (w.grownBy w1 none):=gb_trans HG.out hg
 clear hg
 go_wp2_with (first | (go_at_call 16;refine (IT.out _).mono ?_))
 rintro e w2 ⟨rfl,hg⟩
 replace HG:Hid (w.grownBy w2 none):=gb_trans HG.out hg
 clear hg
 cases bs with
 | false =>
  go_wp2
  go_ret
  exact ⟨rfl,HG.out⟩
 | true =>
  cases bt with
  | false =>
   go_wp2
   go_ret
   exact ⟨rfl,HG.out⟩
  | true =>
   cases hz:(R == 0) with
   | true =>
    go_wp2_with (first | (go_at_call_of 37 s;refine (VS1.out _).mono ?_;rintro e w' ⟨rfl,hg⟩;replace HG:Hid (w.grownBy w' none):=gb_trans HG.out hg;clear hg) | (go_at_call_of 37 t;refine (VT1.out _).mono ?_;rintro e w' ⟨rfl,hg⟩;replace HG:Hid (w.grownBy w' none):=gb_trans HG.out hg;clear hg) | (go_at_call 36;refine (CC.out _).mono ?_;rintro e w' ⟨rfl,hg⟩;replace HG:Hid (w.grownBy w' none):=gb_trans HG.out hg;clear hg))
    go_ret
    exact ⟨ret_bool (show true=(true && (true && (R == 0))) by rw [hz];rfl),HG.out⟩
   | false =>
    go_wp2_with (first | (go_at_call_of 37 s;refine (VS1.out _).mono ?_;rintro e w' ⟨rfl,hg⟩;replace HG:Hid (w.grownBy w' none):=gb_trans HG.out hg;clear hg) | (go_at_call_of 37 t;refine (VT1.out _).mono ?_;rintro e w' ⟨rfl,hg⟩;replace HG:Hid (w.grownBy w' none):=gb_trans HG.out hg;clear hg) | (go_at_call 36;refine (CC.out _).mono ?_;rintro e w' ⟨rfl,hg⟩;replace HG:Hid (w.grownBy w' none):=gb_trans HG.out hg;clear hg))
    go_ret
    exact ⟨ret_bool (show false=(true && (true && (R == 0))) by rw [hz];rfl),HG.out⟩
open Go.RowKit
set_option linter.unusedVariables false
def hitB (name v:ByteArray) (x:Re):Bool:=decide (x.nm=name) && togB x.ve v
def findI (name v:ByteArray):List Re->Nat->Int
 | [],_=>-1
 | x :: r,k=>if hitB name v x=true then (k:Int) else findI name v r (k+1)
theorem txt_eq {a b:ByteArray} (h:a=b):(a.toList == b.toList)=true:=by rw [h];simp
theorem txt_ne {a b:ByteArray} (h:¬ a=b):(a.toList == b.toList)=false:=by
 cases hb:(a.toList == b.toList) with
 | false=>rfl
 | true =>
  exfalso
  apply h
  have h2:a.toList=b.toList:=by simpa using hb
  rw [Lib.toList_data,Lib.toList_data] at h2
  apply ByteArray.ext
  exact Array.ext' h2
open Go.RowKit
set_option linter.unusedVariables false
theorem below_gb' {w w':World} (h:Below w.heap.size w w'):w.grownBy w' none:=⟨h.os,h.tape,h.output,h.size,fun k hk _=>h.block k hk⟩
open Go.RowKit
set_option linter.unusedVariables false
structure Sp where
 f1:Int
 f2:Int
 f3:Int
 f4:ByteArray
 f5:ByteArray
 t1:Int
 t2:Int
 t3:Int
 t4:ByteArray
 t5:ByteArray
 o:Bool
def spC (s:Sp):List Value:=[.int .i64 s.f1,.int .i64 s.f2,.int .i64 s.f3,.string s.f4,.string s.f5,.int .i64 s.t1,.int .i64 s.t2,.int .i64 s.t3,.string s.t4,.string s.t5,.bool s.o]
def vFrom (s:Sp):Vv:=⟨s.f1,s.f2,s.f3,s.f4.data.toList,s.f5.data.toList⟩
def vTo (s:Sp):Vv:=⟨s.t1,s.t2,s.t3,s.t4.data.toList,s.t5.data.toList⟩
def soundS (s:Sp):Bool:=soundV (vFrom s) && (s.o || soundV (vTo s))
def smallS (s:Sp):Prop:=s.f4.size<=1048576/\s.f5.size<=1048576/\s.t4.size<=1048576/\s.t5.size<=1048576
def EltAt (w:World) (p:Addr) (s:Sp):Prop:=w.cell? p=some (.int .i64 s.f1)/\w.cell? ⟨p.block,p.off+1,none⟩=some (.int .i64 s.f2)/\w.cell? ⟨p.block,p.off+2,none⟩=some (.int .i64 s.f3)/\w.cell? ⟨p.block,p.off+3,none⟩=some (.string s.f4)/\w.cell? ⟨p.block,p.off+4,none⟩=some (.string s.f5)/\w.cell? ⟨p.block,p.off+5,none⟩=some (.int .i64 s.t1)/\w.cell? ⟨p.block,p.off+6,none⟩=some (.int .i64 s.t2)/\w.cell? ⟨p.block,p.off+7,none⟩=some (.int .i64 s.t3)/\w.cell? ⟨p.block,p.off+8,none⟩=some (.string s.t4)/\w.cell? ⟨p.block,p.off+9,none⟩=some (.string s.t5)/\w.cell? ⟨p.block,p.off+10,none⟩=some (.bool s.o)
theorem EltAt.grow {w w':World} {p:Addr} {s:Sp} (h:EltAt w p s) (hg:w.grownBy w' none):EltAt w' p s:=by
 obtain ⟨h0,h1,h2,h3,h4,h5,h6,h7,h8,h9,h10⟩:=h
 exact ⟨hg.cell h0 (by simp),hg.cell h1 (by simp),hg.cell h2 (by simp),hg.cell h3 (by simp),hg.cell h4 (by simp),hg.cell h5 (by simp),hg.cell h6 (by simp),hg.cell h7 (by simp),hg.cell h8 (by simp),hg.cell h9 (by simp),hg.cell h10 (by simp)⟩
def SpAt (w:World) (a:Addr) (L:List Sp):Prop:=∀i (hi:i < L.length),EltAt w (a.add (i * 11)) L[i]
theorem SpAt.grow {w w':World} {a:Addr} {L:List Sp} (h:SpAt w a L) (hg:w.grownBy w' none):SpAt w' a L:=fun i hi=>(h i hi).grow hg
theorem add_off (a:Addr) (n k:Nat) (hk:0 < k):a.add (n+k)=⟨(a.add n).block,(a.add n).off+k,none⟩:=by
 unfold Addr.add
 rw [if_neg (by omega)]
 by_cases h:n=0
 ·rw [if_pos h,h];simp
 ·rw [if_neg h];simp [Nat.add_assoc]
theorem elt_of_cells {w:World} {a:Addr} {n:Nat} {s:Sp} (h:∀k v,(spC s)[k]?=some v->w.cell? (a.add (n+k))=some v):EltAt w (a.add n) s :=
 ⟨by have:=h 0 _ rfl;simpa using this,by have:=h 1 _ rfl;rw [add_off a n 1 (by omega)] at this;exact this,by have:=h 2 _ rfl;rw [add_off a n 2 (by omega)] at this;exact this,by have:=h 3 _ rfl;rw [add_off a n 3 (by omega)] at this;exact this,by have:=h 4 _ rfl;rw [add_off a n 4 (by omega)] at this;exact this,by have:=h 5 _ rfl;rw [add_off a n 5 (by omega)] at this;exact this,by have:=h 6 _ rfl;rw [add_off a n 6 (by omega)] at this;exact this,by have:=h 7 _ rfl;rw [add_off a n 7 (by omega)] at this;exact this,by have:=h 8 _ rfl;rw [add_off a n 8 (by omega)] at this;exact this,by have:=h 9 _ rfl;rw [add_off a n 9 (by omega)] at this;exact this,by have:=h 10 _ rfl;rw [add_off a n 10 (by omega)] at this;exact this⟩
open Go.RowKit
set_option linter.unusedVariables false
def cFrom (s:Sp):V:=⟨s.f1,s.f2,s.f3,s.f4.data.toList⟩
def cTo (s:Sp):V:=⟨s.t1,s.t2,s.t3,s.t4.data.toList⟩
def hasS (s:Sp) (v:V):Bool:=decide (verC (cFrom s) v<=0) && (s.o || decide (verC v (cTo s) < 0))
def holdsL (L:List Sp) (v:V):Bool:=L.any fun s=>hasS s v
open Go.RowKit
set_option linter.unusedVariables false
theorem gb_own {w w1:World} {o:Obj} (h:(w.alloc o).grownBy w1 (some w.heap.size)):w.grownBy w1 none :=
 ⟨h.os,h.tape,h.output,by have:=h.size;simp at this;omega,fun k hk _=>by rw [h.block k (by simp;omega) (by simp;omega)];exact Lib.alloc_old w o k hk⟩
set_option maxHeartbeats 400000 in
theorem isParts_at (s:ByteArray) (kind:Int) (st:Bool) (w:World) (h0:s.size ≠ 0) (hs:s.size < 2 ^ 62)
  (hk:∀b w,RS b s 0 w->Calls Tryz.prog 101 #[.pointer (some ⟨b,0,none⟩),.int .i64 kind] w fun e w'=>e=.returned (.int .i64 (rdParts st s.data.toList 0).1)/\RS b s (rdParts st s.data.toList 0).2 w'/\w.grownBy w' (some b)) :
  Calls Tryz.prog 151 #[.string s,.int .i64 kind] w fun e w'=>e=.returned (.bool (okParts st s.data.toList))/\w.grownBy w' none:=by
 obtain ⟨R,hR⟩:∃R,R=okParts st s.data.toList:=⟨_,rfl⟩
 obtain ⟨E,Q,hEQ⟩:∃E Q,rdParts st s.data.toList 0=(E,Q):=⟨_,_,rfl⟩
 have HR:Hid (R=(decide (E=0) && decide (Q=s.size))):=by
  show R=_
  have hne:s.data.toList ≠ []:=fun e=>h0 (by show s.data.size=0;rw [<-Array.length_toList,e];rfl)
  rw [hR,<-parts_ok st _ hne,hEQ,Bool.eq_iff_iff]
  simp [Prod.ext_iff]
 have HK:Hid (∀b w,RS b s 0 w->Calls Tryz.prog 101 #[.pointer (some ⟨b,0,none⟩),.int .i64 kind] w fun e w'=>e=.returned (.int .i64 E)/\RS b s Q w'/\w.grownBy w' (some b)):=by
  intro b w hb
  have:=hk b w hb
  rw [hEQ] at this;exact this
 rw [<-hR]
 clear hR hEQ hk h0
 go_enter Tryz.func151,Tryz.ntmps151
 go_wp2_with (go_at_call 101;refine (HK.out _ _ ⟨_,heap_alloc_new w _⟩).mono ?_)
 rintro e w1 ⟨rfl,hr1,hg1⟩
 have HG:Hid (w.grownBy w1 none):=gb_own hg1
 have CE:Hid (Calls Tryz.prog 63 #[.pointer (some ⟨w.heap.size,0,none⟩)] w1 fun e w'=>e=.returned (.bool (decide (Q=s.size)))/\∃n,w'=w1.drewN n):=ended_any _ s Q w1 hr1
 clear hg1 hr1
 cases hE:(E == 0) with
 | false =>
  have HZ:Hid (R=false):=by show R=false;rw [HR.out,decide_eq_false (by simpa using hE)];rfl
  go_wp2
  go_ret
  exact ⟨ret_bool HZ.out.symm,HG.out⟩
 | true =>
  have HZ:Hid (R=decide (Q=s.size)):=by
   show R=_
   have h1:E=0:=by simpa using hE
   rw [HR.out,decide_eq_true h1,Bool.true_and]
  obtain ⟨q,hq⟩:∃q,decide (Q=s.size)=q:=⟨_,rfl⟩
  rw [hq] at CE HZ
  clear hq
  go_wp2_with (first | (go_at_call 63;refine CE.out.mono ?_))
  rintro e w2 ⟨rfl,n,hn⟩
  have HG2:Hid (w.grownBy w2 none):=by show w.grownBy w2 none;rw [hn];exact gb_drew HG.out n
  clear hn
  go_wp2
  go_ret
  exact ⟨ret_bool HZ.out.symm,HG2.out⟩
theorem isP_pre (s:ByteArray) (w:World) (h0:s.size ≠ 0) (hs:s.size < 2 ^ 62):Calls Tryz.prog 151 #[.string s,.int .i64 0] w fun e w'=>e=.returned (.bool (okParts true s.data.toList))/\w.grownBy w' none :=
 isParts_at s 0 true w h0 hs (fun b w h=>skipP b s 0 w (Nat.zero_le _) h hs)
theorem isP_build (s:ByteArray) (w:World) (h0:s.size ≠ 0) (hs:s.size < 2 ^ 62):Calls Tryz.prog 151 #[.string s,.int .i64 1] w fun e w'=>e=.returned (.bool (okParts false s.data.toList))/\w.grownBy w' none :=
 isParts_at s 1 false w h0 hs (fun b w h=>skipB b s 0 w (Nat.zero_le _) h hs)
theorem okp_empty (b:Bool) (s:ByteArray) (h:s.size=0):okParts b s.data.toList=true:=by
 have:s.data.toList=[]:=List.length_eq_zero_iff.1 (by simpa using h)
 rw [this];rfl
theorem ix0 (a1 a2 a3:Int) (w:World):(Instr.index 219 (.agg #[.int .i64 a1,.int .i64 a2,.int .i64 a3]) (.int .i64 0)).run Tryz.prog w=.ok (.int .i64 a1) w:=by kernel_rfl
theorem ix1 (a1 a2 a3:Int) (w:World):(Instr.index 219 (.agg #[.int .i64 a1,.int .i64 a2,.int .i64 a3]) (.int .i64 1)).run Tryz.prog w=.ok (.int .i64 a2) w:=by kernel_rfl
theorem ix2 (a1 a2 a3:Int) (w:World):(Instr.index 219 (.agg #[.int .i64 a1,.int .i64 a2,.int .i64 a3]) (.int .i64 2)).run Tryz.prog w=.ok (.int .i64 a3) w:=by kernel_rfl
set_option maxHeartbeats 1600000 in
theorem psound_any (a1 a2 a3:Int) (a4 a5:ByteArray) (w:World) (h4:a4.size < 2 ^ 62) (h5:a5.size < 2 ^ 62) :
  Calls Tryz.prog 129 #[.agg #[.int .i64 a1,.int .i64 a2,.int .i64 a3,.string a4,.string a5]] w fun e w'=>e=.returned (.bool (soundV ⟨a1,a2,a3,a4.data.toList,a5.data.toList⟩))/\w.grownBy w' none:=by
 obtain ⟨R,hR⟩:∃R,R=soundV ⟨a1,a2,a3,a4.data.toList,a5.data.toList⟩:=⟨_,rfl⟩
 obtain ⟨x4,hx4⟩:∃x,x=okParts true a4.data.toList:=⟨_,rfl⟩
 obtain ⟨x5,hx5⟩:∃x,x=okParts false a5.data.toList:=⟨_,rfl⟩
 have HR:Hid (R=(bound a1 && (bound a2 && (bound a3 && (x4 && x5))))):=by show R=_;rw [hR,hx4,hx5];rfl
 have C4:Hid (a4.size ≠ 0->∀w,Calls Tryz.prog 151 #[.string a4,.int .i64 0] w fun e w'=>e=.returned (.bool x4)/\w.grownBy w' none):=fun h w=>by rw [hx4];exact isP_pre a4 w h h4
 have C5:Hid (a5.size ≠ 0->∀w,Calls Tryz.prog 151 #[.string a5,.int .i64 1] w fun e w'=>e=.returned (.bool x5)/\w.grownBy w' none):=fun h w=>by rw [hx5];exact isP_build a5 w h h5
 have E4:Hid (a4.size=0->x4=true):=fun h=>by rw [hx4];exact okp_empty true a4 h
 have E5:Hid (a5.size=0->x5=true):=fun h=>by rw [hx5];exact okp_empty false a5 h
 have GA:Hid (∀o,w.grownBy (w.alloc o) none):=fun o=>gb_alloc (gb_refl w none) o
 rw [<-hR]
 clear hR hx4 hx5 h4 h5
 go_enter Tryz.func129,Tryz.ntmps129
 go_wp2
 obtain ⟨W,hW⟩:∃W,w.alloc (.cells #[.int .i64 a1,.int .i64 a2,.int .i64 a3,.string a4,.string a5] 70)=W:=⟨_,rfl⟩
 have HG:Hid (w.grownBy W none):=by show w.grownBy W none;rw [<-hW];exact GA.out _
 obtain ⟨A,hA⟩:∃A,w.heap.size=A:=⟨_,rfl⟩
 have STa:Hid (St A a1 a2 a3 a4 a5 W):=by
  show St A a1 a2 a3 a4 a5 W
  rw [<-hW,<-hA];exact st_row (t:=70) (heap_alloc_new w _)
 rw [hW,hA]
 clear hW hA GA
 go_loop [12] (fun i=>∃k:Nat,k<=3/\i=.int .i64 k/\(1<=k->bound a1=true)/\(2<=k->bound a2=true)/\(3<=k->bound a3=true)) (fun i=>3 - (intOf i).toNat)
 case atStart=>exact ⟨0,by omega,rfl,by omega,by omega,by omega⟩
 case round =>
  obtain ⟨k,hk,rfl,k1,k2,k3⟩:=hrel
  have K1:Hid (1<=k->bound a1=true):=k1
  have K2:Hid (2<=k->bound a2=true):=k2
  have K3:Hid (3<=k->bound a3=true):=k3
  clear k1 k2 k3
  rcases (show k=0\/k=1\/k=2\/k=3 by omega) with rfl | rfl | rfl | rfl
  ·clear hk
   have ix:=ix0 a1 a2 a3 W
   by_cases b0:0<=a1
   ·have n0:decide (a1 < 0)=false:=decide_eq_false (by omega)
    by_cases b1:a1<=1000000000
    ·have n1:decide (1000000000 < a1)=false:=decide_eq_false (by omega)
     have BB:Hid (0<=a1/\a1<=1000000000):=⟨b0,b1⟩
     clear b0 b1
     go_wp2
     go_round
     case rel=>exact ⟨1,by omega,rfl,fun _=>bound_iff.2 BB.out,by omega,by omega⟩
     case measure=>simp [intOf]
    ·have n1:decide (1000000000 < a1)=true:=decide_eq_true (by omega)
     have HZ:Hid (R=false):=by show R=false;rw [HR.out,show bound a1=false by cases hb:bound a1 with | true=>exact absurd (bound_iff.1 hb) (by omega) | false=>rfl];simp
     clear b0 b1
     go_wp2
     go_ret
     exact ⟨ret_bool HZ.out.symm,HG.out⟩
   ·have HZ:Hid (R=false):=by show R=false;rw [HR.out,show bound a1=false by cases hb:bound a1 with | true=>exact absurd (bound_iff.1 hb) (by omega) | false=>rfl];simp
    go_wp2
    go_ret
    exact ⟨ret_bool HZ.out.symm,HG.out⟩
  ·clear hk
   have ix:=ix1 a1 a2 a3 W
   by_cases b0:0<=a2
   ·have n0:decide (a2 < 0)=false:=decide_eq_false (by omega)
    by_cases b1:a2<=1000000000
    ·have n1:decide (1000000000 < a2)=false:=decide_eq_false (by omega)
     have BB:Hid (0<=a2/\a2<=1000000000):=⟨b0,b1⟩
     clear b0 b1
     go_wp2
     go_round
     case rel=>exact ⟨2,by omega,rfl,fun _=>K1.out (by omega),fun _=>bound_iff.2 BB.out,by omega⟩
     case measure=>simp [intOf]
    ·have n1:decide (1000000000 < a2)=true:=decide_eq_true (by omega)
     have HZ:Hid (R=false):=by show R=false;rw [HR.out,show bound a2=false by cases hb:bound a2 with | true=>exact absurd (bound_iff.1 hb) (by omega) | false=>rfl];simp
     clear b0 b1
     go_wp2
     go_ret
     exact ⟨ret_bool HZ.out.symm,HG.out⟩
   ·have HZ:Hid (R=false):=by show R=false;rw [HR.out,show bound a2=false by cases hb:bound a2 with | true=>exact absurd (bound_iff.1 hb) (by omega) | false=>rfl];simp
    go_wp2
    go_ret
    exact ⟨ret_bool HZ.out.symm,HG.out⟩
  ·clear hk
   have ix:=ix2 a1 a2 a3 W
   by_cases b0:0<=a3
   ·have n0:decide (a3 < 0)=false:=decide_eq_false (by omega)
    by_cases b1:a3<=1000000000
    ·have n1:decide (1000000000 < a3)=false:=decide_eq_false (by omega)
     have BB:Hid (0<=a3/\a3<=1000000000):=⟨b0,b1⟩
     clear b0 b1
     go_wp2
     go_round
     case rel=>exact ⟨3,by omega,rfl,fun _=>K1.out (by omega),fun _=>K2.out (by omega),fun _=>bound_iff.2 BB.out⟩
     case measure=>simp [intOf]
    ·have n1:decide (1000000000 < a3)=true:=decide_eq_true (by omega)
     have HZ:Hid (R=false):=by show R=false;rw [HR.out,show bound a3=false by cases hb:bound a3 with | true=>exact absurd (bound_iff.1 hb) (by omega) | false=>rfl];simp
     clear b0 b1
     go_wp2
     go_ret
     exact ⟨ret_bool HZ.out.symm,HG.out⟩
   ·have HZ:Hid (R=false):=by show R=false;rw [HR.out,show bound a3=false by cases hb:bound a3 with | true=>exact absurd (bound_iff.1 hb) (by omega) | false=>rfl];simp
    go_wp2
    go_ret
    exact ⟨ret_bool HZ.out.symm,HG.out⟩
  ·have HB:Hid (R=(x4 && x5)):=by show R=_;rw [HR.out,K1.out (by omega),K2.out (by omega),K3.out (by omega)];rfl
   obtain ⟨s1,s2,s3,s4,s5⟩:=STa.out
   clear hk
   by_cases z4:a4.size=0
   ·have e4:=emp_t2 z4
    have hx4:Hid (x4=true):=E4.out z4
    clear z4
    by_cases z5:a5.size=0
    ·have e5:=emp_t2 z5
     have HZ:Hid (R=true):=by show R=true;rw [HB.out,hx4.out,E5.out z5];rfl
     clear z5
     go_wp2
     go_ret
     exact ⟨ret_bool HZ.out.symm,HG.out⟩
    ·have e5:=emp_f2 z5
     have C:=C5.out z5
     have HC:Hid (∀w,Calls Tryz.prog 151 #[.string a5,.int .i64 1] w fun e w'=>e=.returned (.bool x5)/\w.grownBy w' none):=C
     have HZ:Hid (R=x5):=by show R=x5;rw [HB.out,hx4.out];rfl
     clear z5 C
     go_wp2_with (first | (go_at_call 151;refine (HC.out _).mono ?_;rintro e w5 ⟨rfl,hg5⟩))
     go_ret
     exact ⟨ret_bool HZ.out.symm,gb_trans HG.out hg5⟩
   ·have e4:=emp_f2 z4
    have HC4:Hid (∀w,Calls Tryz.prog 151 #[.string a4,.int .i64 0] w fun e w'=>e=.returned (.bool x4)/\w.grownBy w' none):=C4.out z4
    clear z4
    go_wp2_with (go_at_call 151;refine (HC4.out _).mono ?_)
    rintro e w4 rfl hg4
    have c5:w4.cell? ⟨A,4,none⟩=some (.string a5):=hg4.cell s5 (by simp)
    have HG4:Hid (w.grownBy w4 none):=gb_trans HG.out hg4
    clear hg4
    cases x4 with
    | false =>
     have HZ:Hid (R=false):=by show R=false;rw [HB.out];rfl
     go_wp2
     go_ret
     exact ⟨ret_bool HZ.out.symm,HG4.out⟩
    | true =>
     have HZ5:Hid (R=x5):=by show R=x5;rw [HB.out];rfl
     by_cases z5:a5.size=0
     ·have e5:=emp_t2 z5
      have HZ:Hid (R=true):=by show R=true;rw [HZ5.out,E5.out z5]
      clear z5
      go_wp2
      go_ret
      exact ⟨ret_bool HZ.out.symm,HG4.out⟩
     ·have e5:=emp_f2 z5
      have HC:Hid (∀w,Calls Tryz.prog 151 #[.string a5,.int .i64 1] w fun e w'=>e=.returned (.bool x5)/\w.grownBy w' none):=C5.out z5
      clear z5
      go_wp2_with (first | (go_at_call 151;refine (HC.out _).mono ?_;rintro e w5 ⟨rfl,hg5⟩))
      go_ret
      exact ⟨ret_bool HZ5.out.symm,gb_trans HG4.out hg5⟩
open Go.RowKit
set_option linter.unusedVariables false
theorem elt_row {w:World} {A t:Nat} {s:Sp} (h:w.heap[A]?=some (.cells #[.int .i64 s.f1,.int .i64 s.f2,.int .i64 s.f3,.string s.f4,.string s.f5,.int .i64 s.t1,.int .i64 s.t2,.int .i64 s.t3,.string s.t4,.string s.t5,.bool s.o] t (0,0))):EltAt w ⟨A,0,none⟩ s :=
 ⟨by rw [Lib.cell_of_heap h];rfl,by rw [Lib.cell_of_heap h];rfl,by rw [Lib.cell_of_heap h];rfl,by rw [Lib.cell_of_heap h];rfl,by rw [Lib.cell_of_heap h];rfl,by rw [Lib.cell_of_heap h];rfl,by rw [Lib.cell_of_heap h];rfl,by rw [Lib.cell_of_heap h];rfl,by rw [Lib.cell_of_heap h];rfl,by rw [Lib.cell_of_heap h];rfl,by rw [Lib.cell_of_heap h];rfl⟩
set_option maxRecDepth 100000 in
set_option maxHeartbeats 1600000 in
theorem psound_at (a:Addr) (cap:Nat) (L:List Sp) (w:World) (hL:L.length < 2 ^ 62) (hcap:L.length<=cap) (h:SpAt w a L) (hsz:∀s ∈ L,smallS s) :
  Calls Tryz.prog 112 #[.slice (some a) L.length cap] w fun e w'=>e=.returned (.bool (L.all soundS))/\w.grownBy w' none:=by
 have HA:Hid (SpAt w a L):=h
 have HS:Hid (∀s ∈ L,smallS s):=hsz
 clear h hsz
 obtain ⟨R,hR⟩:∃R,L.all soundS=R:=⟨_,rfl⟩
 have HR:Hid (L.all soundS=R):=hR
 rw [hR]
 clear hR
 go_enter Tryz.func112,Tryz.ntmps112
 go_wp2
 go_loopw [7] (fun vi wr=>∃i:Nat,vi=.int .i64 i/\i<=L.length/\(∀j (hj:j < L.length),j < i->soundS L[j]=true)/\w.grownBy wr none) (fun vi _=>L.length - (intOf vi).toNat)
 case atStart=>exact ⟨0,rfl,Nat.zero_le _,fun j hj h=>absurd h (by omega),gb_refl _ _⟩
 case round =>
  obtain ⟨i,rfl,hi,hp,hg⟩:=hrel
  have HP:Hid (∀j (hj:j < L.length),j < i->soundS L[j]=true):=hp
  have HG:Hid (w.grownBy wr none):=hg
  clear hp hg
  by_cases hlt:i < L.length
  ·obtain ⟨s,hs⟩:∃s,L[i]=s:=⟨_,rfl⟩
   have HE:Hid (EltAt wr (a.add (i * 11)) s):=by show EltAt wr _ s;rw [<-hs];exact (HA.out i hlt).grow HG.out
   have hm:smallS s:=by rw [<-hs];exact HS.out _ (List.getElem_mem hlt)
   have HSS:Hid (L[i]=s):=hs
   have CF:Hid (∀w,Calls Tryz.prog 129 #[.agg #[.int .i64 s.f1,.int .i64 s.f2,.int .i64 s.f3,.string s.f4,.string s.f5]] w fun e w'=>e=.returned (.bool (soundV (vFrom s)))/\w.grownBy w' none):=fun w=>psound_any s.f1 s.f2 s.f3 s.f4 s.f5 w (by have:=hm.1;omega) (by have:=hm.2.1;omega)
   have CT:Hid (∀w,Calls Tryz.prog 129 #[.agg #[.int .i64 s.t1,.int .i64 s.t2,.int .i64 s.t3,.string s.t4,.string s.t5]] w fun e w'=>e=.returned (.bool (soundV (vTo s)))/\w.grownBy w' none):=fun w=>psound_any s.t1 s.t2 s.t3 s.t4 s.t5 w (by have:=hm.2.2.1;omega) (by have:=hm.2.2.2;omega)
   obtain ⟨x,hx⟩:∃x,soundV (vFrom s)=x:=⟨_,rfl⟩
   obtain ⟨y,hy⟩:∃y,soundV (vTo s)=y:=⟨_,rfl⟩
   rw [hx] at CF
   rw [hy] at CT
   have HXY:Hid (soundS s=(x && (s.o || y))):=by show soundS s=_;unfold soundS;rw [hx,hy]
   clear hx hy hm hs
   obtain ⟨e0,e1,e2,e3,e4,e5,e6,e7,e8,e9,e10⟩:=HE.out
   go_wp2_with (first | (go_at_call 129;refine (CF.out _).mono ?_))
   rintro e w1 ⟨rfl,hg⟩
   obtain ⟨N,hN⟩:∃N,wr.heap.size=N:=⟨_,rfl⟩
   have HE1:Hid (EltAt w1 ⟨N,0,none⟩ s):=by
    refine EltAt.grow ?_ hg
    rw [<-hN]
    exact elt_row (t:=138) (heap_alloc_new wr _)
   replace HG:Hid (w.grownBy w1 none):=gb_trans (gb_alloc HG.out _) hg
   rw [hN]
   clear hN hg e0 e1 e2 e3 e4 e5 e6 e7 e8 e9 e10
   obtain ⟨e0,e1,e2,e3,e4,e5,e6,e7,e8,e9,e10⟩:=HE1.out
   simp only [Nat.zero_add] at e1 e2 e3 e4 e5 e6 e7 e8 e9 e10
   obtain ⟨ob,hob⟩:∃b,s.o=b:=⟨_,rfl⟩
   rw [hob] at e10 HXY
   clear hob
   cases x with
   | false =>
    rw [Bool.false_and] at HXY
    have HRF:Hid (R=false):=by
     show R=false
     rw [<-HR.out,List.all_eq_false]
     exact ⟨L[i],List.getElem_mem hlt,by rw [HSS.out,HXY.out];decide⟩
    clear HXY
    go_wp2
    go_ret
    exact ⟨ret_bool HRF.out.symm,HG.out⟩
   | true =>
    rw [Bool.true_and] at HXY
    cases ob with
    | true =>
     rw [Bool.true_or] at HXY
     have HT:Hid (soundS s=true):=by show soundS s=true;rw [HXY.out]
     clear HXY
     go_wp2
     go_roundw
     case rel =>
      refine ⟨i+1,by go_num,by omega,fun j hj hji=>?_,HG.out⟩
      by_cases hji':j < i
      ·exact HP.out j hj hji'
      ·have e:j=i:=by omega
       subst e
       rw [HSS.out];exact HT.out
     case measure=>simp [intOf];omega
    | false =>
     rw [Bool.false_or] at HXY
     go_wp2_with (first | (go_at_call 129;refine (CT.out _).mono ?_))
     rintro e w2 ⟨rfl,hg⟩
     replace HG:Hid (w.grownBy w2 none):=gb_trans HG.out hg
     clear hg e0 e1 e2 e3 e4 e5 e6 e7 e8 e9 e10
     cases y with
     | true =>
      have HT:Hid (soundS s=true):=by show soundS s=true;rw [HXY.out]
      clear HXY
      go_wp2
      go_roundw
      case rel =>
       refine ⟨i+1,by go_num,by omega,fun j hj hji=>?_,HG.out⟩
       by_cases hji':j < i
       ·exact HP.out j hj hji'
       ·have e:j=i:=by omega
        subst e
        rw [HSS.out];exact HT.out
      case measure=>simp [intOf];omega
     | false =>
      have HRF:Hid (R=false):=by
       show R=false
       rw [<-HR.out,List.all_eq_false]
       exact ⟨L[i],List.getElem_mem hlt,by rw [HSS.out,HXY.out];decide⟩
      clear HXY
      go_wp2
      go_ret
      exact ⟨ret_bool HRF.out.symm,HG.out⟩
  ·have HRT:Hid (R=true):=by
    show R=true
    rw [<-HR.out,List.all_eq_true]
    intro t ht
    obtain ⟨j,hj,rfl⟩:=List.getElem_of_mem ht
    exact HP.out j hj (by omega)
   clear hi
   go_wp2
   go_ret
   exact ⟨ret_bool HRT.out.symm,HG.out⟩
set_option maxHeartbeats 400000 in
theorem psound_nil (w:World):Calls Tryz.prog 112 #[.slice none 0 0] w fun e w'=>e=.returned (.bool true)/\w.grownBy w' none:=by
 go_enter Tryz.func112,Tryz.ntmps112
 go_wp2
 go_loopw [7] (fun vi wr=>vi=.int .i64 0/\w.grownBy wr none) (fun vi _=>0)
 case atStart=>exact ⟨rfl,gb_refl _ _⟩
 case round =>
  obtain ⟨rfl,hg⟩:=hrel
  have HG:Hid (w.grownBy wr none):=hg
  clear hg
  go_wp2
  go_ret
  exact ⟨rfl,HG.out⟩
open Go.RowKit
set_option linter.unusedVariables false
theorem infoSp:(Tryz.prog.info? 138).map (fun i=>(i.zero,i.size,i.bytes))=some (some (.agg #[.int .i64 0,.int .i64 0,.int .i64 0,.string ⟨#[]⟩,.string ⟨#[]⟩,.int .i64 0,.int .i64 0,.int .i64 0,.string ⟨#[]⟩,.string ⟨#[]⟩,.bool false]),11,120):=by kernel_rfl
theorem own_keep {w w':World} {base:Nat} {e:TypeId} {size:Nat} {v:Value} {n:Nat} {xs:List Value} (h:w.ownsRow base e size v n xs) (hg:w.grownBy w' none):w'.ownsRow base e size v n xs :=
 h.kept hg (by cases v.ownBlock <;> simp)
theorem news_one (s:Sp):∀u ∈ spC s,u.oneCell'=true:=by
 intro u hu
 simp only [spC,List.mem_cons,List.not_mem_nil,or_false] at hu
 rcases hu with rfl | rfl | rfl | rfl | rfl | rfl | rfl | rfl | rfl | rfl | rfl <;> rfl
theorem cell_lt {w:World} {a:Addr} {v:Value} (h:w.cell? a=some v):a.block < w.heap.size:=by
 unfold World.cell? at h
 cases hb:w.heap[a.block]? with
 | none=>rw [hb] at h;simp at h
 | some o=>exact (Array.getElem?_eq_some_iff.1 hb).1
theorem below_gbn {B:Nat} {a w w':World} (h:Below B a w) (hB:B<=w.heap.size) (hg:w.grownBy w' none):Below B a w' :=
 ⟨hg.os.trans h.os,hg.tape.trans h.tape,hg.output.trans h.output,Nat.le_trans h.size hg.size,fun k hk=>(hg.block k (Nat.lt_of_lt_of_le hk hB) (by simp)).trans (h.block k hk)⟩
open Go.RowKit
set_option linter.unusedVariables false
def SpS (w:World) (sl:Value) (L:List Sp):Prop:=(sl=.slice none 0 0/\L=[])\/∃a cap,sl=.slice (some a) L.length cap/\L.length<=cap/\SpAt w a L
theorem SpS.grow {w w':World} {sl:Value} {L:List Sp} (h:SpS w sl L) (hg:w.grownBy w' none):SpS w' sl L:=by
 rcases h with h | ⟨a,cap,h1,h2,h3⟩
 ·exact Or.inl h
 ·exact Or.inr ⟨a,cap,h1,h2,h3.grow hg⟩
theorem flat_get (L:List Sp):∀(i:Nat) (hi:i < L.length) (k:Nat) (v:Value),(spC L[i])[k]?=some v->(L.flatMap spC)[i * 11+k]?=some v:=by
 induction L with
 | nil=>intro i hi;simp at hi
 | cons s L ih =>
  intro i hi k v h
  rw [List.flatMap_cons]
  have hl:(spC s).length=11:=rfl
  cases i with
  | zero =>
   simp only [List.getElem_cons_zero] at h
   have hk:k < (spC s).length:=(List.getElem?_eq_some_iff.1 h).1
   rw [Nat.zero_mul,Nat.zero_add,List.getElem?_append_left hk]
   exact h
  | succ i =>
   simp only [List.getElem_cons_succ] at h
   rw [List.getElem?_append_right (by rw [hl];omega),hl,show (i+1) * 11+k - 11=i * 11+k by omega]
   exact ih i (by simpa using hi) k v h
theorem sps_own {w:World} {base:Nat} {v:Value} {L:List Sp} (h:w.ownsRow base 138 11 v L.length (L.flatMap spC)):SpS w v L:=by
 rcases h.2 with ⟨h1,h2⟩ | ⟨g,cap,cur,h1,hb,hg,hn,hm,hs,ht⟩
 ·exact Or.inl ⟨h1,List.length_eq_zero_iff.1 h2⟩
 ·refine Or.inr ⟨⟨g,0,none⟩,cap,h1,hn,fun i hi=>elt_of_cells fun k u hu=>?_⟩
  have:=flat_get L i hi k u hu
  exact h.cells (g:=g) (by rw [h1];rfl) (i * 11+k) u this
theorem cSoundP (sl:Value) (L:List Sp) (w:World) (h:SpS w sl L) (hL:L.length<=1048576) (hsz:∀s ∈ L,smallS s) :
  Calls Tryz.prog 112 #[sl] w fun e w'=>e=.returned (.bool (L.all soundS))/\w.grownBy w' none:=by
 rcases h with ⟨rfl,rfl⟩ | ⟨a,cap,rfl,h2,h3⟩
 ·exact psound_nil w
 ·exact psound_at a cap L w (by omega) h2 h3 hsz
set_option linter.unusedVariables false
theorem v_self (a:V):verC a a=0:=good_ver.self a
theorem v_anti (a b:V):verC b a=- verC a b:=good_ver.anti a b
theorem v_le_trans {a b d:V} (h1:verC a b<=0) (h2:verC b d<=0):verC a d<=0:=(good_ver.trans a b d h1 h2).1
theorem v_lt_le {a b d:V} (h1:verC a b < 0) (h2:verC b d<=0):verC a d < 0:=by
 have h:=good_ver.trans a b d (by omega) h2
 have:verC a d ≠ 0:=fun e=>by have:=h.2.2 e;omega
 omega
theorem v_le_lt {a b d:V} (h1:verC a b<=0) (h2:verC b d < 0):verC a d < 0:=by
 have h:=good_ver.trans a b d h1 (by omega)
 have:verC a d ≠ 0:=fun e=>by have:=h.2.2 e;omega
 omega
theorem v_lt_trans {a b d:V} (h1:verC a b < 0) (h2:verC b d < 0):verC a d < 0:=v_lt_le h1 (by omega)
def tog (h:V->Bool):Bool->List V->List V
 | _,[]=>[]
 | on,p :: ps=>if h p=on then tog h on ps else p :: tog h (h p) ps
def Rising (l:List V):Prop:=l.Pairwise fun a b=>verC a b < 0
set_option linter.unusedVariables false
structure Ed where
 at_:V
 l:Nat
 d:Int
def upd (b:Nat->Int) (l:Nat) (d:Int):Nat->Int:=fun j=>if j=l then b j+d else b j
def tot:List Ed->Nat->Int
 | [],_=>0
 | e :: r,j=>(if j=e.l then e.d else 0)+tot r j
def sumB:List Ed->Nat->V->Int
 | [],_,_=>0
 | e :: r,j,x=>(if j=e.l/\verC e.at_ x<=0 then e.d else 0)+sumB r j x
def nextSame (e:Ed):List Ed->Bool
 | []=>false
 | e' :: _=>decide (verC e.at_ e'.at_=0)
def swT (wt:(Nat->Int)->Bool):(Nat->Int)->Bool->List Ed->List V
 | _,_,[]=>[]
 | b,on,e :: r =>
  if nextSame e r=true then swT wt (upd b e.l e.d) on r
  else if wt (upd b e.l e.d)=on then swT wt (upd b e.l e.d) on r
  else e.at_ :: swT wt (upd b e.l e.d) (wt (upd b e.l e.d)) r
def poss:List Ed->List V
 | []=>[]
 | e :: r=>if nextSame e r=true then poss r else e.at_ :: poss r
def SortedE (E:List Ed):Prop:=E.Pairwise fun a b=>verC a.at_ b.at_<=0
theorem tot_app (A B:List Ed) (j:Nat):tot (A++B) j=tot A j+tot B j:=by
 induction A with
 | nil=>simp [tot]
 | cons e A ih=>simp only [List.cons_append,tot,ih];omega
theorem sumB_app (A B:List Ed) (j:Nat) (x:V):sumB (A++B) j x=sumB A j x+sumB B j x:=by
 induction A with
 | nil=>simp [sumB]
 | cons e A ih=>simp only [List.cons_append,sumB,ih];omega
theorem sumB_all (A:List Ed) (j:Nat) (x:V) (h:∀e ∈ A,verC e.at_ x<=0):sumB A j x=tot A j:=by
 induction A with
 | nil=>rfl
 | cons e A ih =>
  have he:=h e (by simp)
  simp only [sumB,tot,ih (fun e' h'=>h e' (by simp [h'])),he,and_true]
theorem sumB_none (A:List Ed) (j:Nat) (x:V) (h:∀e ∈ A,¬ verC e.at_ x<=0):sumB A j x=0:=by
 induction A with
 | nil=>rfl
 | cons e A ih =>
  have he:=h e (by simp)
  simp only [sumB,ih (fun e' h'=>h e' (by simp [h'])),he,and_false,if_false]
  omega
theorem sumB_congr (A:List Ed) (j:Nat) (x y:V) (h:∀e ∈ A,verC e.at_ x<=0 ↔ verC e.at_ y<=0):sumB A j x=sumB A j y:=by
 induction A with
 | nil=>rfl
 | cons e A ih =>
  have he:=h e (by simp)
  simp only [sumB,ih (fun e' h'=>h e' (by simp [h'])),he]
theorem behind_all {e:Ed} {r:List Ed} (hs:SortedE (e :: r)) (hn:¬ nextSame e r=true):∀e' ∈ r,verC e.at_ e'.at_ < 0:=by
 cases r with
 | nil=>intro e' h;simp at h
 | cons f r =>
  have h1:=(List.pairwise_cons.1 hs).1
  have h2:=(List.pairwise_cons.1 (List.pairwise_cons.1 hs).2).1
  have hf:verC e.at_ f.at_ < 0:=by
   have a1:=h1 f (by simp)
   have a2:verC e.at_ f.at_ ≠ 0:=fun e0=>hn (by simp [nextSame,e0])
   omega
  intro e' he'
  rcases List.mem_cons.1 he' with rfl | he'
  ·exact hf
  ·exact v_lt_le hf (h2 e' he')
theorem swT_tog (wt:(Nat->Int)->Bool) (E:List Ed) (h:V->Bool) (hh:∀x,h x=wt (fun j=>sumB E j x)) (hs:SortedE E) :
  ∀(r pre:List Ed) (on:Bool),E=pre++r->swT wt (fun j=>tot pre j) on r=tog h on (poss r)
 | [],pre,on,hE=>rfl
 | e :: r,pre,on,hE=>by
  have hE':E=(pre++[e])++r:=by rw [hE];simp
  have hb:upd (fun j=>tot pre j) e.l e.d=fun j=>tot (pre++[e]) j:=by
   funext j
   rw [tot_app]
   unfold upd
   by_cases hj:j=e.l
   ·simp [tot,hj]
   ·simp [tot,hj]
  have ih:=fun on=>swT_tog wt E h hh hs r (pre++[e]) on hE'
  unfold swT poss
  rw [hb]
  by_cases hn:nextSame e r=true
  ·rw [if_pos hn,if_pos hn];exact ih on
  ·rw [if_neg hn,if_neg hn]
   have hw:wt (fun j=>tot (pre++[e]) j)=h e.at_:=by
    rw [hh]
    congr 1
    funext j
    rw [hE',sumB_app]
    have hsr:SortedE (e :: r):=by rw [hE] at hs;exact (List.pairwise_append.1 hs).2.1
    have hpre:∀e' ∈ pre++[e],verC e'.at_ e.at_<=0:=by
     intro e' he'
     rcases List.mem_append.1 he' with h1 | h1
     ·rw [hE] at hs;exact (List.pairwise_append.1 hs).2.2 e' h1 e (by simp)
     ·simp at h1;rw [h1,v_self];omega
    have hr:=behind_all hsr hn
    rw [sumB_all _ j _ hpre,sumB_none r j _ (fun e' he'=>by have:=hr e' he';have:=v_anti e.at_ e'.at_;omega)]
    omega
   rw [hw]
   unfold tog
   by_cases ho:h e.at_=on
   ·rw [if_pos ho,if_pos ho];exact ih on
   ·rw [if_neg ho,if_neg ho,ih]
theorem poss_mem (E:List Ed) (hs:SortedE E):(∀p ∈ poss E,∃e ∈ E,e.at_=p)/\(∀e ∈ E,∃p ∈ poss E,verC e.at_ p=0):=by
 induction E with
 | nil=>exact ⟨by simp [poss],by simp⟩
 | cons e r ih =>
  obtain ⟨i1,i2⟩:=ih (List.pairwise_cons.1 hs).2
  unfold poss
  by_cases hn:nextSame e r=true
  ·rw [if_pos hn]
   refine ⟨fun p hp=>?_,fun e' he'=>?_⟩
   ·obtain ⟨e',h1,h2⟩:=i1 p hp;exact ⟨e',by simp [h1],h2⟩
   ·rcases List.mem_cons.1 he' with rfl | he'
    ·cases r with
     | nil=>simp [nextSame] at hn
     | cons f r =>
      have hf:verC e'.at_ f.at_=0:=by simpa [nextSame] using hn
      obtain ⟨p,hp,h0⟩:=i2 f (by simp)
      exact ⟨p,hp,by have:=(good_ver.trans e'.at_ f.at_ p (by omega) (by omega)).2.1 ⟨hf,h0⟩;exact this⟩
    ·exact i2 e' he'
  ·rw [if_neg hn]
   refine ⟨fun p hp=>?_,fun e' he'=>?_⟩
   ·rcases List.mem_cons.1 hp with rfl | hp
    ·exact ⟨e,by simp,rfl⟩
    ·obtain ⟨e',h1,h2⟩:=i1 p hp;exact ⟨e',by simp [h1],h2⟩
   ·rcases List.mem_cons.1 he' with rfl | he'
    ·exact ⟨e'.at_,by simp,v_self _⟩
    ·obtain ⟨p,hp,h0⟩:=i2 e' he';exact ⟨p,by simp [hp],h0⟩
theorem poss_rising (E:List Ed) (hs:SortedE E):Rising (poss E):=by
 induction E with
 | nil=>exact List.Pairwise.nil
 | cons e r ih =>
  have hr:=(List.pairwise_cons.1 hs).2
  unfold poss
  by_cases hn:nextSame e r=true
  ·rw [if_pos hn];exact ih hr
  ·rw [if_neg hn]
   refine List.pairwise_cons.2 ⟨fun p hp=>?_,ih hr⟩
   obtain ⟨e',h1,rfl⟩:=(poss_mem r hr).1 p hp
   exact behind_all hs hn e' h1
end Go.Proofs.YtfplkhnclmidnaaGreatDoor
