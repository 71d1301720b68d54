import Derived.Test.YticgahdffjnabaaGreatDoorM03
import Derived.Shelf.Strconv.Clone
import Derived.Test.YticgahdffjnabaaGreatDoorProg
import Derived.Test.YticgahdffjnabaaGreatDoorM02
import Derived.Laws.AppendOwn
import Derived.Deep.RegionLaw
import Derived.Deep.AppendLies
import Derived.Shelf.Small.Wraps
import Derived.Shelf.Strings.Trim
import Derived.Shelf.Strings.Search2
set_option linter.unusedVariables false
set_option maxHeartbeats 3200000
namespace Go.Proofs.YticgahdffjnabaaGreatDoor
open Go.RowKit Go.Maps
def moreTo (P:List Pl) (A F:Nat):Nat->Nat
 | 0=>F
 | i+1=>match P[i]? with
  | some x=>if F.testBit i=true then moreTo P A F i ||| (x.nam &&& A) else moreTo P A F i
  | none=>moreTo P A F i
theorem more_yes (P:List Pl) (A F i:Nat) (hi:i < P.length) (h:F.testBit i=true):moreTo P A F (i+1)=moreTo P A F i ||| (P[i].nam &&& A):=by simp [moreTo,List.getElem?_eq_getElem hi,h]
theorem more_no (P:List Pl) (A F i:Nat) (h:F.testBit i=false):moreTo P A F (i+1)=moreTo P A F i:=by
 rw [moreTo]
 cases P[i]? with
 | none=>rfl
 | some x=>simp [h]
theorem more_le (P:List Pl) (A F:Nat):∀i,F<=moreTo P A F i
 | 0=>Nat.le_refl _
 | i+1=>by
  have ih:=more_le P A F i
  cases h:F.testBit i with
  | false=>rw [more_no P A F i h];exact ih
  | true =>
   by_cases hi:i < P.length
   ·rw [more_yes P A F i hi h];exact Nat.le_trans ih Nat.left_le_or
   ·have:P[i]?=none:=List.getElem?_eq_none (by omega);simp only [moreTo,this];exact ih
theorem more_small (P:List Pl) (A F:Nat) (hA:A < 18446744073709551616) (hF:F < 18446744073709551616):∀i,moreTo P A F i < 18446744073709551616
 | 0=>hF
 | i+1=>by
  have ih:=more_small P A F hA hF i
  cases h:F.testBit i with
  | false=>rw [more_no P A F i h];exact ih
  | true =>
   by_cases hi:i < P.length
   ·rw [more_yes P A F i hi h];exact or_small ih (Nat.lt_of_le_of_lt Nat.and_le_right hA)
   ·have:P[i]?=none:=List.getElem?_eq_none (by omega);simp only [moreTo,this];exact ih
def wN (P:List Pl) (n0 A:Nat):Nat->Nat
 | 0=>n0 &&& A
 | n+1=>moreTo P A (wN P n0 A n) P.length
theorem wN_small (P:List Pl) (n0 A:Nat) (hA:A < 18446744073709551616):∀n,wN P n0 A n < 18446744073709551616
 | 0=>Nat.lt_of_le_of_lt Nat.and_le_right hA
 | n+1=>more_small P A _ hA (wN_small P n0 A hA n) _
set_option maxRecDepth 100000 in
theorem wanted_any (nam bar A:Nat) (mv pv:Value) (P:List Pl) (w:World) (hmv:∃o n c,mv=.slice o n c) (hp:PlS w pv P) (hA:A < 18446744073709551616) (hn:nam < 18446744073709551616) (hP:∀x ∈ P,PlOk x) (hPl:P.length<=64) :
  Calls Tryz.prog 13 #[.agg #[.int .u64 (nam:Nat),.int .u64 (bar:Nat),mv,pv],.int .u64 (A:Nat)] w fun e w'=>(∃n,e=.returned (.int .u64 (wN P nam A n:Nat))/\wN P nam A (n+1)=wN P nam A n)/\w.grownBy w' none:=by
 obtain ⟨o2,n2,c2,rfl⟩:=hmv;obtain ⟨o,c,rfl⟩:=pls_sl hp;have HE:Hd (∀w',w.grownBy w' none->∀i,i < P.length->∃a,o=some a/\P.length<=c/\∀j (hj:j < P.length),PlAt w' (a.add (j * 3)) P[j]):=fun w' hg i hi=>pls_at (hp.grow hg) hi
 have CH:Hd (∀F k w,F < 18446744073709551616->k < 64->Calls Tryz.prog 24 #[.int .u64 (F:Nat),.int .i64 (k:Nat)] w fun e w'=>e=.returned (.bool (F.testBit k))/\w'=w):=fun F k w hF hk=>sHas_any F k hF hk w
 have HOK:Hd (∀x ∈ P,PlOk x):=hP;have HWS:Hd (∀n,wN P nam A n < 18446744073709551616):=wN_small P nam A hA;have HWN:Hd (∀n,wN P nam A (n+1)=moreTo P A (wN P nam A n) P.length):=fun n=>rfl
 have hb0:=bits_and_u64_nat nam A hn hA;have HW0:Hd (wN P nam A 0=nam &&& A):=rfl;obtain ⟨N0,hN0⟩:∃N,nam &&& A=N:=⟨_,rfl⟩;rw [hN0] at hb0 HW0;clear hp hP hN0 hn;obtain ⟨B0,hB0⟩:∃B,w.heap.size=B:=⟨_,rfl⟩;obtain ⟨W0,hW0⟩:∃W,w.alloc (.cells #[.int .u64 (nam:Nat),.int .u64 (bar:Nat),.slice o2 n2 c2,.slice o P.length c] 43)=W:=⟨_,rfl⟩;have HG0:Hd (w.grownBy W0 none):=by rw [<-hW0];exact gb_alloc (gb_refl w none) _
 have HBL:Hd (W0.heap[B0]?=some (.cells #[.int .u64 (nam:Nat),.int .u64 (bar:Nat),.slice o2 n2 c2,.slice o P.length c] 43 (0,0))):=by rw [<-hW0,<-hB0];exact heap_alloc_new w _
 have hc0:W0.cell? ⟨B0,0,none⟩=some (.int .u64 (nam:Nat)):=by rw [cOH HBL.o];rfl
 go_enter Tryz.func13,Tryz.ntmps13;go_wp2
 try rw [hW0]
 try rw [hB0]
 clear hW0 hB0 hc0 hb0;go_loopw [5] (fun vf wr=>∃n:Nat,vf=.int .u64 (wN P nam A n:Nat)/\W0.grownBy wr none) (fun vf _=>18446744073709551616 - (intOf vf).toNat)
 case atStart=>exact ⟨0,by rw [HW0.o],gb_refl _ _⟩
 case round =>
  obtain ⟨n,rfl,hg⟩:=hrel;have HG:Hd (W0.grownBy wr none):=hg;have hF:=HWS.o n;have HN:Hd (wN P nam A (n+1)=moreTo P A (wN P nam A n) P.length):=HWN.o n;obtain ⟨F,hFe⟩:=nm (wN P nam A n);have HFE:Hd (wN P nam A n=F):=hFe;rw [hFe] at hF HN;rw [hFe];have hbl:=(hg.block B0 (hqL HBL.o) (by simp)).trans HBL.o;have hc3:wr.cell? ⟨B0,3,none⟩=some (.slice o P.length c):=by rw [cOH hbl];rfl
  have HLE:Hd (∀i,F<=moreTo P A F i):=more_le P A F;have HMS:Hd (∀i,moreTo P A F i < 18446744073709551616):=more_small P A F hA hF;obtain ⟨wo,hwo⟩:∃wo,wo=wr:=⟨_,rfl⟩;subst hwo;clear hg hFe hbl;go_wp2;clear hc3;go_loopw [6,18] (fun vm vi wr=>∃i:Nat,vi=.int .i64 i/\vm=.int .u64 (moreTo P A F i:Nat)/\i<=P.length/\W0.grownBy wr none) (fun _ vi _=>P.length - (intOf vi).toNat)
  case atStart=>exact ⟨0,rfl,rfl,Nat.zero_le _,HG.o⟩
  case round =>
   obtain ⟨i,rfl,rfl,hi,hg⟩:=hrel;have HGR:Hd (W0.grownBy wr none):=hg
   by_cases hlt:i < P.length
   ·obtain ⟨a,ho,hcp,hat⟩:=HE.o wr (gb_trans HG0.o hg) i hlt;obtain ⟨e0,e1,v,e2,e3⟩:=hat i hlt;have hok:=HOK.o _ (List.getElem_mem hlt);have HY:Hd (F.testBit i=true->moreTo P A F (i+1)=moreTo P A F i ||| (P[i].nam &&& A)):=fun h=>more_yes P A F i hlt h
    have HNO:Hd (F.testBit i=false->moreTo P A F (i+1)=moreTo P A F i):=fun h=>more_no P A F i h
    obtain ⟨x,hx⟩:=nm (P[i]);rw [hx] at e0 e1 e3 hok HY;obtain ⟨o3,c3,rfl⟩:=sns_sl e3;have g1:wr.grownBy (wr.alloc (.cells #[.int .u64 (x.nam:Nat),.int .u64 (x.bar:Nat),.slice o3 x.mt.length c3] 40)) none:=gb_alloc (gb_refl wr none) _;have HG1:Hd (W0.grownBy (wr.alloc (.cells #[.int .u64 (x.nam:Nat),.int .u64 (x.bar:Nat),.slice o3 x.mt.length c3] 40)) none):=gb_trans HGR.o g1;have C2:Hd (∀w,Calls Tryz.prog 24 #[.int .u64 (F:Nat),.int .i64 (i:Nat)] w fun e w'=>e=.returned (.bool (F.testBit i))/\w'=w):=fun w=>CH.o F i w hF (by omega)
    have hms:=HMS.o i;have hb1:=bits_and_u64_nat x.nam A hok.nam hA;have hb2:=bits_or_u64_nat (moreTo P A F i) (x.nam &&& A) hms (Nat.lt_of_le_of_lt Nat.and_le_right hA);obtain ⟨b,hb⟩:=nm (F.testBit i);rw [hb] at C2 HY HNO;obtain ⟨Z,hZ⟩:=nm (x.nam &&& A);obtain ⟨m,hm⟩:=nm (moreTo P A F i);rw [hZ] at hb1;rw [hZ,hm] at hb2 HY;rw [hm] at HNO;rw [hm];have hic:i < c:=by omega
    subst ho;clear hat hg hx hb hcp hok e3 g1 hZ hm hms
    cases b with
    | false =>
     go_wp2_with (first | (go_at_call 24;refine (C2.o _).mono ?_;rintro e w' ⟨rfl,rfl⟩));go_roundw
     case rel=>exact ⟨i+1,by go_num,by rw [HNO.o (by trivial)],by omega,HG1.o⟩
     case measure=>simp [intOf];omega
    | true =>
     go_wp2_with (first | (go_at_call 24;refine (C2.o _).mono ?_;rintro e w' ⟨rfl,rfl⟩));go_roundw
     case rel=>exact ⟨i+1,by go_num,by rw [HY.o (by trivial)],by omega,HG1.o⟩
     case measure=>simp [intOf];omega
   ·have hil:i=P.length:=by omega
    have HM:Hd (moreTo P A F i=wN P nam A (n+1)):=by show _=_;rw [HN.o,hil]
    have hle:=HLE.o i;have hms:=HMS.o i;obtain ⟨m,hm⟩:=nm (moreTo P A F i);rw [hm] at HM hle hms;rw [hm];clear hg hil hi hm
    by_cases he:m=F
    ·subst he;have hee:(((m:Nat):Int) == ((m:Nat):Int))=true:=by simp
     go_wp2;refine bodyPost_ret (results_tmp (t:=4) rfl _ _ _) rfl ⟨⟨n,?_,?_⟩,gb_trans HG0.o HGR.o⟩
     ·rw [HFE.o];rfl
     ·rw [<-HM.o,HFE.o]
    ·have hee:(((m:Nat):Int) == ((F:Nat):Int))=false:=by
      rw [beq_eq_false_iff_ne];omega
     have HLT:Hd (F < m):=by show F < m;omega
     have HMS2:Hd (m < 18446744073709551616):=hms;clear he hle hms;go_wp2;go_roundw
     case rel=>exact ⟨n+1,by rw [<-HM.o],HGR.o⟩
     case measure =>
      have h1:=HLT.o;have h2:=HMS2.o;simp [intOf];omega
end Go.Proofs.YticgahdffjnabaaGreatDoor
namespace Go.Proofs
open Go.Shelf
def Tryz.lays316_ren:Go.Shelf.Ren:=⟨fun | 316=>113 | n=>n,fun | 22=>75 | 23=>196 | 27=>121 | 28=>24 | 31=>148 | 34=>30 | 37=>155 | 40=>245 | 41=>88 | 42=>147 | 43=>120 | 46=>206 | 47=>205 | 51=>224 | 52=>223 | 53=>34 | 54=>225 | 55=>226 | 59=>180 | 60=>181 | 63=>230 | 64=>238 | 68=>149 | 69=>157 | 80=>246 | 81=>115 | 104=>74 | 105=>228 | 106=>229 | 111=>73 | 112=>145 | 114=>227 | 115=>208 | 116=>209 | 117=>210 | 118=>211 | 119=>241 | 122=>207 | 123=>212 | 124=>213 | 127=>198 | 131=>221 | 137=>242 | 138=>243 | 139=>244 | 146=>236 | 151=>237 | 164=>265 | 182=>216 | 183=>217 | 218=>231 | 219=>232 | 220=>233 | 222=>136 | 228=>239 | 229=>54 | 238=>247 | 239=>248 | 240=>249 | 241=>250 | 242=>251 | 243=>252 | 244=>253 | 245=>254 | 246=>255 | 247=>256 | 248=>257 | 249=>258 | n=>n,fun | 1=>0 | 3=>1 | 4=>2 | n=>n⟩
set_option maxRecDepth 100000 in
theorem Tryz.lays316:Go.Proofs.LaysM.n316 Tryz.prog Tryz.lays316_ren:={
 mixed:=by kernel_rfl
 f316:=Tryz.func113.trans (congrArg some (by kernel_rfl))
 t0:=Tryz.underlying0
 a0:=Tryz.isAgg0
 z0:=Tryz.sizeOf0
 v0:=Tryz.zeroValue0
 t3:=Tryz.underlying3
 a3:=Tryz.isAgg3
 z3:=Tryz.sizeOf3
 v3:=Tryz.zeroValue3
 t4:=Tryz.underlying4
 a4:=Tryz.isAgg4
 z4:=Tryz.sizeOf4
 v4:=Tryz.zeroValue4
 t9:=Tryz.underlying9
 a9:=Tryz.isAgg9
 z9:=Tryz.sizeOf9
 v9:=Tryz.zeroValue9
 t37:=Tryz.underlying155
 a37:=Tryz.isAgg155
 z37:=Tryz.sizeOf155
 v37:=Tryz.zeroValue155
 t127:=Tryz.underlying198
 a127:=Tryz.isAgg198
 z127:=Tryz.sizeOf198
 v127:=Tryz.zeroValue198
 t5:=Tryz.underlying5
 a5:=Tryz.isAgg5
 z5:=Tryz.sizeOf5
 v5:=Tryz.zeroValue5
 i0:=by kernel_rfl
 i3:=by kernel_rfl
 i4:=by kernel_rfl
 i5:=by kernel_rfl
 i9:=by kernel_rfl
 i37:=by kernel_rfl
 i127:=by kernel_rfl }
end Go.Proofs
namespace Go.Proofs.YticgahdffjnabaaGreatDoor
open Go.RowKit Go.Shelf
theorem cloneL_any (s:ByteArray) (w:World) (hlim:s.size<=281474976710656) :
  Calls Tryz.prog 113 #[.string s] w fun e w'=>e=.returned (.string s)/\Below w.heap.size w w':=Any.stringslite_Clone Tryz.lays316 s w hlim
theorem clone_any (s:ByteArray) (w:World) (hlim:s.size<=281474976710656) :
  Calls Tryz.prog 91 #[.string s] w fun e w'=>e=.returned (.string s)/\w.grownBy w' none:=by
 have C:Hd (∀w,Calls Tryz.prog 113 #[.string s] w fun e w'=>e=.returned (.string s)/\Below w.heap.size w w'):=fun w=>cloneL_any s w hlim
 clear hlim;go_enter Tryz.func91,Tryz.ntmps91;go_wp2_with (first | (go_at_call 113;refine (C.o _).mono ?_;rintro e w1 ⟨rfl,hb⟩));go_ret;exact ⟨rfl,⟨hb.os,hb.tape,hb.output,hb.size,fun k hk _=>hb.block k hk⟩⟩
open Go.RowKit
def VX (v:Nat) (y1 y2 y3:Int) (x4 x5:ByteArray) (w:World):Prop:=w.heap[v]?=some (.cells #[.int .i64 y1,.int .i64 y2,.int .i64 y3,.string x4,.string x5] 69 (0,0))
theorem VX.cells {v:Nat} {y1 y2 y3:Int} {x4 x5:ByteArray} {w:World} (h:VX v y1 y2 y3 x4 x5 w):w.cell? ⟨v,0,none⟩=some (.int .i64 y1)/\w.cell? ⟨v,1,none⟩=some (.int .i64 y2)/\w.cell? ⟨v,2,none⟩=some (.int .i64 y3)/\w.cell? ⟨v,3,none⟩=some (.string x4)/\w.cell? ⟨v,4,none⟩=some (.string x5) :=
 ⟨by rw [cOH h];rfl,by rw [cOH h];rfl,by rw [cOH h];rfl,by rw [cOH h];rfl,by rw [cOH h];rfl⟩
theorem VX.f {v:Nat} {y1 y2 y3:Int} {x4 x5:ByteArray} {w:World} (h:VX v y1 y2 y3 x4 x5 w) (o:Nat):w.frozen? ⟨v,o,none⟩=false:=Lib.frozen_of_heap h o
theorem VX.grow {b v:Nat} {y1 y2 y3:Int} {x4 x5:ByteArray} {w w':World} (h:VX v y1 y2 y3 x4 x5 w) (hg:w.grownBy w' (some b)) (hn:v ≠ b):VX v y1 y2 y3 x4 x5 w':=by
 unfold VX at h ⊢;rw [hg.block v ((hqL h)) (by simpa using hn)];exact h
theorem VX.set3 {v:Nat} {y1 y2 y3:Int} {x4 x5:ByteArray} {w:World} (h:VX v y1 y2 y3 x4 x5 w) (z:ByteArray):VX v y1 y2 y3 z x5 (w.setCell ⟨v,3,none⟩ (.string z)):=by
 unfold VX at h ⊢;simp [World.setCell,Array.getElem?_modify,h]
theorem VX.set4 {v:Nat} {y1 y2 y3:Int} {x4 x5:ByteArray} {w:World} (h:VX v y1 y2 y3 x4 x5 w) (z:ByteArray):VX v y1 y2 y3 x4 z (w.setCell ⟨v,4,none⟩ (.string z)):=by
 unfold VX at h ⊢;simp [World.setCell,Array.getElem?_modify,h]
theorem VX.other {v u:Nat} {y1 y2 y3:Int} {x4 x5:ByteArray} {w:World} (h:VX v y1 y2 y3 x4 x5 w) (hn:v ≠ u) (o:Nat) (x:Value):VX v y1 y2 y3 x4 x5 (w.setCell ⟨u,o,none⟩ x):=by
 unfold VX at h ⊢;rw [<-h];exact heap_setCell_other w _ v x hn
def put5 (w:World) (A:Nat) (y1 y2 y3:Int) (x4 x5:ByteArray):World:=((((w.setCell ⟨A,0,none⟩ (.int .i64 y1)).setCell ⟨A,1,none⟩ (.int .i64 y2)).setCell ⟨A,2,none⟩ (.int .i64 y3)).setCell ⟨A,3,none⟩ (.string x4)).setCell ⟨A,4,none⟩ (.string x5)
theorem put5_row {w:World} {A:Nat} {z1 z2 z3:Int} {z4 z5:ByteArray} (h:VX A z1 z2 z3 z4 z5 w) (y1 y2 y3:Int) (x4 x5:ByteArray):VX A y1 y2 y3 x4 x5 (put5 w A y1 y2 y3 x4 x5):=by
 unfold VX at h ⊢;unfold put5;simp [World.setCell,Array.getElem?_modify,h]
theorem gb_new {b A:Nat} {w W:World} (h:w.grownBy W (some b)) (hA:w.heap.size<=A) (o:Nat) (x:Value):w.grownBy (W.setCell ⟨A,o,none⟩ x) (some b) :=
 ⟨h.os,h.tape,h.output,by simpa [World.setCell] using h.size,fun k hk hn=>by rw [<-h.block k hk hn];exact heap_setCell_other W _ k x (by simp;omega)⟩
theorem put5_gb {b A:Nat} {w W:World} (h:w.grownBy W (some b)) (hA:w.heap.size<=A) (y1 y2 y3:Int) (x4 x5:ByteArray):w.grownBy (put5 W A y1 y2 y3 x4 x5) (some b):=gb_new (gb_new (gb_new (gb_new (gb_new h hA _ _) hA _ _) hA _ _) hA _ _) hA _ _
theorem res_row_tmp {P:Program} {fn:Func} {p u:Tmp} {ty:TypeId} (h:fn.results=#[.cell p ty,.tmp u]) (tmps:Array Value) (w:World) (g:Nat) (t:TypeId) (cs:Array Value) (fr:Nat × Nat) (d:TypeDesc)
  (hp:tmps.getD p undef=.pointer (some ⟨g,0,none⟩)) (hg:w.heap[g]?=some (.cells cs t fr)) (hu:P.underlying ty=some d) (hd:(match d with | .struct _ | .array _ _=>true | _=>false)=true) (hi:(P.info? ty).map (·.size)=some cs.size) :
  (results fn tmps).run P w=.ok (.tuple #[.agg cs,tmps.getD u undef]) w:=by
 rw [results_cell_tmp h,hp];simp [asAddr,run_loadVar_row w g t ty cs fr d hg hu hd hi,Result.andThen]
theorem res_row_tmp2 {P:Program} {fn:Func} {p u r:Tmp} {ty:TypeId} (h:fn.results=#[.cell p ty,.tmp u,.tmp r]) (tmps:Array Value) (w:World) (g:Nat) (t:TypeId) (cs:Array Value) (fr:Nat × Nat) (d:TypeDesc)
  (hp:tmps.getD p undef=.pointer (some ⟨g,0,none⟩)) (hg:w.heap[g]?=some (.cells cs t fr)) (hu:P.underlying ty=some d) (hd:(match d with | .struct _ | .array _ _=>true | _=>false)=true) (hi:(P.info? ty).map (·.size)=some cs.size) :
  (results fn tmps).run P w=.ok (.tuple #[.agg cs,tmps.getD u undef,tmps.getD r undef]) w:=by
 have hp':tmps[p]?.getD undef=.pointer (some ⟨g,0,none⟩):=by simpa using hp
 simp [results,h,Result.andThen,hp',asAddr,run_loadVar_row w g t ty cs fr d hg hu hd hi]
theorem gb_new0 {A:Nat} {w W:World} (h:w.grownBy W none) (hA:w.heap.size<=A) (o:Nat) (x:Value):w.grownBy (W.setCell ⟨A,o,none⟩ x) none :=
 ⟨h.os,h.tape,h.output,by simpa [World.setCell] using h.size,fun k hk hn=>by rw [<-h.block k hk hn];exact heap_setCell_other W _ k x (by simp;omega)⟩
theorem put5_gb0 {A:Nat} {w W:World} (h:w.grownBy W none) (hA:w.heap.size<=A) (y1 y2 y3:Int) (x4 x5:ByteArray):w.grownBy (put5 W A y1 y2 y3 x4 x5) none:=gb_new0 (gb_new0 (gb_new0 (gb_new0 (gb_new0 h hA _ _) hA _ _) hA _ _) hA _ _) hA _ _
open Go.RowKit
theorem rdigit_any (c:UInt8) (w:World):Calls Tryz.prog 40 #[.int .u8 (c.toNat:Int)] w fun e w'=>e=.returned (.bool (isD c))/\w'=w:=by
 go_enter Tryz.func40,Tryz.ntmps40;go_wp2
 all_goals go_ret
 all_goals (refine ⟨ret_bool ?_,rfl⟩;rw [Bool.eq_iff_iff];unfold isD;simp;omega)
theorem rpartByte_any (c:UInt8) (w:World):Calls Tryz.prog 104 #[.int .u8 (c.toNat:Int)] w fun e w'=>e=.returned (.bool (isP c))/\w'=w:=by
 go_enter Tryz.func104,Tryz.ntmps104;go_wp2_with (go_at_call 40;refine (rdigit_any _ _).mono ?_;rintro e w' ⟨rfl,rfl⟩)
 all_goals go_ret
 all_goals (refine ⟨ret_bool ?_,rfl⟩;rw [Bool.eq_iff_iff];unfold isP;simp_all;try omega)
theorem rdigits_any (s:ByteArray) (w:World) (hs:s.size < 2 ^ 62) :
  Calls Tryz.prog 105 #[.string s] w fun e w'=>e=.returned (.bool (s.data.toList.all isD))/\w'=w:=by
 obtain ⟨R,hR⟩:∃R,R=s.data.toList.all isD:=⟨_,rfl⟩;have HR:Hd (R=s.data.toList.all isD):=hR;rw [<-hR];clear hR;go_enter Tryz.func105,Tryz.ntmps105;go_wp2
 go_loop [3] (fun i=>∃k:Nat,k<=s.size/\i=.int .i64 k/\∀j,(hj:j < s.size)->j < k->isD s[j]=true) (fun i=>s.size - (intOf i).toNat)
 case atStart=>exact ⟨0,Nat.zero_le _,rfl,fun j hj h=>absurd h (by omega)⟩
 case round =>
  obtain ⟨k,hk,rfl,hp⟩:=hrel;have HP:Hd (∀j,(hj:j < s.size)->j < k->isD s[j]=true):=hp;clear hp
  by_cases hlt:k < s.size
  ·cases hd:isD s[k] with
   | true =>
    go_wp2_with (go_at_call 40;refine (rdigit_any _ _).mono ?_;rintro e w' ⟨rfl,rfl⟩)
    go_round
    case rel =>
     refine ⟨k+1,by omega,by go_num,fun j hj hjk=>?_⟩
     by_cases hjk':j < k
     ·exact HP.o j hj hjk'
     ·have e:j=k:=by omega
      subst e;exact hd
    case measure=>simp [intOf];omega
   | false =>
    have HN:Hd (R=false):=by
     show R=false;rw [HR.o,List.all_eq_false];exact ⟨s[k],List.mem_of_getElem? (get_data s k hlt),by simp [hd]⟩
    go_wp2_with (go_at_call 40;refine (rdigit_any _ _).mono ?_;rintro e w' ⟨rfl,rfl⟩);go_ret;exact ⟨ret_bool HN.o.symm,rfl⟩
  ·have HN:Hd (R=true):=by
    show R=true;rw [HR.o,List.all_eq_true];intro c hc;obtain ⟨j,hj,rfl⟩:=List.getElem_of_mem hc;exact HP.o j (by simpa using hj) (by simp at hj;have:s.size=s.data.size:=rfl;omega)
   clear hk;go_wp2;go_ret;exact ⟨ret_bool HN.o.symm,rfl⟩
open Go.RowKit
theorem info9:(Tryz.prog.info? 9).map (fun i=>(i.zero,i.size,i.bytes))=some (some (.string ⟨#[]⟩),1,16):=by kernel_rfl
def strL (D:List (List UInt8)):List Value:=D.map fun p=>.string ⟨p.toArray⟩
theorem split_end (l:List UInt8) (D:List (List UInt8)) (f:Nat) (h:splitD l=D++splitD (l.drop f)) (hn:∀j,f<=j->j < l.length->l[j]? ≠ some 46):splitD l=D++[subT l f (l.length - f)]:=by
 rw [h,splitD_free (l.drop f)]
 ·congr 2;unfold subT;exact (List.take_of_length_le (by simp)).symm
 ·intro c hc e;obtain ⟨j,hj,rfl⟩:=List.getElem_of_mem hc;simp only [List.length_drop] at hj;refine hn (f+j) (by omega) (by omega) ?_;rw [<-List.getElem?_drop,List.getElem?_eq_getElem (by simp;omega),e]
theorem split_dot (l:List UInt8) (D:List (List UInt8)) (f i:Nat) (hfi:f<=i) (hi:l[i]?=some 46) (h:splitD l=D++splitD (l.drop f)) (hn:∀j,f<=j->j < i->l[j]? ≠ some 46):splitD l=(D++[subT l f (i - f)])++splitD (l.drop (i+1)):=by
 obtain ⟨hlt,e⟩:=List.getElem?_eq_some_iff.1 hi;have hd:l.drop f=subT l f (i - f)++46 :: l.drop (i+1):=by
  have h1:l.drop f=subT l f (i - f)++l.drop i:=by
   unfold subT;have:=List.take_append_drop (i - f) (l.drop f);rw [List.drop_drop,show f+(i - f)=i by omega] at this;exact this.symm
  rw [h1,List.drop_eq_getElem_cons hlt,e]
 rw [h,hd,splitD_dot]
 ·simp
 ·intro c hc e;obtain ⟨j,hj,rfl⟩:=List.getElem_of_mem hc;have hjl:j < i - f:=by unfold subT at hj;simp at hj;omega
  refine hn (f+j) (by omega) (by omega) ?_;have:(subT l f (i - f))[j]?=some 46:=by rw [List.getElem?_eq_getElem hj,e]
  unfold subT at this;rw [List.getElem?_take_of_lt hjl,List.getElem?_drop] at this;exact this
def SplitPost (l:List UInt8) (w:World) (e:Ending) (w':World):Prop:=∃v,e=.returned v/\w'.ownsRow w.heap.size 9 1 v (splitD l).length (strL (splitD l))/\Below w.heap.size w w'
theorem split_any (s:ByteArray) (w:World) (hs:s.size<=1048576) :
  Calls Tryz.prog 77 #[.string s] w (SplitPost s.data.toList w):=by
 obtain ⟨i0,hi,hz0,hz1,hzb⟩:=info_parts info9;obtain ⟨l,hl⟩:∃l,l=s.data.toList:=⟨_,rfl⟩;have hll:l.length=s.size:=by rw [hl];simp
 rw [<-hl];go_enter Tryz.func77,Tryz.ntmps77;go_wp2;go_loopw [3,4,5] (fun vo vf vi wr=>∃(D:List (List UInt8)) (f i:Nat),vf=.int .i64 f/\vi=.int .i64 i/\wr.ownsRow w.heap.size 9 1 vo D.length (strL D)/\Below w.heap.size w wr/\D.length<=i/\f<=s.size+1/\((i<=s.size/\f<=i/\splitD l=D++splitD (l.drop f)/\∀j,f<=j->j < i->l[j]? ≠ some 46)\/(i=s.size+1/\D=splitD l))) (fun _ _ vi _=>s.size+1 - (intOf vi).toNat)
 case atStart=>exact ⟨[],0,0,rfl,rfl,World.ownsRow_nil _ _ _ _,Below.refl _ _,Nat.le_refl _,by omega,Or.inl ⟨by omega,Nat.le_refl _,by simp,fun j _ h=>by omega⟩⟩
 case round =>
  obtain ⟨D,f,i,rfl,rfl,hrow,hbl,hD,hf,hcase⟩:=hrel;have hzz:=hbl.size
  rcases hcase with ⟨hi1,hfi,hsp,hno⟩ | ⟨hi2,hDe⟩
  ·have HSP:Hd (splitD l=D++splitD (l.drop f)/\∀j,f<=j->j < i->l[j]? ≠ some 46):=⟨hsp,hno⟩;clear hsp hno
   by_cases hlt:i < s.size
   ·have hne:((i:Int) == (s.size:Int))=false:=by simp;omega
    cases hz:((s[i].toNat:Int) == 46) with
    | true =>
     have hc:l[i]?=some 46:=by
      rw [hl,get_data s i hlt];have:s[i]=46:=UInt8.toNat_inj.1 (by have:=eq_of_beq hz;have e46:(46:UInt8).toNat=46:=rfl;omega);rw [this]
     obtain ⟨X,hX⟩:∃X:ByteArray,X=⟨(subT l f (i - f)).toArray⟩:=⟨_,rfl⟩;have HN:Hd (splitD l=(D++[subT l f (i - f)])++splitD (l.drop (i+1))):=split_dot l D f i hfi hc HSP.o.1 HSP.o.2;have HX:Hd (strL (D++[subT l f (i - f)])=strL D++[.string X]):=by
      show strL _=_;rw [hX];simp [strL]
     have sl:∀wx,(Instr.slice 9 (.string s) (some (.int .i64 (f:Int))) (some (.int .i64 (i:Int))) none).run Tryz.prog wx=.ok (.string X) wx:=fun wx=>by rw [hX,hl];exact run_sub s f i hfi (by omega) wx
     have HB:Hd (D.length<=i/\i < s.size):=⟨hD,hlt⟩;clear hX hc HSP hfi hl;go_wp2_with (first | (at_builtin;refine wpList_append_own _ rfl _ _ 148 rfl w.heap.size 9 i0 (.string ⟨#[]⟩) 1 16 Tryz.underlying148 hi hz0 hz1 hzb rfl (by decide) _ _ _ rfl (hrow.alloc _) ⟨wr.heap.size,0,none⟩ 1 1 [.string X] rfl rfl (cell_one_new _ _ _) (by simp [Value.oneCell']) (by unfold maxLen;omega) (by omega) (by simp;omega) ?_;intro v' w1 hown' hgrow _));have hb1:Below w.heap.size w w1:=(hbl.alloc hzz _).grown hgrow (by simp;omega) (fun q hq=>(hrow.lt q hq).1);have hB:=HB.o;refine ⟨⟨D++[subT l f (i - f)],i+1,i+1,rfl,rfl,by rw [HX.o];simpa using hown',hb1,by simp;omega,by omega,Or.inl ⟨by omega,Nat.le_refl _,HN.o,fun j h1 h2=>by omega⟩⟩,?_⟩;simp [intOf];omega
    | false =>
     have HN:Hd (l[i]? ≠ some 46):=by
      show l[i]? ≠ some 46;rw [hl,get_data s i hlt];intro e;have e':s[i]=46:=Option.some.inj e;rw [e'] at hz;exact absurd hz (by decide)
     have HF:Hd (f<=i/\D.length<=i/\f<=s.size+1):=⟨hfi,hD,hf⟩;have HO:Hd (wr.ownsRow w.heap.size 9 1 u3 D.length (strL D)):=hrow;have HB:Hd (Below w.heap.size w wr):=hbl;clear hfi hD hf hrow hbl hl;go_wp2;go_roundw
     case rel =>
      have hF:=HF.o;refine ⟨D,f,i+1,rfl,by go_num,HO.o,HB.o,by omega,hF.2.2,Or.inl ⟨by omega,by omega,HSP.o.1,fun j h1 h2=>?_⟩⟩
      by_cases hj:j < i
      ·exact HSP.o.2 j h1 hj
      ·have:j=i:=by omega
       rw [this];exact HN.o
     case measure=>simp [intOf];omega
   ·have hie:i=s.size:=by omega
    subst hie;have hne:((s.size:Int) == (s.size:Int))=true:=by simp
    obtain ⟨X,hX⟩:∃X:ByteArray,X=⟨(subT l f (s.size - f)).toArray⟩:=⟨_,rfl⟩;have HN:Hd (splitD l=D++[subT l f (s.size - f)]):=by
     have:=split_end l D f HSP.o.1 (fun j h1 h2=>HSP.o.2 j h1 (by omega));rw [hll] at this;exact this
    have HX:Hd (strL (D++[subT l f (s.size - f)])=strL D++[.string X]):=by
     show strL _=_;rw [hX];simp [strL]
    have sl:∀wx,(Instr.slice 9 (.string s) (some (.int .i64 (f:Int))) (some (.int .i64 (s.size:Int))) none).run Tryz.prog wx=.ok (.string X) wx:=fun wx=>by rw [hX,hl];exact run_sub s f s.size hfi (by omega) wx
    clear hX HSP hfi hl;go_wp2_with (first | (at_builtin;refine wpList_append_own _ rfl _ _ 148 rfl w.heap.size 9 i0 (.string ⟨#[]⟩) 1 16 Tryz.underlying148 hi hz0 hz1 hzb rfl (by decide) _ _ _ rfl (hrow.alloc _) ⟨wr.heap.size,0,none⟩ 1 1 [.string X] rfl rfl (cell_one_new _ _ _) (by simp [Value.oneCell']) (by unfold maxLen;omega) (by omega) (by simp;omega) ?_;intro v' w1 hown' hgrow _));have hb1:Below w.heap.size w w1:=(hbl.alloc hzz _).grown hgrow (by simp;omega) (fun q hq=>(hrow.lt q hq).1);refine ⟨⟨D++[subT l f (s.size - f)],s.size+1,s.size+1,rfl,rfl,by rw [HX.o];simpa using hown',hb1,by simp;omega,by omega,Or.inr ⟨rfl,HN.o.symm⟩⟩,?_⟩;simp [intOf]
  ·have hgt:¬ i<=s.size:=by omega
   clear hi2 hll hs;have HO:Hd (wr.ownsRow w.heap.size 9 1 u3 D.length (strL D)):=hrow;have HB:Hd (Below w.heap.size w wr):=hbl;have HDE:Hd (D=splitD l):=hDe;clear hrow hbl hDe hD hf hzz hl;go_wp2;refine bodyPost_ret (results_tmp (t:=2) rfl _ _ _) rfl ⟨u3,rfl,?_,HB.o⟩;rw [<-HDE.o];exact HO.o
open Go.RowKit
theorem below_drewN {B:Nat} {a w:World} (h:Below B a w) (n:Nat):Below B a (w.drewN n):=⟨h.os,h.tape,h.output,h.size,h.block⟩
theorem owns_slice {w:World} {base:Nat} {v:Value} {D:List (List UInt8)} (h:w.ownsRow base 9 1 v D.length (strL D)) (hne:D ≠ []) :
  ∃g cap,v=.slice (some ⟨g,0,none⟩) D.length cap/\base<=g/\g < w.heap.size/\∀j,(hj:j < D.length)->w.cell? ⟨g,j,none⟩=some (.string ⟨D[j].toArray⟩):=by
 have hpos:0 < D.length:=List.length_pos_iff.2 hne
 rcases h.2 with ⟨_,hz⟩ | ⟨g,cap,cur,hv,hbg,hg,hnc,hcm,hcs,htake⟩
 ·simp at hz;exact absurd hz hne
 ·refine ⟨g,cap,hv,hbg,(hqL hg),fun j hj=>?_⟩;have ht:cur.toList.take D.length=strL D:=by simpa using htake
  rw [cOH hg];have h1:(strL D)[j]?=some (.string ⟨D[j].toArray⟩):=by unfold strL;rw [List.getElem?_map,List.getElem?_eq_getElem hj];rfl
  rw [<-ht,List.getElem?_take_of_lt hj] at h1;simpa using h1
theorem split_slice (s:ByteArray) (w:World) (hs:s.size<=1048576) :
  Calls Tryz.prog 77 #[.string s] w fun e w'=>∃g cap,e=.returned (.slice (some ⟨g,0,none⟩) (splitD s.data.toList).length cap)/\w.heap.size<=g/\g < w'.heap.size/\(∀j,(hj:j < (splitD s.data.toList).length)->w'.cell? ⟨g,j,none⟩=some (.string ⟨(splitD s.data.toList)[j].toArray⟩))/\Below w.heap.size w w':=by
 refine (split_any s w hs).mono ?_;rintro e w' ⟨v,rfl,hrow,hb⟩;obtain ⟨g,cap,rfl,h1,h2,h3⟩:=owns_slice hrow (splitD_ne _);exact ⟨g,cap,rfl,h1,h2,h3,hb⟩
theorem part_len:∀(l:List UInt8) (p:List UInt8),p ∈ splitD l->p.length<=l.length
 | [],p,h=>by simp [splitD] at h;rw [h];exact Nat.le_refl _
 | c :: l,p,h=>by
  rw [splitD_cons] at h;split at h
  ·rcases List.mem_cons.1 h with rfl | h
   ·simp
   ·have:=part_len l p h;simp;omega
  ·cases hs:splitD l with
   | nil=>exact absurd hs (splitD_ne l)
   | cons q qs =>
    rw [hs] at h
    rcases List.mem_cons.1 h with rfl | h
    ·have:=part_len l q (by rw [hs];simp);simp;omega
    ·have:=part_len l p (by rw [hs];simp [h]);simp;omega
theorem split_len:∀(l:List UInt8),(splitD l).length<=l.length+1
 | []=>by simp [splitD]
 | c :: l=>by
  have ih:=split_len l;rw [splitD_cons];split
  ·simp;exact ih
  ·cases hs:splitD l with
   | nil=>exact absurd hs (splitD_ne l)
   | cons q qs=>rw [hs] at ih;simp at ih ⊢;omega
end Go.Proofs.YticgahdffjnabaaGreatDoor
namespace Go.Proofs
open Go.Shelf
def Tryz.lays122_ren:Go.Shelf.Ren:=⟨fun | 122=>74 | 215=>101 | n=>n,fun | 22=>75 | 23=>196 | 27=>121 | 28=>24 | 31=>148 | 34=>30 | 37=>155 | 40=>245 | 41=>88 | 42=>147 | 43=>120 | 46=>206 | 47=>205 | 51=>224 | 52=>223 | 53=>34 | 54=>225 | 55=>226 | 59=>180 | 60=>181 | 63=>230 | 64=>238 | 68=>149 | 69=>157 | 80=>246 | 81=>115 | 104=>74 | 105=>228 | 106=>229 | 111=>73 | 112=>145 | 114=>227 | 115=>208 | 116=>209 | 117=>210 | 118=>211 | 119=>241 | 122=>207 | 123=>212 | 124=>213 | 127=>198 | 131=>221 | 137=>242 | 138=>243 | 139=>244 | 146=>236 | 151=>237 | 164=>265 | 182=>216 | 183=>217 | 218=>231 | 219=>232 | 220=>233 | 222=>136 | 228=>239 | 229=>54 | 238=>247 | 239=>248 | 240=>249 | 241=>250 | 242=>251 | 243=>252 | 244=>253 | 245=>254 | 246=>255 | 247=>256 | 248=>257 | 249=>258 | n=>n,fun | 1=>0 | 3=>1 | 4=>2 | n=>n⟩
set_option maxRecDepth 100000 in
theorem Tryz.lays122:Go.Proofs.Lays.n122 Tryz.prog Tryz.lays122_ren:={
 mixed:=by kernel_rfl
 f122:=Tryz.func74.trans (congrArg some (by kernel_rfl))
 f215:=Tryz.func101.trans (congrArg some (by kernel_rfl))
 t3:=Tryz.underlying3
 a3:=Tryz.isAgg3
 z3:=Tryz.sizeOf3
 v3:=Tryz.zeroValue3
 t4:=Tryz.underlying4
 a4:=Tryz.isAgg4
 z4:=Tryz.sizeOf4
 v4:=Tryz.zeroValue4 }
def Tryz.lays161_ren:Go.Shelf.Ren:=⟨fun | 119=>173 | 137=>172 | 151=>161 | 152=>170 | 161=>122 | 197=>160 | 217=>155 | 224=>157 | 225=>156 | 227=>140 | 228=>159 | 231=>139 | 233=>141 | 235=>142 | 260=>169 | 266=>167 | n=>n,fun | 22=>75 | 23=>196 | 27=>121 | 28=>24 | 31=>148 | 34=>30 | 37=>155 | 40=>245 | 41=>88 | 42=>147 | 43=>120 | 46=>206 | 47=>205 | 51=>224 | 52=>223 | 53=>34 | 54=>225 | 55=>226 | 59=>180 | 60=>181 | 63=>230 | 64=>238 | 68=>149 | 69=>157 | 80=>246 | 81=>115 | 104=>74 | 105=>228 | 106=>229 | 111=>73 | 112=>145 | 114=>227 | 115=>208 | 116=>209 | 117=>210 | 118=>211 | 119=>241 | 122=>207 | 123=>212 | 124=>213 | 127=>198 | 131=>221 | 137=>242 | 138=>243 | 139=>244 | 146=>236 | 151=>237 | 164=>265 | 182=>216 | 183=>217 | 218=>231 | 219=>232 | 220=>233 | 222=>136 | 228=>239 | 229=>54 | 238=>247 | 239=>248 | 240=>249 | 241=>250 | 242=>251 | 243=>252 | 244=>253 | 245=>254 | 246=>255 | 247=>256 | 248=>257 | 249=>258 | n=>n,fun | 1=>0 | 3=>1 | 4=>2 | n=>n⟩
set_option maxRecDepth 100000 in
theorem Tryz.lays161:Go.Proofs.Lays.n161 Tryz.prog Tryz.lays161_ren:={
 mixed:=by kernel_rfl
 f119:=Tryz.func173.trans (congrArg some (by kernel_rfl))
 f137:=Tryz.func172.trans (congrArg some (by kernel_rfl))
 f151:=Tryz.func161.trans (congrArg some (by kernel_rfl))
 f152:=Tryz.func170.trans (congrArg some (by kernel_rfl))
 f161:=Tryz.func122.trans (congrArg some (by kernel_rfl))
 f197:=Tryz.func160.trans (congrArg some (by kernel_rfl))
 f217:=Tryz.func155.trans (congrArg some (by kernel_rfl))
 f224:=Tryz.func157.trans (congrArg some (by kernel_rfl))
 f225:=Tryz.func156.trans (congrArg some (by kernel_rfl))
 f227:=Tryz.func140.trans (congrArg some (by kernel_rfl))
 f228:=Tryz.func159.trans (congrArg some (by kernel_rfl))
 f231:=Tryz.func139.trans (congrArg some (by kernel_rfl))
 f233:=Tryz.func141.trans (congrArg some (by kernel_rfl))
 f235:=Tryz.func142.trans (congrArg some (by kernel_rfl))
 f260:=Tryz.func169.trans (congrArg some (by kernel_rfl))
 f266:=Tryz.func167.trans (congrArg some (by kernel_rfl))
 t0:=Tryz.underlying0
 a0:=Tryz.isAgg0
 z0:=Tryz.sizeOf0
 v0:=Tryz.zeroValue0
 t3:=Tryz.underlying3
 a3:=Tryz.isAgg3
 z3:=Tryz.sizeOf3
 v3:=Tryz.zeroValue3
 t4:=Tryz.underlying4
 a4:=Tryz.isAgg4
 z4:=Tryz.sizeOf4
 v4:=Tryz.zeroValue4
 t5:=Tryz.underlying5
 a5:=Tryz.isAgg5
 z5:=Tryz.sizeOf5
 v5:=Tryz.zeroValue5
 t9:=Tryz.underlying9
 a9:=Tryz.isAgg9
 z9:=Tryz.sizeOf9
 v9:=Tryz.zeroValue9
 t21:=Tryz.underlying21
 a21:=Tryz.isAgg21
 z21:=Tryz.sizeOf21
 v21:=Tryz.zeroValue21
 t46:=Tryz.underlying206
 a46:=Tryz.isAgg206
 z46:=Tryz.sizeOf206
 v46:=Tryz.zeroValue206
 t105:=Tryz.underlying228
 a105:=Tryz.isAgg228
 z105:=Tryz.sizeOf228
 v105:=Tryz.zeroValue228
 t116:=Tryz.underlying209
 a116:=Tryz.isAgg209
 z116:=Tryz.sizeOf209
 t117:=Tryz.underlying210
 a117:=Tryz.isAgg210
 z117:=Tryz.sizeOf210
 v117:=Tryz.zeroValue210
 t119:=Tryz.underlying241
 a119:=Tryz.isAgg241
 z119:=Tryz.sizeOf241
 t124:=Tryz.underlying213
 a124:=Tryz.isAgg213
 z124:=Tryz.sizeOf213
 v124:=Tryz.zeroValue213
 t138:=Tryz.underlying243
 a138:=Tryz.isAgg243
 z138:=Tryz.sizeOf243
 v138:=Tryz.zeroValue243
 t139:=Tryz.underlying244
 a139:=Tryz.isAgg244
 z139:=Tryz.sizeOf244
 v139:=Tryz.zeroValue244
 g3:=by kernel_rfl
 g4:=by kernel_rfl }
def Tryz.lays219_ren:Go.Shelf.Ren:=⟨fun | 217=>155 | 219=>138 | 224=>157 | 225=>156 | 266=>167 | 267=>158 | 314=>168 | n=>n,fun | 22=>75 | 23=>196 | 27=>121 | 28=>24 | 31=>148 | 34=>30 | 37=>155 | 40=>245 | 41=>88 | 42=>147 | 43=>120 | 46=>206 | 47=>205 | 51=>224 | 52=>223 | 53=>34 | 54=>225 | 55=>226 | 59=>180 | 60=>181 | 63=>230 | 64=>238 | 68=>149 | 69=>157 | 80=>246 | 81=>115 | 104=>74 | 105=>228 | 106=>229 | 111=>73 | 112=>145 | 114=>227 | 115=>208 | 116=>209 | 117=>210 | 118=>211 | 119=>241 | 122=>207 | 123=>212 | 124=>213 | 127=>198 | 131=>221 | 137=>242 | 138=>243 | 139=>244 | 146=>236 | 151=>237 | 164=>265 | 182=>216 | 183=>217 | 218=>231 | 219=>232 | 220=>233 | 222=>136 | 228=>239 | 229=>54 | 238=>247 | 239=>248 | 240=>249 | 241=>250 | 242=>251 | 243=>252 | 244=>253 | 245=>254 | 246=>255 | 247=>256 | 248=>257 | 249=>258 | n=>n,fun | 1=>0 | 3=>1 | 4=>2 | n=>n⟩
set_option maxRecDepth 100000 in
theorem Tryz.lays219:Go.Proofs.Lays.n219 Tryz.prog Tryz.lays219_ren:={
 mixed:=by kernel_rfl
 f217:=Tryz.func155.trans (congrArg some (by kernel_rfl))
 f219:=Tryz.func138.trans (congrArg some (by kernel_rfl))
 f224:=Tryz.func157.trans (congrArg some (by kernel_rfl))
 f225:=Tryz.func156.trans (congrArg some (by kernel_rfl))
 f266:=Tryz.func167.trans (congrArg some (by kernel_rfl))
 f267:=Tryz.func158.trans (congrArg some (by kernel_rfl))
 f314:=Tryz.func168.trans (congrArg some (by kernel_rfl))
 t3:=Tryz.underlying3
 a3:=Tryz.isAgg3
 z3:=Tryz.sizeOf3
 v3:=Tryz.zeroValue3
 t4:=Tryz.underlying4
 a4:=Tryz.isAgg4
 z4:=Tryz.sizeOf4
 v4:=Tryz.zeroValue4
 t5:=Tryz.underlying5
 a5:=Tryz.isAgg5
 z5:=Tryz.sizeOf5
 v5:=Tryz.zeroValue5
 t9:=Tryz.underlying9
 a9:=Tryz.isAgg9
 z9:=Tryz.sizeOf9
 v9:=Tryz.zeroValue9
 t46:=Tryz.underlying206
 a46:=Tryz.isAgg206
 z46:=Tryz.sizeOf206
 v46:=Tryz.zeroValue206
 t51:=Tryz.underlying224
 a51:=Tryz.isAgg224
 z51:=Tryz.sizeOf224
 v51:=Tryz.zeroValue224
 t146:=Tryz.underlying236
 a146:=Tryz.isAgg236
 z146:=Tryz.sizeOf236
 v146:=Tryz.zeroValue236
 g1:=by kernel_rfl }
end Go.Proofs
namespace Go.Proofs.YticgahdffjnabaaGreatDoor
open Go.RowKit
theorem cmpInt_any (x y:Int) (w:World):Calls Tryz.prog 74 #[.int .i64 x,.int .i64 y] w fun e w'=>e=.returned (.int .i64 (Lib.compareInt x y))/\w'=w:=Any.cmp_Compare_int Tryz.lays122 x y w
theorem trim_any (s:ByteArray) (w:World):Calls Tryz.prog 122 #[.string s,.string ⟨#[48]⟩] w fun e w'=>e=.returned (.string ⟨(bareT s.data.toList).toArray⟩)/\w'=w:=Any.strings_TrimLeft_one Tryz.lays161 s 48 (by decide) w
theorem index_any (s:ByteArray) (w:World):Calls Tryz.prog 138 #[.string s,.string ⟨#[46]⟩] w fun e w'=>e=.returned (.int .i64 (Lib.indexByte s.data.toList 46))/\w'=w:=Any.stringslite_Index_one Tryz.lays219 s 46 w
theorem less_cmp:∀(a b:List UInt8),(Op.bytesLess a b=true->Lib.compareBytes a b=-1)/\(Op.bytesLess a b=false->(a == b)=false->Lib.compareBytes a b=1)/\((a == b)=true->Lib.compareBytes a b=0)
 | [],[]=>by simp [Op.bytesLess,Lib.compareBytes]
 | [],_ :: _=>by simp [Op.bytesLess,Lib.compareBytes]
 | _ :: _,[]=>by simp [Op.bytesLess,Lib.compareBytes]
 | x :: a,y :: b=>by
  obtain ⟨h1,h2,h3⟩:=less_cmp a b;unfold Op.bytesLess Lib.compareBytes
  by_cases hlt:x < y
  ·have hne:¬ x=y:=fun e=>by rw [e] at hlt;exact UInt8.lt_irrefl y hlt
   simp [hlt,hne]
  ·by_cases heq:x=y
   ·subst heq;simp only [hlt,decide_false,Bool.false_or,beq_self_eq_true,Bool.true_and,if_false];refine ⟨h1,fun p q=>h2 p (by simpa using q),fun q=>h3 (by simpa using q)⟩
   ·have hgt:y < x:=UInt8.lt_of_le_of_ne (UInt8.not_lt.1 hlt) (Ne.symm heq);simp [hlt,heq,hgt]
theorem less_m1 {a b:ByteArray} (h:Op.bytesLess a.toList b.toList=true):Lib.compareBytes a.data.toList b.data.toList=-1:=by
 rw [Lib.toList_data,Lib.toList_data] at h;exact (less_cmp _ _).1 h
theorem less_p1 {a b:ByteArray} (h:Op.bytesLess a.toList b.toList=false) (h':(!a.toList == b.toList)=true):Lib.compareBytes a.data.toList b.data.toList=1:=by
 rw [Lib.toList_data,Lib.toList_data] at h h';exact (less_cmp _ _).2.1 h (by simpa using h')
theorem less_0 {a b:ByteArray} (h':(!a.toList == b.toList)=false):Lib.compareBytes a.data.toList b.data.toList=0:=by
 rw [Lib.toList_data,Lib.toList_data] at h';exact (less_cmp _ _).2.2 (by simpa using h')
theorem nanN_any (s:ByteArray) (w:World):Calls Tryz.prog 191 #[.string s] w fun e w'=>e=.returned (.bool false)/\w'=w:=by
 go_enter Tryz.func191,Tryz.ntmps191;go_wp2;go_ret;exact ⟨rfl,rfl⟩
theorem cmpN_any (a b:ByteArray) (w:World):Calls Tryz.prog 190 #[.string a,.string b] w fun e w'=>e=.returned (.int .i64 (Lib.compareBytes a.data.toList b.data.toList))/\w'=w:=by
 cases h1:Op.bytesLess a.toList b.toList with
 | true =>
  rw [less_m1 h1];go_enter Tryz.func190,Tryz.ntmps190;go_wp2_with (go_at_call 191;refine (nanN_any _ _).mono ?_;rintro e w' ⟨rfl,rfl⟩);go_ret;exact ⟨rfl,rfl⟩
 | false =>
  cases h2:(!a.toList == b.toList) with
  | true =>
   rw [less_p1 h1 h2];go_enter Tryz.func190,Tryz.ntmps190;go_wp2_with (go_at_call 191;refine (nanN_any _ _).mono ?_;rintro e w' ⟨rfl,rfl⟩);go_ret;exact ⟨rfl,rfl⟩
  | false =>
   rw [less_0 h2];go_enter Tryz.func190,Tryz.ntmps190;go_wp2_with (go_at_call 191;refine (nanN_any _ _).mono ?_;rintro e w' ⟨rfl,rfl⟩);go_ret;exact ⟨rfl,rfl⟩
theorem nanW_any (s:ByteArray) (w:World):Calls Tryz.prog 194 #[.string s] w fun e w'=>e=.returned (.bool false)/\w'=w:=by
 go_enter Tryz.func194,Tryz.ntmps194;go_wp2;go_ret;exact ⟨rfl,rfl⟩
theorem cmpW_any (a b:ByteArray) (w:World):Calls Tryz.prog 193 #[.string a,.string b] w fun e w'=>e=.returned (.int .i64 (Lib.compareBytes a.data.toList b.data.toList))/\w'=w:=by
 cases h1:Op.bytesLess a.toList b.toList with
 | true =>
  rw [less_m1 h1];go_enter Tryz.func193,Tryz.ntmps193;go_wp2_with (go_at_call 194;refine (nanW_any _ _).mono ?_;rintro e w' ⟨rfl,rfl⟩);go_ret;exact ⟨rfl,rfl⟩
 | false =>
  cases h2:(!a.toList == b.toList) with
  | true =>
   rw [less_p1 h1 h2];go_enter Tryz.func193,Tryz.ntmps193;go_wp2_with (go_at_call 194;refine (nanW_any _ _).mono ?_;rintro e w' ⟨rfl,rfl⟩);go_ret;exact ⟨rfl,rfl⟩
  | false =>
   rw [less_0 h2];go_enter Tryz.func193,Tryz.ntmps193;go_wp2_with (go_at_call 194;refine (nanW_any _ _).mono ?_;rintro e w' ⟨rfl,rfl⟩);go_ret;exact ⟨rfl,rfl⟩
end Go.Proofs.YticgahdffjnabaaGreatDoor
