import Derived.Test.YtnnbgjaphfhibaaGreatDoorN01
import Derived.Below
import Derived.Lib.ConvBytes
import Derived.Test.YtnnbgjaphfhibaaGreatDoorN05
set_option linter.unusedVariables false
set_option linter.unusedSimpArgs false
set_option maxRecDepth 100000
set_option maxHeartbeats 6400000
open Go.Proofs.Tryz
namespace Go.Proofs.YtnnbgjaphfhibaaGreatDoor
open Go.RowKit
theorem zU{w w':World}(h:w.grownBy w' none):Below w.heap.size w w':=⟨h.os,h.tape,h.output,h.size,fun k hk=>h.block k hk (by simp)⟩
theorem Ak{w w':World}{r:Option Nat}(h:w.drew.grownBy w' r):w.grownBy w' r:=⟨h.os,h.tape,h.output,h.size,h.block⟩
theorem dn{w w':World}(h:w.grownBy w' none)(o:Obj):w.grownBy (w'.alloc o) none :=
 ⟨h.os,h.tape,h.output,by have:=h.size;simp;omega,fun k hk hn=>by rw[Lib.alloc_old _ _ _ (Nat.lt_of_lt_of_le hk h.size)];exact h.block k hk hn⟩
theorem Jd(w:World)(e:TypeId)(s:ByteArray):w.grownBy (Lib.bytesWorld w e s) none :=
 ⟨rfl,rfl,rfl,by rw[Lib.bytesWorld_size];omega,fun k hk _=>Lib.bytesWorld_at_old w e s k hk⟩
theorem EH{w w':World}(h:w.grownBy w' none)(r:Option Nat):w.grownBy w' r:=⟨h.os,h.tape,h.output,h.size,fun k hk _=>h.block k hk (by simp)⟩
theorem PH(s:ByteArray)(w:World)(hs:s.size<2 ^ 62) :
  Calls prog 236 #[.string s] w fun e w'=>e=.returned (.bool (nY s.data.toList))/\w.grownBy w' none:=by
 have kc:=fun(w:World)=>Lib.run_convert_string_bytes (P:=prog) w 9 90 5 s underlying9 underlying90 underlying5
 obtain⟨W,hW⟩:=zN (Lib.bytesWorld w 5 s);have HC:Hd (∀j,(hj:j<s.size)->W.cell? ⟨w.heap.size,j,none⟩=some (.int .u8 (s[j].toNat:Int))):=by
  show ∀j,(hj:j<s.size)->W.cell? ⟨w.heap.size,j,none⟩=some (.int .u8 (s[j].toNat:Int));intro j hj;rw[<-hW,Lib.bytesWorld_cell w _ s j hj];have:s.data.toList.getD j 0=s[j]:=by
   rw[List.getD_eq_getElem?_getD,kR s j hj];rfl
  rw[this]
 have HG:Hd (w.grownBy W none):=by show w.grownBy W none;rw[<-hW];exact Jd w _ s
 have kw:=kc w;rw[hW]at kw;clear kc hW;go_enter func236,ntmps236;go_wp2
 go_loop [8] (fun i=>∃k:Nat,k<=s.size/\i=.int .i64 k/\∀j,(hj:j<s.size)->j<k->aI s[j]=true) (fun i=>s.size-(intOf i).toNat)
 case atStart=>exact⟨0,Nat.zero_le _,rfl,fun j hj h=>absurd h (by omega)⟩
 case round =>
  obtain⟨k,hk,rfl,hp⟩:=hrel;have HP:Hd (∀j,(hj:j<s.size)->j<k->aI s[j]=true):=hp;clear hp
  by_cases hlt:k<s.size
  ·have ck:=HC.o k hlt
   cases hd:aI s[k] with
   | true =>
    go_wp2_with (go_at_call 224;refine(xh _ _).mono ?_;rintro e w' ⟨rfl,rfl⟩)
    go_round
    case rel =>
     refine⟨k+1,by omega,by go_num,fun j hj hjk=>?_⟩
     by_cases hjk':j<k
     ·exact HP.o j hj hjk'
     ·have e:j=k:=by omega
      subst e;exact hd
    case measure=>simp[intOf];omega
   | false =>
    have HN:Hd (nY s.data.toList=false):=by
     show nY s.data.toList=false;unfold nY;have:s.data.toList.all aI=false:=by
      rw[List.all_eq_false];exact⟨s[k],List.mem_of_getElem? (kR s k hlt),by simp[hd]⟩
     rw[this,Bool.and_false]
    go_wp2_with (go_at_call 224;refine(xh _ _).mono ?_;rintro e w' ⟨rfl,rfl⟩);go_ret;exact⟨bV HN.o.symm,HG.o⟩
  ·have hks:k=s.size:=by omega
   have HA:Hd (s.data.toList.all aI=true):=by
    show s.data.toList.all aI=true;rw[List.all_eq_true];intro c hc;obtain⟨j,hj,rfl⟩:=List.getElem_of_mem hc;exact HP.o j (by simpa using hj) (by simp at hj;have:s.size=s.data.size:=rfl;omega)
   clear hks hk;go_wp2;go_ret;refine⟨bV ?_,HG.o⟩;unfold nY;rw[Lib.toList_data,HA.o,Bool.and_true]
theorem XP(s:ByteArray)(k:Nat)(hk:k<=s.size)(w:World) :
  (Instr.slice 9 (.string s) (some (.int .i64 (k:Int))) none none).run prog w=.ok (.string ⟨(s.data.toList.drop k).toArray⟩) w:=by
 have h1:(0:Int)<=(k:Int):=by omega
 have h5:(k:Int)<=(s.size:Int):=by omega
 have e:s.extract k s.size=⟨(s.data.toList.drop k).toArray⟩:=by
  apply ByteArray.ext;rw[ByteArray.data_extract];apply Array.ext';simp;exact List.take_of_length_le (by simp)
 rw[<-e];simp[go_sem,underlying9,h1,h5]
open Go.RowKit
def St(A:Nat)(a1 a2 a3:Int)(a4 a5:ByteArray)(w:World):Prop:=w.cell? ⟨A,0,none⟩=some (.int .i64 a1)/\w.cell? ⟨A,1,none⟩=some (.int .i64 a2)/\w.cell? ⟨A,2,none⟩=some (.int .i64 a3)/\w.cell? ⟨A,3,none⟩=some (.string a4)/\w.cell? ⟨A,4,none⟩=some (.string a5)
theorem St.grow{A:Nat}{a1 a2 a3:Int}{a4 a5:ByteArray}{w w':World}(h:St A a1 a2 a3 a4 a5 w)(hg:w.grownBy w' none):St A a1 a2 a3 a4 a5 w' :=
 ⟨hg.cell h.1 (by simp),hg.cell h.2.1 (by simp),hg.cell h.2.2.1 (by simp),hg.cell h.2.2.2.1 (by simp),hg.cell h.2.2.2.2 (by simp)⟩
open Go.RowKit
def VX(v:Nat)(y1 y2 y3:Int)(x4 x5:ByteArray)(w:World):Prop:=w.heap[v]?=some (.cells #[.int .i64 y1,.int .i64 y2,.int .i64 y3,.string x4,.string x5] 147 (0,0))
theorem VX.cells{v:Nat}{y1 y2 y3:Int}{x4 x5:ByteArray}{w:World}(h:VX v y1 y2 y3 x4 x5 w):w.cell? ⟨v,0,none⟩=some (.int .i64 y1)/\w.cell? ⟨v,1,none⟩=some (.int .i64 y2)/\w.cell? ⟨v,2,none⟩=some (.int .i64 y3)/\w.cell? ⟨v,3,none⟩=some (.string x4)/\w.cell? ⟨v,4,none⟩=some (.string x5) :=
 ⟨by rw[af h];rfl,by rw[af h];rfl,by rw[af h];rfl,by rw[af h];rfl,by rw[af h];rfl⟩
theorem VX.f{v:Nat}{y1 y2 y3:Int}{x4 x5:ByteArray}{w:World}(h:VX v y1 y2 y3 x4 x5 w)(o:Nat):w.frozen? ⟨v,o,none⟩=false:=Lib.frozen_of_heap h o
theorem VX.grow{b v:Nat}{y1 y2 y3:Int}{x4 x5:ByteArray}{w w':World}(h:VX v y1 y2 y3 x4 x5 w)(hg:w.grownBy w' (some b))(hn:v≠b):VX v y1 y2 y3 x4 x5 w':=by
 unfold VX at h ⊢;rw[hg.block v ((kG h)) (by simpa using hn)];exact h
theorem VX.set3{v:Nat}{y1 y2 y3:Int}{x4 x5:ByteArray}{w:World}(h:VX v y1 y2 y3 x4 x5 w)(z:ByteArray):VX v y1 y2 y3 z x5 (w.setCell ⟨v,3,none⟩ (.string z)):=by
 unfold VX at h ⊢;simp[World.setCell,Array.getElem?_modify,h]
theorem VX.set4{v:Nat}{y1 y2 y3:Int}{x4 x5:ByteArray}{w:World}(h:VX v y1 y2 y3 x4 x5 w)(z:ByteArray):VX v y1 y2 y3 x4 z (w.setCell ⟨v,4,none⟩ (.string z)):=by
 unfold VX at h ⊢;simp[World.setCell,Array.getElem?_modify,h]
theorem VX.other{v u:Nat}{y1 y2 y3:Int}{x4 x5:ByteArray}{w:World}(h:VX v y1 y2 y3 x4 x5 w)(hn:v≠u)(o:Nat)(x:Value):VX v y1 y2 y3 x4 x5 (w.setCell ⟨u,o,none⟩ x):=by
 unfold VX at h ⊢;rw[<-h];exact heap_setCell_other w _ v x hn
def tV(w:World)(A:Nat)(y1 y2 y3:Int)(x4 x5:ByteArray):World:=((((w.setCell ⟨A,0,none⟩ (.int .i64 y1)).setCell ⟨A,1,none⟩ (.int .i64 y2)).setCell ⟨A,2,none⟩ (.int .i64 y3)).setCell ⟨A,3,none⟩ (.string x4)).setCell ⟨A,4,none⟩ (.string x5)
theorem Je{w:World}{A:Nat}{z1 z2 z3:Int}{z4 z5:ByteArray}(h:VX A z1 z2 z3 z4 z5 w)(y1 y2 y3:Int)(x4 x5:ByteArray):VX A y1 y2 y3 x4 x5 (tV w A y1 y2 y3 x4 x5):=by
 unfold VX at h ⊢;unfold tV;simp[World.setCell,Array.getElem?_modify,h]
theorem xx{b A:Nat}{w W:World}(h:w.grownBy W (some b))(hA:w.heap.size<=A)(o:Nat)(x:Value):w.grownBy (W.setCell ⟨A,o,none⟩ x) (some b) :=
 ⟨h.os,h.tape,h.output,by simpa [World.setCell] using h.size,fun k hk hn=>by rw[<-h.block k hk hn];exact heap_setCell_other W _ k x (by simp;omega)⟩
theorem XQ{b A:Nat}{w W:World}(h:w.grownBy W (some b))(hA:w.heap.size<=A)(y1 y2 y3:Int)(x4 x5:ByteArray):w.grownBy (tV W A y1 y2 y3 x4 x5) (some b):=xx (xx (xx (xx (xx h hA _ _) hA _ _) hA _ _) hA _ _) hA _ _
theorem EI{P:Program}{fn:Func}{p u:Tmp}{ty:TypeId}(h:fn.results=#[.cell p ty,.tmp u])(tmps:Array Value)(w:World)(g:Nat)(t:TypeId)(cs:Array Value)(fr:Nat × Nat)(d:TypeDesc)
  (hp:tmps.getD p undef=.pointer (some ⟨g,0,none⟩)) (hg:w.heap[g]?=some (.cells cs t fr)) (hu:P.underlying ty=some d) (hd:(match d with | .struct _ | .array _ _=>true|_=>false)=true) (hi:(P.info? ty).map (·.size)=some cs.size) :
  (results fn tmps).run P w=.ok (.tuple #[.agg cs,tmps.getD u undef]) w:=by
 rw[results_cell_tmp h,hp];simp[asAddr,run_loadVar_row w g t ty cs fr d hg hu hd hi,Result.andThen]
theorem oW{P:Program}{fn:Func}{p u r:Tmp}{ty:TypeId}(h:fn.results=#[.cell p ty,.tmp u,.tmp r])(tmps:Array Value)(w:World)(g:Nat)(t:TypeId)(cs:Array Value)(fr:Nat × Nat)(d:TypeDesc)
  (hp:tmps.getD p undef=.pointer (some ⟨g,0,none⟩)) (hg:w.heap[g]?=some (.cells cs t fr)) (hu:P.underlying ty=some d) (hd:(match d with | .struct _ | .array _ _=>true|_=>false)=true) (hi:(P.info? ty).map (·.size)=some cs.size) :
  (results fn tmps).run P w=.ok (.tuple #[.agg cs,tmps.getD u undef,tmps.getD r undef]) w:=by
 have hp':tmps[p]?.getD undef=.pointer (some ⟨g,0,none⟩):=by simpa using hp
 simp[results,h,Result.andThen,hp',asAddr,run_loadVar_row w g t ty cs fr d hg hu hd hi]
theorem uV{A:Nat}{w W:World}(h:w.grownBy W none)(hA:w.heap.size<=A)(o:Nat)(x:Value):w.grownBy (W.setCell ⟨A,o,none⟩ x) none :=
 ⟨h.os,h.tape,h.output,by simpa [World.setCell] using h.size,fun k hk hn=>by rw[<-h.block k hk hn];exact heap_setCell_other W _ k x (by simp;omega)⟩
theorem rH{A:Nat}{w W:World}(h:w.grownBy W none)(hA:w.heap.size<=A)(y1 y2 y3:Int)(x4 x5:ByteArray):w.grownBy (tV W A y1 y2 y3 x4 x5) none:=uV (uV (uV (uV (uV h hA _ _) hA _ _) hA _ _) hA _ _) hA _ _
open Go.RowKit
theorem PI(c:UInt8)(w:World):Calls prog 235 #[.int .u8 (c.toNat:Int)] w fun e w'=>e=.returned (.bool (aY c))/\w'=w:=by
 go_enter func235,ntmps235;go_wp2_with (go_at_call 224;refine(xh _ _).mono ?_;rintro e w' ⟨rfl,rfl⟩)
 all_goals go_ret
 all_goals (refine⟨bV ?_,rfl⟩;rw[Bool.eq_iff_iff];unfold aY;simp_all;try omega)
def RS(b:Nat)(s:ByteArray)(i:Nat)(w:World):Prop:=∃t,w.heap[b]?=some (.cells #[.string s,.int .i64 (i:Int)] t (0,0))
theorem RS.c0{b:Nat}{s:ByteArray}{i:Nat}{w:World}(h:RS b s i w):w.cell? ⟨b,0,none⟩=some (.string s):=by obtain⟨t,h⟩:=h;rw[af h];rfl
theorem RS.c1{b:Nat}{s:ByteArray}{i:Nat}{w:World}(h:RS b s i w):w.cell? ⟨b,1,none⟩=some (.int .i64 (i:Int)):=by obtain⟨t,h⟩:=h;rw[af h];rfl
theorem RS.f1{b:Nat}{s:ByteArray}{i:Nat}{w:World}(h:RS b s i w):w.frozen? ⟨b,1,none⟩=false:=by obtain⟨t,h⟩:=h;exact Lib.frozen_of_heap h 1
theorem RS.drew{b:Nat}{s:ByteArray}{i:Nat}{w:World}(h:RS b s i w)(n:Nat):RS b s i (w.drewN n):=h
theorem RS.set{b:Nat}{s:ByteArray}{i:Nat}{w:World}(h:RS b s i w)(j:Nat):RS b s j (w.setCell ⟨b,1,none⟩ (.int .i64 (j:Int))):=by
 obtain⟨t,h⟩:=h;exact⟨t,by simp[World.setCell,Array.getElem?_modify,h]⟩
theorem XR(s p:ByteArray)(w:World) :
  Calls prog 234 #[.string s,.string p] w fun e w'=>e=.returned (.bool (Lib.hasPrefix s.data.toList p.data.toList))/\w'=w:=Any.strings_HasPrefix Tryz.lays99 s p w
theorem next_any(b:Nat)(s t:ByteArray)(i:Nat)(w:World)(hi:i<=s.size)(h:RS b s i w) :
  Calls prog 222 #[.pointer (some ⟨b,0,none⟩),.string t] w fun e w'=>e=.returned (.bool (Lib.hasPrefix (s.data.toList.drop i) t.data.toList))/\∃n,w'=w.drewN n:=by
 have h0:=h.c0;have h1:=h.c1;obtain⟨X,hX⟩:∃X:ByteArray,X=⟨(s.data.toList.drop i).toArray⟩:=⟨_,rfl⟩;have sl:∀wx,(Instr.slice 9 (.string s) (some (.int .i64 (i:Int))) none none).run prog wx=.ok (.string X) wx:=fun wx=>by rw[hX];exact XP s i hi wx
 obtain⟨p,hp⟩:=zN (Lib.hasPrefix (s.data.toList.drop i) t.data.toList);have CP:Hd (∀w,Calls prog 234 #[.string X,.string t] w fun e w'=>e=.returned (.bool p)/\w'=w):=fun w=>by
  rw[<-hp];have:=XR X t w;rw[hX]at this ⊢;exact this
 rw[hp];clear h hX hp hi;go_enter func222,ntmps222;go_wp2;go_quiet (first|(go_at_call 234;exact Calls.quiet_of_same (CP.o _)));go_wp2;go_ret;exact⟨rfl,_,rfl⟩
theorem take_any(b:Nat)(s t:ByteArray)(i:Nat)(w:World)(hi:i<=s.size)(h:RS b s i w)(hs:s.size<2 ^ 62)(ht:t.size<2 ^ 62) :
  Calls prog 205 #[.pointer (some ⟨b,0,none⟩),.string t] w fun e w'=>e=.returned (.bool (Lib.hasPrefix (s.data.toList.drop i) t.data.toList))/\RS b s (if Lib.hasPrefix (s.data.toList.drop i) t.data.toList then i+t.size else i) w'/\w.grownBy w' (some b):=by
 obtain⟨p,hp⟩:=zN (Lib.hasPrefix (s.data.toList.drop i) t.data.toList);have CN:Hd (Calls prog 222 #[.pointer (some ⟨b,0,none⟩),.string t] w fun e w'=>e=.returned (.bool p)/\∃n,w'=w.drewN n):=by
  show Calls _ _ _ _ _;rw[<-hp];exact next_any b s t i w hi h
 rw[hp];have HR:Hd (RS b s i w):=h;have hw:IntKind.i64.wrap ((i:Int)+(t.size:Int))=((i+t.size:Nat):Int):=by rw[IntKind.wrap_i64];omega
 clear hp h hs ht hi
 cases p with
 | true =>
  go_enter func205,ntmps205;go_wp2_with (go_at_call 222;refine CN.o.mono ?_);rintro e w1 ⟨rfl,n,hn⟩;have HR1:Hd (RS b s i w1):=by show RS b s i w1;rw[hn];exact HR.o.drew n
  have ay:Hd (w.grownBy w1 (some b)):=by show w.grownBy w1 (some b);rw[hn];exact au (ak w _) n
  have d1:=HR1.o.c1;have df:=HR1.o.f1;clear hn;go_wp2;go_ret;exact⟨rfl,HR1.o.set (i+t.size),aV ay.o _ _⟩
 | false =>
  go_enter func205,ntmps205;go_wp2_with (go_at_call 222;refine CN.o.mono ?_);rintro e w1 ⟨rfl,n,hn⟩;have HR1:Hd (RS b s i w1):=by show RS b s i w1;rw[hn];exact HR.o.drew n
  have ay:Hd (w.grownBy w1 (some b)):=by show w.grownBy w1 (some b);rw[hn];exact au (ak w _) n
  clear hn;go_wp2;go_ret;exact⟨rfl,HR1.o,ay.o⟩
theorem XT(b:Nat)(s:ByteArray)(i:Nat)(w:World)(h:RS b s i w) :
  Calls prog 169 #[.pointer (some ⟨b,0,none⟩)] w fun e w'=>e=.returned (.bool (decide (i=s.size)))/\∃n,w'=w.drewN n:=by
 have h0:=h.c0;have h1:=h.c1;clear h
 by_cases hc:i=s.size
 ·have hd:((i:Int) == (s.size:Int))=true:=by simp;omega
  have HD:Hd (decide (i=s.size)=true):=decide_eq_true hc;rw[HD.o];clear hc;go_enter func169,ntmps169;go_wp2;go_quiet (fail);go_wp2;go_ret;exact⟨rfl,_,rfl⟩
 ·have hd:((i:Int) == (s.size:Int))=false:=by simp;omega
  have HD:Hd (decide (i=s.size)=false):=decide_eq_false hc;rw[HD.o];clear hc;go_enter func169,ntmps169;go_wp2;go_quiet (fail);go_wp2;go_ret;exact⟨rfl,_,rfl⟩
theorem PK(l:List UInt8)(i:Nat)(c:UInt8):Lib.hasPrefix (l.drop i) [c]=decide (l[i]?=some c):=by
 have e:l[i]?=(l.drop i)[0]?:=by rw[List.getElem?_drop];rfl
 rw[e]
 cases l.drop i with
 | nil=>rfl
 | cons x r =>
  show(c == x && true)=decide (some x=some c);rw[Bool.and_true]
  by_cases h:x=c
  ·subst h;rw[decide_eq_true rfl];exact beq_self_eq_true x
  ·rw[decide_eq_false (fun e=>h (Option.some.inj e))];exact beq_eq_false_iff_ne.2 (fun e=>h e.symm)
theorem Am(b:Nat)(s:ByteArray)(i:Nat)(c:UInt8)(w:World)(hc:s.data.toList[i]?=some c)(h:RS b s i w)(hs:s.size<2 ^ 62) :
  Calls prog 205 #[.pointer (some ⟨b,0,none⟩),.string ⟨#[c]⟩] w fun e w'=>e=.returned (.bool true)/\RS b s (i+1) w'/\w.grownBy w' (some b):=by
 have hlt:i<s.size:=by have:=(List.getElem?_eq_some_iff.1 hc).1;simpa using this
 have:=take_any b s ⟨#[c]⟩ i w (Nat.le_of_lt hlt) h hs (by show 1 < _;decide);rw[show(ByteArray.mk #[c]).data.toList=[c] from rfl,PK,decide_eq_true hc]at this;exact this
theorem Ap(b:Nat)(s:ByteArray)(i:Nat)(c:UInt8)(w:World)(hi:i<=s.size)(hc:¬s.data.toList[i]?=some c)(h:RS b s i w)(hs:s.size<2 ^ 62) :
  Calls prog 205 #[.pointer (some ⟨b,0,none⟩),.string ⟨#[c]⟩] w fun e w'=>e=.returned (.bool false)/\RS b s i w'/\w.grownBy w' (some b):=by
 have:=take_any b s ⟨#[c]⟩ i w hi h hs (by show 1 < _;decide);rw[show(ByteArray.mk #[c]).data.toList=[c] from rfl,PK,decide_eq_false hc]at this;exact this
open Go.RowKit
def placeOf(b:Nat)(w:World):Nat:=match w.cell? ⟨b,1,none⟩ with|some (.int .i64 x)=>x.toNat|_=>0
theorem RS.place{b:Nat}{s:ByteArray}{i:Nat}{w:World}(h:RS b s i w):placeOf b w=i:=by unfold placeOf;rw[h.c1];simp
theorem XU(b:Nat)(s:ByteArray)(i:Nat)(w:World)(hi:i<=s.size)(h:RS b s i w)(hs:s.size<2 ^ 62) :
  Calls prog 223 #[.pointer (some ⟨b,0,none⟩),.func (.func 224) #[] #[]] w fun e w'=>e=.returned (.string ⟨(ag s.data.toList i (runN aI s.data.toList i)).toArray⟩)/\RS b s (i+runN aI s.data.toList i) w'/\w.grownBy w' (some b):=by
 have h0:=h.c0;have h1:=h.c1;have HR:Hd (RS b s i w):=h;obtain⟨N,hN⟩:=zN (i+runN aI s.data.toList i);have HN:Hd (N<=s.size):=by
  show N<=s.size;have:=rD aI s.data.toList i (by simpa using hi);simp at this;omega
 have HA:Hd (∀j,i<=j->(hj:j<s.size)->j<N->aI s[j]=true):=by
  show ∀j,i<=j->(hj:j<s.size)->j<N->aI s[j]=true;intro j h1 hj h2;obtain⟨g1,g2⟩:=II aI s.data.toList i (j-i) (by omega);have e:i+(j-i)=j:=by omega
  simp only[e]at g2;exact g2
 have HS:Hd (∀hj:N<s.size,aI s[N]=false):=by
  show ∀hj:N<s.size,aI s[N]=false;intro hj;have:=Eh aI s.data.toList i (by rw[hN];simpa using hj);simp only[hN]at this;exact this
 have HT:Hd (runN aI s.data.toList i=N-i/\i<=N):=⟨by omega,by omega⟩;have HI:Hd (i<=s.size):=hi;rw[show runN aI s.data.toList i=N-i by omega];obtain⟨X,hX⟩:∃X:List UInt8,X=ag s.data.toList i (N-i):=⟨_,rfl⟩;have hsl:∀wx,(Instr.slice 9 (.string s) (some (.int .i64 (i:Int))) (some (.int .i64 (N:Int))) none).run prog wx=.ok (.string ⟨X.toArray⟩) wx:=fun wx=>by rw[hX];exact kS s i N (by omega) HN.o wx
 rw[<-hX,show i+(N-i)=N by omega];clear h hN hi hX;go_enter func223,ntmps223;go_wp2;go_loopw [] (fun wr=>∃j:Nat,i<=j/\j<=N/\RS b s j wr/\w.grownBy wr (some b)) (fun wr=>s.size-placeOf b wr)
 case atStart=>exact⟨i,Nat.le_refl _,HT.o.2,HR.o,ak _ _⟩
 case round =>
  obtain⟨j,hij,hjn,hrs,hgb⟩:=hrel;have d0:=hrs.c0;have d1:=hrs.c1;have df:=hrs.f1;have dD:Hd (RS b s j wr):=hrs;have aG:Hd (w.grownBy wr (some b)):=hgb;have hns:=HN.o;clear hrs hgb h0 h1
  by_cases hlt:j<N
  ·have hjs:j<s.size:=by omega
   have hD:aI s[j]=true:=HA.o j hij hjs hlt;have HK:Hd (i<=j/\j<N):=⟨hij,hlt⟩;clear hlt hjn hns hij;have hlt2:(j:Int)<(s.size:Int):=by omega
   go_wp2;go_quiet (first|(go_at_call 224;exact Calls.quiet_of_same (xh _ _)));go_wp2;go_roundw
   case rel =>
    have:=HK.o;exact⟨j+1,by omega,by omega,(dD.o.drew _).set (j+1),aV (au aG.o _) _ _⟩
   case measure =>
    have e1:=dD.o.place;have e2:=((dD.o.drew nq).set (j+1)).place;rw[e1];exact Nat.lt_of_le_of_lt (Nat.le_of_eq (congrArg (s.size - ·) e2)) (by omega)
  ·have hjN:j=N:=by omega
   subst hjN
   by_cases hjs:j<s.size
   ·have hD:aI s[j]=false:=HS.o hjs;have hlt2:(j:Int)<(s.size:Int):=by omega
    clear hlt hjn hns hij;go_wp2;go_quiet (first|(go_at_call 224;exact Calls.quiet_of_same (xh _ _)));go_wp2;obtain⟨W,hW⟩:=zN (wr.drewN nq);have e0:W.cell? ⟨b,0,none⟩=some (.string s):=by rw[<-hW];exact d0
    have e1:W.cell? ⟨b,1,none⟩=some (.int .i64 (j:Int)):=by rw[<-hW];exact d1
    have HW:Hd (RS b s j W/\w.grownBy W (some b)):=by
     show RS b s j W/\w.grownBy W (some b);rw[<-hW];exact⟨dD.o.drew _,au aG.o _⟩
    rw[hW];clear hW d0 d1 df dD aG;go_quiet (fail);go_wp2;go_ret;exact⟨rfl,HW.o.1.drew _,au HW.o.2 _⟩
   ·have hd2:decide ((j:Int)<(s.size:Int))=false:=by simp;omega
    clear hlt hjn hns hij;go_wp2;go_quiet (fail);go_wp2;obtain⟨W,hW⟩:=zN (wr.drewN nq);have e0:W.cell? ⟨b,0,none⟩=some (.string s):=by rw[<-hW];exact d0
    have e1:W.cell? ⟨b,1,none⟩=some (.int .i64 (j:Int)):=by rw[<-hW];exact d1
    have HW:Hd (RS b s j W/\w.grownBy W (some b)):=by
     show RS b s j W/\w.grownBy W (some b);rw[<-hW];exact⟨dD.o.drew _,au aG.o _⟩
    rw[hW];clear hW d0 d1 df dD aG;go_quiet (fail);go_wp2;go_ret;exact⟨rfl,HW.o.1.drew _,au HW.o.2 _⟩
theorem run_parts(b:Nat)(s:ByteArray)(i:Nat)(w:World)(hi:i<=s.size)(h:RS b s i w)(hs:s.size<2 ^ 62) :
  Calls prog 223 #[.pointer (some ⟨b,0,none⟩),.func (.func 235) #[] #[]] w fun e w'=>e=.returned (.string ⟨(ag s.data.toList i (runN aY s.data.toList i)).toArray⟩)/\RS b s (i+runN aY s.data.toList i) w'/\w.grownBy w' (some b):=by
 have h0:=h.c0;have h1:=h.c1;have HR:Hd (RS b s i w):=h;obtain⟨N,hN⟩:=zN (i+runN aY s.data.toList i);have HN:Hd (N<=s.size):=by
  show N<=s.size;have:=rD aY s.data.toList i (by simpa using hi);simp at this;omega
 have HA:Hd (∀j,i<=j->(hj:j<s.size)->j<N->aY s[j]=true):=by
  show ∀j,i<=j->(hj:j<s.size)->j<N->aY s[j]=true;intro j h1 hj h2;obtain⟨g1,g2⟩:=II aY s.data.toList i (j-i) (by omega);have e:i+(j-i)=j:=by omega
  simp only[e]at g2;exact g2
 have HS:Hd (∀hj:N<s.size,aY s[N]=false):=by
  show ∀hj:N<s.size,aY s[N]=false;intro hj;have:=Eh aY s.data.toList i (by rw[hN];simpa using hj);simp only[hN]at this;exact this
 have HT:Hd (runN aY s.data.toList i=N-i/\i<=N):=⟨by omega,by omega⟩;have HI:Hd (i<=s.size):=hi;rw[show runN aY s.data.toList i=N-i by omega];obtain⟨X,hX⟩:∃X:List UInt8,X=ag s.data.toList i (N-i):=⟨_,rfl⟩;have hsl:∀wx,(Instr.slice 9 (.string s) (some (.int .i64 (i:Int))) (some (.int .i64 (N:Int))) none).run prog wx=.ok (.string ⟨X.toArray⟩) wx:=fun wx=>by rw[hX];exact kS s i N (by omega) HN.o wx
 rw[<-hX,show i+(N-i)=N by omega];clear h hN hi hX;go_enter func223,ntmps223;go_wp2;go_loopw [] (fun wr=>∃j:Nat,i<=j/\j<=N/\RS b s j wr/\w.grownBy wr (some b)) (fun wr=>s.size-placeOf b wr)
 case atStart=>exact⟨i,Nat.le_refl _,HT.o.2,HR.o,ak _ _⟩
 case round =>
  obtain⟨j,hij,hjn,hrs,hgb⟩:=hrel;have d0:=hrs.c0;have d1:=hrs.c1;have df:=hrs.f1;have dD:Hd (RS b s j wr):=hrs;have aG:Hd (w.grownBy wr (some b)):=hgb;have hns:=HN.o;clear hrs hgb h0 h1
  by_cases hlt:j<N
  ·have hjs:j<s.size:=by omega
   have hD:aY s[j]=true:=HA.o j hij hjs hlt;have HK:Hd (i<=j/\j<N):=⟨hij,hlt⟩;clear hlt hjn hns hij;have hlt2:(j:Int)<(s.size:Int):=by omega
   go_wp2;go_quiet (first|(go_at_call 235;exact Calls.quiet_of_same (PI _ _)));go_wp2;go_roundw
   case rel =>
    have:=HK.o;exact⟨j+1,by omega,by omega,(dD.o.drew _).set (j+1),aV (au aG.o _) _ _⟩
   case measure =>
    have e1:=dD.o.place;have e2:=((dD.o.drew nq).set (j+1)).place;rw[e1];exact Nat.lt_of_le_of_lt (Nat.le_of_eq (congrArg (s.size - ·) e2)) (by omega)
  ·have hjN:j=N:=by omega
   subst hjN
   by_cases hjs:j<s.size
   ·have hD:aY s[j]=false:=HS.o hjs;have hlt2:(j:Int)<(s.size:Int):=by omega
    clear hlt hjn hns hij;go_wp2;go_quiet (first|(go_at_call 235;exact Calls.quiet_of_same (PI _ _)));go_wp2;obtain⟨W,hW⟩:=zN (wr.drewN nq);have e0:W.cell? ⟨b,0,none⟩=some (.string s):=by rw[<-hW];exact d0
    have e1:W.cell? ⟨b,1,none⟩=some (.int .i64 (j:Int)):=by rw[<-hW];exact d1
    have HW:Hd (RS b s j W/\w.grownBy W (some b)):=by
     show RS b s j W/\w.grownBy W (some b);rw[<-hW];exact⟨dD.o.drew _,au aG.o _⟩
    rw[hW];clear hW d0 d1 df dD aG;go_quiet (fail);go_wp2;go_ret;exact⟨rfl,HW.o.1.drew _,au HW.o.2 _⟩
   ·have hd2:decide ((j:Int)<(s.size:Int))=false:=by simp;omega
    clear hlt hjn hns hij;go_wp2;go_quiet (fail);go_wp2;obtain⟨W,hW⟩:=zN (wr.drewN nq);have e0:W.cell? ⟨b,0,none⟩=some (.string s):=by rw[<-hW];exact d0
    have e1:W.cell? ⟨b,1,none⟩=some (.int .i64 (j:Int)):=by rw[<-hW];exact d1
    have HW:Hd (RS b s j W/\w.grownBy W (some b)):=by
     show RS b s j W/\w.grownBy W (some b);rw[<-hW];exact⟨dD.o.drew _,au aG.o _⟩
    rw[hW];clear hW d0 d1 df dD aG;go_quiet (fail);go_wp2;go_ret;exact⟨rfl,HW.o.1.drew _,au HW.o.2 _⟩
open Go.RowKit Go.Shelf
theorem XV(s:ByteArray)(w:World)(hlim:s.size<=281474976710656) :
  Calls prog 217 #[.string s] w fun e w'=>e=.returned (.string s)/\Below w.heap.size w w':=Any.stringslite_Clone Tryz.lays316 s w hlim
theorem clone_any(s:ByteArray)(w:World)(hlim:s.size<=281474976710656) :
  Calls prog 194 #[.string s] w fun e w'=>e=.returned (.string s)/\w.grownBy w' none:=by
 have C:Hd (∀w,Calls prog 217 #[.string s] w fun e w'=>e=.returned (.string s)/\Below w.heap.size w w'):=fun w=>XV s w hlim
 clear hlim;go_enter func194,ntmps194;go_wp2_with (go_at_call 217;refine(C.o _).mono ?_;rintro e w1 ⟨rfl,hb⟩);go_ret;exact⟨rfl,⟨hb.os,hb.tape,hb.output,hb.size,fun k hk _=>hb.block k hk⟩⟩
open Go.RowKit
theorem EJ{a:ByteArray}(h:a.size=0):a.toList.isEmpty=true:=by
 rw[Lib.toList_data,List.isEmpty_iff];exact List.length_eq_zero_iff.1 (by simpa using h)
theorem EK{a:ByteArray}(h:a.size≠0):a.toList.isEmpty=false:=by
 rw[Lib.toList_data]
 cases hl:a.data.toList with
 | nil=>exact absurd (show a.size=0 from by show a.data.size=0;rw[<-Array.length_toList,hl];rfl) h
 | cons c l=>rfl
theorem RS.grow{b:Nat}{s:ByteArray}{i:Nat}{w w':World}(h:RS b s i w)(hg:w.grownBy w' none):RS b s i w':=by
 obtain⟨t,h⟩:=h;exact⟨t,by rw[hg.block b ((kG h)) (by simp)];exact h⟩
theorem PL(s:ByteArray)(w:World):Calls prog 225 #[.string s] w fun e w'=>e=.returned (.bool (decide (1<s.data.toList.length) && decide (s.data.toList[0]?=some 48)))/\w'=w:=by
 by_cases h1:1<s.size
 ·have h0:0<s.size:=by omega
  have hl:decide (1<s.data.toList.length)=true:=by simp;exact h1
  rw[hl,Bool.true_and,kR s 0 h0]
  cases hz:((s[0].toNat:Int) == 48) with
  | true =>
   have hc:s[0]=48:=UInt8.toNat_inj.1 (by have:=eq_of_beq hz;have e48:(48:UInt8).toNat=48:=rfl;omega);have HZ:Hd (decide (some s[0]=some (48:UInt8))=true):=by show decide _=true;rw[hc];rfl
   rw[HZ.o];clear hc hl;go_enter func225,ntmps225;go_wp2;go_ret;exact⟨rfl,rfl⟩
  | false =>
   have HZ:Hd (decide (some s[0]=some (48:UInt8))=false):=by
    show decide _=false;apply decide_eq_false;intro e;rw[Option.some.inj e]at hz;exact absurd hz (by decide)
   rw[HZ.o];clear hl;go_enter func225,ntmps225;go_wp2;go_ret;exact⟨rfl,rfl⟩
 ·have hl:decide (1<s.data.toList.length)=false:=by simp;exact Nat.le_of_not_lt h1
  rw[hl,Bool.false_and];clear hl;go_enter func225,ntmps225;go_wp2;go_ret;exact⟨rfl,rfl⟩
theorem XW(b:Nat)(s:ByteArray)(i:Nat)(w:World)(hi:i<=s.size)(h:RS b s i w)(hs:s.size<2 ^ 62) :
  Calls prog 226 #[.pointer (some ⟨b,0,none⟩),.int .i64 0] w fun e w'=>e=.returned (.int .i64 (aH true s.data.toList i).1)/\RS b s (aH true s.data.toList i).2 w'/\w.grownBy w' (some b):=by
 have HI:Hd (RS b s i w/\i<=s.size):=⟨h,hi⟩;obtain⟨E,Q,jl⟩:∃E Q,aH true s.data.toList i=(E,Q):=⟨_,_,rfl⟩;rw[jl];have xy:Hd (aH true s.data.toList i=(E,Q)):=jl;have hsl:s.data.toList.length=s.size:=by simp
 have iW:Hd (s.data.toList.length=s.size):=hsl;clear h hi jl hsl;go_enter func226,ntmps226;go_wp2;go_loopw [] (fun wr=>∃j:Nat,j<=s.size/\RS b s j wr/\w.grownBy wr (some b)/\aH true s.data.toList j=(E,Q)) (fun wr=>s.size-placeOf b wr)
 case atStart=>exact⟨i,HI.o.2,HI.o.1,ak _ _,xy.o⟩
 case round =>
  obtain⟨j,hj,hrs,hgb,hrd⟩:=hrel;have CR:Hd (Calls prog 223 #[.pointer (some ⟨b,0,none⟩),.func (.func 235) #[] #[]] wr fun e w'=>e=.returned (.string ⟨(ag s.data.toList j (runN aY s.data.toList j)).toArray⟩)/\RS b s (j+runN aY s.data.toList j) w'/\wr.grownBy w' (some b)):=run_parts b s j wr hj hrs hs;have kU:Hd (placeOf b wr=j):=hrs.place;have d1:=hrs.c1;have hle:j+runN aY s.data.toList j<=s.size:=by have:=rD aY s.data.toList j (by rw[iW.o];exact hj);rw[iW.o]at this;exact this
  have hln:=tC s.data.toList j (runN aY s.data.toList j) (by rw[iW.o];exact hle);rw[Ej]at hrd;obtain⟨k,hk⟩:=zN (runN aY s.data.toList j);rw[hk]at CR hrd hle hln;obtain⟨T,hT⟩:=zN (ag s.data.toList j k);rw[hT]at CR hrd hln;obtain⟨X,hX⟩:∃X:ByteArray,X=⟨T.toArray⟩:=⟨_,rfl⟩;rw[<-hX]at CR;have yG:Hd (X.data.toList=T):=by show X.data.toList=T;rw[hX]
  have jd:X.size=k:=by rw[hX];show T.toArray.size=k;simpa using hln
  have aG:Hd (w.grownBy wr (some b)):=hgb;have dD:Hd (RS b s j wr):=hrs;have dG:Hd ((if k=0 then(2,j) else if jw true T=true then(2,j) else if s.data.toList[j+k]?=some 46 then aH true s.data.toList (j+k+1) else(0,j+k))=(E,Q)):=hrd;clear hk hT hX hgb hrs hrd hln
  by_cases hk0:k=0
  ·have e1:=EJ (jd.trans hk0);have HZ:Hd (E=2/\Q=j):=by
    have:=dG.o;rw[if_pos hk0]at this;exact⟨(congrArg Prod.fst this).symm,(congrArg Prod.snd this).symm⟩
   have HK:Hd (k=0):=hk0;clear hk0 jd hle;go_wp2_with (go_at_call 223;refine CR.o.mono ?_);rintro e w1 ⟨rfl,hr1,hg1⟩;have HF:Hd (RS b s Q w1/\w.grownBy w1 (some b)):=by
    refine⟨?_,ai aG.o hg1⟩;rw[HZ.o.2];rw[HK.o]at hr1;exact hr1
   clear hr1 hg1;go_wp2;go_ret;exact⟨dB HZ.o.1.symm,HF.o.1,HF.o.2⟩
  ·have e1:=EK (fun h=>hk0 (jd.symm.trans h));have oU:Hd (X.data.toList.isEmpty=false):=by show X.data.toList.isEmpty=false;rw[<-Lib.toList_data];exact e1
   have HK:Hd (¬k=0):=hk0;have PM:X.size<2 ^ 62:=by omega
   have EL:Hd (j+k<=s.size):=hle;clear hk0 jd hle;go_wp2_with (go_at_call 223;refine CR.o.mono ?_);rintro e w1 ⟨rfl,hr1,hg1⟩;have HR1:Hd (RS b s (j+k) w1):=hr1;have ay:Hd (w.grownBy w1 (some b)):=ai aG.o hg1;clear hr1 hg1;have CD:Hd (∀w,Calls prog 236 #[.string X] w fun e w'=>e=.returned (.bool (nY X.data.toList))/\w.grownBy w' none):=fun w=>PH X w PM
   obtain⟨dX,Jf⟩:∃d,nY X.data.toList=d:=⟨_,rfl⟩;rw[Jf]at CD;have XX:Hd (T.all aI=dX):=by
    show T.all aI=dX;rw[<-Jf];unfold nY;rw[oU.o,yG.o];rfl
   obtain⟨z,hz⟩:=zN ((decide (1<X.data.toList.length) && decide (X.data.toList[0]?=some 48)));have CZ:Hd (∀w,Calls prog 225 #[.string X] w fun e w'=>e=.returned (.bool z)/\w'=w):=fun w=>by rw[<-hz];exact PL X w
   have oZ:Hd (jw true T=(dX && z)):=by
    show jw true T=_;rw[<-hz,<-XX.o,yG.o];rfl
   clear Jf hz;go_wp2_with (go_at_call 236;refine(CD.o _).mono ?_);rintro e w2 ⟨rfl,hg2⟩;replace HR1:Hd (RS b s (j+k) w2):=HR1.o.grow hg2;replace ay:Hd (w.grownBy w2 (some b)):=ai ay.o (EH hg2 _);clear hg2
   cases dX with
   | false =>
    have HB:Hd (jw true T=false):=by show jw true T=false;rw[oZ.o];rfl
    cases hc:decide (s.data.toList[j+k]?=some 46) with
    | true =>
     have hc':=of_decide_eq_true hc;have HT:Hd (aH true s.data.toList (j+k+1)=(E,Q)):=by
      have:=dG.o;rw[if_neg HK.o,if_neg (by rw[HB.o];simp),if_pos hc']at this;exact this
     have CT:Hd (Calls prog 205 #[.pointer (some ⟨b,0,none⟩),.string ⟨#[46]⟩] w2 fun e w'=>e=.returned (.bool true)/\RS b s (j+k+1) w'/\w2.grownBy w' (some b)):=Am b s (j+k) 46 w2 hc' HR1.o hs;have cZ:Hd (j+k<s.size):=by have:=(List.getElem?_eq_some_iff.1 hc').1;rw[iW.o]at this;exact this
     clear hc hc';go_wp2_with (go_at_call 205;refine CT.o.mono ?_);rintro e w3 ⟨rfl,hr3,hg3⟩;have HF:Hd (RS b s (j+k+1) w3/\w.grownBy w3 (some b)):=⟨hr3,ai ay.o hg3⟩;clear hr3 hg3;go_wp2;go_roundw
     case rel=>exact⟨j+k+1,cZ.o,HF.o.1,HF.o.2,HT.o⟩
     case measure =>
      rw[kU.o,HF.o.1.place];have:=cZ.o;omega
    | false =>
     have hc':=of_decide_eq_false hc;have HT:Hd (E=0/\Q=j+k):=by
      have:=dG.o;rw[if_neg HK.o,if_neg (by rw[HB.o];simp),if_neg hc']at this;exact⟨(congrArg Prod.fst this).symm,(congrArg Prod.snd this).symm⟩
     have CT:Hd (Calls prog 205 #[.pointer (some ⟨b,0,none⟩),.string ⟨#[46]⟩] w2 fun e w'=>e=.returned (.bool false)/\RS b s (j+k) w'/\w2.grownBy w' (some b)):=Ap b s (j+k) 46 w2 EL.o hc' HR1.o hs;clear hc hc';go_wp2_with (go_at_call 205;refine CT.o.mono ?_);rintro e w3 ⟨rfl,hr3,hg3⟩;have HF:Hd (RS b s (j+k) w3/\w.grownBy w3 (some b)):=⟨hr3,ai ay.o hg3⟩;clear hr3 hg3;go_wp2;go_ret;exact⟨dB HT.o.1.symm,by rw[HT.o.2];exact HF.o.1,HF.o.2⟩
   | true =>
    cases z with
    | true =>
     have HZ:Hd (E=2/\Q=j):=by
      have:=dG.o;rw[if_neg HK.o,if_pos (by rw[oZ.o];rfl)]at this;exact⟨(congrArg Prod.fst this).symm,(congrArg Prod.snd this).symm⟩
     have f1:=HR1.o.c1;have f2:=HR1.o.f1;go_wp2_with (go_at_call 225;refine(CZ.o _).mono ?_;rintro e w' ⟨rfl,rfl⟩);go_ret;exact⟨dB HZ.o.1.symm,by rw[HZ.o.2];exact HR1.o.set j,aV ay.o _ _⟩
    | false =>
     have HB:Hd (jw true T=false):=by show jw true T=false;rw[oZ.o];rfl
     cases hc:decide (s.data.toList[j+k]?=some 46) with
     | true =>
      have hc':=of_decide_eq_true hc;have HT:Hd (aH true s.data.toList (j+k+1)=(E,Q)):=by
       have:=dG.o;rw[if_neg HK.o,if_neg (by rw[HB.o];simp),if_pos hc']at this;exact this
      have CT:Hd (Calls prog 205 #[.pointer (some ⟨b,0,none⟩),.string ⟨#[46]⟩] w2 fun e w'=>e=.returned (.bool true)/\RS b s (j+k+1) w'/\w2.grownBy w' (some b)):=Am b s (j+k) 46 w2 hc' HR1.o hs;have cZ:Hd (j+k<s.size):=by have:=(List.getElem?_eq_some_iff.1 hc').1;rw[iW.o]at this;exact this
      clear hc hc';go_wp2_with (first|(go_at_call 225;refine(CZ.o _).mono ?_;rintro e w' ⟨rfl,rfl⟩)|(go_at_call 205;refine CT.o.mono ?_));rintro e w3 ⟨rfl,hr3,hg3⟩;have HF:Hd (RS b s (j+k+1) w3/\w.grownBy w3 (some b)):=⟨hr3,ai ay.o hg3⟩;clear hr3 hg3;go_wp2;go_roundw
      case rel=>exact⟨j+k+1,cZ.o,HF.o.1,HF.o.2,HT.o⟩
      case measure =>
       rw[kU.o,HF.o.1.place];have:=cZ.o;omega
     | false =>
      have hc':=of_decide_eq_false hc;have HT:Hd (E=0/\Q=j+k):=by
       have:=dG.o;rw[if_neg HK.o,if_neg (by rw[HB.o];simp),if_neg hc']at this;exact⟨(congrArg Prod.fst this).symm,(congrArg Prod.snd this).symm⟩
      have CT:Hd (Calls prog 205 #[.pointer (some ⟨b,0,none⟩),.string ⟨#[46]⟩] w2 fun e w'=>e=.returned (.bool false)/\RS b s (j+k) w'/\w2.grownBy w' (some b)):=Ap b s (j+k) 46 w2 EL.o hc' HR1.o hs;clear hc hc';go_wp2_with (first|(go_at_call 225;refine(CZ.o _).mono ?_;rintro e w' ⟨rfl,rfl⟩)|(go_at_call 205;refine CT.o.mono ?_));rintro e w3 ⟨rfl,hr3,hg3⟩;have HF:Hd (RS b s (j+k) w3/\w.grownBy w3 (some b)):=⟨hr3,ai ay.o hg3⟩;clear hr3 hg3;go_wp2;go_ret;exact⟨dB HT.o.1.symm,by rw[HT.o.2];exact HF.o.1,HF.o.2⟩
theorem XY(b:Nat)(s:ByteArray)(i:Nat)(w:World)(hi:i<=s.size)(h:RS b s i w)(hs:s.size<2 ^ 62) :
  Calls prog 226 #[.pointer (some ⟨b,0,none⟩),.int .i64 1] w fun e w'=>e=.returned (.int .i64 (aH false s.data.toList i).1)/\RS b s (aH false s.data.toList i).2 w'/\w.grownBy w' (some b):=by
 have HI:Hd (RS b s i w/\i<=s.size):=⟨h,hi⟩;obtain⟨E,Q,jl⟩:∃E Q,aH false s.data.toList i=(E,Q):=⟨_,_,rfl⟩;rw[jl];have xy:Hd (aH false s.data.toList i=(E,Q)):=jl;have hsl:s.data.toList.length=s.size:=by simp
 have iW:Hd (s.data.toList.length=s.size):=hsl;clear h hi jl hsl;go_enter func226,ntmps226;go_wp2;go_loopw [] (fun wr=>∃j:Nat,j<=s.size/\RS b s j wr/\w.grownBy wr (some b)/\aH false s.data.toList j=(E,Q)) (fun wr=>s.size-placeOf b wr)
 case atStart=>exact⟨i,HI.o.2,HI.o.1,ak _ _,xy.o⟩
 case round =>
  obtain⟨j,hj,hrs,hgb,hrd⟩:=hrel;have CR:Hd (Calls prog 223 #[.pointer (some ⟨b,0,none⟩),.func (.func 235) #[] #[]] wr fun e w'=>e=.returned (.string ⟨(ag s.data.toList j (runN aY s.data.toList j)).toArray⟩)/\RS b s (j+runN aY s.data.toList j) w'/\wr.grownBy w' (some b)):=run_parts b s j wr hj hrs hs;have kU:Hd (placeOf b wr=j):=hrs.place;have d1:=hrs.c1;have hle:j+runN aY s.data.toList j<=s.size:=by have:=rD aY s.data.toList j (by rw[iW.o];exact hj);rw[iW.o]at this;exact this
  have hln:=tC s.data.toList j (runN aY s.data.toList j) (by rw[iW.o];exact hle);rw[Ej]at hrd;obtain⟨k,hk⟩:=zN (runN aY s.data.toList j);rw[hk]at CR hrd hle hln;obtain⟨T,hT⟩:=zN (ag s.data.toList j k);rw[hT]at CR hrd hln;obtain⟨X,hX⟩:∃X:ByteArray,X=⟨T.toArray⟩:=⟨_,rfl⟩;rw[<-hX]at CR;have yG:Hd (X.data.toList=T):=by show X.data.toList=T;rw[hX]
  have jd:X.size=k:=by rw[hX];show T.toArray.size=k;simpa using hln
  have aG:Hd (w.grownBy wr (some b)):=hgb;have dD:Hd (RS b s j wr):=hrs;have dG:Hd ((if k=0 then(2,j) else if jw false T=true then(2,j) else if s.data.toList[j+k]?=some 46 then aH false s.data.toList (j+k+1) else(0,j+k))=(E,Q)):=hrd;clear hk hT hX hgb hrs hrd hln
  by_cases hk0:k=0
  ·have e1:=EJ (jd.trans hk0);have HZ:Hd (E=2/\Q=j):=by
    have:=dG.o;rw[if_pos hk0]at this;exact⟨(congrArg Prod.fst this).symm,(congrArg Prod.snd this).symm⟩
   have HK:Hd (k=0):=hk0;clear hk0 jd hle;go_wp2_with (go_at_call 223;refine CR.o.mono ?_);rintro e w1 ⟨rfl,hr1,hg1⟩;have HF:Hd (RS b s Q w1/\w.grownBy w1 (some b)):=by
    refine⟨?_,ai aG.o hg1⟩;rw[HZ.o.2];rw[HK.o]at hr1;exact hr1
   clear hr1 hg1;go_wp2;go_ret;exact⟨dB HZ.o.1.symm,HF.o.1,HF.o.2⟩
  ·have e1:=EK (fun h=>hk0 (jd.symm.trans h));have oU:Hd (X.data.toList.isEmpty=false):=by show X.data.toList.isEmpty=false;rw[<-Lib.toList_data];exact e1
   have HK:Hd (¬k=0):=hk0;have PM:X.size<2 ^ 62:=by omega
   have EL:Hd (j+k<=s.size):=hle;clear hk0 jd hle;go_wp2_with (go_at_call 223;refine CR.o.mono ?_);rintro e w1 ⟨rfl,hr1,hg1⟩;have HR1:Hd (RS b s (j+k) w1):=hr1;have ay:Hd (w.grownBy w1 (some b)):=ai aG.o hg1;clear hr1 hg1;have HB:Hd (jw false T=false):=rfl
   cases hc:decide (s.data.toList[j+k]?=some 46) with
   | true =>
    have hc':=of_decide_eq_true hc;have HT:Hd (aH false s.data.toList (j+k+1)=(E,Q)):=by
     have:=dG.o;rw[if_neg HK.o,if_neg (by rw[HB.o];simp),if_pos hc']at this;exact this
    have CT:Hd (Calls prog 205 #[.pointer (some ⟨b,0,none⟩),.string ⟨#[46]⟩] w1 fun e w'=>e=.returned (.bool true)/\RS b s (j+k+1) w'/\w1.grownBy w' (some b)):=Am b s (j+k) 46 w1 hc' HR1.o hs;have cZ:Hd (j+k<s.size):=by have:=(List.getElem?_eq_some_iff.1 hc').1;rw[iW.o]at this;exact this
    clear hc hc';go_wp2_with (go_at_call 205;refine CT.o.mono ?_);rintro e w3 ⟨rfl,hr3,hg3⟩;have HF:Hd (RS b s (j+k+1) w3/\w.grownBy w3 (some b)):=⟨hr3,ai ay.o hg3⟩;clear hr3 hg3;go_wp2;go_roundw
    case rel=>exact⟨j+k+1,cZ.o,HF.o.1,HF.o.2,HT.o⟩
    case measure =>
     rw[kU.o,HF.o.1.place];have:=cZ.o;omega
   | false =>
    have hc':=of_decide_eq_false hc;have HT:Hd (E=0/\Q=j+k):=by
     have:=dG.o;rw[if_neg HK.o,if_neg (by rw[HB.o];simp),if_neg hc']at this;exact⟨(congrArg Prod.fst this).symm,(congrArg Prod.snd this).symm⟩
    have CT:Hd (Calls prog 205 #[.pointer (some ⟨b,0,none⟩),.string ⟨#[46]⟩] w1 fun e w'=>e=.returned (.bool false)/\RS b s (j+k) w'/\w1.grownBy w' (some b)):=Ap b s (j+k) 46 w1 EL.o hc' HR1.o hs;clear hc hc';go_wp2_with (go_at_call 205;refine CT.o.mono ?_);rintro e w3 ⟨rfl,hr3,hg3⟩;have HF:Hd (RS b s (j+k) w3/\w.grownBy w3 (some b)):=⟨hr3,ai ay.o hg3⟩;clear hr3 hg3;go_wp2;go_ret;exact⟨dB HT.o.1.symm,by rw[HT.o.2];exact HF.o.1,HF.o.2⟩
end Go.Proofs.YtnnbgjaphfhibaaGreatDoor
