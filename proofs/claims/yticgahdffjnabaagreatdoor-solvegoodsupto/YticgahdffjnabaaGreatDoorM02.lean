import Derived.Test.YticgahdffjnabaaGreatDoorM01
import Derived.Test.YticgahdffjnabaaGreatDoorProg
import Derived.WalkKit
import Derived.WalkSpells
import Derived.WalkLawsBesides
import Derived.Deep.QuietTactic
import Derived.BigQuiet
import Derived.Laws.Bits64b
import Derived.Laws.Shifts
import Derived.Below
import Derived.Lib.ConvBytes
import Derived.Deep.RegionHeld3
import Derived.Carry
import Derived.OwnWalk
import Derived.Laws.AppendOwn
import Derived.Deep.AppendLies
import Derived.Deep.OwnRows
import Derived.Maps.OwnSet
import Derived.Maps.OwnOps
import Derived.Maps.AppendAt
set_option linter.unusedVariables false
set_option maxHeartbeats 1600000
namespace Go.Proofs.YticgahdffjnabaaGreatDoor
structure Vv where
 major:Int
 minor:Int
 patch:Int
 pre:List UInt8
 build:List UInt8
def zeroV:Vv:=⟨0,0,0,[],[]⟩
def optP (c:UInt8) (s:Bool) (l:List UInt8) (i:Nat):Int × Nat × List UInt8 :=
 if l[i]?=some c then
  (if (rdParts s l (i+1)).1=0 then (0,(rdParts s l (i+1)).2,subT l (i+1) ((rdParts s l (i+1)).2 - (i+1))) else ((rdParts s l (i+1)).1,(rdParts s l (i+1)).2,[]))
 else (0,i,[])
def rdNums (l:List UInt8):Int × Nat × Int × Int × Int :=
 if (rdNum l 0).1=0 then
  if l[(rdNum l 0).2.2]?=some 46 then
   if (rdNum l ((rdNum l 0).2.2+1)).1=0 then
    if l[(rdNum l ((rdNum l 0).2.2+1)).2.2]?=some 46 then
     if (rdNum l ((rdNum l ((rdNum l 0).2.2+1)).2.2+1)).1=0 then
      (0,(rdNum l ((rdNum l ((rdNum l 0).2.2+1)).2.2+1)).2.2,(rdNum l 0).2.1,(rdNum l ((rdNum l 0).2.2+1)).2.1,(rdNum l ((rdNum l ((rdNum l 0).2.2+1)).2.2+1)).2.1)
     else ((rdNum l ((rdNum l ((rdNum l 0).2.2+1)).2.2+1)).1,(rdNum l ((rdNum l ((rdNum l 0).2.2+1)).2.2+1)).2.2,0,0,0)
    else (2,(rdNum l ((rdNum l 0).2.2+1)).2.2,0,0,0)
   else ((rdNum l ((rdNum l 0).2.2+1)).1,(rdNum l ((rdNum l 0).2.2+1)).2.2,0,0,0)
  else (2,(rdNum l 0).2.2,0,0,0)
 else ((rdNum l 0).1,(rdNum l 0).2.2,0,0,0)
def rdVer (l:List UInt8):Int × Nat × Vv :=
 if (rdNums l).1=0 then
  if (optP 45 true l (rdNums l).2.1).1=0 then
   if (optP 43 false l (optP 45 true l (rdNums l).2.1).2.1).1=0 then
    if (optP 43 false l (optP 45 true l (rdNums l).2.1).2.1).2.1 < l.length then (2,(optP 43 false l (optP 45 true l (rdNums l).2.1).2.1).2.1,zeroV)
    else (0,0,⟨(rdNums l).2.2.1,(rdNums l).2.2.2.1,(rdNums l).2.2.2.2,(optP 45 true l (rdNums l).2.1).2.2,(optP 43 false l (optP 45 true l (rdNums l).2.1).2.1).2.2⟩)
   else ((optP 43 false l (optP 45 true l (rdNums l).2.1).2.1).1,(optP 43 false l (optP 45 true l (rdNums l).2.1).2.1).2.1,zeroV)
  else ((optP 45 true l (rdNums l).2.1).1,(optP 45 true l (rdNums l).2.1).2.1,zeroV)
 else ((rdNums l).1,(rdNums l).2.1,zeroV)
def parseV (l:List UInt8):Int × Nat × Vv:=if 100 < l.length then (1,0,zeroV) else rdVer l
def optT (c:UInt8) (p:List UInt8):List UInt8:=if p=[] then [] else c :: p
def textV (v:Vv):List UInt8:=Lib.itoa v.major++(46 :: (Lib.itoa v.minor++(46 :: (Lib.itoa v.patch++(optT 45 v.pre++optT 43 v.build)))))
def bound (n:Int):Bool:=decide (0<=n) && decide (n<=1000000000)
theorem bound_iff {n:Int}:bound n=true ↔ 0<=n/\n<=1000000000:=by unfold bound;simp
def soundV (v:Vv):Bool:=bound v.major && (bound v.minor && (bound v.patch && (okParts true v.pre && okParts false v.build)))
theorem itoa_dec {n:Int} (h:0<=n):Lib.itoa n=Lib.decDigits n.toNat:=by unfold Lib.itoa;rw [if_neg (by omega)]
theorem okParts_split {s:Bool} {l:List UInt8} (h:okParts s l=true) (hne:l ≠ []):(splitD l).all (okPart s)=true:=by
 have:l.isEmpty=false:=by simpa using hne
 unfold okParts at h;rw [this,Bool.false_or] at h;exact h
theorem sub_drop {l:List UInt8} {i k:Nat}:l.drop i=subT l i k++l.drop (i+k):=by
 unfold subT;rw [<-List.drop_drop,List.take_append_drop]
theorem drop_cons {l:List UInt8} {i:Nat} {c:UInt8} (h:l[i]?=some c):l.drop i=c :: l.drop (i+1)/\i < l.length:=by
 obtain ⟨hlt,e⟩:=List.getElem?_eq_some_iff.1 h;rw [List.drop_eq_getElem_cons hlt,e];exact ⟨rfl,hlt⟩
theorem num_take (l:List UInt8) (i:Nat) (hi:i<=l.length) (h:(rdNum l i).1=0) :
  (rdNum l i).2.2<=l.length/\l.drop i=Lib.itoa (rdNum l i).2.1++l.drop (rdNum l i).2.2/\0<=(rdNum l i).2.1/\(rdNum l i).2.1<=999999999:=by
 obtain ⟨k,h1,h2,h3,h4,h5,h6⟩:=rdNum_ok l i hi h;refine ⟨by omega,?_,h5,h6⟩;rw [itoa_dec h5,<-h4,h3];exact sub_drop
theorem nums_take (l:List UInt8) (h:(rdNums l).1=0) :
  (rdNums l).2.1<=l.length/\l=Lib.itoa (rdNums l).2.2.1++46 :: (Lib.itoa (rdNums l).2.2.2.1++46 :: (Lib.itoa (rdNums l).2.2.2.2++l.drop (rdNums l).2.1)) ∧
  (0<=(rdNums l).2.2.1/\(rdNums l).2.2.1<=999999999)/\(0<=(rdNums l).2.2.2.1/\(rdNums l).2.2.2.1<=999999999)/\(0<=(rdNums l).2.2.2.2/\(rdNums l).2.2.2.2<=999999999):=by
 unfold rdNums at h ⊢;split at h
 ·rename_i e1;split at h
  ·rename_i g1;split at h
   ·rename_i e2;split at h
    ·rename_i g2;split at h
     ·rename_i e3;obtain ⟨a1,a2,a3⟩:=num_take l 0 (Nat.zero_le _) e1;obtain ⟨c1,c2⟩:=drop_cons g1;obtain ⟨b1,b2,b3⟩:=num_take l _ (by omega) e2;obtain ⟨c3,c4⟩:=drop_cons g2;obtain ⟨d1,d2,d3⟩:=num_take l _ (by omega) e3;simp only [e1,g1,e2,g2,e3,if_true];refine ⟨d1,?_,a3,b3,d3⟩;rw [List.drop_zero] at a2;rw [<-d2,<-c3,<-b2,<-c1];exact a2
     ·rename_i e;exact absurd h e
    ·simp at h
   ·rename_i e;exact absurd h e
  ·simp at h
 ·rename_i e;exact absurd h e
theorem opt_take (c:UInt8) (s:Bool) (l:List UInt8) (i:Nat) (hi:i<=l.length) (h:(optP c s l i).1=0) :
  (optP c s l i).2.1<=l.length/\l.drop i=optT c (optP c s l i).2.2++l.drop (optP c s l i).2.1/\okParts s (optP c s l i).2.2=true:=by
 unfold optP at h ⊢
 by_cases hc:l[i]?=some c
 ·rw [if_pos hc] at h ⊢;obtain ⟨c1,c2⟩:=drop_cons hc
  by_cases h0:(rdParts s l (i+1)).1=0
  ·rw [if_pos h0];obtain ⟨g1,g2,g3⟩:=parts_take s l _ (i+1) rfl (by omega) h0;have hlen:=sub_len l (i+1) ((rdParts s l (i+1)).2 - (i+1)) (by omega);have hne:subT l (i+1) ((rdParts s l (i+1)).2 - (i+1)) ≠ []:=fun e=>by rw [e] at hlen;simp at hlen;omega
   refine ⟨g2,?_,?_⟩
   ·simp only;unfold optT;rw [if_neg hne,c1,List.cons_append];congr 1;have:=@sub_drop l (i+1) ((rdParts s l (i+1)).2 - (i+1));rw [show i+1+((rdParts s l (i+1)).2 - (i+1))=(rdParts s l (i+1)).2 by omega] at this;exact this
   ·simp only;unfold okParts;rw [g3,Bool.or_true]
  ·rw [if_neg h0] at h;exact absurd h h0
 ·rw [if_neg hc];exact ⟨hi,rfl,rfl⟩
theorem text_read (l:List UInt8) (h:(rdVer l).1=0):textV (rdVer l).2.2=l/\soundV (rdVer l).2.2=true:=by
 unfold rdVer at h ⊢;split at h
 ·rename_i e1;split at h
  ·rename_i e2;split at h
   ·rename_i e3;split at h
    ·simp at h
    ·rename_i e4;obtain ⟨a1,a2,a3,a4,a5⟩:=nums_take l e1;obtain ⟨b1,b2,b3⟩:=opt_take 45 true l _ a1 e2;obtain ⟨c1,c2,c3⟩:=opt_take 43 false l _ b1 e3;simp only [e1,e2,e3,if_true,if_neg e4];have hend:l.drop (optP 43 false l (optP 45 true l (rdNums l).2.1).2.1).2.1=[]:=List.drop_of_length_le (by omega);rw [hend,List.append_nil] at c2;constructor
     ·unfold textV;simp only;rw [<-c2,<-b2];exact a2.symm
     ·simp only [soundV,Bool.and_eq_true,bound_iff];exact ⟨by omega,by omega,by omega,b3,c3⟩
   ·rename_i e;exact absurd h e
  ·rename_i e;exact absurd h e
 ·rename_i e;exact absurd h e
open Go.RowKit
theorem nm {α:Sort _} (a:α):∃z,a=z:=⟨a,rfl⟩
theorem hqL {α:Type _} {xs:Array α} {i:Nat} {v:α} (h:xs[i]?=some v):i<xs.size:=(Array.getElem?_eq_some_iff.1 h).1
theorem cOH {w:World} {b:Nat} {cs:Array Value} {T:TypeId} {fr:Nat×Nat} (hb:w.heap[b]?=some (.cells cs T fr)) (j:Nat):w.cell? ⟨b,j,none⟩=cs[j]?:=by simp [World.cell?,hb]
def Hd (p:Prop):Prop:=p
theorem Hd.o {p:Prop} (h:Hd p):p:=h
theorem ret_int {k:IntKind} {a b:Int} (h:a=b):Ending.returned (.int k a)=.returned (.int k b):=by rw [h]
theorem ret_bool {a b:Bool} (h:a=b):Ending.returned (.bool a)=.returned (.bool b):=by rw [h]
theorem isDigit_any (c:UInt8) (w:World):Calls Tryz.prog 88 #[.int .u8 (c.toNat:Int)] w fun e w'=>e=.returned (.bool (isD c))/\w'=w:=by
 go_enter Tryz.func88,Tryz.ntmps88;go_wp2
 all_goals go_ret
 all_goals (refine ⟨ret_bool ?_,rfl⟩;rw [Bool.eq_iff_iff];unfold isD;simp;omega)
theorem gb_refl (w:World) (r:Option Nat):w.grownBy w r:=⟨rfl,rfl,rfl,Nat.le_refl _,fun _ _ _=>rfl⟩
theorem gb_drew {w w':World} {r:Option Nat} (h:w.grownBy w' r) (n:Nat):w.grownBy (w'.drewN n) r:=⟨h.os,h.tape,h.output,h.size,h.block⟩
theorem gb_set {w w':World} {b:Nat} (h:w.grownBy w' (some b)) (o:Nat) (v:Value):w.grownBy (w'.setCell ⟨b,o,none⟩ v) (some b):=by
 refine ⟨h.os,h.tape,h.output,by simpa [World.setCell] using h.size,fun k hk hne=>?_⟩;rw [<-h.block k hk hne];exact heap_setCell_other w' _ k v (fun e=>hne (by rw [e]))
theorem gb_trans {w w1 w2:World} {r:Option Nat} (h:w.grownBy w1 r) (h':w1.grownBy w2 r):w.grownBy w2 r :=
 ⟨h'.os.trans h.os,h'.tape.trans h.tape,h'.output.trans h.output,Nat.le_trans h.size h'.size,fun k hk hne=>(h'.block k (Nat.lt_of_lt_of_le hk h.size) hne).trans (h.block k hk hne)⟩
theorem get_data (s:ByteArray) (i:Nat) (h:i < s.size):s.data.toList[i]?=some s[i]:=by rw [List.getElem?_eq_getElem (by simpa using h)];rfl
theorem run_sub (s:ByteArray) (i j:Nat) (hi:i<=j) (hj:j<=s.size) (w:World) :
  (Instr.slice 9 (.string s) (some (.int .i64 (i:Int))) (some (.int .i64 (j:Int))) none).run Tryz.prog w=.ok (.string ⟨(subT s.data.toList i (j - i)).toArray⟩) w:=by
 have h1:(0:Int)<=(i:Int):=by omega
 have h4:(i:Int)<=(j:Int):=by omega
 have h5:(j:Int)<=(s.size:Int):=by omega
 have e:s.extract i j=⟨(subT s.data.toList i (j - i)).toArray⟩:=by
  apply ByteArray.ext;rw [ByteArray.data_extract];apply Array.ext';unfold subT;simp
 rw [<-e];simp [go_sem,Tryz.underlying9,h1,h4,h5]
open Go.RowKit
theorem bit_small {k:Nat} (h:k < 64):2 ^ k < 18446744073709551616:=by
 have:2 ^ k < 2 ^ 64:=Nat.pow_lt_pow_right (by decide) h;simpa using this
theorem or_small {x y:Nat} (hx:x < 18446744073709551616) (hy:y < 18446744073709551616):x ||| y < 18446744073709551616:=by
 have:x ||| y < 2 ^ 64:=Nat.or_lt_two_pow (by simpa using hx) (by simpa using hy)
 simpa using this
theorem and_zero_iff (x y:Nat):x &&& y=0 ↔ ∀k,¬ (x.testBit k=true/\y.testBit k=true):=by
 constructor
 ·intro h k ⟨h1,h2⟩;have:(x &&& y).testBit k=true:=by rw [Nat.testBit_and,h1,h2];rfl
  rw [h,Nat.zero_testBit] at this
  cases this
 ·intro h;refine Nat.eq_of_testBit_eq fun k=>?_
  rw [Nat.testBit_and,Nat.zero_testBit]
  cases hx:x.testBit k with
  | false=>rfl
  | true =>
   cases hy:y.testBit k with
   | false=>rfl
   | true=>exact absurd ⟨hx,hy⟩ (h k)
theorem bit_or (x k j:Nat):(x ||| 2 ^ k).testBit j=(x.testBit j || decide (k=j)):=by
 rw [Nat.testBit_or,Nat.testBit_two_pow]
theorem shl_one (k:Nat) (h:k < 64):IntKind.u64.wrap ((2:Int) ^ k)=((2 ^ k:Nat):Int):=by
 have h2:=bit_small h;have e3:((2:Int) ^ k)=((2 ^ k:Nat):Int):=by rw [Int.natCast_pow];rfl
 rw [IntKind.wrap_u64,e3];generalize 2 ^ k=X at h2;omega
set_option maxRecDepth 100000 in
theorem only_any (k:Nat) (h:k < 64) (w:World):Calls Tryz.prog 21 #[.int .i64 k] w fun e w'=>e=.returned (.int .u64 ((2 ^ k:Nat):Int))/\w'=w:=by
 have hs:=shl_one k h;obtain ⟨X,hX⟩:∃X:Int,((2 ^ k:Nat):Int)=X:=⟨_,rfl⟩;rw [hX] at hs ⊢;clear hX;go_enter Tryz.func21,Tryz.ntmps21;go_wp2;go_ret;exact ⟨by rw [<-hs];rfl,rfl⟩
set_option maxRecDepth 100000 in
theorem sHas_any (x k:Nat) (hx:x < 18446744073709551616) (h:k < 64) (w:World):Calls Tryz.prog 24 #[.int .u64 (x:Int),.int .i64 k] w fun e w'=>e=.returned (.bool (x.testBit k))/\w'=w:=by
 have CO:Hd (∀w,Calls Tryz.prog 21 #[.int .i64 k] w fun e w'=>e=.returned (.int .u64 ((2 ^ k:Nat):Int))/\w'=w):=fun w=>only_any k h w
 have hb:=bits_and_u64_nat x (2 ^ k) hx (bit_small h);have ht:((((x &&& 2 ^ k:Nat):Int)) != 0)=x.testBit k:=by
  cases hc:x.testBit k with
  | true =>
   rw [bne_iff_ne];intro e;have e2:x &&& 2 ^ k=0:=by exact_mod_cast e
   exact (and_zero_iff _ _).1 e2 k ⟨hc,by rw [Nat.testBit_two_pow];simp⟩
  | false =>
   have:x &&& 2 ^ k=0:=(and_zero_iff _ _).2 fun j ⟨h1,h2⟩=>by
    rw [Nat.testBit_two_pow] at h2;have:k=j:=by simpa using h2
    subst this;rw [hc] at h1;cases h1
   rw [this];rfl
 obtain ⟨X,hX⟩:∃X:Int,((2 ^ k:Nat):Int)=X:=⟨_,rfl⟩;obtain ⟨Y,hY⟩:∃Y:Int,((x &&& 2 ^ k:Nat):Int)=Y:=⟨_,rfl⟩;rw [hX] at hb CO;rw [hY] at hb ht;clear hX hY;go_enter Tryz.func24,Tryz.ntmps24;go_wp2_with (first | (go_at_call 21;refine (CO.o _).mono ?_;rintro e w' ⟨rfl,rfl⟩));go_ret;exact ⟨by rw [<-ht];rfl,rfl⟩
open Go.RowKit
theorem gb_below {w w':World} (h:w.grownBy w' none):Below w.heap.size w w':=⟨h.os,h.tape,h.output,h.size,fun k hk=>h.block k hk (by simp)⟩
theorem gb_undrew {w w':World} {r:Option Nat} (h:w.drew.grownBy w' r):w.grownBy w' r:=⟨h.os,h.tape,h.output,h.size,h.block⟩
theorem gb_alloc {w w':World} (h:w.grownBy w' none) (o:Obj):w.grownBy (w'.alloc o) none :=
 ⟨h.os,h.tape,h.output,by have:=h.size;simp;omega,fun k hk hn=>by rw [Lib.alloc_old _ _ _ (Nat.lt_of_lt_of_le hk h.size)];exact h.block k hk hn⟩
theorem gb_bytes (w:World) (e:TypeId) (s:ByteArray):w.grownBy (Lib.bytesWorld w e s) none :=
 ⟨rfl,rfl,rfl,by rw [Lib.bytesWorld_size];omega,fun k hk _=>Lib.bytesWorld_at_old w e s k hk⟩
theorem gb_weak {w w':World} (h:w.grownBy w' none) (r:Option Nat):w.grownBy w' r:=⟨h.os,h.tape,h.output,h.size,fun k hk _=>h.block k hk (by simp)⟩
theorem isDigits_any (s:ByteArray) (w:World) (hs:s.size < 2 ^ 62) :
  Calls Tryz.prog 112 #[.string s] w fun e w'=>e=.returned (.bool (numT s.data.toList))/\w.grownBy w' none:=by
 have kc:=fun (w:World)=>Lib.run_convert_string_bytes (P:=Tryz.prog) w 9 155 5 s Tryz.underlying9 Tryz.underlying155 Tryz.underlying5
 obtain ⟨W,hW⟩:∃W,Lib.bytesWorld w 5 s=W:=⟨_,rfl⟩;have HC:Hd (∀j,(hj:j < s.size)->W.cell? ⟨w.heap.size,j,none⟩=some (.int .u8 (s[j].toNat:Int))):=by
  show ∀j,(hj:j < s.size)->W.cell? ⟨w.heap.size,j,none⟩=some (.int .u8 (s[j].toNat:Int));intro j hj;rw [<-hW,Lib.bytesWorld_cell w _ s j hj];have:s.data.toList.getD j 0=s[j]:=by
   rw [List.getD_eq_getElem?_getD,get_data s j hj];rfl
  rw [this]
 have HG:Hd (w.grownBy W none):=by show w.grownBy W none;rw [<-hW];exact gb_bytes w _ s
 have kw:=kc w;rw [hW] at kw;clear kc hW;go_enter Tryz.func112,Tryz.ntmps112;go_wp2
 go_loop [8] (fun i=>∃k:Nat,k<=s.size/\i=.int .i64 k/\∀j,(hj:j < s.size)->j < k->isD s[j]=true) (fun i=>s.size - (intOf i).toNat)
 case atStart=>exact ⟨0,Nat.zero_le _,rfl,fun j hj h=>absurd h (by omega)⟩
 case round =>
  obtain ⟨k,hk,rfl,hp⟩:=hrel;have HP:Hd (∀j,(hj:j < s.size)->j < k->isD s[j]=true):=hp;clear hp
  by_cases hlt:k < s.size
  ·have ck:=HC.o k hlt
   cases hd:isD s[k] with
   | true =>
    go_wp2_with (go_at_call 88;refine (isDigit_any _ _).mono ?_;rintro e w' ⟨rfl,rfl⟩)
    go_round
    case rel =>
     refine ⟨k+1,by omega,by go_num,fun j hj hjk=>?_⟩
     by_cases hjk':j < k
     ·exact HP.o j hj hjk'
     ·have e:j=k:=by omega
      subst e;exact hd
    case measure=>simp [intOf];omega
   | false =>
    have HN:Hd (numT s.data.toList=false):=by
     show numT s.data.toList=false;unfold numT;have:s.data.toList.all isD=false:=by
      rw [List.all_eq_false];exact ⟨s[k],List.mem_of_getElem? (get_data s k hlt),by simp [hd]⟩
     rw [this,Bool.and_false]
    go_wp2_with (go_at_call 88;refine (isDigit_any _ _).mono ?_;rintro e w' ⟨rfl,rfl⟩);go_ret;exact ⟨ret_bool HN.o.symm,HG.o⟩
  ·have hks:k=s.size:=by omega
   have HA:Hd (s.data.toList.all isD=true):=by
    show s.data.toList.all isD=true;rw [List.all_eq_true];intro c hc;obtain ⟨j,hj,rfl⟩:=List.getElem_of_mem hc;exact HP.o j (by simpa using hj) (by simp at hj;have:s.size=s.data.size:=rfl;omega)
   clear hks hk;go_wp2;go_ret;refine ⟨ret_bool ?_,HG.o⟩;unfold numT;rw [Lib.toList_data,HA.o,Bool.and_true]
theorem run_pre (s:ByteArray) (k:Nat) (hk:k<=s.size) (w:World) :
  (Instr.slice 9 (.string s) none (some (.int .i64 (k:Int))) none).run Tryz.prog w=.ok (.string ⟨(s.data.toList.take k).toArray⟩) w:=by
 have h5:(k:Int)<=(s.size:Int):=by omega
 have e:s.extract 0 k=⟨(s.data.toList.take k).toArray⟩:=by
  apply ByteArray.ext;rw [ByteArray.data_extract];apply Array.ext';simp
 rw [<-e];simp [go_sem,Tryz.underlying9,h5]
theorem run_suf (s:ByteArray) (k:Nat) (hk:k<=s.size) (w:World) :
  (Instr.slice 9 (.string s) (some (.int .i64 (k:Int))) none none).run Tryz.prog w=.ok (.string ⟨(s.data.toList.drop k).toArray⟩) w:=by
 have h1:(0:Int)<=(k:Int):=by omega
 have h5:(k:Int)<=(s.size:Int):=by omega
 have e:s.extract k s.size=⟨(s.data.toList.drop k).toArray⟩:=by
  apply ByteArray.ext;rw [ByteArray.data_extract];apply Array.ext';simp;exact List.take_of_length_le (by simp)
 rw [<-e];simp [go_sem,Tryz.underlying9,h1,h5]
open Go.RowKit
def St (A:Nat) (a1 a2 a3:Int) (a4 a5:ByteArray) (w:World):Prop:=w.cell? ⟨A,0,none⟩=some (.int .i64 a1)/\w.cell? ⟨A,1,none⟩=some (.int .i64 a2)/\w.cell? ⟨A,2,none⟩=some (.int .i64 a3)/\w.cell? ⟨A,3,none⟩=some (.string a4)/\w.cell? ⟨A,4,none⟩=some (.string a5)
theorem St.grow {A:Nat} {a1 a2 a3:Int} {a4 a5:ByteArray} {w w':World} (h:St A a1 a2 a3 a4 a5 w) (hg:w.grownBy w' none):St A a1 a2 a3 a4 a5 w' :=
 ⟨hg.cell h.1 (by simp),hg.cell h.2.1 (by simp),hg.cell h.2.2.1 (by simp),hg.cell h.2.2.2.1 (by simp),hg.cell h.2.2.2.2 (by simp)⟩
theorem st_row {A t:Nat} {a1 a2 a3:Int} {a4 a5:ByteArray} {w:World} (h:w.heap[A]?=some (.cells #[.int .i64 a1,.int .i64 a2,.int .i64 a3,.string a4,.string a5] t (0,0))):St A a1 a2 a3 a4 a5 w :=
 ⟨by rw [Lib.cell_of_heap h];rfl,by rw [Lib.cell_of_heap h];rfl,by rw [Lib.cell_of_heap h];rfl,by rw [Lib.cell_of_heap h];rfl,by rw [Lib.cell_of_heap h];rfl⟩
open Go.RowKit
structure Nd where
 n:ByteArray
 r:ByteArray
def ndC (x:Nd):List Value:=[.string x.n,.string x.r]
structure Re where
 nm:ByteArray
 ve:ByteArray
 nd:List Nd
 da:ByteArray
def NdAt (w:World) (p:Addr) (x:Nd):Prop:=w.cell? p=some (.string x.n)/\w.cell? ⟨p.block,p.off+1,none⟩=some (.string x.r)
theorem NdAt.grow {w w':World} {p:Addr} {x:Nd} (h:NdAt w p x) (hg:w.grownBy w' none):NdAt w' p x:=⟨hg.cell h.1 (by simp),hg.cell h.2 (by simp)⟩
def NdS (w:World) (v:Value) (L:List Nd):Prop:=(v=.slice none 0 0/\L=[])\/∃a cap,v=.slice (some a) L.length cap/\L.length<=cap/\∀i (hi:i < L.length),NdAt w (a.add (i * 2)) L[i]
theorem NdS.grow {w w':World} {v:Value} {L:List Nd} (h:NdS w v L) (hg:w.grownBy w' none):NdS w' v L:=by
 rcases h with h | ⟨a,cap,h1,h2,h3⟩
 ·exact Or.inl h
 ·exact Or.inr ⟨a,cap,h1,h2,fun i hi=>(h3 i hi).grow hg⟩
theorem nds_slice {w:World} {v:Value} {L:List Nd} (h:NdS w v L):∃o c,v=.slice o L.length c:=by
 rcases h with ⟨rfl,rfl⟩ | ⟨a,cap,rfl,-⟩
 ·exact ⟨_,_,rfl⟩
 ·exact ⟨_,_,rfl⟩
def ReAt (w:World) (p:Addr) (x:Re):Prop:=w.cell? p=some (.string x.nm)/\w.cell? ⟨p.block,p.off+1,none⟩=some (.string x.ve)/\(∃v,w.cell? ⟨p.block,p.off+2,none⟩=some v/\NdS w v x.nd)/\w.cell? ⟨p.block,p.off+3,none⟩=some (.string x.da)
theorem ReAt.grow {w w':World} {p:Addr} {x:Re} (h:ReAt w p x) (hg:w.grownBy w' none):ReAt w' p x:=by
 obtain ⟨h0,h1,⟨v,h2,h3⟩,h4⟩:=h;exact ⟨hg.cell h0 (by simp),hg.cell h1 (by simp),⟨v,hg.cell h2 (by simp),h3.grow hg⟩,hg.cell h4 (by simp)⟩
def ReS (w:World) (v:Value) (L:List Re):Prop:=(v=.slice none 0 0/\L=[])\/∃a cap,v=.slice (some a) L.length cap/\L.length<=cap/\∀i (hi:i < L.length),ReAt w (a.add (i * 4)) L[i]
theorem ReS.grow {w w':World} {v:Value} {L:List Re} (h:ReS w v L) (hg:w.grownBy w' none):ReS w' v L:=by
 rcases h with h | ⟨a,cap,h1,h2,h3⟩
 ·exact Or.inl h
 ·exact Or.inr ⟨a,cap,h1,h2,fun i hi=>(h3 i hi).grow hg⟩
theorem hcell_lt {w:World} {a:Addr} {v:Value} (h:w.cell? a=some v):a.block < w.heap.size:=by
 unfold World.cell? at h
 cases hb:w.heap[a.block]? with
 | none=>rw [hb] at h;simp at h
 | some o=>exact (Array.getElem?_eq_some_iff.1 hb).1
theorem hadd_off (a:Addr) (n k:Nat) (hk:0 < k):a.add (n+k)=⟨(a.add n).block,(a.add n).off+k,none⟩:=by
 unfold Addr.add;rw [if_neg (by omega)]
 by_cases h:n=0
 ·rw [if_pos h,h];simp
 ·rw [if_neg h];simp [Nat.add_assoc]
theorem hbelow {B:Nat} {a w w':World} (h:Below B a w) (hB:B<=w.heap.size) (hg:w.grownBy w' none):Below B a w' :=
 ⟨hg.os.trans h.os,hg.tape.trans h.tape,hg.output.trans h.output,Nat.le_trans h.size hg.size,fun k hk=>(hg.block k (Nat.lt_of_lt_of_le hk hB) (by simp)).trans (h.block k hk)⟩
theorem bel_gb {w w':World} (h:Below w.heap.size w w'):w.grownBy w' none:=⟨h.os,h.tape,h.output,h.size,fun k hk _=>h.block k hk⟩
theorem infoNd:(Tryz.prog.info? 49).map (fun i=>(i.zero,i.size,i.bytes))=some (some (.agg #[.string ⟨#[]⟩,.string ⟨#[]⟩]),2,32):=by kernel_rfl
theorem ndc_one (s:Nd):∀u ∈ ndC s,u.oneCell'=true:=by
 intro u hu;simp only [ndC,List.mem_cons,List.not_mem_nil,or_false] at hu
 rcases hu with rfl | rfl <;> rfl
theorem keepN {p:Addr} {s:Nd} {r:Option Nat} {w w':World} (hg:w.grownBy w' r) (hn:some p.block ≠ r) (h:w.cell? p=some (.string s.n)/\w.cell? ⟨p.block,p.off+1,none⟩=some (.string s.r)):w'.cell? p=some (.string s.n)/\w'.cell? ⟨p.block,p.off+1,none⟩=some (.string s.r):=⟨hg.cell h.1 hn,hg.cell h.2 hn⟩
def NeedsPost (L:List Nd) (w:World) (e:Ending) (w':World):Prop:=∃v,e=.returned v/\w'.ownsRow w.heap.size 49 2 v L.length (L.flatMap ndC)/\Below w.heap.size w w'
set_option maxRecDepth 100000 in
theorem needs_at (a:Addr) (cap:Nat) (L:List Nd) (w:World) (hL:L.length<=1048576) (hcap:L.length<=cap) (h:∀i (hi:i < L.length),NdAt w (a.add (i * 2)) L[i]) :
  Calls Tryz.prog 5 #[.slice (some a) L.length cap] w (NeedsPost L w):=by
 have HA:Hd (∀i (hi:i < L.length),NdAt w (a.add (i * 2)) L[i]):=h;clear h;have hinfo:=infoNd;obtain ⟨i0,hi0,hii⟩:=Option.map_eq_some_iff.1 hinfo;simp only [Prod.mk.injEq] at hii;obtain ⟨hz0,hz1,hzb⟩:=hii;clear hinfo;go_enter Tryz.func5,Tryz.ntmps5;go_wp2;go_loopw [3,4] (fun vm vi wr=>∃i:Nat,vi=.int .i64 i/\i<=L.length/\wr.ownsRow w.heap.size 49 2 vm i ((L.take i).flatMap ndC)/\Below w.heap.size w wr) (fun _ vi _=>L.length - (intOf vi).toNat)
 case atStart=>exact ⟨0,rfl,Nat.zero_le _,World.ownsRow_nil _ _ _ _,Below.refl _ _⟩
 case round =>
  obtain ⟨i,rfl,hi,hown,hb⟩:=hrel
  by_cases hlt:i < L.length
  ·obtain ⟨s,hs⟩:∃s,L[i]=s:=⟨_,rfl⟩;have HE:Hd (NdAt wr (a.add (i * 2)) s):=by show NdAt wr _ s;rw [<-hs];exact (HA.o i hlt).grow (bel_gb hb)
   obtain ⟨e0,e1⟩:=HE.o;have HFAR:Hd (some (a.add (i * 2)).block ≠ u3.ownBlock):=by
    show _ ≠ _;intro e;have h1:=(hown.lt _ e.symm).1;have h2:=(HA.o i hlt).1;have h3:(a.add (i * 2)).block < w.heap.size:=hcell_lt h2;omega
   have HTK:Hd ((L.take (i+1)).flatMap ndC=(L.take i).flatMap ndC++ndC s):=by
    show _=_;rw [List.take_succ_eq_append_getElem hlt,List.flatMap_append,hs];simp
   have hzz:=hb.size;go_wp2
   go_region_held3 (fun w'=>w'.cell? (a.add (i * 2))=some (.string s.n)/\w'.cell? ⟨(a.add (i * 2)).block,(a.add (i * 2)).off+1,none⟩=some (.string s.r)) ((first | exact keepN (by assumption) (by first | exact HFAR.o | simp) (by assumption) | go_keep)) (first | (refine step_append_lies _ (by rfl) _ _ _ (by rfl) w.heap.size 49 i0 _ 2 32 Tryz.underlying26 hi0 hz0 hz1 hzb (by rfl) (by decide) u3 i ((L.take i).flatMap ndC) (by rfl) (hown.drew.alloc _) _ 1 1 (ndC s) (by rfl) (by rfl) (World.news_of_block (heap_alloc_new _ _)) (ndc_one s) (by omega) (by unfold maxLen;omega) (by omega) (by simp;omega) _ rfl ?_;intro g cap1 w3 hown3 hgrow hat hlt3))
   have hb2:Below w.heap.size w wr.drew:=hbelow hb hzz ⟨rfl,rfl,rfl,Nat.le_refl _,fun _ _ _=>rfl⟩;have HB3:Hd (Below w.heap.size w w3):=(hb2.alloc hzz _).grown hgrow (by simp;omega) (fun q hq=>(hown.lt q hq).1);have HO3:Hd (w3.ownsRow w.heap.size 49 2 (.slice (some ⟨g,0,none⟩) (i+1) cap1) (i+1) ((L.take (i+1)).flatMap ndC)):=by show World.ownsRow _ _ _ _ _ _ _;rw [HTK.o];exact hown3
   clear hown3 hgrow hat hb2 hown hb hlt3 e0 e1 hs;go_wp2;go_roundw
   case rel=>exact ⟨i+1,by go_num,by omega,HO3.o,HB3.o⟩
   case measure=>simp [intOf];omega
  ·have hil:i=L.length:=by omega
   have HO:Hd (wr.ownsRow w.heap.size 49 2 u3 L.length (L.flatMap ndC)):=by
    show World.ownsRow _ _ _ _ _ _ _;rw [hil,List.take_length] at hown;exact hown
   have HB:Hd (Below w.heap.size w wr):=hb;clear hown hb hil hi;go_wp2;refine bodyPost_ret (results_tmp (t:=2) rfl _ _ _) rfl ⟨u3,rfl,HO.o,HB.o⟩
theorem needs_nil (w:World):Calls Tryz.prog 5 #[.slice none 0 0] w (NeedsPost [] w):=by
 go_enter Tryz.func5,Tryz.ntmps5;go_wp2;go_loopw [3,4] (fun vm vi wr=>vi=.int .i64 0/\vm=.slice none 0 0/\Below w.heap.size w wr) (fun _ vi _=>0)
 case atStart=>exact ⟨rfl,rfl,Below.refl _ _⟩
 case round =>
  obtain ⟨rfl,rfl,hb⟩:=hrel;have HB:Hd (Below w.heap.size w wr):=hb;clear hb;go_wp2;refine bodyPost_ret (results_tmp (t:=2) rfl _ _ _) rfl ⟨_,rfl,World.ownsRow_nil _ _ _ _,HB.o⟩
theorem nd_get (l:List Nd):∀(i:Nat) (hi:i < l.length) (k:Nat) (u:Value),(ndC l[i])[k]?=some u->(l.flatMap ndC)[i * 2+k]?=some u:=by
 induction l with
 | nil=>intro i hi;simp at hi
 | cons t l ih =>
  intro i hi k u h;rw [List.flatMap_cons];have hl:(ndC t).length=2:=rfl
  cases i with
  | zero =>
   simp only [List.getElem_cons_zero] at h;have hk:k < (ndC t).length:=(List.getElem?_eq_some_iff.1 h).1;rw [Nat.zero_mul,Nat.zero_add,List.getElem?_append_left hk];exact h
  | succ i =>
   simp only [List.getElem_cons_succ] at h;rw [List.getElem?_append_right (by rw [hl];omega),hl,show (i+1) * 2+k - 2=i * 2+k by omega];exact ih i (by simpa using hi) k u h
theorem nds_own {w:World} {base:Nat} {v:Value} {L:List Nd} (h:w.ownsRow base 49 2 v L.length (L.flatMap ndC)):NdS w v L:=by
 rcases h.2 with ⟨h1,h2⟩ | ⟨g,cap,cur,hv,hb,hc,h3,h4,h5,h6⟩
 ·exact Or.inl ⟨h1,List.length_eq_zero_iff.1 h2⟩
 ·refine Or.inr ⟨⟨g,0,none⟩,cap,hv,h3,fun i hi=>?_⟩;have h':=h;rw [hv] at h';have k0:=h'.cells (g:=g) rfl (i * 2+0) _ (nd_get L i hi 0 _ rfl);have k1:=h'.cells (g:=g) rfl (i * 2+1) _ (nd_get L i hi 1 _ rfl);refine ⟨?_,?_⟩
  ·simpa using k0
  ·rw [hadd_off _ _ 1 (by omega)] at k1;simpa using k1
theorem cNeeds (v:Value) (L:List Nd) (w:World) (h:NdS w v L) (hL:L.length<=1048576) :
  Calls Tryz.prog 5 #[v] w fun e w'=>∃o c,e=.returned (.slice o L.length c)/\NdS w' (.slice o L.length c) L/\w.grownBy w' none:=by
 rcases h with ⟨rfl,rfl⟩ | ⟨a,cap,rfl,h2,h3⟩
 ·refine (needs_nil w).mono ?_;rintro e w' ⟨v,rfl,ho,hb⟩;obtain ⟨o,c,rfl⟩:=nds_slice (nds_own ho);exact ⟨o,c,rfl,nds_own ho,bel_gb hb⟩
 ·refine (needs_at a cap L w hL h2 h3).mono ?_;rintro e w' ⟨v,rfl,ho,hb⟩;obtain ⟨o,c,rfl⟩:=nds_slice (nds_own ho);exact ⟨o,c,rfl,nds_own ho,bel_gb hb⟩
open Go.RowKit Go.Maps
def sameN (P:List Nd) (x:Nd):Bool:=P.any fun y=>decide (y.n=x.n)
def twTo (L:List Nd):Nat->Bool
 | 0=>false
 | i+1=>twTo L i || (match L[i]? with | some x=>sameN (L.take i) x | none=>false)
theorem tw_step (L:List Nd) (i:Nat) (hi:i < L.length):twTo L (i+1)=(twTo L i || sameN (L.take i) L[i]):=by
 simp [twTo,List.getElem?_eq_getElem hi]
theorem tw_up (L:List Nd) (i k:Nat) (h:twTo L i=true):twTo L (i+k)=true:=by
 induction k with
 | zero=>exact h
 | succ k ih=>rw [<-Nat.add_assoc,twTo,ih];rfl
theorem tw_hit (L:List Nd) (i:Nat) (hi:i < L.length) (h:sameN (L.take i) L[i]=true):twTo L L.length=true:=by
 have h1:twTo L (i+1)=true:=by rw [tw_step L i hi,h,Bool.or_true]
 have:=tw_up L (i+1) (L.length - (i+1)) h1
 rwa [show i+1+(L.length - (i+1))=L.length by omega] at this
theorem tw_miss (L:List Nd) (i:Nat) (hi:i < L.length) (h:sameN (L.take i) L[i]=false) (h0:twTo L i=false):twTo L (i+1)=false:=by
 rw [tw_step L i hi,h,h0];rfl
def keyN (x:Nd):Lit:=.string x.n.data.toList
theorem key_same (P:List Nd) (x:Nd):(P.map keyN).any (fun y=>y.sameKey (keyN x))=sameN P x:=by
 unfold sameN;rw [List.any_map];congr 1;funext y;show (keyN y).sameKey (keyN x)=decide (y.n=x.n);rw [Bool.eq_iff_iff,WideAt.sameKey_iff (by trivial)];unfold keyN;constructor
 ·intro h;injection h with h
  simp only [decide_eq_true_eq];exact ByteArray.ext (Array.ext' h)
 ·intro h;have:y.n=x.n:=by simpa using h
  rw [this]
def setN (L:List Nd) (i:Nat):DataW Unit:=setOf (.agg []) ((L.take i).map keyN)
theorem set_has (L:List Nd) (i:Nat) (x:Nd):Maps.has (setN L i) (keyN x)=sameN (L.take i) x:=by
 unfold setN;rw [has_setOf _ _ _ (fun y hy=>by obtain ⟨z,-,rfl⟩:=List.mem_map.1 hy;trivial)];exact key_same _ _
theorem set_next (L:List Nd) (i:Nat) (hi:i < L.length):(setN L i).put (keyN L[i]) (.agg [])=setN L (i+1):=by
 unfold setN;rw [List.take_succ_eq_append_getElem hi,List.map_append,List.map_singleton,setOf_snoc]
theorem gb_farb {w u u':World} {b:Nat} (h:w.grownBy u none) (hg:u.grownBy u' (some b)) (hb:w.heap.size<=b):w.grownBy u' none :=
 ⟨hg.os.trans h.os,hg.tape.trans h.tape,hg.output.trans h.output,Nat.le_trans h.size hg.size,fun k hk hn=>(hg.block k (Nat.lt_of_lt_of_le hk h.size) (by simp;omega)).trans (h.block k hk hn)⟩
theorem keyS:Keyed Tryz.prog 9:=string_keyed Tryz.underlying9
theorem zeroU (w:World):(zeroValue 64).run Tryz.prog w=.ok (.agg #[]) w:=by kernel_rfl
theorem makeU (n:Int) (w:World):(Instr.makeMap 63 (some (.int .i64 n))).run Tryz.prog w=.ok (.map (some w.heap.size)) (w.alloc (.map #[] 0)):=by kernel_rfl
set_option maxRecDepth 100000 in
theorem hasTwice_at (a:Addr) (cap:Nat) (L:List Nd) (w:World) (hL:L.length<=1048576) (hcap:L.length<=cap) (hz:∀x ∈ L,x.n.size<=maxLen) (h:∀i (hi:i < L.length),NdAt w (a.add (i * 2)) L[i]) :
  Calls Tryz.prog 35 #[.slice (some a) L.length cap] w fun e w'=>e=.returned (.bool (twTo L L.length))/\w.grownBy w' none:=by
 have HA:Hd (∀i (hi:i < L.length),NdAt w (a.add (i * 2)) L[i]):=h;have HZ:Hd (∀x ∈ L,x.n.size<=maxLen):=hz;obtain ⟨R,hR⟩:∃R,twTo L L.length=R:=⟨_,rfl⟩;have HR:Hd (twTo L L.length=R):=hR;rw [hR];clear h hz hR;obtain ⟨B,hB⟩:∃B,w.heap.size=B:=⟨_,rfl⟩;have HB:Hd (w.heap.size=B):=hB;have hmm:=makeU (L.length:Int) w;go_enter Tryz.func35,Tryz.ntmps35;go_wp2
 try rw [hB]
 clear hB hmm;go_loopw [13] (fun vi wr=>∃i:Nat,vi=.int .i64 i/\i<=L.length/\twTo L i=false/\wr.ownsMap Tryz.prog 9 (unitElem (H:=Unit)) B i (setN L i)/\w.grownBy wr none) (fun vi _=>L.length - (intOf vi).toNat)
 case atStart=>exact ⟨0,rfl,Nat.zero_le _,rfl,HB.o ▸ World.ownsMap_made _ _ _ _,gb_alloc (gb_refl w none) _⟩
 case round =>
  obtain ⟨i,rfl,hi,ht,hown,hg⟩:=hrel;have HT:Hd (twTo L i=false):=ht;have HG:Hd (w.grownBy wr none):=hg
  by_cases hlt:i < L.length
  ·obtain ⟨x,hx⟩:∃x,L[i]=x:=⟨_,rfl⟩;have hat:NdAt wr (a.add (i * 2)) x:=by rw [<-hx];exact (HA.o i hlt).grow hg
   have hkey:keyOf Tryz.prog 9 (.string x.n)=some (keyN x):=Go.WideMaps.keyOf_string_mk Tryz.underlying9 (HZ.o x (by rw [<-hx];exact List.getElem_mem _));have HS:Hd (Maps.has (setN L i) (keyN x)=sameN (L.take i) x):=set_has L i x;have HN:Hd ((setN L i).put (keyN x) (.agg [])=setN L (i+1)):=by show _=_;rw [<-hx];exact set_next L i hlt
   have HX:Hd (L[i]=x):=hx;obtain ⟨q,hq⟩:∃q,Maps.has (setN L i) (keyN x)=q:=⟨_,rfl⟩;have HQ:Hd (Maps.has (setN L i) (keyN x)=q):=hq;obtain ⟨e0,e1⟩:=hat;have hown2:=(hown.alloc (.cells #[.string x.n,.string x.r] 49));clear ht hg hx
   cases q with
   | true =>
    go_wp2_with (first | (at_lookup;refine wpList_lookup_own_unit _ rfl _ _ 63 rfl 9 64 keyS Tryz.underlying63 (zeroU _) B i _ rfl hown2 _ _ rfl hkey ?_;rw [hq]) | go_in);go_ret;exact ⟨ret_bool (HR.o.symm.trans (tw_hit L i hlt (by rw [HX.o,<-HS.o,HQ.o]))).symm,gb_alloc (gb_alloc HG.o _) _⟩
   | false =>
    go_wp2_with (first | (at_lookup;refine wpList_lookup_own_unit _ rfl _ _ 63 rfl 9 64 keyS Tryz.underlying63 (zeroU _) B i _ rfl hown2 _ _ rfl hkey ?_;rw [hq]) | (at_mapUpdate;refine wpList_mapUpdate_own _ rfl _ _ _ 63 rfl 9 64 keyS Tryz.underlying63 (unitElem (H:=Unit)) B i _ rfl (hown2.alloc _) (by unfold maxLen;omega) _ _ _ rfl rfl hkey _ [] unitElem_mk ?_;intro w1 hown1 hgrow1) | go_in);go_roundw
    case rel=>exact ⟨i+1,by go_num,by omega,tw_miss L i hlt (by rw [HX.o,<-HS.o,HQ.o]) HT.o,by rw [<-HN.o];exact hown1,gb_farb (gb_alloc (gb_alloc HG.o _) _) hgrow1 (Nat.le_of_eq HB.o)⟩
    case measure=>simp [intOf];omega
  ·have hil:i=L.length:=by omega
   have HF:Hd (R=false):=by
    show R=false;rw [<-HR.o,<-hil];exact ht
   clear ht hg hil hi hown;go_wp2;go_ret;exact ⟨ret_bool HF.o.symm,HG.o⟩
end Go.Proofs.YticgahdffjnabaaGreatDoor
