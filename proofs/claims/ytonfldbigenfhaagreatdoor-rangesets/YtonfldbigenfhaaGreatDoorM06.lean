import Derived.Test.YtonfldbigenfhaaGreatDoorM05
import Derived.Below
import Derived.Deep.RegionHeld3
import Derived.Test.YtonfldbigenfhaaGreatDoorM04
namespace Go.Proofs.YtonfldbigenfhaaGreatDoor
open Go.RowKit
set_option linter.unusedVariables false
def or3 (x y z:Int):Int:=if x=0 then (if y=0 then z else y) else x
set_option maxHeartbeats 400000 in
theorem or_any (x y z:Int) (b:Nat) (w:World) (h0:w.cell? ⟨b,0,none⟩=some (.int .i64 x)) (h1:w.cell? ⟨b,1,none⟩=some (.int .i64 y)) (h2:w.cell? ⟨b,2,none⟩=some (.int .i64 z)) :
  Calls Tryz.prog 74 #[.slice (some ⟨b,0,none⟩) 3 3] w fun e w'=>e=.returned (.int .i64 (or3 x y z))/\w'=w:=by
 obtain ⟨R,hR⟩:∃R,R=or3 x y z:=⟨_,rfl⟩
 have HR:Hid (R=or3 x y z):=hR
 rw [<-hR]
 clear hR
 go_enter Tryz.func74,Tryz.ntmps74
 go_wp2
 go_loop [8] (fun i=>∃k:Nat,k<=3/\i=.int .i64 k/\(1<=k->x=0)/\(2<=k->y=0)/\(3<=k->z=0)) (fun i=>3 - (intOf i).toNat)
 case atStart=>exact ⟨0,by omega,rfl,by omega,by omega,by omega⟩
 case round =>
  obtain ⟨k,hk,rfl,k1,k2,k3⟩:=hrel
  rcases (show k=0\/k=1\/k=2\/k=3 by omega) with rfl | rfl | rfl | rfl
  ·clear k1 k2 k3 hk
   cases hz:(x == 0) with
   | true =>
    have hx:x=0:=by simpa using hz
    go_wp2
    go_round
    case rel=>exact ⟨1,by omega,rfl,fun _=>hx,by omega,by omega⟩
    case measure=>simp [intOf]
   | false =>
    have HZ:Hid (R=x):=by show R=x;rw [HR.out];unfold or3;rw [if_neg (by simpa using hz)]
    go_wp2
    go_ret
    exact ⟨ret_int HZ.out.symm,rfl⟩
  ·have hx:Hid (x=0):=k1 (by omega)
   clear k1 k2 k3 hk
   cases hz:(y == 0) with
   | true =>
    have hy:y=0:=by simpa using hz
    go_wp2
    go_round
    case rel=>exact ⟨2,by omega,rfl,fun _=>hx.out,fun _=>hy,by omega⟩
    case measure=>simp [intOf]
   | false =>
    have HZ:Hid (R=y):=by show R=y;rw [HR.out];unfold or3;rw [if_pos hx.out,if_neg (by simpa using hz)]
    go_wp2
    go_ret
    exact ⟨ret_int HZ.out.symm,rfl⟩
  ·have hx:Hid (x=0):=k1 (by omega)
   have hy:Hid (y=0):=k2 (by omega)
   clear k1 k2 k3 hk
   have HZ:Hid (R=z):=by show R=z;rw [HR.out];unfold or3;rw [if_pos hx.out,if_pos hy.out]
   cases hz:(z == 0) with
   | true =>
    have hy':z=0:=by simpa using hz
    go_wp2
    go_round
    case rel=>exact ⟨3,by omega,rfl,fun _=>hx.out,fun _=>hy.out,fun _=>hy'⟩
    case measure=>simp [intOf]
   | false =>
    go_wp2
    go_ret
    exact ⟨ret_int HZ.out.symm,rfl⟩
  ·have HZ:Hid (R=0):=by show R=0;rw [HR.out];unfold or3;rw [if_pos (k1 (by omega)),if_pos (k2 (by omega)),k3 (by omega)]
   clear k1 k2 k3 hk
   go_wp2
   go_ret
   exact ⟨ret_int HZ.out.symm,rfl⟩
theorem verC_or (a b:V):verC a b=if or3 (Lib.compareInt a.major b.major) (Lib.compareInt a.minor b.minor) (Lib.compareInt a.patch b.patch)=0 then preC a.pre b.pre else or3 (Lib.compareInt a.major b.major) (Lib.compareInt a.minor b.minor) (Lib.compareInt a.patch b.patch):=by
 rw [verC_eq];unfold or3
 repeat' split
 all_goals first | rfl | (exfalso;omega) | omega
set_option maxHeartbeats 800000 in
theorem compare_any (a1 a2 a3 b1 b2 b3:Int) (a4 a5 b4 b5:ByteArray) (w:World) (hs:a4.size < 2 ^ 62) (hs':b4.size < 2 ^ 62) :
  Calls Tryz.prog 44 #[.agg #[.int .i64 a1,.int .i64 a2,.int .i64 a3,.string a4,.string a5],.agg #[.int .i64 b1,.int .i64 b2,.int .i64 b3,.string b4,.string b5]] w fun e w'=>e=.returned (.int .i64 (verC ⟨a1,a2,a3,a4.data.toList⟩ ⟨b1,b2,b3,b4.data.toList⟩))/\w.grownBy w' none:=by
 obtain ⟨R,hR⟩:∃R,R=verC ⟨a1,a2,a3,a4.data.toList⟩ ⟨b1,b2,b3,b4.data.toList⟩:=⟨_,rfl⟩
 obtain ⟨x,hx⟩:∃x,x=Lib.compareInt a1 b1:=⟨_,rfl⟩
 obtain ⟨y,hy⟩:∃y,y=Lib.compareInt a2 b2:=⟨_,rfl⟩
 obtain ⟨z,hz⟩:∃z,z=Lib.compareInt a3 b3:=⟨_,rfl⟩
 obtain ⟨p,hp⟩:∃p,p=preC a4.data.toList b4.data.toList:=⟨_,rfl⟩
 obtain ⟨o,ho⟩:∃o,o=or3 x y z:=⟨_,rfl⟩
 have HR:Hid (R=if o=0 then p else o):=by
  show R=if o=0 then p else o
  rw [hR,verC_or,ho,hx,hy,hz,hp]
 have C1:Hid (∀w,Calls Tryz.prog 75 #[.int .i64 a1,.int .i64 b1] w fun e w'=>e=.returned (.int .i64 x)/\w'=w):=fun w=>by rw [hx];exact cmpInt_any _ _ w
 have C2:Hid (∀w,Calls Tryz.prog 75 #[.int .i64 a2,.int .i64 b2] w fun e w'=>e=.returned (.int .i64 y)/\w'=w):=fun w=>by rw [hy];exact cmpInt_any _ _ w
 have C3:Hid (∀w,Calls Tryz.prog 75 #[.int .i64 a3,.int .i64 b3] w fun e w'=>e=.returned (.int .i64 z)/\w'=w):=fun w=>by rw [hz];exact cmpInt_any _ _ w
 have CP:Hid (∀w,Calls Tryz.prog 76 #[.string a4,.string b4] w fun e w'=>e=.returned (.int .i64 p)/\w.grownBy w' none):=fun w=>by rw [hp];exact pre_any a4 b4 w hs hs'
 have CO:Hid (∀(b:Nat) (w:World),w.cell? ⟨b,0,none⟩=some (.int .i64 x)->w.cell? ⟨b,1,none⟩=some (.int .i64 y)->w.cell? ⟨b,2,none⟩=some (.int .i64 z)->Calls Tryz.prog 74 #[.slice (some ⟨b,0,none⟩) 3 3] w fun e w'=>e=.returned (.int .i64 o)/\w'=w):=fun b w h0 h1 h2=>by rw [ho];exact or_any x y z b w h0 h1 h2
 rw [<-hR]
 clear hR hx hy hz hp ho hs hs'
 go_enter Tryz.func44,Tryz.ntmps44
 go_wp2
 obtain ⟨W,hW⟩:∃W,(w.alloc (.cells #[.int .i64 a1,.int .i64 a2,.int .i64 a3,.string a4,.string a5] 35)).alloc (.cells #[.int .i64 b1,.int .i64 b2,.int .i64 b3,.string b4,.string b5] 35)=W:=⟨_,rfl⟩
 rw [hW]
 have g1:W.heap[w.heap.size]?=some (.cells #[.int .i64 a1,.int .i64 a2,.int .i64 a3,.string a4,.string a5] 35 (0,0)):=by
  rw [<-hW,Lib.alloc_old _ _ _ (by simp)]
  exact heap_alloc_new w _
 have g2:W.heap[w.heap.size+1]?=some (.cells #[.int .i64 b1,.int .i64 b2,.int .i64 b3,.string b4,.string b5] 35 (0,0)):=by
  rw [<-hW]
  have:=heap_alloc_new (w.alloc (.cells #[.int .i64 a1,.int .i64 a2,.int .i64 a3,.string a4,.string a5] 35)) (.cells #[.int .i64 b1,.int .i64 b2,.int .i64 b3,.string b4,.string b5] 35)
  rw [show (w.alloc (.cells #[.int .i64 a1,.int .i64 a2,.int .i64 a3,.string a4,.string a5] 35)).heap.size=w.heap.size+1 by simp] at this
  exact this
 have HGW:Hid (w.grownBy W none):=by
  show w.grownBy W none
  rw [<-hW]
  exact ⟨rfl,rfl,rfl,by simp;omega,fun k hk _=>by rw [Lib.alloc_old _ _ _ (by simp;omega),Lib.alloc_old _ _ _ hk]⟩
 have HSZ:Hid (W.heap.size=w.heap.size+2):=by
  show W.heap.size=w.heap.size+2
  rw [<-hW];simp
 obtain ⟨A,hA⟩:∃A,w.heap.size=A:=⟨_,rfl⟩
 rw [hA] at g1 g2
 rw [hA]
 have HA:Hid (W.heap.size=A+2):=by
  show W.heap.size=A+2
  rw [<-hA];exact HSZ.out
 have c0:W.cell? ⟨A,0,none⟩=some (.int .i64 a1):=by rw [Lib.cell_of_heap g1];rfl
 have c1:W.cell? ⟨A,1,none⟩=some (.int .i64 a2):=by rw [Lib.cell_of_heap g1];rfl
 have c2:W.cell? ⟨A,2,none⟩=some (.int .i64 a3):=by rw [Lib.cell_of_heap g1];rfl
 have c3:Hid (W.cell? ⟨A,3,none⟩=some (.string a4)):=by show W.cell? _=_;rw [Lib.cell_of_heap g1];rfl
 have d0:W.cell? ⟨A+1,0,none⟩=some (.int .i64 b1):=by rw [Lib.cell_of_heap g2];rfl
 have d1:W.cell? ⟨A+1,1,none⟩=some (.int .i64 b2):=by rw [Lib.cell_of_heap g2];rfl
 have d2:W.cell? ⟨A+1,2,none⟩=some (.int .i64 b3):=by rw [Lib.cell_of_heap g2];rfl
 have d3:Hid (W.cell? ⟨A+1,3,none⟩=some (.string b4)):=by show W.cell? _=_;rw [Lib.cell_of_heap g2];rfl
 clear hW hA HSZ g1 g2
 go_region_held3 (fun w'=>w'.cell? ⟨A,0,none⟩=some (.int .i64 a1)/\w'.cell? ⟨A,1,none⟩=some (.int .i64 a2)/\w'.cell? ⟨A,2,none⟩=some (.int .i64 a3)/\w'.cell? ⟨A+1,0,none⟩=some (.int .i64 b1)/\w'.cell? ⟨A+1,1,none⟩=some (.int .i64 b2)/\w'.cell? ⟨A+1,2,none⟩=some (.int .i64 b3)) (go_keep) (first | (go_at_call_of 75 (Value.int .i64 a1);refine (C1.out _).mono ?_;rintro e w' ⟨rfl,rfl⟩) | (go_at_call_of 75 (Value.int .i64 a2);refine (C2.out _).mono ?_;rintro e w' ⟨rfl,rfl⟩) | (go_at_call_of 75 (Value.int .i64 a3);refine (C3.out _).mono ?_;rintro e w' ⟨rfl,rfl⟩) | (go_at_call 74;refine (CO.out _ _ (by simp) (by simp) (by simp)).mono ?_;rintro e w' ⟨rfl,rfl⟩))
 obtain ⟨W2,hW2⟩:∃W2,(W.alloc (.cells #[.int .i64 x,.int .i64 y,.int .i64 z] 3)).drew=W2:=⟨_,rfl⟩
 rw [hW2]
 have hlt:A < W.heap.size/\A+1 < W.heap.size:=by have:=HA.out;omega
 have e3:W2.cell? ⟨A,3,none⟩=some (.string a4):=by
  rw [<-hW2]
  exact (World.cell?_of_block (show ((W.alloc _).drew).heap[A]?=W.heap[A]? from Lib.alloc_old W _ A hlt.1)).trans c3.out
 have f3:W2.cell? ⟨A+1,3,none⟩=some (.string b4):=by
  rw [<-hW2]
  exact (World.cell?_of_block (show ((W.alloc _).drew).heap[A+1]?=W.heap[A+1]? from Lib.alloc_old W _ (A+1) hlt.2)).trans d3.out
 have HG2:Hid (w.grownBy W2 none):=by
  show w.grownBy W2 none
  rw [<-hW2]
  have h1:W.grownBy ((W.alloc (.cells #[.int .i64 x,.int .i64 y,.int .i64 z] 3)).drew) none:=⟨rfl,rfl,rfl,by simp,fun k hk _=>Lib.alloc_old W _ k hk⟩
  exact gb_trans HGW.out h1
 clear hW2 hlt c0 c1 c2 c3 d0 d1 d2 d3 HA HGW C1 C2 C3 CO
 cases hz:(o == 0) with
 | false =>
  have HZ:Hid (R=o):=by show R=o;rw [HR.out,if_neg (by simpa using hz)]
  go_wp2
  go_ret
  exact ⟨ret_int HZ.out.symm,HG2.out⟩
 | true =>
  have HZ:Hid (R=p):=by show R=p;rw [HR.out,if_pos (by simpa using hz)]
  go_wp2_with (first | (go_at_call 76;refine (CP.out _).mono ?_;rintro e w4 ⟨rfl,hg4⟩))
  go_ret
  exact ⟨ret_int HZ.out.symm,gb_trans HG2.out hg4⟩
open Go.RowKit
theorem below_gb' {w w':World} (h:Below w.heap.size w w'):w.grownBy w' none:=⟨h.os,h.tape,h.output,h.size,fun k hk _=>h.block k hk⟩
open Go.RowKit
structure Sp where
 f1:Int
 f2:Int
 f3:Int
 f4:ByteArray
 f5:ByteArray
 t1:Int
 t2:Int
 t3:Int
 t4:ByteArray
 t5:ByteArray
 o:Bool
def spC (s:Sp):List Value:=[.int .i64 s.f1,.int .i64 s.f2,.int .i64 s.f3,.string s.f4,.string s.f5,.int .i64 s.t1,.int .i64 s.t2,.int .i64 s.t3,.string s.t4,.string s.t5,.bool s.o]
def vFrom (s:Sp):Vv:=⟨s.f1,s.f2,s.f3,s.f4.data.toList,s.f5.data.toList⟩
def vTo (s:Sp):Vv:=⟨s.t1,s.t2,s.t3,s.t4.data.toList,s.t5.data.toList⟩
def soundS (s:Sp):Bool:=soundV (vFrom s) && (s.o || soundV (vTo s))
def smallS (s:Sp):Prop:=s.f4.size<=1048576/\s.f5.size<=1048576/\s.t4.size<=1048576/\s.t5.size<=1048576
def EltAt (w:World) (p:Addr) (s:Sp):Prop:=w.cell? p=some (.int .i64 s.f1)/\w.cell? ⟨p.block,p.off+1,none⟩=some (.int .i64 s.f2)/\w.cell? ⟨p.block,p.off+2,none⟩=some (.int .i64 s.f3)/\w.cell? ⟨p.block,p.off+3,none⟩=some (.string s.f4)/\w.cell? ⟨p.block,p.off+4,none⟩=some (.string s.f5)/\w.cell? ⟨p.block,p.off+5,none⟩=some (.int .i64 s.t1)/\w.cell? ⟨p.block,p.off+6,none⟩=some (.int .i64 s.t2)/\w.cell? ⟨p.block,p.off+7,none⟩=some (.int .i64 s.t3)/\w.cell? ⟨p.block,p.off+8,none⟩=some (.string s.t4)/\w.cell? ⟨p.block,p.off+9,none⟩=some (.string s.t5)/\w.cell? ⟨p.block,p.off+10,none⟩=some (.bool s.o)
theorem EltAt.grow {w w':World} {p:Addr} {s:Sp} (h:EltAt w p s) (hg:w.grownBy w' none):EltAt w' p s:=by
 obtain ⟨h0,h1,h2,h3,h4,h5,h6,h7,h8,h9,h10⟩:=h
 exact ⟨hg.cell h0 (by simp),hg.cell h1 (by simp),hg.cell h2 (by simp),hg.cell h3 (by simp),hg.cell h4 (by simp),hg.cell h5 (by simp),hg.cell h6 (by simp),hg.cell h7 (by simp),hg.cell h8 (by simp),hg.cell h9 (by simp),hg.cell h10 (by simp)⟩
def SpAt (w:World) (a:Addr) (L:List Sp):Prop:=∀i (hi:i < L.length),EltAt w (a.add (i * 11)) L[i]
theorem SpAt.grow {w w':World} {a:Addr} {L:List Sp} (h:SpAt w a L) (hg:w.grownBy w' none):SpAt w' a L:=fun i hi=>(h i hi).grow hg
theorem add_off (a:Addr) (n k:Nat) (hk:0 < k):a.add (n+k)=⟨(a.add n).block,(a.add n).off+k,none⟩:=by
 unfold Addr.add
 rw [if_neg (by omega)]
 by_cases h:n=0
 ·rw [if_pos h,h];simp
 ·rw [if_neg h];simp [Nat.add_assoc]
theorem elt_of_cells {w:World} {a:Addr} {n:Nat} {s:Sp} (h:∀k v,(spC s)[k]?=some v->w.cell? (a.add (n+k))=some v):EltAt w (a.add n) s :=
 ⟨by have:=h 0 _ rfl;simpa using this,by have:=h 1 _ rfl;rw [add_off a n 1 (by omega)] at this;exact this,by have:=h 2 _ rfl;rw [add_off a n 2 (by omega)] at this;exact this,by have:=h 3 _ rfl;rw [add_off a n 3 (by omega)] at this;exact this,by have:=h 4 _ rfl;rw [add_off a n 4 (by omega)] at this;exact this,by have:=h 5 _ rfl;rw [add_off a n 5 (by omega)] at this;exact this,by have:=h 6 _ rfl;rw [add_off a n 6 (by omega)] at this;exact this,by have:=h 7 _ rfl;rw [add_off a n 7 (by omega)] at this;exact this,by have:=h 8 _ rfl;rw [add_off a n 8 (by omega)] at this;exact this,by have:=h 9 _ rfl;rw [add_off a n 9 (by omega)] at this;exact this,by have:=h 10 _ rfl;rw [add_off a n 10 (by omega)] at this;exact this⟩
open Go.RowKit
set_option maxHeartbeats 400000 in
theorem rorder_any (x y:Int) (w:World):Calls Tryz.prog 93 #[.int .i64 x,.int .i64 y] w fun e w'=>e=.returned (.int .i64 (Lib.compareInt x y))/\w'=w:=by
 go_enter Tryz.func93,Tryz.ntmps93
 go_wp2
 all_goals go_ret
 all_goals (refine ⟨ret_int ?_,rfl⟩;unfold Lib.compareInt;repeat' split)
 all_goals omega
set_option maxHeartbeats 400000 in
theorem rorderText_any (a b:ByteArray) (w:World):Calls Tryz.prog 136 #[.string a,.string b] w fun e w'=>e=.returned (.int .i64 (Lib.compareBytes a.data.toList b.data.toList))/\w'=w:=by
 cases h1:Op.bytesLess a.toList b.toList with
 | true =>
  rw [less_m1 h1]
  go_enter Tryz.func136,Tryz.ntmps136
  go_wp2
  go_ret
  exact ⟨rfl,rfl⟩
 | false =>
  cases h2:(!a.toList == b.toList) with
  | true =>
   rw [less_p1 h1 h2]
   go_enter Tryz.func136,Tryz.ntmps136
   go_wp2
   go_ret
   exact ⟨rfl,rfl⟩
  | false =>
   rw [less_0 h2]
   go_enter Tryz.func136,Tryz.ntmps136
   go_wp2
   go_ret
   exact ⟨rfl,rfl⟩
theorem bareR_stop (l:List UInt8) (h:l.length<=1\/l[0]? ≠ some 48):bareR l=l:=by
 match l with
 | []=>rfl
 | [c]=>rfl
 | c :: d :: r =>
  have:c ≠ 48:=by
   rcases h with h | h
   ·simp at h
   ·simpa using h
  unfold bareR;rw [if_neg this]
theorem bareR_step (l:List UInt8) (h1:1 < l.length) (h:l[0]?=some 48):bareR l=bareR (l.drop 1):=by
 match l with
 | []=>simp at h1
 | [c]=>simp at h1
 | c :: d :: r =>
  have:c=48:=by simpa using h
  conv=>lhs;unfold bareR
  rw [if_pos this];rfl
theorem mk_data (x:ByteArray):(⟨x.data.toList.toArray⟩:ByteArray)=x:=by cases x;simp
set_option maxHeartbeats 400000 in
theorem rbare_any (s:ByteArray) (w:World) (hs:s.size < 2 ^ 62) :
  Calls Tryz.prog 137 #[.string s] w fun e w'=>e=.returned (.string ⟨(bareR s.data.toList).toArray⟩)/\w'=w:=by
 obtain ⟨R,hR⟩:∃R,R=bareR s.data.toList:=⟨_,rfl⟩
 have HR:Hid (R=bareR s.data.toList):=hR
 rw [<-hR]
 clear hR
 go_enter Tryz.func137,Tryz.ntmps137
 go_wp2
 go_loop [0] (fun v=>∃x:ByteArray,v=.string x/\R=bareR x.data.toList) (fun v=>sizeV v)
 case atStart=>exact ⟨s,rfl,HR.out⟩
 case round =>
  obtain ⟨x,rfl,hr⟩:=hrel
  have HX:Hid (R=bareR x.data.toList):=hr
  clear hr
  by_cases h1:1 < x.size
  ·have h0:0 < x.size:=by omega
   cases hz:((x[0].toNat:Int) == 48) with
   | true =>
    have hc:x[0]=48:=UInt8.toNat_inj.1 (by have:=eq_of_beq hz;have e48:(48:UInt8).toNat=48:=rfl;omega)
    obtain ⟨Y,hY⟩:∃Y:ByteArray,Y=⟨(x.data.toList.drop 1).toArray⟩:=⟨_,rfl⟩
    have HY:Hid (R=bareR Y.data.toList):=by
     show R=bareR Y.data.toList
     rw [HX.out,bareR_step _ (by simpa using h1) (by rw [get_data x 0 h0,hc]),hY]
    have HL:Hid (Y.size < x.size):=by
     show Y.size < x.size
     rw [hY];show (x.data.toList.drop 1).toArray.size < x.size
     simp;omega
    have sl:∀wx,(Instr.slice 9 (.string x) (some (.int .i64 1)) none none).run Tryz.prog wx=.ok (.string Y) wx:=fun wx=>by rw [hY];exact run_suf x 1 (by omega) wx
    clear hY hc
    go_wp2
    go_round
    case rel=>exact ⟨Y,rfl,HY.out⟩
    case measure=>exact HL.out
   | false =>
    have HS:Hid (R=x.data.toList):=by
     show R=x.data.toList
     rw [HX.out]
     refine bareR_stop _ (Or.inr ?_)
     rw [get_data x 0 h0]
     intro e
     have e':x[0]=48:=Option.some.inj e
     rw [e'] at hz
     exact absurd hz (by decide)
    go_wp2
    go_ret
    exact ⟨by rw [HS.out,mk_data];rfl,rfl⟩
  ·have HS:Hid (R=x.data.toList):=by
    show R=x.data.toList
    rw [HX.out]
    exact bareR_stop _ (Or.inl (by simp;exact Nat.le_of_not_lt h1))
   go_wp2
   go_ret
   exact ⟨by rw [HS.out,mk_data];rfl,rfl⟩
open Go.RowKit
theorem numT_of {a:ByteArray} (e:Bool) (d:Bool) (he:a.toList.isEmpty=e) (hd:a.data.toList.all isD=d):numT a.data.toList=(!e && d):=by
 unfold numT;rw [hd];rw [Lib.toList_data] at he;rw [he]
set_option maxHeartbeats 1600000 in
theorem rorderPart_any (a b:ByteArray) (w:World) (ha:a.size < 2 ^ 62) (hb:b.size < 2 ^ 62) :
  Calls Tryz.prog 110 #[.string a,.string b] w fun e w'=>e=.returned (.int .i64 (partC a.data.toList b.data.toList))/\w'=w:=by
 obtain ⟨R,hR⟩:∃R,R=partC a.data.toList b.data.toList:=⟨_,rfl⟩
 have HR:Hid (R=partC a.data.toList b.data.toList):=hR
 rw [<-hR]
 clear hR
 obtain ⟨da,hda⟩:∃d,a.data.toList.all isD=d:=⟨_,rfl⟩
 obtain ⟨db,hdb⟩:∃d,b.data.toList.all isD=d:=⟨_,rfl⟩
 have DA:Hid (∀w,Calls Tryz.prog 70 #[.string a] w fun e w'=>e=.returned (.bool da)/\w'=w):=fun w=>by rw [<-hda];exact rdigits_any a w ha
 have DB:Hid (∀w,Calls Tryz.prog 70 #[.string b] w fun e w'=>e=.returned (.bool db)/\w'=w):=fun w=>by rw [<-hdb];exact rdigits_any b w hb
 obtain ⟨T,hT⟩:∃T,T=Lib.compareBytes a.data.toList b.data.toList:=⟨_,rfl⟩
 have OT:Hid (∀w,Calls Tryz.prog 136 #[.string a,.string b] w fun e w'=>e=.returned (.int .i64 T)/\w'=w):=fun w=>by rw [hT];exact rorderText_any a b w
 obtain ⟨X,hX⟩:∃X:ByteArray,X=⟨(bareR a.data.toList).toArray⟩:=⟨_,rfl⟩
 obtain ⟨Y,hY⟩:∃Y:ByteArray,Y=⟨(bareR b.data.toList).toArray⟩:=⟨_,rfl⟩
 have BA:Hid (∀w,Calls Tryz.prog 137 #[.string a] w fun e w'=>e=.returned (.string X)/\w'=w):=fun w=>by rw [hX];exact rbare_any a w ha
 have BB:Hid (∀w,Calls Tryz.prog 137 #[.string b] w fun e w'=>e=.returned (.string Y)/\w'=w):=fun w=>by rw [hY];exact rbare_any b w hb
 have OX:Hid (∀w,Calls Tryz.prog 136 #[.string X,.string Y] w fun e w'=>e=.returned (.int .i64 (Lib.compareBytes X.data.toList Y.data.toList))/\w'=w):=fun w=>rorderText_any X Y w
 have OL:Hid (∀w,Calls Tryz.prog 93 #[.int .i64 X.size,.int .i64 Y.size] w fun e w'=>e=.returned (.int .i64 (Lib.compareInt X.size Y.size))/\w'=w):=fun w=>rorder_any _ _ w
 have HT:Hid (T=Lib.compareBytes a.data.toList b.data.toList):=hT
 have HXY:Hid (X.data.toList=bareR a.data.toList/\Y.data.toList=bareR b.data.toList/\(X.size:Int)=(bareR a.data.toList).length/\(Y.size:Int)=(bareR b.data.toList).length):=by
  rw [hX,hY];refine ⟨rfl,rfl,?_,?_⟩
  ·show (((bareR a.data.toList).toArray.size:Nat):Int)=_;simp
  ·show (((bareR b.data.toList).toArray.size:Nat):Int)=_;simp
 have HDA:Hid (a.data.toList.all isD=da/\b.data.toList.all isD=db):=⟨hda,hdb⟩
 clear hda hdb hT hX hY ha hb
 have key:∀ea eb,a.toList.isEmpty=ea->b.toList.isEmpty=eb->Hid (numT a.data.toList=(!ea && da)/\numT b.data.toList=(!eb && db)):=fun ea eb h1 h2=>⟨numT_of ea da h1 HDA.out.1,numT_of eb db h2 HDA.out.2⟩
 cases hea:a.toList.isEmpty <;> cases heb:b.toList.isEmpty <;> cases da <;> cases db
 all_goals
  have HK:=key _ _ hea heb
  clear key
  first
  | (have HZ:Hid (R=-1):=by show R=-1;rw [HR.out];exact partC_nw HK.out.1 HK.out.2
     go_enter Tryz.func110,Tryz.ntmps110
     go_wp2_with (first | (go_at_call_of 70 a;refine (DA.out _).mono ?_;rintro e w' ⟨rfl,rfl⟩) | (go_at_call_of 70 b;refine (DB.out _).mono ?_;rintro e w' ⟨rfl,rfl⟩))
     go_ret
     exact ⟨ret_int HZ.out.symm,rfl⟩)
  | (have HZ:Hid (R=1):=by show R=1;rw [HR.out];exact partC_wn HK.out.1 HK.out.2
     go_enter Tryz.func110,Tryz.ntmps110
     go_wp2_with (first | (go_at_call_of 70 a;refine (DA.out _).mono ?_;rintro e w' ⟨rfl,rfl⟩) | (go_at_call_of 70 b;refine (DB.out _).mono ?_;rintro e w' ⟨rfl,rfl⟩))
     go_ret
     exact ⟨ret_int HZ.out.symm,rfl⟩)
  | (have HZ:Hid (R=T):=by show R=T;rw [HR.out,HT.out];exact partC_ww HK.out.1 HK.out.2
     go_enter Tryz.func110,Tryz.ntmps110
     go_wp2_with (first | (go_at_call_of 70 a;refine (DA.out _).mono ?_;rintro e w' ⟨rfl,rfl⟩) | (go_at_call_of 70 b;refine (DB.out _).mono ?_;rintro e w' ⟨rfl,rfl⟩) | (go_at_call 136;refine (OT.out _).mono ?_;rintro e w' ⟨rfl,rfl⟩))
     go_ret
     exact ⟨ret_int HZ.out.symm,rfl⟩)
  | skip
 cases hl:((X.size:Int) == (Y.size:Int)) with
 | true =>
  have HZ:Hid (R=Lib.compareBytes X.data.toList Y.data.toList):=by
   show R=_
   have h:=HXY.out
   rw [HR.out,partC_nnR HK.out.1 HK.out.2,<-h.2.2.1,<-h.2.2.2,if_pos (eq_of_beq hl),h.1,h.2.1]
  go_enter Tryz.func110,Tryz.ntmps110
  go_wp2_with (first | (go_at_call_of 70 a;refine (DA.out _).mono ?_;rintro e w' ⟨rfl,rfl⟩) | (go_at_call_of 70 b;refine (DB.out _).mono ?_;rintro e w' ⟨rfl,rfl⟩) | (go_at_call_of 137 a;refine (BA.out _).mono ?_;rintro e w' ⟨rfl,rfl⟩) | (go_at_call_of 137 b;refine (BB.out _).mono ?_;rintro e w' ⟨rfl,rfl⟩) | (go_at_call 136;refine (OX.out _).mono ?_;rintro e w' ⟨rfl,rfl⟩) | (go_at_call 93;refine (OL.out _).mono ?_;rintro e w' ⟨rfl,rfl⟩))
  go_ret
  exact ⟨ret_int HZ.out.symm,rfl⟩
 | false =>
  have HZ:Hid (R=Lib.compareInt X.size Y.size):=by
   show R=_
   have h:=HXY.out
   rw [HR.out,partC_nnR HK.out.1 HK.out.2,<-h.2.2.1,<-h.2.2.2,if_neg (by simpa using hl)]
  go_enter Tryz.func110,Tryz.ntmps110
  go_wp2_with (first | (go_at_call_of 70 a;refine (DA.out _).mono ?_;rintro e w' ⟨rfl,rfl⟩) | (go_at_call_of 70 b;refine (DB.out _).mono ?_;rintro e w' ⟨rfl,rfl⟩) | (go_at_call_of 137 a;refine (BA.out _).mono ?_;rintro e w' ⟨rfl,rfl⟩) | (go_at_call_of 137 b;refine (BB.out _).mono ?_;rintro e w' ⟨rfl,rfl⟩) | (go_at_call 136;refine (OX.out _).mono ?_;rintro e w' ⟨rfl,rfl⟩) | (go_at_call 93;refine (OL.out _).mono ?_;rintro e w' ⟨rfl,rfl⟩))
  go_ret
  exact ⟨ret_int HZ.out.symm,rfl⟩
set_option maxHeartbeats 800000 in
theorem rorderPre_any (a b:ByteArray) (w:World) (ha:a.size<=1048576) (hb:b.size<=1048576) :
  Calls Tryz.prog 94 #[.string a,.string b] w fun e w'=>e=.returned (.int .i64 (listC partC (splitD a.data.toList) (splitD b.data.toList)))/\Below w.heap.size w w':=by
 have SA:=fun w=>split_slice a w ha
 have SB:=fun w=>split_slice b w hb
 have PA:∀p ∈ splitD a.data.toList,p.length < 2 ^ 62:=fun p hp=>by have:=part_len _ p hp;simp at this;omega
 have PB:∀p ∈ splitD b.data.toList,p.length < 2 ^ 62:=fun p hp=>by have:=part_len _ p hp;simp at this;omega
 have LA:(splitD a.data.toList).length < 2 ^ 62:=by have:=split_len a.data.toList;simp at this;omega
 generalize splitD a.data.toList=L at SA PA LA ⊢
 generalize splitD b.data.toList=M at SB PB ⊢
 obtain ⟨R,hR⟩:∃R,R=listC partC L M:=⟨_,rfl⟩
 rw [<-hR]
 have HR:Hid (R=listC partC L M):=hR
 have OP:Hid (∀i,(h1:i < L.length)->(h2:i < M.length)->∀w,Calls Tryz.prog 110 #[.string ⟨L[i].toArray⟩,.string ⟨M[i].toArray⟩] w fun e w'=>e=.returned (.int .i64 (partC L[i] M[i]))/\w'=w):=by
  intro i h1 h2 w
  have:=rorderPart_any ⟨L[i].toArray⟩ ⟨M[i].toArray⟩ w (by have:=PA L[i] (List.getElem_mem h1);show L[i].toArray.size < _;simpa using this) (by have:=PB M[i] (List.getElem_mem h2);show M[i].toArray.size < _;simpa using this)
  exact this
 have OR:Hid (∀w,Calls Tryz.prog 93 #[.int .i64 L.length,.int .i64 M.length] w fun e w'=>e=.returned (.int .i64 (Lib.compareInt L.length M.length))/\w'=w):=fun w=>rorder_any _ _ w
 have HLM:Hid (True):=trivial
 clear hR PA PB ha hb
 go_enter Tryz.func94,Tryz.ntmps94
 go_wp2_with (go_at_call 68;refine (SA _).mono ?_)
 rintro e w1 ⟨g,cap,rfl,hg1,hg2,hc,hb1⟩
 have HC:Hid (∀j,(hj:j < L.length)->w1.cell? ⟨g,j,none⟩=some (.string ⟨L[j].toArray⟩)):=hc
 clear hc SA
 go_wp2_with (go_at_call 68;refine (SB _).mono ?_)
 rintro e w2 ⟨g',cap',rfl,hg1',hg2',hc,hb2⟩
 have HC':Hid (∀j,(hj:j < M.length)->w2.cell? ⟨g',j,none⟩=some (.string ⟨M[j].toArray⟩)):=hc
 have HC2:Hid (∀j,(hj:j < L.length)->w2.cell? ⟨g,j,none⟩=some (.string ⟨L[j].toArray⟩)):=fun j hj=>(hb2.cell (p:=⟨g,j,none⟩) hg2).trans (HC.out j hj)
 have HB:Hid (Below w.heap.size w w2):=hb1.trans (hb2.mono hb1.size)
 clear hc HC hb1 hb2 hg1 hg2 hg1' hg2' SB
 go_wp2
 go_loopw [7] (fun vi wr=>∃k:Nat,k<=L.length/\k<=M.length/\vi=.int .i64 k/\R=listC partC (L.drop k) (M.drop k)/\wr.heap=w2.heap/\Below w.heap.size w wr) (fun vi _=>L.length - (intOf vi).toNat)
 case atStart=>exact ⟨0,Nat.zero_le _,Nat.zero_le _,rfl,HR.out,rfl,HB.out⟩
 case round =>
  obtain ⟨k,hk1,hk2,rfl,hr,hh,hbr⟩:=hrel
  have HH:Hid (wr.heap=w2.heap):=hh
  have HBR:Hid (Below w.heap.size w wr):=hbr
  clear hh hbr
  have HRK:Hid (R=listC partC (L.drop k) (M.drop k)):=hr
  clear hr
  by_cases h1:k < L.length
  ·by_cases h2:k < M.length
   ·have c1:=HC2.out k h1
    have c2:=HC'.out k h2
    obtain ⟨X,hX⟩:∃X:ByteArray,X=⟨L[k].toArray⟩:=⟨_,rfl⟩
    obtain ⟨Y,hY⟩:∃Y:ByteArray,Y=⟨M[k].toArray⟩:=⟨_,rfl⟩
    obtain ⟨O,hO⟩:∃O,O=partC L[k] M[k]:=⟨_,rfl⟩
    have C0:Hid (∀w,Calls Tryz.prog 110 #[.string X,.string Y] w fun e w'=>e=.returned (.int .i64 O)/\w'=w):=fun w=>by rw [hX,hY,hO];exact OP.out k h1 h2 w
    have HS:Hid (R=if O=0 then listC partC (L.drop (k+1)) (M.drop (k+1)) else O):=by
     show R=_
     rw [HRK.out,List.drop_eq_getElem_cons h1,List.drop_eq_getElem_cons h2,hO];rfl
    have c1:wr.cell? ⟨g,k,none⟩=some (.string X):=by rw [hX];exact (World.cell?_of_block (w':=wr) (a:=⟨g,k,none⟩) (by rw [HH.out])).trans (HC2.out k h1)
    have c2:wr.cell? ⟨g',k,none⟩=some (.string Y):=by rw [hY];exact (World.cell?_of_block (w':=wr) (a:=⟨g',k,none⟩) (by rw [HH.out])).trans (HC'.out k h2)
    have i1:(k:Int) < (L.length:Int):=by omega
    have i2:(k:Int) < (M.length:Int):=by omega
    clear hX hY hO
    go_wp2
    go_quiet (first | (go_at_call 110;exact Calls.quiet_of_same (C0.out _)))
    cases hz:(O == 0) with
    | true =>
     have HZ:Hid (R=listC partC (L.drop (k+1)) (M.drop (k+1))):=by show R=_;rw [HS.out,if_pos (by simpa using hz)]
     go_wp2
     go_roundw
     case rel=>exact ⟨k+1,by omega,by omega,by go_num,HZ.out,HH.out,below_drewN HBR.out _⟩
     case measure=>simp [intOf];omega
    | false =>
     have HZ:Hid (R=O):=by show R=O;rw [HS.out,if_neg (by simpa using hz)]
     go_wp2
     go_ret
     exact ⟨ret_int HZ.out.symm,below_drewN HBR.out _⟩
   ·have HZ:Hid (R=Lib.compareInt L.length M.length):=by
     show R=_
     rw [HR.out]
     exact listC_end L M k (by omega) hk1 hk2 (by rw [<-HR.out];exact HRK.out)
    clear hk1 hk2
    go_wp2_with (first | (go_at_call 93;refine (OR.out _).mono ?_;rintro e w' ⟨rfl,rfl⟩))
    go_ret
    exact ⟨ret_int HZ.out.symm,HBR.out⟩
  ·have HZ:Hid (R=Lib.compareInt L.length M.length):=by
    show R=_
    rw [HR.out]
    exact listC_end L M k (by omega) hk1 hk2 (by rw [<-HR.out];exact HRK.out)
   clear hk1 hk2
   go_wp2_with (first | (go_at_call 93;refine (OR.out _).mono ?_;rintro e w' ⟨rfl,rfl⟩))
   go_ret
   exact ⟨ret_int HZ.out.symm,HBR.out⟩
open Go.RowKit
set_option maxHeartbeats 1600000 in
theorem rcompare_any (a1 a2 a3 b1 b2 b3:Int) (a4 a5 b4 b5:ByteArray) (w:World) (hs:a4.size<=1048576) (hs':b4.size<=1048576) :
  Calls Tryz.prog 64 #[.agg #[.int .i64 a1,.int .i64 a2,.int .i64 a3,.string a4,.string a5],.agg #[.int .i64 b1,.int .i64 b2,.int .i64 b3,.string b4,.string b5]] w fun e w'=>e=.returned (.int .i64 (verC ⟨a1,a2,a3,a4.data.toList⟩ ⟨b1,b2,b3,b4.data.toList⟩))/\Below w.heap.size w w':=by
 obtain ⟨R,hR⟩:∃R,R=verC ⟨a1,a2,a3,a4.data.toList⟩ ⟨b1,b2,b3,b4.data.toList⟩:=⟨_,rfl⟩
 have HR:Hid (R=verC ⟨a1,a2,a3,a4.data.toList⟩ ⟨b1,b2,b3,b4.data.toList⟩):=hR
 obtain ⟨p,hp⟩:∃p,p=listC partC (splitD a4.data.toList) (splitD b4.data.toList):=⟨_,rfl⟩
 have HP:Hid (p=listC partC (splitD a4.data.toList) (splitD b4.data.toList)):=hp
 have OP:Hid (∀w,Calls Tryz.prog 94 #[.string a4,.string b4] w fun e w'=>e=.returned (.int .i64 p)/\Below w.heap.size w w'):=fun w=>by rw [hp];exact rorderPre_any a4 b4 w hs hs'
 have B2:Hid (∀o1 o2,Below w.heap.size w ((w.alloc o1).alloc o2)):=fun o1 o2=>gb_below (gb_alloc (gb_alloc (gb_refl w none) _) _)
 rw [<-hR]
 clear hR hp hs hs'
 cases h1:(a1 == b1) with
 | false =>
  have HZ:Hid (R=Lib.compareInt a1 b1):=by
   show R=_
   rw [HR.out,verC_eq]
   simp only
   rw [if_neg (fun e=>(by simpa using h1:¬ a1=b1) (cmp_zero.1 e))]
  go_enter Tryz.func64,Tryz.ntmps64
  go_wp2_with (first | (go_at_call 93;refine (rorder_any _ _ _).mono ?_;rintro e w' ⟨rfl,rfl⟩) | (go_at_call 94;refine (OP.out _).mono ?_;rintro e w3 ⟨rfl,hb3⟩))
  go_ret
  exact ⟨ret_int HZ.out.symm,B2.out _ _⟩
 | true =>
  cases h2:(a2 == b2) with
  | false =>
   have HZ:Hid (R=Lib.compareInt a2 b2):=by
    show R=_
    rw [HR.out,verC_eq]
    simp only
    rw [if_pos (cmp_zero.2 (eq_of_beq h1)),if_neg (fun e=>(by simpa using h2:¬ a2=b2) (cmp_zero.1 e))]
   go_enter Tryz.func64,Tryz.ntmps64
   go_wp2_with (first | (go_at_call 93;refine (rorder_any _ _ _).mono ?_;rintro e w' ⟨rfl,rfl⟩) | (go_at_call 94;refine (OP.out _).mono ?_;rintro e w3 ⟨rfl,hb3⟩))
   go_ret
   exact ⟨ret_int HZ.out.symm,B2.out _ _⟩
  | true =>
   cases h3:(a3 == b3) with
   | false =>
    have HZ:Hid (R=Lib.compareInt a3 b3):=by
     show R=_
     rw [HR.out,verC_eq]
     simp only
     rw [if_pos (cmp_zero.2 (eq_of_beq h1)),if_pos (cmp_zero.2 (eq_of_beq h2)),if_neg (fun e=>(by simpa using h3:¬ a3=b3) (cmp_zero.1 e))]
    go_enter Tryz.func64,Tryz.ntmps64
    go_wp2_with (first | (go_at_call 93;refine (rorder_any _ _ _).mono ?_;rintro e w' ⟨rfl,rfl⟩) | (go_at_call 94;refine (OP.out _).mono ?_;rintro e w3 ⟨rfl,hb3⟩))
    go_ret
    exact ⟨ret_int HZ.out.symm,B2.out _ _⟩
   | true =>
    have HQ:Hid (R=preC a4.data.toList b4.data.toList):=by
     show R=_
     rw [HR.out,verC_eq]
     simp only
     rw [if_pos (cmp_zero.2 (eq_of_beq h1)),if_pos (cmp_zero.2 (eq_of_beq h2)),if_pos (cmp_zero.2 (eq_of_beq h3))]
    cases he:(a4.toList == b4.toList) with
    | true =>
     have HZ:Hid (R=0):=by
      show R=0
      have e:a4.data.toList=b4.data.toList:=by rw [<-Lib.toList_data,<-Lib.toList_data];exact eq_of_beq he
      rw [HQ.out,e];exact good_pre.self _
     go_enter Tryz.func64,Tryz.ntmps64
     go_wp2_with (first | (go_at_call 93;refine (rorder_any _ _ _).mono ?_;rintro e w' ⟨rfl,rfl⟩) | (go_at_call 94;refine (OP.out _).mono ?_;rintro e w3 ⟨rfl,hb3⟩))
     go_ret
     exact ⟨ret_int HZ.out.symm,B2.out _ _⟩
    | false =>
     by_cases ha:a4.size=0
     ·have c1:=emp_t ha
      have HZ:Hid (R=1):=by
       show R=1
       have e:a4.data.toList=[]:=List.length_eq_zero_iff.1 (by simpa using ha)
       have hb:b4.data.toList ≠ []:=by
        intro hb
        rw [Lib.toList_data,Lib.toList_data,e,hb] at he
        exact absurd he (by decide)
       rw [HQ.out,pre_empty _ _ (Or.inl e),e]
       exact cmp_gt (by have:=List.length_pos_iff.2 hb;simp only [List.length_nil];omega)
      clear ha
      go_enter Tryz.func64,Tryz.ntmps64
      go_wp2_with (first | (go_at_call 93;refine (rorder_any _ _ _).mono ?_;rintro e w' ⟨rfl,rfl⟩) | (go_at_call 94;refine (OP.out _).mono ?_;rintro e w3 ⟨rfl,hb3⟩))
      go_ret
      exact ⟨ret_int HZ.out.symm,B2.out _ _⟩
     ·have c1:=emp_f ha
      by_cases hb:b4.size=0
      ·have c2:=emp_t hb
       have HZ:Hid (R=-1):=by
        show R=-1
        have e:b4.data.toList=[]:=List.length_eq_zero_iff.1 (by simpa using hb)
        have ha':a4.data.toList ≠ []:=fun h=>ha (by show a4.data.size=0;rw [<-Array.length_toList,h];rfl)
        rw [HQ.out,pre_empty _ _ (Or.inr e),e]
        exact cmp_lt (by have:=List.length_pos_iff.2 ha';simp only [List.length_nil];omega)
       clear ha hb
       go_enter Tryz.func64,Tryz.ntmps64
       go_wp2_with (first | (go_at_call 93;refine (rorder_any _ _ _).mono ?_;rintro e w' ⟨rfl,rfl⟩) | (go_at_call 94;refine (OP.out _).mono ?_;rintro e w3 ⟨rfl,hb3⟩))
       go_ret
       exact ⟨ret_int HZ.out.symm,B2.out _ _⟩
      ·have c2:=emp_f hb
       have HZ:Hid (R=p):=by
        show R=p
        rw [HQ.out,HP.out]
        exact pre_full _ _ (fun h=>ha (by show a4.data.size=0;rw [<-Array.length_toList,h];rfl)) (fun h=>hb (by show b4.data.size=0;rw [<-Array.length_toList,h];rfl))
       clear ha hb
       go_enter Tryz.func64,Tryz.ntmps64
       go_wp2_with (first | (go_at_call 93;refine (rorder_any _ _ _).mono ?_;rintro e w' ⟨rfl,rfl⟩) | (go_at_call 94;refine (OP.out _).mono ?_;rintro e w3 ⟨rfl,hb3⟩))
       go_ret
       exact ⟨ret_int HZ.out.symm,(B2.out _ _).trans (hb3.mono (B2.out _ _).size)⟩
open Go.RowKit
def cFrom (s:Sp):V:=⟨s.f1,s.f2,s.f3,s.f4.data.toList⟩
def cTo (s:Sp):V:=⟨s.t1,s.t2,s.t3,s.t4.data.toList⟩
def hasS (s:Sp) (v:V):Bool:=decide (verC (cFrom s) v<=0) && (s.o || decide (verC v (cTo s) < 0))
def holdsL (L:List Sp) (v:V):Bool:=L.any fun s=>hasS s v
end Go.Proofs.YtonfldbigenfhaaGreatDoor
