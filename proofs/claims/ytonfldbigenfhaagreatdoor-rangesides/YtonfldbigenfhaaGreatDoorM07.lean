import Derived.Test.YtonfldbigenfhaaGreatDoorM03
import Derived.Test.YtonfldbigenfhaaGreatDoorM04
import Derived.Test.YtonfldbigenfhaaGreatDoorM06
import Derived.Test.YtonfldbigenfhaaGreatDoorM02
namespace Go.Proofs.YtonfldbigenfhaaGreatDoor
open Go.RowKit
set_option linter.unusedVariables false
theorem gb_own {w w1:World} {o:Obj} (h:(w.alloc o).grownBy w1 (some w.heap.size)):w.grownBy w1 none :=
 ⟨h.os,h.tape,h.output,by have:=h.size;simp at this;omega,fun k hk _=>by rw [h.block k (by simp;omega) (by simp;omega)];exact Lib.alloc_old w o k hk⟩
set_option maxHeartbeats 400000 in
theorem isParts_at (s:ByteArray) (kind:Int) (st:Bool) (w:World) (h0:s.size ≠ 0) (hs:s.size < 2 ^ 62)
  (hk:∀b w,RS b s 0 w->Calls Tryz.prog 96 #[.pointer (some ⟨b,0,none⟩),.int .i64 kind] w fun e w'=>e=.returned (.int .i64 (rdParts st s.data.toList 0).1)/\RS b s (rdParts st s.data.toList 0).2 w'/\w.grownBy w' (some b)) :
  Calls Tryz.prog 67 #[.string s,.int .i64 kind] w fun e w'=>e=.returned (.bool (okParts st s.data.toList))/\w.grownBy w' none:=by
 obtain ⟨R,hR⟩:∃R,R=okParts st s.data.toList:=⟨_,rfl⟩
 obtain ⟨E,Q,hEQ⟩:∃E Q,rdParts st s.data.toList 0=(E,Q):=⟨_,_,rfl⟩
 have HR:Hid (R=(decide (E=0) && decide (Q=s.size))):=by
  show R=_
  have hne:s.data.toList ≠ []:=fun e=>h0 (by show s.data.size=0;rw [<-Array.length_toList,e];rfl)
  rw [hR,<-parts_ok st _ hne,hEQ,Bool.eq_iff_iff]
  simp [Prod.ext_iff]
 have HK:Hid (∀b w,RS b s 0 w->Calls Tryz.prog 96 #[.pointer (some ⟨b,0,none⟩),.int .i64 kind] w fun e w'=>e=.returned (.int .i64 E)/\RS b s Q w'/\w.grownBy w' (some b)):=by
  intro b w hb
  have:=hk b w hb
  rw [hEQ] at this;exact this
 rw [<-hR]
 clear hR hEQ hk h0
 go_enter Tryz.func67,Tryz.ntmps67
 go_wp2_with (go_at_call 96;refine (HK.out _ _ ⟨_,heap_alloc_new w _⟩).mono ?_)
 rintro e w1 ⟨rfl,hr1,hg1⟩
 have HG:Hid (w.grownBy w1 none):=gb_own hg1
 have CE:Hid (Calls Tryz.prog 59 #[.pointer (some ⟨w.heap.size,0,none⟩)] w1 fun e w'=>e=.returned (.bool (decide (Q=s.size)))/\∃n,w'=w1.drewN n):=ended_any _ s Q w1 hr1
 clear hg1 hr1
 cases hE:(E == 0) with
 | false =>
  have HZ:Hid (R=false):=by show R=false;rw [HR.out,decide_eq_false (by simpa using hE)];rfl
  go_wp2
  go_ret
  exact ⟨ret_bool HZ.out.symm,HG.out⟩
 | true =>
  have HZ:Hid (R=decide (Q=s.size)):=by
   show R=_
   have h1:E=0:=by simpa using hE
   rw [HR.out,decide_eq_true h1,Bool.true_and]
  obtain ⟨q,hq⟩:∃q,decide (Q=s.size)=q:=⟨_,rfl⟩
  rw [hq] at CE HZ
  clear hq
  go_wp2_with (first | (go_at_call 59;refine CE.out.mono ?_))
  rintro e w2 ⟨rfl,n,hn⟩
  have HG2:Hid (w.grownBy w2 none):=by show w.grownBy w2 none;rw [hn];exact gb_drew HG.out n
  clear hn
  go_wp2
  go_ret
  exact ⟨ret_bool HZ.out.symm,HG2.out⟩
theorem isP_pre (s:ByteArray) (w:World) (h0:s.size ≠ 0) (hs:s.size < 2 ^ 62):Calls Tryz.prog 67 #[.string s,.int .i64 0] w fun e w'=>e=.returned (.bool (okParts true s.data.toList))/\w.grownBy w' none :=
 isParts_at s 0 true w h0 hs (fun b w h=>skipP b s 0 w (Nat.zero_le _) h hs)
theorem isP_build (s:ByteArray) (w:World) (h0:s.size ≠ 0) (hs:s.size < 2 ^ 62):Calls Tryz.prog 67 #[.string s,.int .i64 1] w fun e w'=>e=.returned (.bool (okParts false s.data.toList))/\w.grownBy w' none :=
 isParts_at s 1 false w h0 hs (fun b w h=>skipB b s 0 w (Nat.zero_le _) h hs)
theorem okp_empty (b:Bool) (s:ByteArray) (h:s.size=0):okParts b s.data.toList=true:=by
 have:s.data.toList=[]:=List.length_eq_zero_iff.1 (by simpa using h)
 rw [this];rfl
theorem ix0 (a1 a2 a3:Int) (w:World):(Instr.index 109 (.agg #[.int .i64 a1,.int .i64 a2,.int .i64 a3]) (.int .i64 0)).run Tryz.prog w=.ok (.int .i64 a1) w:=by kernel_rfl
theorem ix1 (a1 a2 a3:Int) (w:World):(Instr.index 109 (.agg #[.int .i64 a1,.int .i64 a2,.int .i64 a3]) (.int .i64 1)).run Tryz.prog w=.ok (.int .i64 a2) w:=by kernel_rfl
theorem ix2 (a1 a2 a3:Int) (w:World):(Instr.index 109 (.agg #[.int .i64 a1,.int .i64 a2,.int .i64 a3]) (.int .i64 2)).run Tryz.prog w=.ok (.int .i64 a3) w:=by kernel_rfl
set_option maxHeartbeats 1600000 in
theorem psound_any (a1 a2 a3:Int) (a4 a5:ByteArray) (w:World) (h4:a4.size < 2 ^ 62) (h5:a5.size < 2 ^ 62) :
  Calls Tryz.prog 40 #[.agg #[.int .i64 a1,.int .i64 a2,.int .i64 a3,.string a4,.string a5]] w fun e w'=>e=.returned (.bool (soundV ⟨a1,a2,a3,a4.data.toList,a5.data.toList⟩))/\w.grownBy w' none:=by
 obtain ⟨R,hR⟩:∃R,R=soundV ⟨a1,a2,a3,a4.data.toList,a5.data.toList⟩:=⟨_,rfl⟩
 obtain ⟨x4,hx4⟩:∃x,x=okParts true a4.data.toList:=⟨_,rfl⟩
 obtain ⟨x5,hx5⟩:∃x,x=okParts false a5.data.toList:=⟨_,rfl⟩
 have HR:Hid (R=(bound a1 && (bound a2 && (bound a3 && (x4 && x5))))):=by show R=_;rw [hR,hx4,hx5];rfl
 have C4:Hid (a4.size ≠ 0->∀w,Calls Tryz.prog 67 #[.string a4,.int .i64 0] w fun e w'=>e=.returned (.bool x4)/\w.grownBy w' none):=fun h w=>by rw [hx4];exact isP_pre a4 w h h4
 have C5:Hid (a5.size ≠ 0->∀w,Calls Tryz.prog 67 #[.string a5,.int .i64 1] w fun e w'=>e=.returned (.bool x5)/\w.grownBy w' none):=fun h w=>by rw [hx5];exact isP_build a5 w h h5
 have E4:Hid (a4.size=0->x4=true):=fun h=>by rw [hx4];exact okp_empty true a4 h
 have E5:Hid (a5.size=0->x5=true):=fun h=>by rw [hx5];exact okp_empty false a5 h
 have GA:Hid (∀o,w.grownBy (w.alloc o) none):=fun o=>gb_alloc (gb_refl w none) o
 rw [<-hR]
 clear hR hx4 hx5 h4 h5
 go_enter Tryz.func40,Tryz.ntmps40
 go_wp2
 obtain ⟨W,hW⟩:∃W,w.alloc (.cells #[.int .i64 a1,.int .i64 a2,.int .i64 a3,.string a4,.string a5] 35)=W:=⟨_,rfl⟩
 have HG:Hid (w.grownBy W none):=by show w.grownBy W none;rw [<-hW];exact GA.out _
 obtain ⟨A,hA⟩:∃A,w.heap.size=A:=⟨_,rfl⟩
 have STa:Hid (St A a1 a2 a3 a4 a5 W):=by
  show St A a1 a2 a3 a4 a5 W
  rw [<-hW,<-hA];exact st_row (t:=35) (heap_alloc_new w _)
 rw [hW,hA]
 clear hW hA GA
 go_loop [12] (fun i=>∃k:Nat,k<=3/\i=.int .i64 k/\(1<=k->bound a1=true)/\(2<=k->bound a2=true)/\(3<=k->bound a3=true)) (fun i=>3 - (intOf i).toNat)
 case atStart=>exact ⟨0,by omega,rfl,by omega,by omega,by omega⟩
 case round =>
  obtain ⟨k,hk,rfl,k1,k2,k3⟩:=hrel
  have K1:Hid (1<=k->bound a1=true):=k1
  have K2:Hid (2<=k->bound a2=true):=k2
  have K3:Hid (3<=k->bound a3=true):=k3
  clear k1 k2 k3
  rcases (show k=0\/k=1\/k=2\/k=3 by omega) with rfl | rfl | rfl | rfl
  ·clear hk
   have ix:=ix0 a1 a2 a3 W
   by_cases b0:0<=a1
   ·have n0:decide (a1 < 0)=false:=decide_eq_false (by omega)
    by_cases b1:a1<=1000000000
    ·have n1:decide (1000000000 < a1)=false:=decide_eq_false (by omega)
     have BB:Hid (0<=a1/\a1<=1000000000):=⟨b0,b1⟩
     clear b0 b1
     go_wp2
     go_round
     case rel=>exact ⟨1,by omega,rfl,fun _=>bound_iff.2 BB.out,by omega,by omega⟩
     case measure=>simp [intOf]
    ·have n1:decide (1000000000 < a1)=true:=decide_eq_true (by omega)
     have HZ:Hid (R=false):=by show R=false;rw [HR.out,show bound a1=false by cases hb:bound a1 with | true=>exact absurd (bound_iff.1 hb) (by omega) | false=>rfl];simp
     clear b0 b1
     go_wp2
     go_ret
     exact ⟨ret_bool HZ.out.symm,HG.out⟩
   ·have HZ:Hid (R=false):=by show R=false;rw [HR.out,show bound a1=false by cases hb:bound a1 with | true=>exact absurd (bound_iff.1 hb) (by omega) | false=>rfl];simp
    go_wp2
    go_ret
    exact ⟨ret_bool HZ.out.symm,HG.out⟩
  ·clear hk
   have ix:=ix1 a1 a2 a3 W
   by_cases b0:0<=a2
   ·have n0:decide (a2 < 0)=false:=decide_eq_false (by omega)
    by_cases b1:a2<=1000000000
    ·have n1:decide (1000000000 < a2)=false:=decide_eq_false (by omega)
     have BB:Hid (0<=a2/\a2<=1000000000):=⟨b0,b1⟩
     clear b0 b1
     go_wp2
     go_round
     case rel=>exact ⟨2,by omega,rfl,fun _=>K1.out (by omega),fun _=>bound_iff.2 BB.out,by omega⟩
     case measure=>simp [intOf]
    ·have n1:decide (1000000000 < a2)=true:=decide_eq_true (by omega)
     have HZ:Hid (R=false):=by show R=false;rw [HR.out,show bound a2=false by cases hb:bound a2 with | true=>exact absurd (bound_iff.1 hb) (by omega) | false=>rfl];simp
     clear b0 b1
     go_wp2
     go_ret
     exact ⟨ret_bool HZ.out.symm,HG.out⟩
   ·have HZ:Hid (R=false):=by show R=false;rw [HR.out,show bound a2=false by cases hb:bound a2 with | true=>exact absurd (bound_iff.1 hb) (by omega) | false=>rfl];simp
    go_wp2
    go_ret
    exact ⟨ret_bool HZ.out.symm,HG.out⟩
  ·clear hk
   have ix:=ix2 a1 a2 a3 W
   by_cases b0:0<=a3
   ·have n0:decide (a3 < 0)=false:=decide_eq_false (by omega)
    by_cases b1:a3<=1000000000
    ·have n1:decide (1000000000 < a3)=false:=decide_eq_false (by omega)
     have BB:Hid (0<=a3/\a3<=1000000000):=⟨b0,b1⟩
     clear b0 b1
     go_wp2
     go_round
     case rel=>exact ⟨3,by omega,rfl,fun _=>K1.out (by omega),fun _=>K2.out (by omega),fun _=>bound_iff.2 BB.out⟩
     case measure=>simp [intOf]
    ·have n1:decide (1000000000 < a3)=true:=decide_eq_true (by omega)
     have HZ:Hid (R=false):=by show R=false;rw [HR.out,show bound a3=false by cases hb:bound a3 with | true=>exact absurd (bound_iff.1 hb) (by omega) | false=>rfl];simp
     clear b0 b1
     go_wp2
     go_ret
     exact ⟨ret_bool HZ.out.symm,HG.out⟩
   ·have HZ:Hid (R=false):=by show R=false;rw [HR.out,show bound a3=false by cases hb:bound a3 with | true=>exact absurd (bound_iff.1 hb) (by omega) | false=>rfl];simp
    go_wp2
    go_ret
    exact ⟨ret_bool HZ.out.symm,HG.out⟩
  ·have HB:Hid (R=(x4 && x5)):=by show R=_;rw [HR.out,K1.out (by omega),K2.out (by omega),K3.out (by omega)];rfl
   obtain ⟨s1,s2,s3,s4,s5⟩:=STa.out
   clear hk
   by_cases z4:a4.size=0
   ·have e4:=emp_t2 z4
    have hx4:Hid (x4=true):=E4.out z4
    clear z4
    by_cases z5:a5.size=0
    ·have e5:=emp_t2 z5
     have HZ:Hid (R=true):=by show R=true;rw [HB.out,hx4.out,E5.out z5];rfl
     clear z5
     go_wp2
     go_ret
     exact ⟨ret_bool HZ.out.symm,HG.out⟩
    ·have e5:=emp_f2 z5
     have C:=C5.out z5
     have HC:Hid (∀w,Calls Tryz.prog 67 #[.string a5,.int .i64 1] w fun e w'=>e=.returned (.bool x5)/\w.grownBy w' none):=C
     have HZ:Hid (R=x5):=by show R=x5;rw [HB.out,hx4.out];rfl
     clear z5 C
     go_wp2_with (first | (go_at_call 67;refine (HC.out _).mono ?_;rintro e w5 ⟨rfl,hg5⟩))
     go_ret
     exact ⟨ret_bool HZ.out.symm,gb_trans HG.out hg5⟩
   ·have e4:=emp_f2 z4
    have HC4:Hid (∀w,Calls Tryz.prog 67 #[.string a4,.int .i64 0] w fun e w'=>e=.returned (.bool x4)/\w.grownBy w' none):=C4.out z4
    clear z4
    go_wp2_with (go_at_call 67;refine (HC4.out _).mono ?_)
    rintro e w4 rfl hg4
    have c5:w4.cell? ⟨A,4,none⟩=some (.string a5):=hg4.cell s5 (by simp)
    have HG4:Hid (w.grownBy w4 none):=gb_trans HG.out hg4
    clear hg4
    cases x4 with
    | false =>
     have HZ:Hid (R=false):=by show R=false;rw [HB.out];rfl
     go_wp2
     go_ret
     exact ⟨ret_bool HZ.out.symm,HG4.out⟩
    | true =>
     have HZ5:Hid (R=x5):=by show R=x5;rw [HB.out];rfl
     by_cases z5:a5.size=0
     ·have e5:=emp_t2 z5
      have HZ:Hid (R=true):=by show R=true;rw [HZ5.out,E5.out z5]
      clear z5
      go_wp2
      go_ret
      exact ⟨ret_bool HZ.out.symm,HG4.out⟩
     ·have e5:=emp_f2 z5
      have HC:Hid (∀w,Calls Tryz.prog 67 #[.string a5,.int .i64 1] w fun e w'=>e=.returned (.bool x5)/\w.grownBy w' none):=C5.out z5
      clear z5
      go_wp2_with (first | (go_at_call 67;refine (HC.out _).mono ?_;rintro e w5 ⟨rfl,hg5⟩))
      go_ret
      exact ⟨ret_bool HZ5.out.symm,gb_trans HG4.out hg5⟩
open Go.RowKit
theorem elt_row {w:World} {A t:Nat} {s:Sp} (h:w.heap[A]?=some (.cells #[.int .i64 s.f1,.int .i64 s.f2,.int .i64 s.f3,.string s.f4,.string s.f5,.int .i64 s.t1,.int .i64 s.t2,.int .i64 s.t3,.string s.t4,.string s.t5,.bool s.o] t (0,0))):EltAt w ⟨A,0,none⟩ s :=
 ⟨by rw [Lib.cell_of_heap h];rfl,by rw [Lib.cell_of_heap h];rfl,by rw [Lib.cell_of_heap h];rfl,by rw [Lib.cell_of_heap h];rfl,by rw [Lib.cell_of_heap h];rfl,by rw [Lib.cell_of_heap h];rfl,by rw [Lib.cell_of_heap h];rfl,by rw [Lib.cell_of_heap h];rfl,by rw [Lib.cell_of_heap h];rfl,by rw [Lib.cell_of_heap h];rfl,by rw [Lib.cell_of_heap h];rfl⟩
set_option maxRecDepth 100000 in
set_option maxHeartbeats 1600000 in
theorem psound_at (a:Addr) (cap:Nat) (L:List Sp) (w:World) (hL:L.length < 2 ^ 62) (hcap:L.length<=cap) (h:SpAt w a L) (hsz:∀s ∈ L,smallS s) :
  Calls Tryz.prog 81 #[.slice (some a) L.length cap] w fun e w'=>e=.returned (.bool (L.all soundS))/\w.grownBy w' none:=by
 have HA:Hid (SpAt w a L):=h
 have HS:Hid (∀s ∈ L,smallS s):=hsz
 clear h hsz
 obtain ⟨R,hR⟩:∃R,L.all soundS=R:=⟨_,rfl⟩
 have HR:Hid (L.all soundS=R):=hR
 rw [hR]
 clear hR
 go_enter Tryz.func81,Tryz.ntmps81
 go_wp2
 go_loopw [7] (fun vi wr=>∃i:Nat,vi=.int .i64 i/\i<=L.length/\(∀j (hj:j < L.length),j < i->soundS L[j]=true)/\w.grownBy wr none) (fun vi _=>L.length - (intOf vi).toNat)
 case atStart=>exact ⟨0,rfl,Nat.zero_le _,fun j hj h=>absurd h (by omega),gb_refl _ _⟩
 case round =>
  obtain ⟨i,rfl,hi,hp,hg⟩:=hrel
  have HP:Hid (∀j (hj:j < L.length),j < i->soundS L[j]=true):=hp
  have HG:Hid (w.grownBy wr none):=hg
  clear hp hg
  by_cases hlt:i < L.length
  ·obtain ⟨s,hs⟩:∃s,L[i]=s:=⟨_,rfl⟩
   have HE:Hid (EltAt wr (a.add (i * 11)) s):=by show EltAt wr _ s;rw [<-hs];exact (HA.out i hlt).grow HG.out
   have hm:smallS s:=by rw [<-hs];exact HS.out _ (List.getElem_mem hlt)
   have HSS:Hid (L[i]=s):=hs
   have CF:Hid (∀w,Calls Tryz.prog 40 #[.agg #[.int .i64 s.f1,.int .i64 s.f2,.int .i64 s.f3,.string s.f4,.string s.f5]] w fun e w'=>e=.returned (.bool (soundV (vFrom s)))/\w.grownBy w' none):=fun w=>psound_any s.f1 s.f2 s.f3 s.f4 s.f5 w (by have:=hm.1;omega) (by have:=hm.2.1;omega)
   have CT:Hid (∀w,Calls Tryz.prog 40 #[.agg #[.int .i64 s.t1,.int .i64 s.t2,.int .i64 s.t3,.string s.t4,.string s.t5]] w fun e w'=>e=.returned (.bool (soundV (vTo s)))/\w.grownBy w' none):=fun w=>psound_any s.t1 s.t2 s.t3 s.t4 s.t5 w (by have:=hm.2.2.1;omega) (by have:=hm.2.2.2;omega)
   obtain ⟨x,hx⟩:∃x,soundV (vFrom s)=x:=⟨_,rfl⟩
   obtain ⟨y,hy⟩:∃y,soundV (vTo s)=y:=⟨_,rfl⟩
   rw [hx] at CF
   rw [hy] at CT
   have HXY:Hid (soundS s=(x && (s.o || y))):=by show soundS s=_;unfold soundS;rw [hx,hy]
   clear hx hy hm hs
   obtain ⟨e0,e1,e2,e3,e4,e5,e6,e7,e8,e9,e10⟩:=HE.out
   go_wp2_with (first | (go_at_call 40;refine (CF.out _).mono ?_))
   rintro e w1 ⟨rfl,hg⟩
   obtain ⟨N,hN⟩:∃N,wr.heap.size=N:=⟨_,rfl⟩
   have HE1:Hid (EltAt w1 ⟨N,0,none⟩ s):=by
    refine EltAt.grow ?_ hg
    rw [<-hN]
    exact elt_row (t:=37) (heap_alloc_new wr _)
   replace HG:Hid (w.grownBy w1 none):=gb_trans (gb_alloc HG.out _) hg
   rw [hN]
   clear hN hg e0 e1 e2 e3 e4 e5 e6 e7 e8 e9 e10
   obtain ⟨e0,e1,e2,e3,e4,e5,e6,e7,e8,e9,e10⟩:=HE1.out
   simp only [Nat.zero_add] at e1 e2 e3 e4 e5 e6 e7 e8 e9 e10
   obtain ⟨ob,hob⟩:∃b,s.o=b:=⟨_,rfl⟩
   rw [hob] at e10 HXY
   clear hob
   cases x with
   | false =>
    rw [Bool.false_and] at HXY
    have HRF:Hid (R=false):=by
     show R=false
     rw [<-HR.out,List.all_eq_false]
     exact ⟨L[i],List.getElem_mem hlt,by rw [HSS.out,HXY.out];decide⟩
    clear HXY
    go_wp2
    go_ret
    exact ⟨ret_bool HRF.out.symm,HG.out⟩
   | true =>
    rw [Bool.true_and] at HXY
    cases ob with
    | true =>
     rw [Bool.true_or] at HXY
     have HT:Hid (soundS s=true):=by show soundS s=true;rw [HXY.out]
     clear HXY
     go_wp2
     go_roundw
     case rel =>
      refine ⟨i+1,by go_num,by omega,fun j hj hji=>?_,HG.out⟩
      by_cases hji':j < i
      ·exact HP.out j hj hji'
      ·have e:j=i:=by omega
       subst e
       rw [HSS.out];exact HT.out
     case measure=>simp [intOf];omega
    | false =>
     rw [Bool.false_or] at HXY
     go_wp2_with (first | (go_at_call 40;refine (CT.out _).mono ?_))
     rintro e w2 ⟨rfl,hg⟩
     replace HG:Hid (w.grownBy w2 none):=gb_trans HG.out hg
     clear hg e0 e1 e2 e3 e4 e5 e6 e7 e8 e9 e10
     cases y with
     | true =>
      have HT:Hid (soundS s=true):=by show soundS s=true;rw [HXY.out]
      clear HXY
      go_wp2
      go_roundw
      case rel =>
       refine ⟨i+1,by go_num,by omega,fun j hj hji=>?_,HG.out⟩
       by_cases hji':j < i
       ·exact HP.out j hj hji'
       ·have e:j=i:=by omega
        subst e
        rw [HSS.out];exact HT.out
      case measure=>simp [intOf];omega
     | false =>
      have HRF:Hid (R=false):=by
       show R=false
       rw [<-HR.out,List.all_eq_false]
       exact ⟨L[i],List.getElem_mem hlt,by rw [HSS.out,HXY.out];decide⟩
      clear HXY
      go_wp2
      go_ret
      exact ⟨ret_bool HRF.out.symm,HG.out⟩
  ·have HRT:Hid (R=true):=by
    show R=true
    rw [<-HR.out,List.all_eq_true]
    intro t ht
    obtain ⟨j,hj,rfl⟩:=List.getElem_of_mem ht
    exact HP.out j hj (by omega)
   clear hi
   go_wp2
   go_ret
   exact ⟨ret_bool HRT.out.symm,HG.out⟩
set_option maxHeartbeats 400000 in
theorem psound_nil (w:World):Calls Tryz.prog 81 #[.slice none 0 0] w fun e w'=>e=.returned (.bool true)/\w.grownBy w' none:=by
 go_enter Tryz.func81,Tryz.ntmps81
 go_wp2
 go_loopw [7] (fun vi wr=>vi=.int .i64 0/\w.grownBy wr none) (fun vi _=>0)
 case atStart=>exact ⟨rfl,gb_refl _ _⟩
 case round =>
  obtain ⟨rfl,hg⟩:=hrel
  have HG:Hid (w.grownBy wr none):=hg
  clear hg
  go_wp2
  go_ret
  exact ⟨rfl,HG.out⟩
open Go.RowKit
theorem infoSp:(Tryz.prog.info? 37).map (fun i=>(i.zero,i.size,i.bytes))=some (some (.agg #[.int .i64 0,.int .i64 0,.int .i64 0,.string ⟨#[]⟩,.string ⟨#[]⟩,.int .i64 0,.int .i64 0,.int .i64 0,.string ⟨#[]⟩,.string ⟨#[]⟩,.bool false]),11,120):=by kernel_rfl
theorem own_keep {w w':World} {base:Nat} {e:TypeId} {size:Nat} {v:Value} {n:Nat} {xs:List Value} (h:w.ownsRow base e size v n xs) (hg:w.grownBy w' none):w'.ownsRow base e size v n xs :=
 h.kept hg (by cases v.ownBlock <;> simp)
theorem news_one (s:Sp):∀u ∈ spC s,u.oneCell'=true:=by
 intro u hu
 simp only [spC,List.mem_cons,List.not_mem_nil,or_false] at hu
 rcases hu with rfl | rfl | rfl | rfl | rfl | rfl | rfl | rfl | rfl | rfl | rfl <;> rfl
theorem cell_lt {w:World} {a:Addr} {v:Value} (h:w.cell? a=some v):a.block < w.heap.size:=by
 unfold World.cell? at h
 cases hb:w.heap[a.block]? with
 | none=>rw [hb] at h;simp at h
 | some o=>exact (Array.getElem?_eq_some_iff.1 hb).1
theorem keepE {p:Addr} {s:Sp} {r:Option Nat} {w w':World} (hg:w.grownBy w' r) (hn:some p.block ≠ r) (h:w.cell? p=some (.int .i64 s.f1)/\w.cell? ⟨p.block,p.off+1,none⟩=some (.int .i64 s.f2)/\w.cell? ⟨p.block,p.off+2,none⟩=some (.int .i64 s.f3)/\w.cell? ⟨p.block,p.off+3,none⟩=some (.string s.f4)/\w.cell? ⟨p.block,p.off+4,none⟩=some (.string s.f5)/\w.cell? ⟨p.block,p.off+5,none⟩=some (.int .i64 s.t1)/\w.cell? ⟨p.block,p.off+6,none⟩=some (.int .i64 s.t2)/\w.cell? ⟨p.block,p.off+7,none⟩=some (.int .i64 s.t3)/\w.cell? ⟨p.block,p.off+8,none⟩=some (.string s.t4)/\w.cell? ⟨p.block,p.off+9,none⟩=some (.string s.t5)/\w.cell? ⟨p.block,p.off+10,none⟩=some (.bool s.o)):w'.cell? p=some (.int .i64 s.f1)/\w'.cell? ⟨p.block,p.off+1,none⟩=some (.int .i64 s.f2)/\w'.cell? ⟨p.block,p.off+2,none⟩=some (.int .i64 s.f3)/\w'.cell? ⟨p.block,p.off+3,none⟩=some (.string s.f4)/\w'.cell? ⟨p.block,p.off+4,none⟩=some (.string s.f5)/\w'.cell? ⟨p.block,p.off+5,none⟩=some (.int .i64 s.t1)/\w'.cell? ⟨p.block,p.off+6,none⟩=some (.int .i64 s.t2)/\w'.cell? ⟨p.block,p.off+7,none⟩=some (.int .i64 s.t3)/\w'.cell? ⟨p.block,p.off+8,none⟩=some (.string s.t4)/\w'.cell? ⟨p.block,p.off+9,none⟩=some (.string s.t5)/\w'.cell? ⟨p.block,p.off+10,none⟩=some (.bool s.o):=by
 obtain ⟨h0,h1,h2,h3,h4,h5,h6,h7,h8,h9,h10⟩:=h
 exact ⟨hg.cell h0 hn,hg.cell h1 hn,hg.cell h2 hn,hg.cell h3 hn,hg.cell h4 hn,hg.cell h5 hn,hg.cell h6 hn,hg.cell h7 hn,hg.cell h8 hn,hg.cell h9 hn,hg.cell h10 hn⟩
theorem below_gbn {B:Nat} {a w w':World} (h:Below B a w) (hB:B<=w.heap.size) (hg:w.grownBy w' none):Below B a w' :=
 ⟨hg.os.trans h.os,hg.tape.trans h.tape,hg.output.trans h.output,Nat.le_trans h.size hg.size,fun k hk=>(hg.block k (Nat.lt_of_lt_of_le hk hB) (by simp)).trans (h.block k hk)⟩
def SpansPost (L:List Sp) (w:World) (e:Ending) (w':World):Prop:=∃v,e=.returned v/\w'.ownsRow w.heap.size 37 11 v L.length (L.flatMap spC)/\Below w.heap.size w w'
set_option maxRecDepth 100000 in
set_option maxHeartbeats 1600000 in
theorem spans_at (a:Addr) (cap:Nat) (L:List Sp) (w:World) (hL:L.length<=1048576) (hcap:L.length<=cap) (h:SpAt w a L) :
  Calls Tryz.prog 14 #[.slice (some a) L.length cap] w (SpansPost L w):=by
 have HA:Hid (SpAt w a L):=h
 clear h
 have hinfo:=infoSp
 obtain ⟨i0,hi0,hii⟩:=Option.map_eq_some_iff.1 hinfo
 simp only [Prod.mk.injEq] at hii
 obtain ⟨hz0,hz1,hzb⟩:=hii
 clear hinfo
 go_enter Tryz.func14,Tryz.ntmps14
 go_wp2
 go_loopw [3,4] (fun vm vi wr=>∃i:Nat,vi=.int .i64 i/\i<=L.length/\wr.ownsRow w.heap.size 37 11 vm i ((L.take i).flatMap spC)/\Below w.heap.size w wr) (fun _ vi _=>L.length - (intOf vi).toNat)
 case atStart=>exact ⟨0,rfl,Nat.zero_le _,World.ownsRow_nil _ _ _ _,Below.refl _ _⟩
 case round =>
  obtain ⟨i,rfl,hi,hown,hb⟩:=hrel
  by_cases hlt:i < L.length
  ·obtain ⟨s,hs⟩:∃s,L[i]=s:=⟨_,rfl⟩
   have HE:Hid (EltAt wr (a.add (i * 11)) s):=by show EltAt wr _ s;rw [<-hs];exact (HA.out i hlt).grow ⟨hb.os,hb.tape,hb.output,hb.size,fun k hk _=>hb.block k hk⟩
   obtain ⟨e0,e1,e2,e3,e4,e5,e6,e7,e8,e9,e10⟩:=HE.out
   have HFAR:Hid (some (a.add (i * 11)).block ≠ u3.ownBlock):=by
    show _ ≠ _
    intro e
    have h1:=(hown.lt _ e.symm).1
    have h2:=(HA.out i hlt).1
    have h3:(a.add (i * 11)).block < w.heap.size:=cell_lt h2
    omega
   have HTK:Hid ((L.take (i+1)).flatMap spC=(L.take i).flatMap spC++spC s):=by
    show _=_
    rw [List.take_succ_eq_append_getElem hlt,List.flatMap_append,hs];simp
   have CF:Hid (∀w,Calls Tryz.prog 18 #[.agg #[.int .i64 s.f1,.int .i64 s.f2,.int .i64 s.f3,.string s.f4,.string s.f5]] w fun e w'=>e=.returned (.agg #[.int .i64 s.f1,.int .i64 s.f2,.int .i64 s.f3,.string s.f4,.string s.f5])/\w.grownBy w' none):=fun w=>vers_any _ _ _ _ _ w
   have CT:Hid (∀w,Calls Tryz.prog 18 #[.agg #[.int .i64 s.t1,.int .i64 s.t2,.int .i64 s.t3,.string s.t4,.string s.t5]] w fun e w'=>e=.returned (.agg #[.int .i64 s.t1,.int .i64 s.t2,.int .i64 s.t3,.string s.t4,.string s.t5])/\w.grownBy w' none):=fun w=>vers_any _ _ _ _ _ w
   have hzz:=hb.size
   go_wp2
   go_region_held3 (fun w'=>w'.cell? (a.add (i * 11))=some (.int .i64 s.f1)/\w'.cell? ⟨(a.add (i * 11)).block,(a.add (i * 11)).off+1,none⟩=some (.int .i64 s.f2)/\w'.cell? ⟨(a.add (i * 11)).block,(a.add (i * 11)).off+2,none⟩=some (.int .i64 s.f3)/\w'.cell? ⟨(a.add (i * 11)).block,(a.add (i * 11)).off+3,none⟩=some (.string s.f4)/\w'.cell? ⟨(a.add (i * 11)).block,(a.add (i * 11)).off+4,none⟩=some (.string s.f5)/\w'.cell? ⟨(a.add (i * 11)).block,(a.add (i * 11)).off+5,none⟩=some (.int .i64 s.t1)/\w'.cell? ⟨(a.add (i * 11)).block,(a.add (i * 11)).off+6,none⟩=some (.int .i64 s.t2)/\w'.cell? ⟨(a.add (i * 11)).block,(a.add (i * 11)).off+7,none⟩=some (.int .i64 s.t3)/\w'.cell? ⟨(a.add (i * 11)).block,(a.add (i * 11)).off+8,none⟩=some (.string s.t4)/\w'.cell? ⟨(a.add (i * 11)).block,(a.add (i * 11)).off+9,none⟩=some (.string s.t5)/\w'.cell? ⟨(a.add (i * 11)).block,(a.add (i * 11)).off+10,none⟩=some (.bool s.o)) ((first | exact keepE (by assumption) (by first | exact HFAR.out | simp) (by assumption) | go_keep)) (first | (refine step_append_lies _ (by rfl) _ _ _ (by rfl) w.heap.size 37 i0 _ 11 120 Tryz.underlying22 hi0 hz0 hz1 hzb (by rfl) (by decide) u3 i ((L.take i).flatMap spC) (by rfl) ((own_keep (own_keep hown (gb_undrew hg1)) hg2).alloc _) _ 1 1 (spC s) (by rfl) (by rfl) (World.news_of_block (heap_alloc_new _ _)) (news_one s) (by omega) (by unfold maxLen;omega) (by omega) (by have q1:=hg1.size;have q2:=hg2.size;simp at q1 ⊢;omega) _ rfl ?_;intro g cap1 w3 hown3 hgrow hat hlt3) | (go_at_call_of 18 (Value.string s.f4);refine (CF.out _).mono ?_;rintro e w1 ⟨rfl,hg1⟩) | (go_at_call_of 18 (Value.string s.t4);refine (CT.out _).mono ?_;rintro e w2 ⟨rfl,hg2⟩))
   have hb2:Below w.heap.size w w2:=below_gbn (below_gbn hb hzz (gb_undrew hg1)) (by have:=hg1.size;simp at this;omega) hg2
   have hz2:w.heap.size<=w2.heap.size:=hb2.size
   have HB3:Hid (Below w.heap.size w w3):=(hb2.alloc hz2 _).grown hgrow (by simp;omega) (fun q hq=>(hown.lt q hq).1)
   have HO3:Hid (w3.ownsRow w.heap.size 37 11 (.slice (some ⟨g,0,none⟩) (i+1) cap1) (i+1) ((L.take (i+1)).flatMap spC)):=by show World.ownsRow _ _ _ _ _ _ _;rw [HTK.out];exact hown3
   clear hown3 hgrow hat hb2 hz2 hown hb hg1 hg2 hlt3 e0 e1 e2 e3 e4 e5 e6 e7 e8 e9 e10 hs
   go_wp2
   go_roundw
   case rel=>exact ⟨i+1,by go_num,by omega,HO3.out,HB3.out⟩
   case measure=>simp [intOf];omega
  ·have hil:i=L.length:=by omega
   have HO:Hid (wr.ownsRow w.heap.size 37 11 u3 L.length (L.flatMap spC)):=by
    show World.ownsRow _ _ _ _ _ _ _
    rw [hil,List.take_length] at hown
    exact hown
   have HB:Hid (Below w.heap.size w wr):=hb
   clear hown hb hil hi
   go_wp2
   refine bodyPost_ret (results_tmp (t:=2) rfl _ _ _) rfl ⟨u3,rfl,HO.out,HB.out⟩
set_option maxHeartbeats 400000 in
theorem spans_nil (w:World):Calls Tryz.prog 14 #[.slice none 0 0] w (SpansPost [] w):=by
 go_enter Tryz.func14,Tryz.ntmps14
 go_wp2
 go_loopw [3,4] (fun vm vi wr=>vi=.int .i64 0/\vm=.slice none 0 0/\Below w.heap.size w wr) (fun _ vi _=>0)
 case atStart=>exact ⟨rfl,rfl,Below.refl _ _⟩
 case round =>
  obtain ⟨rfl,rfl,hb⟩:=hrel
  have HB:Hid (Below w.heap.size w wr):=hb
  clear hb
  go_wp2
  refine bodyPost_ret (results_tmp (t:=2) rfl _ _ _) rfl ⟨_,rfl,World.ownsRow_nil _ _ _ _,HB.out⟩
open Go.RowKit
set_option maxRecDepth 100000 in
set_option maxHeartbeats 1600000 in
theorem equal_at (a b:Addr) (capa capb:Nat) (L:List Sp) (w:World) (hL:L.length < 2 ^ 62) (ha:L.length<=capa) (hb:L.length<=capb) (h:SpAt w a L) (h':SpAt w b L) :
  Calls Tryz.prog 16 #[.slice (some a) L.length capa,.slice (some b) L.length capb] w fun e w'=>e=.returned (.bool true)/\w.grownBy w' none:=by
 have HA:Hid (SpAt w a L):=h
 have HB:Hid (SpAt w b L):=h'
 clear h h'
 go_enter Tryz.func16,Tryz.ntmps16
 go_wp2
 go_loopw [5] (fun vi wr=>∃i:Nat,vi=.int .i64 i/\i<=L.length/\w.grownBy wr none) (fun vi _=>L.length - (intOf vi).toNat)
 case atStart=>exact ⟨0,rfl,Nat.zero_le _,gb_refl _ _⟩
 case round =>
  obtain ⟨i,rfl,hi,hg⟩:=hrel
  have HG:Hid (w.grownBy wr none):=hg
  clear hg
  by_cases hlt:i < L.length
  ·obtain ⟨s,hs⟩:∃s,L[i]=s:=⟨_,rfl⟩
   have HE:Hid (EltAt wr (a.add (i * 11)) s):=by show EltAt wr _ s;rw [<-hs];exact (HA.out i hlt).grow HG.out
   have HF:Hid (EltAt wr (b.add (i * 11)) s):=by show EltAt wr _ s;rw [<-hs];exact (HB.out i hlt).grow HG.out
   clear hs
   obtain ⟨e0,e1,e2,e3,e4,e5,e6,e7,e8,e9,e10⟩:=HE.out
   obtain ⟨f0,f1,f2,f3,f4,f5,f6,f7,f8,f9,f10⟩:=HF.out
   have q1:(s.f4.toList == s.f4.toList)=true:=by simp
   have q2:(s.f5.toList == s.f5.toList)=true:=by simp
   have q3:(s.t4.toList == s.t4.toList)=true:=by simp
   have q4:(s.t5.toList == s.t5.toList)=true:=by simp
   go_wp2
   go_quiet (fail)
   go_wp2
   go_roundw
   case rel=>exact ⟨i+1,by go_num,by omega,gb_drew HG.out _⟩
   case measure=>simp [intOf];omega
  ·clear hi
   go_wp2
   go_ret
   exact ⟨rfl,HG.out⟩
set_option maxHeartbeats 400000 in
theorem equal_nil (x y:Option Addr) (c d:Nat) (w:World):Calls Tryz.prog 16 #[.slice x 0 c,.slice y 0 d] w fun e w'=>e=.returned (.bool true)/\w.grownBy w' none:=by
 go_enter Tryz.func16,Tryz.ntmps16
 go_wp2
 go_loopw [5] (fun vi wr=>vi=.int .i64 0/\w.grownBy wr none) (fun vi _=>0)
 case atStart=>exact ⟨rfl,gb_refl _ _⟩
 case round =>
  obtain ⟨rfl,hg⟩:=hrel
  have HG:Hid (w.grownBy wr none):=hg
  clear hg
  go_wp2
  go_ret
  exact ⟨rfl,HG.out⟩
open Go.RowKit
def SpS (w:World) (sl:Value) (L:List Sp):Prop:=(sl=.slice none 0 0/\L=[])\/∃a cap,sl=.slice (some a) L.length cap/\L.length<=cap/\SpAt w a L
theorem SpS.grow {w w':World} {sl:Value} {L:List Sp} (h:SpS w sl L) (hg:w.grownBy w' none):SpS w' sl L:=by
 rcases h with h | ⟨a,cap,h1,h2,h3⟩
 ·exact Or.inl h
 ·exact Or.inr ⟨a,cap,h1,h2,h3.grow hg⟩
theorem flat_get (L:List Sp):∀(i:Nat) (hi:i < L.length) (k:Nat) (v:Value),(spC L[i])[k]?=some v->(L.flatMap spC)[i * 11+k]?=some v:=by
 induction L with
 | nil=>intro i hi;simp at hi
 | cons s L ih =>
  intro i hi k v h
  rw [List.flatMap_cons]
  have hl:(spC s).length=11:=rfl
  cases i with
  | zero =>
   simp only [List.getElem_cons_zero] at h
   have hk:k < (spC s).length:=(List.getElem?_eq_some_iff.1 h).1
   rw [Nat.zero_mul,Nat.zero_add,List.getElem?_append_left hk]
   exact h
  | succ i =>
   simp only [List.getElem_cons_succ] at h
   rw [List.getElem?_append_right (by rw [hl];omega),hl,show (i+1) * 11+k - 11=i * 11+k by omega]
   exact ih i (by simpa using hi) k v h
theorem sps_own {w:World} {base:Nat} {v:Value} {L:List Sp} (h:w.ownsRow base 37 11 v L.length (L.flatMap spC)):SpS w v L:=by
 rcases h.2 with ⟨h1,h2⟩ | ⟨g,cap,cur,h1,hb,hg,hn,hm,hs,ht⟩
 ·exact Or.inl ⟨h1,List.length_eq_zero_iff.1 h2⟩
 ·refine Or.inr ⟨⟨g,0,none⟩,cap,h1,hn,fun i hi=>elt_of_cells fun k u hu=>?_⟩
  have:=flat_get L i hi k u hu
  exact h.cells (g:=g) (by rw [h1];rfl) (i * 11+k) u this
theorem cSoundP (sl:Value) (L:List Sp) (w:World) (h:SpS w sl L) (hL:L.length<=1048576) (hsz:∀s ∈ L,smallS s) :
  Calls Tryz.prog 81 #[sl] w fun e w'=>e=.returned (.bool (L.all soundS))/\w.grownBy w' none:=by
 rcases h with ⟨rfl,rfl⟩ | ⟨a,cap,rfl,h2,h3⟩
 ·exact psound_nil w
 ·exact psound_at a cap L w (by omega) h2 h3 hsz
theorem cEqual (sl sm:Value) (L:List Sp) (w:World) (h:SpS w sl L) (h':SpS w sm L) (hL:L.length<=1048576) :
  Calls Tryz.prog 16 #[sl,sm] w fun e w'=>e=.returned (.bool true)/\w.grownBy w' none:=by
 rcases h with ⟨rfl,rfl⟩ | ⟨a,cap,rfl,h2,h3⟩
 ·rcases h' with ⟨rfl,_⟩ | ⟨b,cap',rfl,h4,h5⟩
  ·exact equal_nil _ _ _ _ w
  ·exact equal_nil _ _ _ _ w
 ·rcases h' with ⟨rfl,rfl⟩ | ⟨b,cap',rfl,h4,h5⟩
  ·exact equal_nil _ _ _ _ w
  ·exact equal_at a b cap cap' L w (by omega) h2 h4 h3 h5
theorem v_self (a:V):verC a a=0:=good_ver.self a
theorem v_anti (a b:V):verC b a=- verC a b:=good_ver.anti a b
theorem v_le_trans {a b d:V} (h1:verC a b<=0) (h2:verC b d<=0):verC a d<=0:=(good_ver.trans a b d h1 h2).1
theorem v_lt_le {a b d:V} (h1:verC a b < 0) (h2:verC b d<=0):verC a d < 0:=by
 have h:=good_ver.trans a b d (by omega) h2
 have:verC a d ≠ 0:=fun e=>by have:=h.2.2 e;omega
 omega
theorem v_le_lt {a b d:V} (h1:verC a b<=0) (h2:verC b d < 0):verC a d < 0:=by
 have h:=good_ver.trans a b d h1 (by omega)
 have:verC a d ≠ 0:=fun e=>by have:=h.2.2 e;omega
 omega
theorem v_lt_trans {a b d:V} (h1:verC a b < 0) (h2:verC b d < 0):verC a d < 0:=v_lt_le h1 (by omega)
def tog (h:V->Bool):Bool->List V->List V
 | _,[]=>[]
 | on,p :: ps=>if h p=on then tog h on ps else p :: tog h (h p) ps
def Rising (l:List V):Prop:=l.Pairwise fun a b=>verC a b < 0
end Go.Proofs.YtonfldbigenfhaaGreatDoor
