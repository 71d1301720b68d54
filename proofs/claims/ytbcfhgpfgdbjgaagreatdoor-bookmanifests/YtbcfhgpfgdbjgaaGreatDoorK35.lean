import Derived.Test.YtbcfhgpfgdbjgaaGreatDoorK27
import Derived.Test.YtbcfhgpfgdbjgaaGreatDoorK29
import Derived.Test.YtbcfhgpfgdbjgaaGreatDoorK30
set_option linter.all false
set_option maxRecDepth 100000
set_option maxHeartbeats 0
open Go.Proofs.Tryz
namespace Go.Proofs.YtbcfhgpfgdbjgaaGreatDoor
open Go.RowKit
theorem akG(s:ByteArray)(w:World)(hs:s.size<2 ^ 62):Calls prog 24 #[.string s] w fun e w'=>e=.returned (.bool (okV s))/\w.grownBy w' none:=by
 have CR:Hd (∀w,Calls prog 37 #[.string s] w fun e w'=>(∃(x1 x2 x3:Int) (x4 x5:ByteArray) (k:Int),e=.returned (.tuple #[.agg #[.int .i64 x1,.int .i64 x2,.int .i64 x3,.string x4,.string x5],.int .i64 (kU s.data.toList).1,.int .i64 k]))/\w.grownBy w' none):=fun w=>(parse_any s w hs).mono fun e w' ⟨h1,h2⟩=>⟨⟨_,_,_,_,_,_,h1⟩,h2⟩
 unfold okV;obtain⟨E,hE⟩:=zN ((kU s.data.toList).1);rw[hE]at CR ⊢;clear hE;have hd:decide (E=0)=(E==0):=by rw[Bool.eq_iff_iff];simp
 rw[hd];clear hd;go_enter func24,ntmps24;go_wp2_with (go_at_call 37;refine(CR.o _).mono ?_);rintro e w1 ⟨⟨x1,x2,x3,x4,x5,k,rfl⟩,hg⟩
 cases hz:(E==0) with
 |true=>
  go_wp2;go_ret;exact⟨bu hz.symm,aH hg _⟩
 |false=>
  go_wp2;go_ret;exact⟨bu hz.symm,aH hg _⟩
theorem akH(s:ByteArray)(w:World)(hs:s.size<2 ^ 62):Calls prog 44 #[.string s] w fun e w'=>e=.returned (.bool (okV s))/\w.grownBy w' none:=by
 have CR:Hd (∀w,Calls prog 61 #[.string s] w fun e w'=>(∃(x1 x2 x3:Int) (x4 x5:ByteArray) (k:Int),e=.returned (.tuple #[.agg #[.int .i64 x1,.int .i64 x2,.int .i64 x3,.string x4,.string x5],.int .i64 (kU s.data.toList).1,.int .i64 k]))/\w.grownBy w' none):=fun w=>(ahL s w hs).mono fun e w' ⟨h1,h2⟩=>⟨⟨_,_,_,_,_,_,h1⟩,h2⟩
 unfold okV;obtain⟨E,hE⟩:=zN ((kU s.data.toList).1);rw[hE]at CR ⊢;clear hE;have hd:decide (E=0)=(E==0):=by rw[Bool.eq_iff_iff];simp
 rw[hd];clear hd;go_enter func44,ntmps44;go_wp2_with (go_at_call 61;refine(CR.o _).mono ?_);rintro e w1 ⟨⟨x1,x2,x3,x4,x5,k,rfl⟩,hg⟩
 cases hz:(E==0) with
 |true=>
  go_wp2;go_ret;exact⟨bu hz.symm,ak hg (aH (ax w1 none) _)⟩
 |false=>
  go_wp2;go_ret;exact⟨bu hz.symm,ak hg (aH (ax w1 none) _)⟩
theorem akI(s:ByteArray)(w:World)(hs:s.size<2 ^ 60):Calls prog 34 #[.string s] w fun e w'=>e=.returned (.bool (okR s))/\w.grownBy w' none:=by
 have CR:Hd (∀w,Calls prog 53 #[.string s] w fun e w'=>(∃(o:Option Addr) (n c:Nat) (k:Int),e=.returned (.tuple #[.slice o n c,.int .i64 (jM s.data.toList).1,.int .i64 k]))/\w.grownBy w' none):=fun w=>(ajv s w (by omega)).mono fun e w' ⟨o,n,c,h1,h2⟩=>⟨⟨o,n,c,_,h1⟩,h2⟩
 unfold okR;obtain⟨E,hE⟩:=zN ((jM s.data.toList).1);rw[hE]at CR ⊢;clear hE;have hd:decide (E=0)=(E==0):=by rw[Bool.eq_iff_iff];simp
 rw[hd];clear hd;go_enter func34,ntmps34;go_wp2_with (go_at_call 53;refine(CR.o _).mono ?_);rintro e w1 ⟨⟨o,n,c,k,rfl⟩,hg⟩
 cases hz:(E==0) with
 |true=>
  go_wp2;go_ret;exact⟨bu hz.symm,hg⟩
 |false=>
  go_wp2;go_ret;exact⟨bu hz.symm,hg⟩
theorem akJ(s:ByteArray)(w:World)(hs:s.size<2 ^ 60):Calls prog 30 #[.string s] w fun e w'=>e=.returned (.bool (okR s))/\w.grownBy w' none:=by
 have CR:Hd (∀w,Calls prog 48 #[.string s] w fun e w'=>(∃(o:Option Addr) (n c:Nat) (k:Int),e=.returned (.tuple #[.slice o n c,.int .i64 (jM s.data.toList).1,.int .i64 k]))/\w.grownBy w' none):=fun w=>(ajL s w hs).mono fun e w' ⟨o,n,c,A,h1,h2,_⟩=>⟨⟨o,n,c,_,h1⟩,h2⟩
 unfold okR;obtain⟨E,hE⟩:=zN ((jM s.data.toList).1);rw[hE]at CR ⊢;clear hE;have hd:decide (E=0)=(E==0):=by rw[Bool.eq_iff_iff];simp
 rw[hd];clear hd;go_enter func30,ntmps30;go_wp2_with (go_at_call 48;refine(CR.o _).mono ?_);rintro e w1 ⟨⟨o,n,c,k,rfl⟩,hg⟩
 cases hz:(E==0) with
 |true=>
  go_wp2;go_ret;exact⟨bu hz.symm,hg⟩
 |false=>
  go_wp2;go_ret;exact⟨bu hz.symm,hg⟩
end Go.Proofs.YtbcfhgpfgdbjgaaGreatDoor
