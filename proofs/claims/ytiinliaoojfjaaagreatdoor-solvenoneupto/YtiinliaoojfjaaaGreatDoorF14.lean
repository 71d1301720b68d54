import Derived.Test.YtiinliaoojfjaaaGreatDoorF07
set_option linter.all false
set_option maxRecDepth 100000
set_option maxHeartbeats 0
open Go.Proofs.Tryz
namespace Go.Proofs.YtiinliaoojfjaaaGreatDoor
open Go.RowKit
theorem acp(v1 v2 v3:Int)(v4 v5:ByteArray)(w:World) :
  Calls prog 110 #[.agg #[.int .i64 v1,.int .i64 v2,.int .i64 v3,.string v4,.string v5]] w fun e w'=>e=.returned (.agg #[.int .i64 v1,.int .i64 v2,.int .i64 v3,.string v4,.string ⟨#[]⟩])/\w.grownBy w' none:=by
 go_enter func110,ntmps110;go_wp2;refine bodyPost_ret (results_cell_row rfl _ _ (w.heap.size+1) 61 #[.int .i64 v1,.int .i64 v2,.int .i64 v3,.string v4,.string ⟨#[]⟩] (0,0) _ rfl ?_ underlying61 rfl (by kernel_rfl)) rfl ⟨rfl,ak (ak (ai w none) _) _⟩;have:=heap_alloc_new (w.alloc (.cells #[.int .i64 v1,.int .i64 v2,.int .i64 v3,.string v4,.string v5] 61)) (.cells #[.int .i64 v1,.int .i64 v2,.int .i64 v3,.string v4,.string ⟨#[]⟩] 61);rw[show(w.alloc (.cells #[.int .i64 v1,.int .i64 v2,.int .i64 v3,.string v4,.string v5] 61)).heap.size=w.heap.size+1 by simp]at this;exact this
def VAt(w:World)(p:Addr)(t:V):Prop:=w.cell? p=some (.int .i64 t.major)/\w.cell? ⟨p.block,p.off+1,none⟩=some (.int .i64 t.minor)/\w.cell? ⟨p.block,p.off+2,none⟩=some (.int .i64 t.patch)/\w.cell? ⟨p.block,p.off+3,none⟩=some (.string ⟨t.pre.toArray⟩)/\w.cell? ⟨p.block,p.off+4,none⟩=some (.string ⟨#[]⟩)
theorem VAt.grow{w w':World}{p:Addr}{t:V}(h:VAt w p t)(hg:w.grownBy w' none):VAt w' p t :=
 ⟨hg.cell h.1 (by simp),hg.cell h.2.1 (by simp),hg.cell h.2.2.1 (by simp),hg.cell h.2.2.2.1 (by simp),hg.cell h.2.2.2.2 (by simp)⟩
def VsAt(w:World)(a:Addr)(l:List V):Prop:=∀i (hi:i<l.length),VAt w (a.add (i*5)) l[i]
theorem VsAt.grow{w w':World}{a:Addr}{l:List V}(h:VsAt w a l)(hg:w.grownBy w' none):VsAt w' a l:=fun i hi=>(h i hi).grow hg
end Go.Proofs.YtiinliaoojfjaaaGreatDoor
