import Derived.Test.YtbgnflcebafjjaaGreatDoorA03
import Derived.Test.YtbgnflcebafjjaaGreatDoorA04
import Derived.Lib.AppendStr
import Derived.Deep.AppendLies
import Derived.Deep.RegionHeld3
namespace Go.Proofs.YtbgnflcebafjjaaGreatDoor
open Go.RowKit Go.Maps Go.WideMaps Go.Joins
set_option linter.unusedVariables false
def Pb (w:World) (p:Nat) (NV ad bf pv:Value):Prop:=w.heap[p]?=some (.cells #[NV,ad,bf,pv] 78 (0,0))
section
variable {w w':World} {p:Nat} {NV ad bf pv:Value}
theorem Pb.cells (h:Pb w p NV ad bf pv):w.cell? ⟨p,0,none⟩=some NV/\w.cell? ⟨p,1,none⟩=some ad/\w.cell? ⟨p,2,none⟩=some bf/\w.cell? ⟨p,3,none⟩=some pv/\∀k,w.frozen? ⟨p,k,none⟩=false :=
 ⟨by rw [Lib.cell_of_heap h];rfl,by rw [Lib.cell_of_heap h];rfl,by rw [Lib.cell_of_heap h];rfl,by rw [Lib.cell_of_heap h];rfl,fun k=>Lib.frozen_of_heap h k⟩
theorem Pb.setA (h:Pb w p NV ad bf pv) (v:Value):Pb (w.setCell ⟨p,1,none⟩ v) p NV v bf pv:=block_setCell (i:=1) h _
theorem Pb.setB (h:Pb w p NV ad bf pv) (v:Value):Pb (w.setCell ⟨p,2,none⟩ v) p NV ad v pv:=block_setCell (i:=2) h _
theorem Pb.setP (h:Pb w p NV ad bf pv) (v:Value):Pb (w.setCell ⟨p,3,none⟩ v) p NV ad bf v:=block_setCell (i:=3) h _
theorem Pb.shape (h:Pb w p NV ad bf pv):w.shape? p=some (78,4):=by
 unfold World.shape?
 rw [h]
 rfl
end
theorem bSize:(Tryz.prog.info? 76).map (·.size)=some 2:=by kernel_rfl
theorem bLies:liesAt Tryz.prog Tryz.prog.depth 78 (4 / Tryz.prog.cellsOf 78) 1 76 1=true:=by kernel_rfl
theorem infoU8:(Tryz.prog.info? 5).map (fun i=>(i.zero,i.size,i.bytes))=some (some (.int .u8 0),1,1):=by kernel_rfl
set_option maxRecDepth 100000 in
set_option maxHeartbeats 1600000 in
theorem bCheck_used (p:Nat) (w:World) (h0:w.cell? ⟨p,1,none⟩=some (.pointer (some ⟨p,1,none⟩))) :
  Calls Tryz.prog 90 #[.pointer (some ⟨p,1,none⟩)] w fun e w'=>e=.returned (.tuple #[])/\w'=w:=by
 obtain ⟨j,hj,-⟩:=Option.map_eq_some_iff.1 bSize
 go_enter Tryz.func90,Tryz.ntmps90
 go_wp2
 rw [Lib.run_neq_ptr_same w _ Tryz.underlying73 hj]
 go_wp2
 go_end0
 exact ⟨rfl,rfl⟩
set_option maxRecDepth 100000 in
set_option maxHeartbeats 1600000 in
theorem bCheck_fresh (p:Nat) (NV bf pv:Value) (w:World) (h:Pb w p NV (.pointer none) bf pv) :
  Calls Tryz.prog 90 #[.pointer (some ⟨p,1,none⟩)] w fun e w'=>e=.returned (.tuple #[])/\w'=w.setCell ⟨p,1,none⟩ (.pointer (some ⟨p,1,none⟩)):=by
 obtain ⟨j,hj,hjs⟩:=Option.map_eq_some_iff.1 bSize
 obtain ⟨-,h0,-,-,hf⟩:=h.cells
 have hfz:=hf 1
 have hsh:=h.shape
 clear h hf
 go_enter Tryz.func90,Tryz.ntmps90
 go_wp2
 rw [Lib.run_to_unsafe w ⟨p,1,none⟩ Tryz.underlying73 Tryz.underlying93 hj (by rw [hjs];decide) hsh (by show 1 < 4;decide)]
 simp only [Result.andThen]
 rw [Oper.upon_value]
 go_wp2
 rw [run_callFunc_extern Tryz.func113 (by kernel_rfl) (by kernel_rfl) (by kernel_rfl) (e:=Extern.AbiNoEscape.same) (by kernel_rfl)]
 rw [Lib.run_noEscape]
 simp only [Result.andThen]
 rw [Oper.upon_value]
 go_wp2
 rw [Lib.run_from_unsafe w ⟨p,1,none⟩ Tryz.underlying93 Tryz.underlying73 hj hsh bLies]
 simp only [Result.andThen]
 rw [Oper.upon_value]
 go_wp2
 go_end0
 exact ⟨rfl,rfl⟩
theorem str_at {P:Program} (w:World) (base:Nat) (t u ty e:TypeId) (i:TypeInfo) (ht:P.underlying t=some (.slice e)) (hu:P.underlying u=some .string) (hi:P.info? e=some i) (hz:i.zero=some (.int .u8 0)) (hsize:i.size=1) (hby:i.bytes=1)
  (v:Value) (n:Nat) (xs:List Value) (hown:w.ownsRow base e 1 v n xs) (s:ByteArray) (h63:n+s.size<=140737488355328) (hbase:base<=w.heap.size) :
  ∃v' w',(Builtin.append_ #[t,u] ty #[v,.string s]).run P w=.ok v' w'/\w'.ownsRow base e 1 v' (n+s.size) (xs++Lib.strCells s)/\w.grownBy w' v.ownBlock/\(v'.ownBlock=v.ownBlock\/v'.ownBlock=some w.heap.size):=by
 obtain ⟨v',w',hr,h1,h2,h3⟩:=Lib.run_append_own_string (P:=P) w base t u ty e i ht hu hi hz hsize hby v n xs hown s (by unfold maxLen;omega) h63 hbase
 refine ⟨v',w',hr,h1,h2,?_⟩
 have hxl:xs.length=n:=by simpa using hown.1
 rcases hown.2 with ⟨rfl,rfl⟩ | ⟨g,cap,cur,rfl,hbg,hg,hnc,hcm,hcs,htake⟩
 ·by_cases hm:s.size=0
  ·rw [h3.2 ⟨rfl,hm⟩]
   exact Or.inl rfl
  ·have hq:=run_append_nil_string (P:=P) w t u ty e i (.int .u8 0) ht hu hi hz s (by omega) (by omega) (by rw [hby];omega)
   rw [hr] at hq
   injection hq with hq _
   rw [hq]
   exact Or.inr rfl
 ·by_cases hroom:n+s.size<=cap
  ·have hq:=Lib.run_append_room_string (P:=P) w t u ty e i ht hu hi hsize g n cap cur hg s hroom (by simp only [Nat.mul_one] at hcs;omega)
   rw [hr] at hq
   injection hq with hq _
   rw [hq]
   exact Or.inl rfl
  ·have hq:=Lib.run_append_grow_string (P:=P) w t u ty e i (.int .u8 0) ht hu hi hz ⟨g,0,none⟩ n cap xs (by rw [hsize,Nat.mul_one];exact hxl) (hown.cells (g:=g) rfl) s (by omega) (by omega) (by rw [hby];exact growslice_fits (by omega) (by omega))
   rw [hr] at hq
   injection hq with hq _
   rw [hq]
   exact Or.inr rfl
theorem wpList_str_at {P:Program} {w:World} {ops:Array Oper} {rest:List Oper} {o:Oper} {a:Act} {Q:Exit->Act->World->Prop} (hgd:o.guard=none) (sl y:Operand) (t u:TypeId)
  (ho:o.op=.call { callee:=.builtin .append,args:=#[sl,y],argTypes:=#[t,u] })
  (base:Nat) (e:TypeId) (i:TypeInfo) (ht:P.underlying t=some (.slice e)) (hu:P.underlying u=some .string) (hi:P.info? e=some i) (hz:i.zero=some (.int .u8 0)) (hsize:i.size=1) (hby:i.bytes=1)
  (v:Value) (n:Nat) (xs:List Value) (hs:a.eval sl=v) (hown:w.ownsRow base e 1 v n xs) (s:ByteArray) (hy:a.eval y=.string s) (h63:n+s.size<=140737488355328) (hbase:base<=w.heap.size)
  (h:∀v' w',w'.ownsRow base e 1 v' (n+s.size) (xs++Lib.strCells s)->w.grownBy w' v.ownBlock->(v'.ownBlock=v.ownBlock\/v'.ownBlock=some w.heap.size)->wpList P ops Q rest (a.put o.dst v') w'):wpList P ops Q (o :: rest) a w:=by
 refine wpList_plain hgd fun K hK=>?_
 obtain ⟨v',w',hr,h2,h3,h4⟩:=str_at (P:=P) w base t u o.type e i ht hu hi hz hsize hby v n xs hown s h63 hbase
 unfold Oper.wp execOp
 simp only [ho,resolve,invoke,builtin,Sem.run_bind,Sem.run_pure,Result.andThen_ok,List.map_toArray,List.map_cons,List.map_nil,hs,hy,hr]
 exact hK _ _ (h v' w' h2 h3 h4)
theorem str_cells (s:ByteArray):Lib.strCells s=Lib.byteCells s.data.toList:=by
 unfold Lib.strCells Lib.byteCells
 simp
structure PF (B:Nat) (w w':World):Prop where
 bel:Below B w w'
 oth:∀(b:Nat) (cs:Array Value) (t:TypeId) (fz:Nat × Nat),w.heap[b]?=some (.cells cs t fz)->¬ t=78->¬ t=5->w'.heap[b]?=w.heap[b]?
theorem PF.two {B:Nat} {w w1 w2:World} (h:PF B w w1) (h':PF B w1 w2):PF B w w2 :=
 ⟨h.bel.trans h'.bel,fun b cs t fz hb h1 h2=>by
  have e1:=h.oth b cs t fz hb h1 h2
  exact (h'.oth b cs t fz (e1.trans hb) h1 h2).trans e1⟩
theorem PF.refl (B:Nat) (w:World):PF B w w:=⟨Below.refl B w,fun _ _ _ _ _ _ _=>rfl⟩
theorem PF.gb {B:Nat} {w w':World} (hg:w.grownBy w' none) (hB:B<=w.heap.size):PF B w w' :=
 ⟨⟨hg.os,hg.tape,hg.output,hg.size,fun k hk=>hg.block k (by omega) (by simp)⟩,fun b cs t fz hb _ _=>hg.block b (blk_lt hb) (by simp)⟩
theorem PF.row {B:Nat} {w w':World} {t:TypeId} {g:Nat} {cur:Array Value} {fz:Nat × Nat} (hg:w.grownBy w' (some g)) (hB:B<=w.heap.size) (hgB:B<=g) (hb:w.heap[g]?=some (.cells cur t fz)) (ht:t=78\/t=5):PF B w w' :=
 ⟨⟨hg.os,hg.tape,hg.output,hg.size,fun k hk=>hg.block k (by omega) (by simp;omega)⟩,fun b cs t' fz' hb' h1 h2=>hg.block b (blk_lt hb') (by
  simp only [ne_eq,Option.some.injEq]
  refine ne_typ hb' hb ?_
  rcases ht with rfl | rfl
  ·exact h1
  ·exact h2)⟩
theorem PF.app {B:Nat} {w w':World} {sz n:Nat} {V:Value} {ys:List Value} (ho:w.ownsRow B 5 sz V n ys) (hg:w.grownBy w' V.ownBlock) (hB:B<=w.heap.size):PF B w w':=by
 cases hb:V.ownBlock with
 | none=>rw [hb] at hg;exact PF.gb hg hB
 | some q =>
  rw [hb] at hg
  obtain ⟨hq,cc,hcc⟩:=own_typ ho hb
  exact PF.row hg hB hq hcc (Or.inr rfl)
def Pn (w:World) (B p:Nat) (NV:Value) (out path:List UInt8):Prop:=B<=p/\∃ad bf pv,Pb w p NV ad bf pv/\(ad=.pointer none\/ad=.pointer (some ⟨p,1,none⟩))/\w.ownsRow B 5 1 bf out.length (Lib.byteCells out)/\w.ownsRow B 5 1 pv path.length (Lib.byteCells path)/\(∀g,bf.ownBlock=some g->pv.ownBlock ≠ some g)/\(out=[]->bf=.slice none 0 0)
theorem Pn.gb {w w':World} {B p:Nat} {NV:Value} {out path:List UInt8} (h:Pn w B p NV out path) (hg:w.grownBy w' none):Pn w' B p NV out path:=by
 obtain ⟨h1,ad,bf,pv,h2,h3,h4,h5,h6⟩:=h
 exact ⟨h1,ad,bf,pv,(hg.block p (blk_lt h2) (by simp)).trans h2,h3,own_block h4 fun g cur _ hc=>hg.block g (blk_lt hc) (by simp),own_block h5 fun g cur _ hc=>hg.block g (blk_lt hc) (by simp),h6⟩
theorem Pn.base {w:World} {B p:Nat} {NV:Value} {out path:List UInt8} (h:Pn w B p NV out path):B<=p/\p < w.heap.size/\w.cell? ⟨p,0,none⟩=some NV:=by
 obtain ⟨h1,ad,bf,pv,h2,-⟩:=h
 exact ⟨h1,blk_lt h2,h2.cells.1⟩
theorem Pn.keep {w w':World} {B p:Nat} {NV:Value} {out path:List UInt8} (h:Pn w B p NV out path) (hk:∀(b:Nat) (cs:Array Value) (t:TypeId) (fz:Nat × Nat),w.heap[b]?=some (.cells cs t fz)->(t=78\/t=5)->w'.heap[b]?=w.heap[b]?):Pn w' B p NV out path:=by
 obtain ⟨h1,ad,bf,pv,h2,h3,h4,h5,h6⟩:=h
 exact ⟨h1,ad,bf,pv,(hk _ _ _ _ h2 (Or.inl rfl)).trans h2,h3,own_block h4 fun g cur _ hc=>hk _ _ _ _ hc (Or.inr rfl),own_block h5 fun g cur _ hc=>hk _ _ _ _ hc (Or.inr rfl),h6⟩
theorem bCheck_any (B p:Nat) (NV ad bf pv:Value) (w:World) (h:Pb w p NV ad bf pv) (hB:B<=p) (had:ad=.pointer none\/ad=.pointer (some ⟨p,1,none⟩)) :
  Calls Tryz.prog 90 #[.pointer (some ⟨p,1,none⟩)] w fun e w'=>e=.returned (.tuple #[])/\Pb w' p NV (.pointer (some ⟨p,1,none⟩)) bf pv/\w.grownBy w' (some p):=by
 rcases had with rfl | rfl
 ·refine (bCheck_fresh p NV bf pv w h).mono ?_
  rintro e w' ⟨rfl,rfl⟩
  exact ⟨rfl,h.setA _,gb_setc w p 1 _⟩
 ·refine (bCheck_used p w h.cells.2.1).mono ?_
  rintro e w' ⟨rfl,rfl⟩
  exact ⟨rfl,h,gb_refl _ _⟩
theorem Pn.wrote {w w1 w2:World} {B p n:Nat} {NV ad bf pv v':Value} {out path x:List UInt8} (hB:B<=p) (h1:Pb w1 p NV (.pointer (some ⟨p,1,none⟩)) bf pv) (hbf:w1.ownsRow B 5 1 bf out.length (Lib.byteCells out)) (hpv:w1.ownsRow B 5 1 pv path.length (Lib.byteCells path)) (hap:∀g,bf.ownBlock=some g->pv.ownBlock ≠ some g)
  (hv:w2.ownsRow B 5 1 v' (out.length+x.length) (Lib.byteCells out++Lib.byteCells x)) (hg:w1.grownBy w2 bf.ownBlock) (hat:v'.ownBlock=bf.ownBlock\/∃g,v'.ownBlock=some g/\w1.heap.size<=g) (hBw:B<=w1.heap.size) (hx0:x ≠ []) :
  w2.cell? ⟨p,2,none⟩=some bf/\w2.frozen? ⟨p,2,none⟩=false/\Pn (w2.setCell ⟨p,2,none⟩ v') B p NV (out++x) path/\PF B w1 (w2.setCell ⟨p,2,none⟩ v'):=by
 have hp2:Pb w2 p NV (.pointer (some ⟨p,1,none⟩)) bf pv:=(hg.block p (blk_lt h1) (fun e=>by
  obtain ⟨-,cc,hcc⟩:=own_typ hbf e.symm
  exact ne_typ h1 hcc (by decide) rfl)).trans h1
 obtain ⟨-,-,c2,-,cf⟩:=hp2.cells
 have hpv2:w2.ownsRow B 5 1 pv path.length (Lib.byteCells path):=own_block hpv fun g cur hh hc=>hg.block g (blk_lt hc) (fun e=>hap g e.symm hh)
 have hset:∀(b:Nat) (cs:Array Value) (t:TypeId) (fz:Nat × Nat),w2.heap[b]?=some (.cells cs t fz)->¬ t=78->(w2.setCell ⟨p,2,none⟩ v').heap[b]?=w2.heap[b]?:=fun b cs t fz hb ht=>heap_setCell_other _ _ _ _ (ne_typ hb hp2 ht)
 refine ⟨c2,cf 2,⟨hB,_,v',pv,hp2.setB v',Or.inr rfl,?_,own_block hpv2 fun g cur _ hc=>hset _ _ _ _ hc (by decide),?_,fun e=>absurd (List.append_eq_nil_iff.1 e).2 hx0⟩,?_⟩
 ·rw [List.length_append,cells_app]
  exact own_block hv fun g cur _ hc=>hset _ _ _ _ hc (by decide)
 ·intro g hgv hgp
  rcases hat with e | ⟨g',e,hle⟩
  ·exact hap g (e ▸ hgv) hgp
  ·rw [e] at hgv
   cases hgv
   obtain ⟨-,cc,hcc⟩:=own_typ hpv hgp
   have:=blk_lt hcc
   omega
 ·exact (PF.app hbf hg hBw).two (PF.row (gb_setc w2 p 2 v') (Nat.le_trans hBw hg.size) hB hp2 (Or.inl rfl))
set_option maxRecDepth 100000 in
set_option maxHeartbeats 1600000 in
theorem bWriteS (B p:Nat) (NV:Value) (out path x:List UInt8) (w:World) (h:Pn w B p NV out path) (hx0:x ≠ []) (hl:out.length+x.length<=70368744177664) :
  Calls Tryz.prog 60 #[.pointer (some ⟨p,1,none⟩),.string ⟨x.toArray⟩] w fun e w'=>(∃k:Int,e=.returned (.tuple #[.int .i64 k,.nilIface]))/\Pn w' B p NV (out++x) path/\PF B w w':=by
 obtain ⟨hB,ad,bf,pv,hp,had,hbf,hpv,hap,-⟩:=h
 have hxs:(⟨x.toArray⟩:ByteArray).size=x.length:=by show x.toArray.size=_;simp
 have hxd:(⟨x.toArray⟩:ByteArray).data.toList=x:=by simp
 have hBw:B<=w.heap.size:=Nat.le_of_lt (Nat.lt_of_le_of_lt hB (blk_lt hp))
 have CC:Hid (Calls Tryz.prog 90 #[.pointer (some ⟨p,1,none⟩)] w fun e w'=>e=.returned (.tuple #[])/\Pb w' p NV (.pointer (some ⟨p,1,none⟩)) bf pv/\w.grownBy w' (some p)):=bCheck_any B p NV ad bf pv w hp hB had
 obtain ⟨i0,hi0,hii⟩:=Option.map_eq_some_iff.1 infoU8
 simp only [Prod.mk.injEq] at hii
 obtain ⟨hz0,hz1,hzb⟩:=hii
 have HP:Hid (Pb w p NV ad bf pv):=hp
 have HB:Hid (w.ownsRow B 5 1 bf out.length (Lib.byteCells out)):=hbf
 have HV:Hid (w.ownsRow B 5 1 pv path.length (Lib.byteCells path)):=hpv
 have HA:Hid (∀g,bf.ownBlock=some g->pv.ownBlock ≠ some g):=hap
 have HX0:Hid (x ≠ []):=hx0
 have HXS:Hid ((⟨x.toArray⟩:ByteArray).size=x.length/\Lib.strCells ⟨x.toArray⟩=Lib.byteCells x):=⟨hxs,by rw [str_cells,hxd]⟩
 obtain ⟨X,hX⟩:∃X:ByteArray,⟨x.toArray⟩=X:=⟨_,rfl⟩
 rw [hX] at HXS ⊢
 have hXs:out.length+X.size<=70368744177664:=by rw [HXS.out.1];exact hl
 clear hp hbf hpv hap had hxs hxd hX hl hx0
 go_enter Tryz.func60,Tryz.ntmps60
 go_wp2_with (first | (go_at_call 90;refine CC.out.mono ?_))
 rintro e w1 ⟨rfl,hp1,hg1⟩
 have hbf1:w1.ownsRow B 5 1 bf out.length (Lib.byteCells out):=own_block HB.out fun g cur _ hc=>hg1.block g (blk_lt hc) (by simp only [ne_eq,Option.some.injEq];exact ne_typ hc HP.out (by decide))
 have HV1:Hid (w1.ownsRow B 5 1 pv path.length (Lib.byteCells path)):=own_block HV.out fun g cur _ hc=>hg1.block g (blk_lt hc) (by simp only [ne_eq,Option.some.injEq];exact ne_typ hc HP.out (by decide))
 have HP1:Hid (Pb w1 p NV (.pointer (some ⟨p,1,none⟩)) bf pv):=hp1
 have HF1:Hid (PF B w w1):=PF.row hg1 hBw hB HP.out (Or.inl rfl)
 have HB1:Hid (w1.ownsRow B 5 1 bf out.length (Lib.byteCells out)):=hbf1
 have hBw1:B<=w1.heap.size:=Nat.le_trans hBw hg1.size
 obtain ⟨-,c1,c2,-,-⟩:=hp1.cells
 clear hp1 hg1
 go_wp2_with (first | (at_builtin;refine wpList_str_at rfl _ _ 74 9 rfl B 5 i0 Tryz.underlying74 Tryz.underlying9 hi0 hz0 hz1 hzb bf out.length (Lib.byteCells out) rfl hbf1 X rfl (by omega) hBw1 ?_))
 intro v' w2 hv2 hg2 hat
 rw [HXS.out.1,HXS.out.2] at hv2
 obtain ⟨d2,df,hn,hf⟩:=Pn.wrote (w:=w) (n:=0) (ad:=ad) hB HP1.out HB1.out HV1.out HA.out hv2 hg2 (hat.imp id fun e=>⟨_,e,Nat.le_refl _⟩) hBw1 HX0.out
 have HN:Hid (Pn (w2.setCell ⟨p,2,none⟩ v') B p NV (out++x) path):=hn
 have HF2:Hid (PF B w (w2.setCell ⟨p,2,none⟩ v')):=HF1.out.two hf
 obtain ⟨o5,n5,rfl⟩:=own_slice hv2
 clear hv2 hg2 hat hn hf hbf1 c1 c2
 go_wp2
 refine bodyPost_ret (results_tmp2 (t:=4) (u:=5) rfl _ _ _) rfl ?_
 exact ⟨⟨_,rfl⟩,HN.out,HF2.out⟩
theorem u8_one (c:UInt8):∀u ∈ [Value.int .u8 (c.toNat:Int)],u.oneCell'=true:=by
 intro u hu
 rw [List.mem_singleton.1 hu];rfl
theorem bytes_one (x:List UInt8):∀u ∈ Lib.byteCells x,u.oneCell'=true:=by
 intro u hu
 unfold Lib.byteCells at hu
 obtain ⟨b,-,rfl⟩:=List.mem_map.1 hu
 rfl
theorem cells_sing (c:UInt8):Lib.byteCells [c]=[.int .u8 (c.toNat:Int)]:=rfl
set_option maxRecDepth 100000 in
set_option maxHeartbeats 1600000 in
theorem bWriteB (B p:Nat) (NV:Value) (out path:List UInt8) (c:UInt8) (w:World) (h:Pn w B p NV out path) (hl:out.length+1<=70368744177664) :
  Calls Tryz.prog 63 #[.pointer (some ⟨p,1,none⟩),.int .u8 (c.toNat:Int)] w fun e w'=>e=.returned .nilIface/\Pn w' B p NV (out++[c]) path/\PF B w w':=by
 obtain ⟨hB,ad,bf,pv,hp,had,hbf,hpv,hap,-⟩:=h
 have hBw:B<=w.heap.size:=Nat.le_of_lt (Nat.lt_of_le_of_lt hB (blk_lt hp))
 have CC:Hid (Calls Tryz.prog 90 #[.pointer (some ⟨p,1,none⟩)] w fun e w'=>e=.returned (.tuple #[])/\Pb w' p NV (.pointer (some ⟨p,1,none⟩)) bf pv/\w.grownBy w' (some p)):=bCheck_any B p NV ad bf pv w hp hB had
 obtain ⟨i0,hi0,hii⟩:=Option.map_eq_some_iff.1 infoU8
 simp only [Prod.mk.injEq] at hii
 obtain ⟨hz0,hz1,hzb⟩:=hii
 have HP:Hid (Pb w p NV ad bf pv):=hp
 have HB:Hid (w.ownsRow B 5 1 bf out.length (Lib.byteCells out)):=hbf
 have HV:Hid (w.ownsRow B 5 1 pv path.length (Lib.byteCells path)):=hpv
 have HA:Hid (∀g,bf.ownBlock=some g->pv.ownBlock ≠ some g):=hap
 have hone:=u8_one c
 obtain ⟨z,hz⟩:∃z:Int,(c.toNat:Int)=z:=⟨_,rfl⟩
 have HZ:Hid (Lib.byteCells [c]=[.int .u8 z]):=by show _=_;rw [cells_sing,hz]
 rw [hz] at hone ⊢
 clear hp hbf hpv hap had hz
 go_enter Tryz.func63,Tryz.ntmps63
 go_wp2_with (first | (go_at_call 90;refine CC.out.mono ?_))
 rintro e w1 ⟨rfl,hp1,hg1⟩
 have hbf1:w1.ownsRow B 5 1 bf out.length (Lib.byteCells out):=own_block HB.out fun g cur _ hc=>hg1.block g (blk_lt hc) (by simp only [ne_eq,Option.some.injEq];exact ne_typ hc HP.out (by decide))
 have hpv1:w1.ownsRow B 5 1 pv path.length (Lib.byteCells path):=own_block HV.out fun g cur _ hc=>hg1.block g (blk_lt hc) (by simp only [ne_eq,Option.some.injEq];exact ne_typ hc HP.out (by decide))
 have hga:w1.grownBy (w1.alloc (.cells #[.int .u8 z] 5)) none:=World.grownBy_alloc _ _ none
 have HP1:Hid (Pb (w1.alloc (.cells #[.int .u8 z] 5)) p NV (.pointer (some ⟨p,1,none⟩)) bf pv):=(hga.block p (blk_lt hp1) (by simp)).trans hp1
 have HV1:Hid ((w1.alloc (.cells #[.int .u8 z] 5)).ownsRow B 5 1 pv path.length (Lib.byteCells path)):=hpv1.alloc _
 have HB1:Hid ((w1.alloc (.cells #[.int .u8 z] 5)).ownsRow B 5 1 bf out.length (Lib.byteCells out)):=hbf1.alloc _
 have hBw1:B<=w1.heap.size:=Nat.le_trans hBw hg1.size
 have HF1:Hid (PF B w (w1.alloc (.cells #[.int .u8 z] 5))):=(PF.row hg1 hBw hB HP.out (Or.inl rfl)).two (PF.gb hga hBw1)
 obtain ⟨-,c1,c2,-,-⟩:=hp1.cells
 clear hp1 hg1 hga hpv1
 go_wp2_with (first | (at_builtin;refine wpList_append_lies _ rfl _ _ 74 rfl B 5 i0 _ 1 1 Tryz.underlying74 hi0 hz0 hz1 hzb rfl (by decide) _ _ _ rfl (hbf1.alloc _) _ 1 1 [.int .u8 z] rfl rfl (World.news_of_block (heap_alloc_new _ _)) hone (by decide) (by unfold maxLen;omega) (by omega) (by simp;omega) _ rfl ?_))
 intro g cap w2 hv2 hg2 hat hlt2
 have hv2':w2.ownsRow B 5 1 (.slice (some ⟨g,0,none⟩) (out.length+1) cap) (out.length+[c].length) (Lib.byteCells out++Lib.byteCells [c]):=by rw [HZ.out];exact hv2
 obtain ⟨d2,df,hn,hf⟩:=Pn.wrote (w:=w) (n:=0) (ad:=ad) hB HP1.out HB1.out HV1.out HA.out hv2' hg2 (hat.imp (fun e=>e.symm) fun e=>⟨g,rfl,Nat.le_of_eq (by rw [World.size_alloc];exact e.symm)⟩) (by simp;omega) (by simp)
 have HN:Hid (Pn (w2.setCell ⟨p,2,none⟩ (.slice (some ⟨g,0,none⟩) (out.length+1) cap)) B p NV (out++[c]) path):=hn
 have HF2:Hid (PF B w (w2.setCell ⟨p,2,none⟩ (.slice (some ⟨g,0,none⟩) (out.length+1) cap))):=HF1.out.two hf
 clear hv2 hv2' hg2 hat hn hf hbf1 c1 c2 hlt2
 go_wp2
 go_ret
 exact ⟨rfl,HN.out,HF2.out⟩
set_option maxRecDepth 100000 in
set_option maxHeartbeats 1600000 in
theorem bWriteP (B p:Nat) (NV:Value) (out path:List UInt8) (w:World) (h:Pn w B p NV out path) (hx0:path ≠ []) (hl:out.length+path.length<=70368744177664):∃pv,w.cell? ⟨p,3,none⟩=some pv ∧
  Calls Tryz.prog 66 #[.pointer (some ⟨p,1,none⟩),pv] w fun e w'=>(∃k:Int,e=.returned (.tuple #[.int .i64 k,.nilIface]))/\Pn w' B p NV (out++path) path/\PF B w w':=by
 obtain ⟨hB,ad,bf,pv,hp,had,hbf,hpv,hap,-⟩:=h
 refine ⟨pv,hp.cells.2.2.2.1,?_⟩
 have hBw:B<=w.heap.size:=Nat.le_of_lt (Nat.lt_of_le_of_lt hB (blk_lt hp))
 have CC:Hid (Calls Tryz.prog 90 #[.pointer (some ⟨p,1,none⟩)] w fun e w'=>e=.returned (.tuple #[])/\Pb w' p NV (.pointer (some ⟨p,1,none⟩)) bf pv/\w.grownBy w' (some p)):=bCheck_any B p NV ad bf pv w hp hB had
 obtain ⟨i0,hi0,hii⟩:=Option.map_eq_some_iff.1 infoU8
 simp only [Prod.mk.injEq] at hii
 obtain ⟨hz0,hz1,hzb⟩:=hii
 have hpos:0 < path.length:=List.length_pos_iff.2 hx0
 obtain ⟨gp,cp,hvp,-,-⟩:=hpv.form hpos
 subst hvp
 have HP:Hid (Pb w p NV ad bf (.slice (some ⟨gp,0,none⟩) path.length cp)):=hp
 have HB:Hid (w.ownsRow B 5 1 bf out.length (Lib.byteCells out)):=hbf
 have HV:Hid (w.ownsRow B 5 1 (.slice (some ⟨gp,0,none⟩) path.length cp) path.length (Lib.byteCells path)):=hpv
 have HA:Hid (∀g,bf.ownBlock=some g->(Value.slice (some ⟨gp,0,none⟩) path.length cp).ownBlock ≠ some g):=hap
 have hone:=bytes_one path
 have HX0:Hid (path ≠ []):=hx0
 have hpl:(Lib.byteCells path).length=path.length * 1:=by rw [cells_len,Nat.mul_one]
 clear hp hbf hpv hap had hx0
 go_enter Tryz.func66,Tryz.ntmps66
 go_wp2_with (first | (go_at_call 90;refine CC.out.mono ?_))
 rintro e w1 ⟨rfl,hp1,hg1⟩
 have hbf1:w1.ownsRow B 5 1 bf out.length (Lib.byteCells out):=own_block HB.out fun g cur _ hc=>hg1.block g (blk_lt hc) (by simp only [ne_eq,Option.some.injEq];exact ne_typ hc HP.out (by decide))
 have hpv1:w1.ownsRow B 5 1 (.slice (some ⟨gp,0,none⟩) path.length cp) path.length (Lib.byteCells path):=own_block HV.out fun g cur _ hc=>hg1.block g (blk_lt hc) (by simp only [ne_eq,Option.some.injEq];exact ne_typ hc HP.out (by decide))
 have hnews:=hpv1.cells (g:=gp) rfl
 have HP1:Hid (Pb w1 p NV (.pointer (some ⟨p,1,none⟩)) bf (.slice (some ⟨gp,0,none⟩) path.length cp)):=hp1
 have HV1:Hid (w1.ownsRow B 5 1 (.slice (some ⟨gp,0,none⟩) path.length cp) path.length (Lib.byteCells path)):=hpv1
 have HB1:Hid (w1.ownsRow B 5 1 bf out.length (Lib.byteCells out)):=hbf1
 have hBw1:B<=w1.heap.size:=Nat.le_trans hBw hg1.size
 have HF1:Hid (PF B w w1):=PF.row hg1 hBw hB HP.out (Or.inl rfl)
 obtain ⟨-,c1,c2,-,-⟩:=hp1.cells
 obtain ⟨m,hm⟩:∃m,path.length=m:=⟨_,rfl⟩
 have HM:Hid (path.length=m):=hm
 rw [hm] at hpos hpl hl ⊢
 clear hp1 hg1 hpv1 hm
 go_wp2_with (first | (at_builtin;refine wpList_append_lies _ rfl _ _ 74 rfl B 5 i0 _ 1 1 Tryz.underlying74 hi0 hz0 hz1 hzb rfl (by decide) _ _ _ rfl hbf1 _ m cp (Lib.byteCells path) rfl hpl hnews hone hpos (by unfold maxLen;omega) (by omega) hBw1 _ rfl ?_))
 intro g cap w2 hv2 hg2 hat hlt2
 rw [<-HM.out] at hv2 ⊢
 obtain ⟨d2,df,hn,hf⟩:=Pn.wrote (w:=w) (n:=0) (ad:=ad) hB HP1.out HB1.out HV1.out HA.out hv2 hg2 (hat.imp (fun e=>e.symm) fun e=>⟨g,rfl,Nat.le_of_eq e.symm⟩) hBw1 HX0.out
 have HN:Hid (Pn (w2.setCell ⟨p,2,none⟩ (.slice (some ⟨g,0,none⟩) (out.length+path.length) cap)) B p NV (out++path) path):=hn
 have HF2:Hid (PF B w (w2.setCell ⟨p,2,none⟩ (.slice (some ⟨g,0,none⟩) (out.length+path.length) cap))):=HF1.out.two hf
 clear hv2 hg2 hat hn hf hbf1 c1 c2 hlt2 hnews
 go_wp2
 refine bodyPost_ret (results_tmp2 (t:=4) (u:=5) rfl _ _ _) rfl ?_
 exact ⟨⟨_,rfl⟩,HN.out,HF2.out⟩
set_option maxRecDepth 100000 in
theorem bLen (B p:Nat) (NV:Value) (out path:List UInt8) (w:World) (h:Pn w B p NV out path) :
  Calls Tryz.prog 65 #[.pointer (some ⟨p,1,none⟩)] w fun e w'=>e=.returned (.int .i64 (out.length:Nat))/\w'=w:=by
 obtain ⟨hB,ad,bf,pv,hp,had,hbf,hpv,hap,-⟩:=h
 obtain ⟨o,c,rfl⟩:=own_slice hbf
 obtain ⟨-,-,c2,-,-⟩:=hp.cells
 clear hp hbf hpv hap had
 go_enter Tryz.func65,Tryz.ntmps65
 go_wp2
 go_ret
 exact ⟨rfl,rfl⟩
theorem cellsU8:Tryz.prog.cellsOf 5=1:=by kernel_rfl
set_option maxRecDepth 100000 in
set_option maxHeartbeats 3200000 in
theorem bStr (B p:Nat) (NV:Value) (out path:List UInt8) (w:World) (h:Pn w B p NV out path) (hl:out.length<=70368744177664) :
  Calls Tryz.prog 35 #[.pointer (some ⟨p,1,none⟩)] w fun e w'=>e=.returned (.string ⟨out.toArray⟩)/\Below B w w':=by
 obtain ⟨hB,ad,bf,pv,hp,had,hbf,hpv,hap,hnil⟩:=h
 by_cases h0:out=[]
 ·have e:=hnil h0
  subst h0 e
  have c1:w.drew.cell? ⟨p,2,none⟩=some (.slice none 0 0):=hp.cells.2.2.1
  have hSD:(Builtin.unsafeSliceData_ #[74] 126 #[.slice none 0 0]).run Tryz.prog w.drew=.ok (.pointer none) w.drew:=rfl
  have hUS:(Builtin.unsafeString_ #[126,3] 9 #[.pointer none,.int .i64 0]).run Tryz.prog w.drew=.ok (.string ⟨#[]⟩) w.drew:=by kernel_rfl
  clear hp hbf hpv hap had hnil
  go_enter Tryz.func35,Tryz.ntmps35
  go_wp2
  go_region
  all_goals (go_wp2;go_ret;exact ⟨rfl,Below.drew (Below.refl B w)⟩)
 ·have hpos:0 < out.length:=List.length_pos_iff.2 h0
  obtain ⟨g,cap,cur,rfl,hbg,hg,hnc,hcm,hcs,htake⟩:∃g cap cur,bf=.slice (some ⟨g,0,none⟩) out.length cap/\B<=g/\w.heap[g]?=some (.cells cur 5 (0,0))/\out.length<=cap/\cap<=maxLen/\cur.size=cap * 1/\cur.toList.take (out.length * 1)=Lib.byteCells out:=by
   rcases hbf.2 with ⟨_,hz⟩ | ⟨g,cap,cur,hv,r⟩
   ·omega
   ·exact ⟨g,cap,cur,hv,r⟩
  have c1:w.drew.cell? ⟨p,2,none⟩=some (.slice (some ⟨g,0,none⟩) out.length cap):=hp.cells.2.2.1
  have hSD:(Builtin.unsafeSliceData_ #[74] 126 #[.slice (some ⟨g,0,none⟩) out.length cap]).run Tryz.prog w.drew=.ok (.pointer (some ⟨g,0,none⟩)) w.drew:=Lib.run_unsafeSliceData_row _ _ _ _ _ _ (by omega)
  have hUS:(Builtin.unsafeString_ #[126,3] 9 #[.pointer (some ⟨g,0,none⟩),.int .i64 out.length]).run Tryz.prog w.drew=.ok (.string ⟨out.toArray⟩) (w.drew.freeze ⟨g,0,none⟩ out.length):=by
   refine Lib.run_unsafeString_row w.drew 126 3 9 5 Tryz.underlying126 cellsU8 g cur.size (by have hg':w.drew.heap[g]?=some (.cells cur 5 (0,0)):=hg;simp [World.shape?,hg']) out h0 (by omega) (by omega) ?_
   intro j x hx
   exact hbf.cells (g:=g) rfl j (.int .u8 x.toNat) (by simp [Lib.byteCells,hx])
  obtain ⟨n,hn⟩:∃n,out.length=n:=⟨_,rfl⟩
  rw [hn] at c1 hSD hUS
  clear hp hbf hpv hap had hnil hcs htake hg hcm hn
  go_enter Tryz.func35,Tryz.ntmps35
  go_wp2
  go_region
  all_goals (go_wp2;go_ret;exact ⟨rfl,Lib.below_freeze (Below.drew (Below.refl B w)) (p:=⟨g,0,none⟩) hbg _⟩)
end Go.Proofs.YtbgnflcebafjjaaGreatDoor
namespace Go.Proofs.YtbgnflcebafjjaaGreatDoor
open Go.RowKit Go.Joins
set_option linter.unusedVariables false
theorem run_sufT (s:ByteArray) (k:Nat) (hk:k<=s.size) (w:World) :
  (Instr.slice 9 (.string s) (some (.int .i64 (k:Int))) none none).run Tryz.prog w=.ok (.string ⟨(s.data.toList.drop k).toArray⟩) w:=by
 have h1:(0:Int)<=(k:Int):=by omega
 have h5:(k:Int)<=(s.size:Int):=by omega
 have e:s.extract k s.size=⟨(s.data.toList.drop k).toArray⟩:=by
  apply ByteArray.ext
  rw [ByteArray.data_extract]
  apply Array.ext'
  simp
  exact List.take_of_length_le (by simp)
 rw [<-e]
 simp [go_sem,Tryz.underlying9,h1,h5]
def StPost (R:Nat) (s:ByteArray) (T:Nat) (E:Int->TypeId × Value) (g:Rs (List UInt8 × Nat)) (w:World) (e:Ending) (w':World):Prop:=(∀t j,g=.ok (t,j)->e=.returned (.tuple #[.string ⟨t.toArray⟩,.nilIface])/\Rd w' R s j T)/\(∀c p,g=.error (c,p)->∃v,e=.returned (.tuple #[.string ⟨#[]⟩,v])/\FaultE w' v E c p/\∃j,Rd w' R s j T)/\w.grownBy w' (some R)
set_option maxRecDepth 100000 in
set_option maxHeartbeats 1600000 in
theorem tQuoted_any (R:Nat) (s:ByteArray) (i T:Nat) (E:Int->TypeId × Value) (w:World) (h:Rd w R s i T) (hi:i < s.size) (hs:s.size<=1048576) (he:Es w E) (hR:Far R)
  (hT:Lib.Utf8Tabs 7 8 w) (h3:¬ R=7) (h4:¬ R=8) :
  Calls Tryz.prog 99 #[.pointer (some ⟨R,0,none⟩)] w (StPost R s T E (str s.data.toList (s.data.toList.length+1) (i+1) []) w):=by
 have hl:s.data.toList.length=s.size:=by simp
 have CN:Hid (∀k w,Rd w R s k T->k<=s.size->Calls Tryz.prog 40 #[.pointer (some ⟨R,0,none⟩)] w fun e w'=>e=.returned (.int .i64 (nx s.data.toList k))/\w.grownBy w' none):=fun k w h1 h2=>tNext_any R s k T w h1 h2 hs
 have CE:Hid (∀k w',w.grownBy w' (some R)->Rd w' R s k T->k < s.size->Calls Tryz.prog 117 #[.pointer (some ⟨R,0,none⟩)] w' (RuPost R s T E (escN s.data.toList k) w')):=fun k w' hg hr hk=>tEscape_any R s k T E w' hr hk hs (he.grow hR hg) hR
 have CB:Hid (∀c w,Calls Tryz.prog 78 #[.int .i64 c] w fun e w'=>e=.returned (.bool (isBr c))/\w'=w):=tBarred_any
 have CH:Hid (∀k w',w.grownBy w' (some R)->Rd w' R s k T->Calls Tryz.prog 79 #[.pointer (some ⟨R,0,none⟩)] w' fun e w''=>(∃v,e=.returned v/\FaultE w'' v E 2 k)/\w'.grownBy w'' none):=fun k w' hg hr=>tHere_any R s k T (E 2).1 (E 2).2 w' hr (he.grow hR hg).te
 have CD:Hid (∀k w',w.grownBy w' (some R)->k < s.size->Calls Tryz.prog 119 #[.string ⟨(s.data.toList.drop k).toArray⟩] w' fun e w''=>∃r n:Nat,e=.returned (.tuple #[.int .i32 (r:Nat),.int .i64 (n:Nat)])/\Told (seqN s.data.toList k) (r,n)/\Below w'.heap.size w' w''):=fun k w' hg hk=>tDecode_any s.data.toList k (by omega) w' (tabs_grow hT h3 h4 hg)
 have HST:Hid (∀f i acc,str s.data.toList (f+1) i acc =
  if nx s.data.toList i=34 then .ok (acc,i+1)
  else if nx s.data.toList i=92 then (match esc s.data.toList i with | .error e=>.error e | .ok (b,j)=>str s.data.toList f j (acc++b))
  else if nx s.data.toList i=-1\/isBr (nx s.data.toList i)=true then .error (2,i)
  else if seqN s.data.toList i=0 then .error (2,i)
  else str s.data.toList f (i+seqN s.data.toList i) (acc++subT s.data.toList i (seqN s.data.toList i))):=str_step _
 have HLT:Hid (∀k,0<=nx s.data.toList k->k < s.size):=fun k hb=>by rw [<-hl];exact nx_lt hb
 have HEO:Hid (∀k n j,k < s.size->escN s.data.toList k=.ok (n,j)->n < 65536/\sur n=false/\k+2<=j/\j<=s.size):=fun k n j hk he=>by rw [<-hl];exact escN_ok _ k n j (by omega) he
 have HSO:Hid (∀k,k<=s.size->k+seqN s.data.toList k<=s.size):=fun k hk=>by rw [<-hl];exact seqN_ok _ k (by omega)
 obtain ⟨G,hG⟩:∃G,str s.data.toList (s.data.toList.length+1) (i+1) []=G:=⟨_,rfl⟩
 have HG0:Hid (str s.data.toList (s.data.toList.length+1) (i+1) []=G):=hG
 rw [hG]
 have H0:Hid (Rd w R s i T):=h
 have HRB:Hid (R < w.heap.size):=h.lt
 have HS:Hid (Rd (w.setCell ⟨R,1,none⟩ (.int .i64 ((i:Int)+1))) R s (i+1) T):=h.set (i+1)
 have HGS:Hid (w.grownBy (w.setCell ⟨R,1,none⟩ (.int .i64 ((i:Int)+1))) (some R)):=gb_set (gb_refl w (some R)) 1 _
 obtain ⟨-,c1,-,df⟩:=h.cells
 have df1:=df 1
 clear h hG he df hT
 go_enter Tryz.func99,Tryz.ntmps99
 go_wp2
 have HBD:Hid (Bd ((w.setCell ⟨R,1,none⟩ (.int .i64 ((i:Int)+1))).alloc (.cells #[.pointer none,.slice none 0 0] 76)) w.heap.size w.heap.size []):=by
  refine Or.inl ⟨Nat.le_refl _,.slice none 0 0,?_,World.ownsRowF_nil _ _ _ _,by simp [Value.ownBlock]⟩
  have:=heap_alloc_new (w.setCell ⟨R,1,none⟩ (.int .i64 ((i:Int)+1))) (.cells #[.pointer none,.slice none 0 0] 76)
  have e:(w.setCell ⟨R,1,none⟩ (.int .i64 ((i:Int)+1))).heap.size=w.heap.size:=by simp [World.setCell]
  rw [e] at this
  exact this
 have HGA:Hid ((w.setCell ⟨R,1,none⟩ (.int .i64 ((i:Int)+1))).grownBy ((w.setCell ⟨R,1,none⟩ (.int .i64 ((i:Int)+1))).alloc (.cells #[.pointer none,.slice none 0 0] 76)) none):=World.grownBy_alloc _ _ none
 have HR1:Hid (Rd ((w.setCell ⟨R,1,none⟩ (.int .i64 ((i:Int)+1))).alloc (.cells #[.pointer none,.slice none 0 0] 76)) R s (i+1) T):=HS.out.grow HGA.out
 have HG1:Hid (w.grownBy ((w.setCell ⟨R,1,none⟩ (.int .i64 ((i:Int)+1))).alloc (.cells #[.pointer none,.slice none 0 0] 76)) (some R)):=gb_more HGS.out HGA.out
 have HBW:Hid (∀w',w.grownBy w' (some R)->w.heap.size<=w'.heap.size):=fun w' hg=>hg.size
 have HGB:Hid (∀w1 w2,w.grownBy w1 (some R)->Below w.heap.size w1 w2->w.grownBy w2 (some R)):=fun w1 w2 h1 h2=>gb_bel h1 (Nat.le_refl _) h2
 obtain ⟨B,hB⟩:∃B,w.heap.size=B:=⟨_,rfl⟩
 rw [hB] at HBD HRB HBW HGB ⊢
 obtain ⟨wA,hwA⟩:∃wA,((w.setCell ⟨R,1,none⟩ (.int .i64 ((i:Int)+1))).alloc (.cells #[.pointer none,.slice none 0 0] 76))=wA:=⟨_,rfl⟩
 rw [hwA] at HBD HR1 HG1 ⊢
 clear hB hwA HGA HS HGS c1 df1 H0
 go_loopw [] (fun wr=>∃(k f:Nat) (acc:List UInt8),Rd wr R s k T/\k<=s.size/\s.size - k < f/\str s.data.toList f k acc=G/\acc.length<=3 * k/\Bd wr B B acc/\w.grownBy wr (some R)) (fun wr=>s.size - (match wr.cell? ⟨R,1,none⟩ with | some (.int _ k)=>k.toNat | _=>0))
 case atStart=>exact ⟨i+1,s.data.toList.length+1,[],HR1.out,by omega,by omega,HG0.out,by simp,HBD.out,HG1.out⟩
 case round =>
  obtain ⟨k,f,acc,hrd,hk,hf,hstr,hacc,hbd,hg⟩:=hrel
  obtain ⟨f,rfl⟩:∃f',f=f'+1:=⟨f - 1,by omega⟩
  have HRK:Hid (Rd wr R s k T):=hrd
  have HGK:Hid (w.grownBy wr (some R)):=hg
  have HBK:Hid (Bd wr B B acc):=hbd
  have HME:Hid ((match wr.cell? ⟨R,1,none⟩ with | some (.int _ k)=>k.toNat | _=>0)=k):=by show _=_;rw [hrd.cells.2.1];simp
  have C1:Hid (∀w',Rd w' R s k T->Calls Tryz.prog 40 #[.pointer (some ⟨R,0,none⟩)] w' fun e w''=>e=.returned (.int .i64 (nx s.data.toList k))/\w'.grownBy w'' none):=fun w' h1=>CN.out k w' h1 hk
  have HKL:Hid (0<=nx s.data.toList k->k < s.size):=HLT.out k
  have HXB:Hid (-1<=nx s.data.toList k):=(nx_bound s.data.toList k).1
  rw [HST.out] at hstr
  obtain ⟨x,hx⟩:∃x,nx s.data.toList k=x:=⟨_,rfl⟩
  rw [hx] at C1 HKL HXB hstr
  have HSX:Hid ((if x=34 then .ok (acc,k+1)
   else if x=92 then (match esc s.data.toList k with | .error e=>.error e | .ok (b,j)=>str s.data.toList f j (acc++b))
   else if x=-1\/isBr x=true then .error (2,k)
   else if seqN s.data.toList k=0 then .error (2,k)
   else str s.data.toList f (k+seqN s.data.toList k) (acc++subT s.data.toList k (seqN s.data.toList k)))=G):=hstr
  clear hrd hg hbd hx hstr
  by_cases h34:x=34
  ·have hb:(x != 34)=false:=by simp [h34]
   have HGG:Hid (G=.ok (acc,k+1)):=by
    have:=HSX.out
    rw [if_pos h34] at this
    exact this.symm
   have hkl:=HKL.out (by omega)
   clear h34
   go_wp2_with (first | (go_at_call 40;refine (C1.out _ HRK.out).mono ?_))
   rintro e w2 ⟨rfl,hg2⟩
   have HR2:Hid (Rd w2 R s k T):=HRK.out.grow hg2
   have HG2:Hid (w.grownBy w2 (some R)):=gb_more HGK.out hg2
   obtain ⟨-,d1,-,df⟩:=HR2.out.cells
   have df2:=df 1
   have HR3:Hid (Rd (w2.setCell ⟨R,1,none⟩ (.int .i64 ((k:Int)+1))) R s (k+1) T):=HR2.out.set (k+1)
   have HG3:Hid (w.grownBy (w2.setCell ⟨R,1,none⟩ (.int .i64 ((k:Int)+1))) (some R)):=gb_set HG2.out 1 _
   have CS:Hid (Calls Tryz.prog 35 #[.pointer (some ⟨B,0,none⟩)] (w2.setCell ⟨R,1,none⟩ (.int .i64 ((k:Int)+1))) fun e w'=>e=.returned (.string ⟨acc.toArray⟩)/\Below B (w2.setCell ⟨R,1,none⟩ (.int .i64 ((k:Int)+1))) w'):=tBdString_any B B acc _ ((HBK.out.grow (R:=R) (gb_set (gb_more (gb_refl wr (some R)) hg2) 1 _) HRB.out)) (HBW.out _ HG3.out)
   clear hg2 df
   go_wp2_with (first | (go_at_call 35;refine CS.out.mono ?_;rintro e w4 ⟨rfl,hb4⟩))
   refine bodyPost_ret (results_tmp2 (t:=2) (u:=3) rfl _ _ _) rfl ?_
   rw [HGG.out]
   exact ⟨fun t j hh=>(by cases hh;exact ⟨rfl,HR3.out.bel HRB.out hb4⟩),fun c p hh=>(by cases hh),HGB.out _ _ HG3.out hb4⟩
  ·have hb:(x != 34)=true:=by simp [h34]
   by_cases h92:x=92
   ·have hb2:(x == 92)=true:=by simp [h92]
    have hkl:=HKL.out (by omega)
    have HSE:Hid ((match wrtR (escN s.data.toList k) with | .error e=>.error e | .ok (b,j)=>str s.data.toList f j (acc++b))=G):=by
     have:=HSX.out
     rw [if_neg h34,if_pos h92,esc_escN] at this
     exact this
    have CE1:Hid (∀w',w.grownBy w' (some R)->Rd w' R s k T->Calls Tryz.prog 117 #[.pointer (some ⟨R,0,none⟩)] w' (RuPost R s T E (escN s.data.toList k) w')):=fun w' h1 h2=>CE.out k w' h1 h2 hkl
    have HE1:Hid (∀n j,escN s.data.toList k=.ok (n,j)->n < 65536/\sur n=false/\k+2<=j/\j<=s.size):=fun n j h=>HEO.out k n j hkl h
    obtain ⟨q,hq⟩:∃q,escN s.data.toList k=q:=⟨_,rfl⟩
    rw [hq] at HSE CE1 HE1
    clear h34 h92 hq
    go_wp2_with (first | (go_at_call 40;refine (C1.out _ HRK.out).mono ?_))
    rintro e w2 ⟨rfl,hg2⟩
    have HR2:Hid (Rd w2 R s k T):=HRK.out.grow hg2
    have HG2:Hid (w.grownBy w2 (some R)):=gb_more HGK.out hg2
    have HB2:Hid (Bd w2 B B acc):=HBK.out.grow (R:=R) (gb_more (gb_refl wr (some R)) hg2) HRB.out
    clear hg2
    go_wp2_with (first | (go_at_call 40;refine (C1.out _ HR2.out).mono ?_))
    rintro e w3 ⟨rfl,hg3⟩
    have HR3:Hid (Rd w3 R s k T):=HR2.out.grow hg3
    have HG3:Hid (w.grownBy w3 (some R)):=gb_more HG2.out hg3
    have HB3:Hid (Bd w3 B B acc):=HB2.out.grow (R:=R) (gb_more (gb_refl w2 (some R)) hg3) HRB.out
    clear hg3
    cases q with
    | error q =>
     obtain ⟨c,q⟩:=q
     have HGG:Hid (G=.error (c,q)):=HSE.out.symm
     go_wp2_with (first | (go_at_call 117;refine (CE1.out _ HG3.out HR3.out).mono ?_))
     rintro e w4 ⟨h1,h2,hg4⟩
     obtain ⟨v,rfl,⟨F,rfl,hF⟩,jj,hjj⟩:=h2 c q rfl
     have HJJ:Hid (Rd w4 R s jj T):=hjj
     clear hjj
     have HFV:Hid (FaultE w4 (.iface 65 (.pointer (some ⟨F,0,none⟩))) E c q):=⟨F,rfl,hF⟩
     have HG4:Hid (w.grownBy w4 (some R)):=gb_two HG3.out hg4
     clear h1 h2 hF hg4
     go_wp2
     refine bodyPost_ret (results_tmp2 (t:=2) (u:=3) rfl _ _ _) rfl ?_
     rw [HGG.out]
     exact ⟨fun t j hh=>(by cases hh),fun c p hh=>(by cases hh;exact ⟨_,rfl,HFV.out,jj,HJJ.out⟩),HG4.out⟩
    | ok q =>
     obtain ⟨n,j⟩:=q
     obtain ⟨hn1,hn2,hn3,hn4⟩:=HE1.out n j rfl
     have HGG:Hid (str s.data.toList f j (acc++wrt n)=G):=HSE.out
     have hwl:=wrt_len n
     go_wp2_with (first | (go_at_call 117;refine (CE1.out _ HG3.out HR3.out).mono ?_))
     rintro e w4 ⟨h1,h2,hg4⟩
     obtain ⟨rfl,hr4⟩:=h1 n j rfl
     have HR4:Hid (Rd w4 R s j T):=hr4
     have HG4:Hid (w.grownBy w4 (some R)):=gb_two HG3.out hg4
     have CWR:Hid (Calls Tryz.prog 118 #[.pointer (some ⟨B,0,none⟩),.int .i32 (n:Nat)] w4 fun e w'=>(∃k:Int,e=.returned (.tuple #[.int .i64 k,.nilIface]))/\Bd w' B B (acc++wrt n)/\Below B w4 w'):=tWriteRune_any B B n acc w4 (HB3.out.grow hg4 HRB.out) hn1 hn2 (by omega) (HBW.out _ HG4.out)
     clear h1 h2 hr4 hg4 hn1 hn2
     go_wp2_with (first | (go_at_call 118;refine CWR.out.mono ?_))
     rintro e w5 ⟨⟨kk,rfl⟩,hb5,hbel⟩
     have HR5:Hid (Rd w5 R s j T):=HR4.out.bel HRB.out hbel
     have HG5:Hid (w.grownBy w5 (some R)):=HGB.out _ _ HG4.out hbel
     have HB5:Hid (Bd w5 B B (acc++wrt n)):=hb5
     clear hb5 hbel
     go_wp2
     refine ⟨⟨j,f,acc++wrt n,HR5.out,hn4,by omega,HGG.out,by rw [List.length_append];omega,HB5.out,HG5.out⟩,?_⟩
     rw [HME.out,HR5.out.cells.2.1]
     simp
     omega
   ·have hb2:(x == 92)=false:=by simp [h92]
    go_wp2_with (first | (go_at_call 40;refine (C1.out _ HRK.out).mono ?_))
    rintro e w2 ⟨rfl,hg2⟩
    have HR2:Hid (Rd w2 R s k T):=HRK.out.grow hg2
    have HG2:Hid (w.grownBy w2 (some R)):=gb_more HGK.out hg2
    have HB2:Hid (Bd w2 B B acc):=HBK.out.grow (R:=R) (gb_more (gb_refl wr (some R)) hg2) HRB.out
    clear hg2
    go_wp2_with (first | (go_at_call 40;refine (C1.out _ HR2.out).mono ?_))
    rintro e w3 ⟨rfl,hg3⟩
    have HR3:Hid (Rd w3 R s k T):=HR2.out.grow hg3
    have HG3:Hid (w.grownBy w3 (some R)):=gb_more HG2.out hg3
    have HB3:Hid (Bd w3 B B acc):=HB2.out.grow (R:=R) (gb_more (gb_refl w2 (some R)) hg3) HRB.out
    clear hg3
    have HSY:Hid ((if x=-1\/isBr x=true then .error (2,k)
     else if seqN s.data.toList k=0 then .error (2,k)
     else str s.data.toList f (k+seqN s.data.toList k) (acc++subT s.data.toList k (seqN s.data.toList k)))=G):=by
     have:=HSX.out
     rw [if_neg h34,if_neg h92] at this
     exact this
    clear h34 h92
    by_cases he1:x=-1
    ·have hb3:(x == -1)=true:=by simp [he1]
     have HGG:Hid (G=.error (2,k)):=by
      have:=HSY.out
      rw [if_pos (Or.inl he1)] at this
      exact this.symm
     clear he1
     go_wp2_with (first | (go_at_call 40;refine (C1.out _ HR3.out).mono ?_;rintro e w4 ⟨rfl,hg4⟩) | (go_at_call 79;refine (CH.out k _ (gb_more HG3.out hg4) (HR3.out.grow hg4)).mono ?_;rintro e w5 ⟨⟨v,rfl,hv⟩,hg5⟩))
     refine bodyPost_ret (results_tmp2 (t:=2) (u:=3) rfl _ _ _) rfl ?_
     rw [HGG.out]
     exact ⟨fun t j hh=>(by cases hh),fun c p hh=>(by cases hh;exact ⟨v,rfl,hv,_,(HR3.out.grow hg4).grow hg5⟩),gb_more (gb_more HG3.out hg4) hg5⟩
    ·have hb3:(x == -1)=false:=by simp [he1]
     have CB1:Hid (∀w,Calls Tryz.prog 78 #[.int .i64 x] w fun e w'=>e=.returned (.bool (isBr x))/\w'=w):=fun w=>CB.out x w
     obtain ⟨br,hbr⟩:∃br,isBr x=br:=⟨_,rfl⟩
     rw [hbr] at CB1 HSY
     have HNE:Hid (¬ x=-1):=he1
     clear hbr he1
     go_wp2_with (first | (go_at_call 40;refine (C1.out _ HR3.out).mono ?_))
     rintro e w4 ⟨rfl,hg4⟩
     have HR4:Hid (Rd w4 R s k T):=HR3.out.grow hg4
     have HG4:Hid (w.grownBy w4 (some R)):=gb_more HG3.out hg4
     have HB4:Hid (Bd w4 B B acc):=HB3.out.grow (R:=R) (gb_more (gb_refl w3 (some R)) hg4) HRB.out
     clear hg4
     go_wp2_with (first | (go_at_call 40;refine (C1.out _ HR4.out).mono ?_))
     rintro e w5 ⟨rfl,hg5⟩
     have HR5:Hid (Rd w5 R s k T):=HR4.out.grow hg5
     have HG5:Hid (w.grownBy w5 (some R)):=gb_more HG4.out hg5
     have HB5:Hid (Bd w5 B B acc):=HB4.out.grow (R:=R) (gb_more (gb_refl w4 (some R)) hg5) HRB.out
     clear hg5
     cases br with
     | true =>
      have HGG:Hid (G=.error (2,k)):=by
       have:=HSY.out
       rw [if_pos (Or.inr rfl)] at this
       exact this.symm
      go_wp2_with (first | (go_at_call 78;refine (CB1.out _).mono ?_;rintro e w' ⟨rfl,rfl⟩) | (go_at_call 79;refine (CH.out k _ HG5.out HR5.out).mono ?_;rintro e w6 ⟨⟨v,rfl,hv⟩,hg6⟩))
      refine bodyPost_ret (results_tmp2 (t:=2) (u:=3) rfl _ _ _) rfl ?_
      rw [HGG.out]
      exact ⟨fun t j hh=>(by cases hh),fun c p hh=>(by cases hh;exact ⟨v,rfl,hv,_,HR5.out.grow hg6⟩),gb_more HG5.out hg6⟩
     | false =>
      have hkl:k < s.size:=HKL.out (by have:=HXB.out;have:=HNE.out;omega)
      have HSZ:Hid ((if seqN s.data.toList k=0 then .error (2,k) else str s.data.toList f (k+seqN s.data.toList k) (acc++subT s.data.toList k (seqN s.data.toList k)))=G):=by
       have:=HSY.out
       rw [if_neg (by rintro (h | h);exact HNE.out h;cases h)] at this
       exact this
      have hSO:=HSO.out k hk
      have CDS:Hid (∀w',w.grownBy w' (some R)->Calls Tryz.prog 119 #[.string ⟨(s.data.toList.drop k).toArray⟩] w' fun e w''=>∃(ri:Int) (n:Nat),e=.returned (.tuple #[.int .i32 ri,.int .i64 (n:Nat)])/\(seqN s.data.toList k=0->ri=65533/\n=1)/\(0 < seqN s.data.toList k->n=seqN s.data.toList k/\(ri=65533->¬ n=1))/\w'.grownBy w'' none):=fun w' hg=>by
       refine (CD.out k w' hg hkl).mono ?_
       rintro e w'' ⟨r,n,rfl,⟨t1,t2⟩,hb⟩
       refine ⟨(r:Nat),n,rfl,fun h0=>?_,fun h0=>?_,⟨hb.os,hb.tape,hb.output,hb.size,fun k hk _=>hb.block k hk⟩⟩
       ·have:=t1 h0
        simp only [Prod.mk.injEq] at this
        omega
       ·obtain ⟨a1,a2⟩:=t2 h0
        refine ⟨a1,fun hr hn=>a2 ⟨?_,hn⟩⟩
        show r=65533
        omega
      have HSL:Hid ((subT s.data.toList k (seqN s.data.toList k)).length<=seqN s.data.toList k):=by
       show _<=_
       unfold subT;rw [List.length_take];omega
      have s1:∀wx,(Instr.slice 9 (.string s) (some (.int .i64 (k:Int))) none none).run Tryz.prog wx=.ok (.string ⟨(s.data.toList.drop k).toArray⟩) wx:=fun wx=>run_sufT s k hk wx
      have s2:∀wx,(Instr.slice 9 (.string s) (some (.int .i64 (k:Int))) (some (.int .i64 ((k:Int)+((seqN s.data.toList k:Nat):Int)))) none).run Tryz.prog wx=.ok (.string ⟨(subT s.data.toList k (seqN s.data.toList k)).toArray⟩) wx:=fun wx=>by
       have:=run_sub s k (k+seqN s.data.toList k) (by omega) hSO wx
       rw [show k+seqN s.data.toList k - k=seqN s.data.toList k by omega] at this
       simpa using this
      obtain ⟨X,hX⟩:∃X:ByteArray,⟨(s.data.toList.drop k).toArray⟩=X:=⟨_,rfl⟩
      rw [hX] at s1 CDS
      obtain ⟨S,hS⟩:∃S,seqN s.data.toList k=S:=⟨_,rfl⟩
      rw [hS] at HSZ hSO CDS s2 HSL
      obtain ⟨Y,hY⟩:∃Y,subT s.data.toList k S=Y:=⟨_,rfl⟩
      rw [hY] at HSZ s2 HSL
      have hYl:=HSL.out
      have CWY:Hid (∀w',Bd w' B B acc->B<=w'.heap.size->Calls Tryz.prog 60 #[.pointer (some ⟨B,0,none⟩),.string ⟨Y.toArray⟩] w' fun e w''=>(∃k:Int,e=.returned (.tuple #[.int .i64 k,.nilIface]))/\Bd w'' B B (acc++Y)/\Below B w' w''):=fun w' h1 h2=>tWriteS_any B B acc Y w' h1 (by omega) (by omega) h2
      obtain ⟨Z,hZ⟩:∃Z:ByteArray,⟨Y.toArray⟩=Z:=⟨_,rfl⟩
      rw [hZ] at CWY s2
      clear hX hS hY hZ
      go_wp2_with (first | (go_at_call 78;refine (CB1.out _).mono ?_;rintro e w' ⟨rfl,rfl⟩))
      obtain ⟨d0,d1,-,-⟩:=HR5.out.cells
      have CD1:=CDS.out w'.drew (gb_drew HG5.out 1)
      have CD2:Hid (Calls Tryz.prog 119 #[.string X] w'.drew fun e w''=>∃(ri:Int) (n:Nat),e=.returned (.tuple #[.int .i32 ri,.int .i64 (n:Nat)])/\(S=0->ri=65533/\n=1)/\(0 < S->n=S/\(ri=65533->¬ n=1))/\w'.drew.grownBy w'' none):=CD1
      clear CD1
      go_region_held3 (fun u=>u.cell? ⟨R,0,none⟩=some (.string s)/\u.cell? ⟨R,1,none⟩=some (.int .i64 (k:Int))) ((first | exact ⟨World.grownBy.cell (by assumption) (And.left (by assumption)) (by simp),World.grownBy.cell (by assumption) (And.right (by assumption)) (by simp)⟩ | go_keep)) (first | (go_at_call 119;refine CD2.out.mono ?_;rintro e w6 ⟨ri,n,rfl,t1,t2,hg6⟩))
      have hg66:w'.grownBy w6 none:=gb_trans (show w'.grownBy w'.drew none from ⟨rfl,rfl,rfl,Nat.le_refl _,fun _ _ _=>rfl⟩) hg6
      have HR6:Hid (Rd w6 R s k T):=HR5.out.grow hg66
      have HG6:Hid (w.grownBy w6 (some R)):=gb_more HG5.out hg66
      have HB6:Hid (Bd w6 B B acc):=HB5.out.grow (R:=R) (gb_more (gb_refl w' (some R)) hg66) HRB.out
      by_cases hS0:S=0
      ·obtain ⟨rfl,rfl⟩:=t1 hS0
       have HGG:Hid (G=.error (2,k)):=by
        have:=HSZ.out
        rw [if_pos hS0] at this
        exact this.symm
       clear t1 t2 hg6 hg66 hS0
       go_wp2_with (first | (go_at_call 79;refine (CH.out k _ HG6.out HR6.out).mono ?_;rintro e w7 ⟨⟨v,rfl,hv⟩,hg7⟩))
       refine bodyPost_ret (results_tmp2 (t:=2) (u:=3) rfl _ _ _) rfl ?_
       rw [HGG.out]
       exact ⟨fun t j hh=>(by cases hh),fun c p hh=>(by cases hh;exact ⟨v,rfl,hv,_,HR6.out.grow hg7⟩),gb_more HG6.out hg7⟩
      ·obtain ⟨hnS,hne⟩:=t2 (by omega)
       subst hnS
       have HGG:Hid (str s.data.toList f (k+n) (acc++Y)=G):=by
        have:=HSZ.out
        rw [if_neg hS0] at this
        exact this
       have hcase:((ri == 65533)=true/\((n:Int) == 1)=false)\/(ri == 65533)=false:=by
        by_cases hr:ri=65533
        ·refine Or.inl ⟨by simp [hr],?_⟩
         have:=hne hr
         rw [beq_eq_false_iff_ne]
         omega
        ·exact Or.inr (by simp [hr])
       have CWS:Hid (Calls Tryz.prog 60 #[.pointer (some ⟨B,0,none⟩),.string Z] w6.drew fun e w''=>(∃k:Int,e=.returned (.tuple #[.int .i64 k,.nilIface]))/\Hid (Rd w'' R s k T/\w.grownBy w'' (some R)/\Bd w'' B B (acc++Y))/\(w''.cell? ⟨R,0,none⟩=some (.string s)/\w''.cell? ⟨R,1,none⟩=some (.int .i64 (k:Int)))):=by
        refine (CWY.out w6.drew (HB6.out.grow (R:=R) (show w6.grownBy w6.drew (some R) from ⟨rfl,rfl,rfl,Nat.le_refl _,fun _ _ _=>rfl⟩) HRB.out) (HBW.out w6.drew (gb_drew HG6.out 1))).mono ?_
        rintro e w'' ⟨h1,h2,h3⟩
        have hr:Rd w'' R s k T:=Rd.bel (w:=w6.drew) HR6.out HRB.out h3
        exact ⟨h1,⟨hr,HGB.out _ _ (gb_drew HG6.out 1) h3,h2⟩,hr.cells.1,hr.cells.2.1⟩
       obtain ⟨d0,d1,-,-⟩:=HR6.out.cells
       have hn0:0 < n:=by omega
       clear t1 t2 hg6 hg66 hS0 hne
       have hwr:IntKind.i64.wrap ((k:Int)+(n:Int))=(k:Int)+(n:Int):=by
        simp [IntKind.wrap,IntKind.bits,IntKind.signed]
        omega
       rcases hcase with ⟨hq1,hq2⟩ | hq1
       all_goals (
        go_wp2
        go_region_held3 (fun u=>u.cell? ⟨R,0,none⟩=some (.string s)/\u.cell? ⟨R,1,none⟩=some (.int .i64 (k:Int))) ((first | assumption | go_keep)) (first | (go_at_call 60;refine CWS.out.mono ?_;rintro e w7 ⟨⟨kk,rfl⟩,hall,hcl⟩))
        have HR7:Hid (Rd w7 R s k T):=hall.out.1
        have HG7:Hid (w.grownBy w7 (some R)):=hall.out.2.1
        have HB7:Hid (Bd w7 B B (acc++Y)):=hall.out.2.2
        obtain ⟨-,e1,-,ef⟩:=HR7.out.cells
        have ef1:=ef 1
        have HR8:Hid (Rd (w7.setCell ⟨R,1,none⟩ (.int .i64 ((k:Int)+(n:Int)))) R s (k+n) T):=by
         have:=HR7.out.set (k+n)
         rw [Int.natCast_add] at this
         exact this
        have HG8:Hid (w.grownBy (w7.setCell ⟨R,1,none⟩ (.int .i64 ((k:Int)+(n:Int)))) (some R)):=gb_set HG7.out 1 _
        have HB8:Hid (Bd (w7.setCell ⟨R,1,none⟩ (.int .i64 ((k:Int)+(n:Int)))) B B (acc++Y)):=HB7.out.grow (R:=R) (gb_set (gb_refl w7 (some R)) 1 _) HRB.out
        clear hall hcl ef
        go_wp2
        clear hwr
        refine ⟨⟨k+n,f,acc++Y,HR8.out,hSO,by omega,HGG.out,by rw [List.length_append];omega,HB8.out,HG8.out⟩,?_⟩
        rw [HME.out,HR8.out.cells.2.1]
        show s.size - ((k+n:Nat):Int).toNat < s.size - k
        rw [Int.toNat_natCast]
        omega)
end Go.Proofs.YtbgnflcebafjjaaGreatDoor
