import Derived.Test.YtbgnflcebafjjaaGreatDoorP21
import Derived.RangeFuncNested
import Derived.RangeFuncBound
import Derived.RangeFuncCalls
import Derived.RangeFuncLeaves
import Derived.Shelf.Abstract
import Derived.Shelf.RegionOpen
import Derived.OwnWalkIn
import Derived.TacticsInMore
import Derived.LoopNIn
import Derived.LoopIn
namespace Go.Proofs.YtbgnflcebafjjaaGreatDoor
open Go.RowKit Go.Maps Go.WideMaps Go.Joins Go.Shelf
set_option linter.unusedVariables false
attribute [local go_sem] Oper.semAt_some
structure VF (B:Nat) (w w':World):Prop where
 bel:Below B w w'
 oth:∀(b:Nat) (cs:Array Value) (t:TypeId) (fz:Nat × Nat),w.heap[b]?=some (.cells cs t fz)->¬ t=83->¬ t=80->w'.heap[b]?=w.heap[b]?
theorem VF.two {B:Nat} {w w1 w2:World} (h:VF B w w1) (h':VF B w1 w2):VF B w w2 :=
 ⟨h.bel.trans h'.bel,fun b cs t fz hb h1 h2=>by
  have e1:=h.oth b cs t fz hb h1 h2
  exact (h'.oth b cs t fz (e1.trans hb) h1 h2).trans e1⟩
theorem VF.refl (B:Nat) (w:World):VF B w w:=⟨Below.refl B w,fun _ _ _ _ _ _ _=>rfl⟩
theorem VF.gb {B:Nat} {w w':World} (hg:w.grownBy w' none) (hB:B<=w.heap.size):VF B w w' :=
 ⟨⟨hg.os,hg.tape,hg.output,hg.size,fun k hk=>hg.block k (by omega) (by simp)⟩,fun b cs t fz hb _ _=>hg.block b (blk_lt hb) (by simp)⟩
theorem VF.row {B:Nat} {w w':World} {t:TypeId} {g:Nat} {cur:Array Value} {fz:Nat × Nat} (hg:w.grownBy w' (some g)) (hB:B<=w.heap.size) (hgB:B<=g) (hb:w.heap[g]?=some (.cells cur t fz)) (ht:t=83\/t=80):VF B w w' :=
 ⟨⟨hg.os,hg.tape,hg.output,hg.size,fun k hk=>hg.block k (by omega) (by simp;omega)⟩,fun b cs t' fz' hb' h1 h2=>hg.block b (blk_lt hb') (by
  simp only [ne_eq,Option.some.injEq]
  refine ne_typ hb' hb ?_
  rcases ht with rfl | rfl
  ·exact h1
  ·exact h2)⟩
theorem VF.obj {B:Nat} {w w':World} {row:Option Nat} (hg:w.grownBy w' row) (hB:B<=w.heap.size) (hr:∀r,row=some r->B<=r/\∃o:Obj,w.heap[r]?=some o/\o.isCells=false):VF B w w' :=
 ⟨⟨hg.os,hg.tape,hg.output,hg.size,fun k hk=>hg.block k (by omega) (fun e=>by have:=(hr k e.symm).1;omega)⟩,fun b cs t fz hb _ _=>hg.block b (blk_lt hb) (fun e=>by
  obtain ⟨o,ho,hc⟩:=(hr b e.symm).2
  rw [hb] at ho
  cases ho
  cases hc)⟩
theorem vfK_b {B:Nat} {w:World} (hn:B<=w.heap.size) (W:World) (l:Nat) (o o':Obj) (hl:w.heap.size<=l) (h:W.heap[l]?=some o) (ho:o.isCells=false) (_:o.isWalk=false):VF B W (W.putObj l o') :=
 VF.obj (grownBy_putObj' W l o') (by have:=(Array.getElem?_eq_some_iff.1 h).1;omega) (fun r e=>by cases e;exact ⟨by omega,o,h,ho⟩)
theorem vf_own {β:Type} {B B':Nat} {w:World} (hB:B<=w.heap.size) (hB':B<=B'):OwnFrom B' (fun (_:β) W=>VF B w W) :=
 fun _ X Y row hs hg hr=>hs.two (VF.obj hg (Nat.le_trans hB hs.bel.size) (fun r e=>⟨by have:=(hr r e).1;omega,(hr r e).2⟩))
def KI (B:Nat) (w:World) (v:Value) (l:List Nat):Prop:=∃o c,v=.slice o l.length c/\∀i (hi:i < l.length),∃g,o=some ⟨g,0,none⟩/\w.cell? ⟨g,i,none⟩=some (.int .i64 (l[i]:Nat))/\(g < B\/∃cs fz,w.heap[g]?=some (.cells cs 3 fz))
theorem KI.vf {B:Nat} {w w':World} {v:Value} {l:List Nat} (h:KI B w v l) (hv:VF B w w'):KI B w' v l:=by
 obtain ⟨o,c,h1,h2⟩:=h
 refine ⟨o,c,h1,fun i hi=>?_⟩
 obtain ⟨g,h3,h4,h5⟩:=h2 i hi
 have hb:w'.heap[g]?=w.heap[g]?:=by
  rcases h5 with h5 | ⟨cs,fz,h5⟩
  ·exact hv.bel.block g h5
  ·exact hv.oth _ _ _ _ h5 (by decide) (by decide)
 refine ⟨g,h3,(World.cell?_of_block (a:=⟨g,i,none⟩) hb).trans h4,?_⟩
 rw [hb]
 exact h5
theorem KI.nu {w0 w:World} {v:Value} {l:List Nat} (h:NuS w0 v l) (hb:Below w0.heap.size w0 w):KI w0.heap.size w v l:=by
 obtain ⟨o,c,h1,h2⟩:=h
 refine ⟨o,c,h1,fun i hi=>?_⟩
 obtain ⟨g,h3,h4⟩:=h2 i hi
 have hlt:=block_lt_of_cell h4
 exact ⟨g,h3,(World.cell?_of_block (a:=⟨g,i,none⟩) (hb.block g hlt)).trans h4,Or.inl hlt⟩
theorem KI.own {B B':Nat} {w:World} {v:Value} {l:List Nat} (h:w.ownsRow B' 3 1 v l.length (l.map fun q=>.int .i64 (q:Nat))):KI B w v l:=by
 obtain ⟨o,c,h1,h2⟩:=NuS.of h
 refine ⟨o,c,h1,fun i hi=>?_⟩
 obtain ⟨g,h3,h4⟩:=h2 i hi
 refine ⟨g,h3,h4,Or.inr ?_⟩
 subst h1 h3
 obtain ⟨-,cur,hc⟩:=own_typ h (g:=g) rfl
 exact ⟨cur,(0,0),hc⟩
theorem op_in {P:Program} {o:Oper} {a:Act} {w:World} {K:Act->World->Prop} {R:Act->World->Prop} {Q:Exit->Act->World->Prop} {l n:Nat} (hd:∀c,o.op ≠ .defer c) (h:o.wp P a w K (fun e a w=>e=.normal/\R a w)):o.wpIn (Fence.wide.inRound l) n P a w K Q:=by
 unfold Oper.wp at h
 refine ⟨fun _ _=>trivial,?_⟩
 rw [show (Fence.wide.inRound l).round=some l from rfl,Oper.semAt_some l _ _ hd]
 generalize (execOp a.eval o).run P w=r at h
 cases r with
 | ok x w' =>
  cases x with
  | value v=>exact h
  | skip=>exact h
  | defer d=>exact h
  | enter f args =>
   refine ⟨fun hh=>by simp [Fence.wide] at hh,CallsIn.inRound l (callsIn_wide.2 (Calls.mono h ?_))⟩
   intro e w'' he
   cases e with
   | returned v=>exact he
   | panicked c=>exact absurd he.1 (by simp)
   | outgrown=>obtain ⟨_,_,he,_⟩:=he;exact absurd he (by simp)
  | row row args =>
   refine ⟨fun hh=>by simp [Fence.wide] at hh,fun c cs _=>?_⟩
   obtain ⟨v,w'',h1,h2⟩:=h c cs
   exact ⟨v,w'',h1,stepsIn_wide.2 h2⟩
  | _=>exact h.elim
 | halt x w' =>
  cases x with
  | panic v=>exact absurd h.1 (by simp)
  | _=>exact h.elim
theorem any_in {P:Program} {md:Region.Mode} {ops:Array Oper} {R:Act->World->Prop} {Q:Exit->Act->World->Prop} {l n:Nat} (hd:∀(i:Nat) (o:Oper),ops[i]?=some o->∀c,o.op ≠ .defer c) (hQ:∀a w,R a w->Q .normal a w):∀(fuel:Nat) (listed:Array Bool) (a:Act) (w:World),wpAny P md ops (fun e a w=>e=.normal/\R a w) fuel listed a w->wpAnyIn (Fence.wide.inRound l) n P md ops Q fuel listed a w
 | 0,_,_,_,h=>⟨h.1,hQ _ _ h.2.2⟩
 | fuel+1,listed,a,w,h=>by
  refine ⟨fun h0=>hQ _ _ (h.1 h0).2,fun i hi=>?_⟩
  have hop:=h.2 i hi
  unfold wpOp at hop
  unfold wpOpIn
  cases ho:ops[i]? with
  | none =>
   rw [ho] at hop
   exact any_in hd hQ fuel _ _ _ hop
  | some o =>
   rw [ho] at hop
   simp only [] at hop ⊢
   split
   ·rename_i hw
    rw [if_pos hw] at hop
    rcases hop with hop | ⟨-,a',w',he,-⟩
    ·exact op_in (R:=R) (hd i o ho) (Oper.wp_mono (fun a w h=>any_in hd hQ fuel _ a w h) hop)
    ·exact absurd he (by simp)
   ·rename_i hw
    rw [if_neg hw] at hop
    exact ⟨fun _ _=>trivial,any_in hd hQ fuel _ _ _ hop⟩
theorem back_any (o:Option Addr) (n c:Nat) (w:World):Calls Tryz.prog 64 #[.slice o n c] w fun e w'=>e=.returned (.func (.func 95) #[] #[.pointer (some ⟨w.heap.size,0,none⟩)])/\w'=w.alloc (.cells #[.slice o n c] 31):=by
 go_enter Tryz.func64,Tryz.ntmps64
 go_wp2
 go_ret
 exact ⟨rfl,rfl⟩
abbrev Rd2 (L:Nat):=Int × Fin L
def rdV {L:Nat} (x:Rd2 L):Array Value:=#[.int .i64 x.1,.int .i64 (x.2.val:Nat)]
set_option maxRecDepth 100000 in
set_option maxHeartbeats 3200000 in
theorem back1 (n l bm B L:Nat) (hn:1<=n) (v:Value) (ks:List Nat) (hL:ks.length<=1048576) (hks:∀q ∈ ks,q < L) (J Jx:List (Rd2 L)->World->Prop)
  (hY:∀pre x W,J pre W->pre.length < ks.length->YieldAt Fence.wide (n - 1) Tryz.prog l (rdV x) W fun e W'=>(e=.returned (.bool true)/\J (pre++[x]) W'/\VF B W W')\/(e=.returned (.bool false)/\Jx (pre++[x]) W')) (W:World) (hbm:W.heap[bm]?=some (.cells #[v] 31 (0,0))) (hki:KI B W v ks) (h0:J [] W) :
  CallsIn Fence.wide n Tryz.prog 95 #[.func (.yield l) #[] #[],.pointer (some ⟨bm,0,none⟩)] W fun e W'=>(∃v,e=.returned v)/\((∃xs,xs.map (fun x:Rd2 L=>x.2.val)=ks.reverse/\J xs W')\/(∃pre,True/\Jx pre W')):=by
 refine callsIn_of_wp Tryz.func95 rfl trivial ?_ rfl
 simp only [Tryz.ntmps95,List.size_toArray,List.length_cons,List.length_nil,Nat.reduceAdd,Nat.reduceSub,Array.replicate_succ,Array.replicate_zero,List.push_toArray,List.append_toArray,List.nil_append,List.cons_append]
 have HKI:Hid (KI B W v ks):=hki
 obtain ⟨o,c,rfl,-⟩:=hki
 obtain ⟨m,hm⟩:∃m,ks.length=m:=⟨_,rfl⟩
 rw [hm] at HKI hY hL hbm
 have HBM:Hid (W.heap[bm]?=some (.cells #[.slice o m c] 31 (0,0))):=hbm
 have m0:W.cell? ⟨bm,0,none⟩=some (.slice o m c):=by rw [Lib.cell_of_heap hbm];rfl
 have HM:Hid (ks.length=m):=hm
 clear hbm hm
 gi_wp2
 clear m0
 gi_loopw [3] (fun vi wr=>∃(i:Nat) (xs:List (Rd2 L)),vi=.int .i64 ((i:Int) - 1)/\i<=m/\xs.map (fun x:Rd2 L=>x.2.val)=(ks.drop i).reverse/\J xs wr/\VF B W wr) (fun vi _=>(intOf vi+1).toNat)
 case atStart=>exact ⟨m,[],by go_num,Nat.le_refl _,by rw [List.drop_of_length_le (by rw [HM.out];exact Nat.le_refl _)];rfl,h0,VF.refl _ _⟩
 case round =>
  obtain ⟨i,xs,rfl,hi,hxs,hJ,hvf⟩:=hrel
  have hbr:=(hvf.oth _ _ _ _ HBM.out (by decide) (by decide)).trans HBM.out
  have hkr:=HKI.out.vf hvf
  have HVF:Hid (VF B W wr):=hvf
  clear hvf
  by_cases hlt:0 < i
  ·obtain ⟨j,rfl⟩:∃j,i=j+1:=⟨i - 1,by omega⟩
   have hjl:j < ks.length:=by rw [HM.out];omega
   obtain ⟨o',c',hv,hat⟩:=hkr
   injection hv with h1 hm2 h2
   clear hm2
   subst h1 h2
   obtain ⟨g,ho,e0,-⟩:=hat j hjl
   subst ho
   obtain ⟨q,hq⟩:∃q,ks[j]=q:=⟨_,rfl⟩
   have hqL:q < L:=hks q (by rw [<-hq];exact List.getElem_mem hjl)
   have hxl:xs.length < m:=by
    have:=congrArg List.length hxs
    rw [List.length_map,List.length_reverse,List.length_drop,HM.out] at this
    omega
   rw [hq] at e0
   obtain ⟨fn,tmps,assign,body,hy,hR⟩:=hY xs ((j:Int),⟨q,hqL⟩) wr hJ hxl
   have HXS:Hid ((xs++[((j:Int),(⟨q,hqL⟩:Fin L))]).map (fun x:Rd2 L=>x.2.val)=(ks.drop j).reverse):=by
    show _=_
    rw [List.map_append,hxs,List.drop_eq_getElem_cons hjl,List.reverse_cons,hq]
    rfl
   have m1:wr.cell? ⟨bm,0,none⟩=some (.slice (some ⟨g,0,none⟩) m c):=by rw [Lib.cell_of_heap hbr];rfl
   have hsub:((j+1:Nat):Int) - 1=(j:Int):=by omega
   have hj0:(0:Int)<=(j:Int):=by omega
   have hjm:(j:Int) < (m:Int):=by omega
   unfold rdV at hy
   dsimp only at hy
   rw [hsub]
   clear hat hbr hq hxs hJ hxl
   gi_wp2
   refine hR.mono ?_
   rintro e W3 (⟨rfl,hJ3,hk3⟩ | ⟨rfl,hJx3⟩)
   ·have HJ3:Hid (J (xs++[((j:Int),(⟨q,hqL⟩:Fin L))]) W3/\VF B W W3):=⟨hJ3,HVF.out.two hk3⟩
    clear hJ3 hk3
    gi_wp2
    go_roundw
    case rel =>
     exact ⟨j,xs++[((j:Int),(⟨q,hqL⟩:Fin L))],by go_num,by omega,HXS.out,HJ3.out.1,HJ3.out.2⟩
    case measure=>simp [intOf]
   ·have HJ3:Hid (Jx (xs++[((j:Int),(⟨q,hqL⟩:Fin L))]) W3):=hJx3
    clear hJx3
    gi_wp2
    refine bodyPost_ret (results_none rfl _ _ _) rfl ?_
    exact ⟨⟨_,rfl⟩,.inr ⟨_,trivial,HJ3.out⟩⟩
  ·have hi0:i=0:=by omega
   subst hi0
   have HJ3:Hid (∃xs,xs.map (fun x:Rd2 L=>x.2.val)=ks.reverse/\J xs wr):=⟨xs,by rw [hxs,List.drop_zero],hJ⟩
   clear hxs hJ hkr hbr
   gi_wp2
   go_end0
   exact ⟨⟨_,rfl⟩,.inl HJ3.out⟩
theorem back_stops (n bm B L:Nat) (hn:1<=n) (v:Value) (ks:List Nat) (hL:ks.length<=1048576) (hks:∀q ∈ ks,q < L) (w:World) (hbm:w.heap[bm]?=some (.cells #[v] 31 (0,0))) (hki:KI B w v ks) (hB:B<=w.heap.size) :
  SeqStopsK Fence.wide n Tryz.prog 95 #[.pointer (some ⟨bm,0,none⟩)] (fun x:Rd2 L=>rdV x) (VF B) (fun xs=>xs.map (fun x:Rd2 L=>x.2.val)=ks.reverse) (fun _=>True) ks.length w:=fun l J Jx W hW _ _ hY h0=>by
 have hvf:VF B w W:=⟨hW.mono hB,fun b cs t fz hb _ _=>hW.block b (blk_lt hb)⟩
 exact back1 n l bm B L hn v ks hL hks J Jx hY W ((hvf.oth _ _ _ _ hbm (by decide) (by decide)).trans hbm) (hki.vf hvf) h0
end Go.Proofs.YtbgnflcebafjjaaGreatDoor
namespace Go.Proofs.YtbgnflcebafjjaaGreatDoor
open Go.RowKit Go.Maps Go.WideMaps Go.Joins Go.Shelf
set_option linter.unusedVariables false
structure Vt where
 t:Nat
 ky:List UInt8
 dbl:Bool
 ab:Nat
def vC (v:Vt):List Value:=[.int .i64 (v.t:Nat),.string ⟨v.ky.toArray⟩,.bool v.dbl,.int .i64 (v.ab:Nat)]
def vCs (l:List Vt):List Value:=l.flatMap vC
def vs1 (ns:List Tn) (pl q:Nat):List Vt :=
 if kdAt ns q=0 then [⟨q,kyAt ns q,false,pl⟩] else if kdAt ns q=2 then (ksAt ns q).reverse.map fun m=>⟨m,kyAt ns q,true,pl⟩ else []
def belT (ns:List Tn) (t pl:Nat):List Vt:=(srt ns t).reverse.flatMap (vs1 ns pl)
theorem vCs_len (l:List Vt):(vCs l).length=l.length * 4:=by
 induction l with
 | nil=>rfl
 | cons a r ih =>
  unfold vCs at ih ⊢
  rw [List.flatMap_cons,List.length_append,ih,List.length_cons]
  show 4+_=_
  omega
theorem vCs_app (a b:List Vt):vCs (a++b)=vCs a++vCs b:=List.flatMap_append
theorem vs1_len (ns:List Tn) (own:List Nat) (W:WF ns own) (pl q:Nat):(vs1 ns pl q).length<=ns.length+1:=by
 unfold vs1
 split
 ·simp
 ·split
  ·have:=W.len q
   simp
   omega
  ·simp
theorem infoV:(Tryz.prog.info? 83).map (fun i=>(i.zero,i.size,i.bytes))=some (some (.agg #[.int .i64 0,.string ⟨#[]⟩,.bool false,.int .i64 0]),4,40):=by kernel_rfl
theorem v_one (v:Vt):∀u ∈ vC v,u.oneCell'=true:=by
 intro u hu
 simp only [vC,List.mem_cons,List.not_mem_nil,or_false] at hu
 rcases hu with rfl | rfl | rfl | rfl <;> rfl
theorem v_push {W w1:World} {B tb:Nat} {v v':Value} {td:List Vt} {x:Vt} {tmp:Obj} (hv:Boxed W tb 80 v) (hrow:W.ownsRow B 83 4 v td.length (vCs td)) (hn:B<=W.heap.size) (hB:B<=tb)
  (hown:w1.ownsRow B 83 4 v' (td.length+1) (vCs td++vC x)) (hg:(W.alloc tmp).grownBy w1 v.ownBlock) :
  Boxed w1 tb 80 v/\Hid ((∃v',Boxed (w1.setCell ⟨tb,0,none⟩ v') tb 80 v'/\True)/\Boxed (w1.setCell ⟨tb,0,none⟩ v') tb 80 v'/\(w1.setCell ⟨tb,0,none⟩ v').ownsRow B 83 4 v' (td++[x]).length (vCs (td++[x]))/\KeepsOthers W (w1.setCell ⟨tb,0,none⟩ v')/\VF B W (w1.setCell ⟨tb,0,none⟩ v')/\VF B W w1):=by
 obtain ⟨h1,h2,h3,h4,h5⟩:=hv.appended (by decide) hrow hn hB hown hg
 have v1:VF B W (W.alloc tmp):=VF.gb (World.grownBy_alloc _ _ none) hn
 have v2:VF B (W.alloc tmp) w1:=by
  have hn2:B<=(W.alloc tmp).heap.size:=Nat.le_trans hn v1.bel.size
  cases hb:v.ownBlock with
  | none=>rw [hb] at hg;exact VF.gb hg hn2
  | some g =>
   rw [hb] at hg
   obtain ⟨hq,cc,hcc⟩:=own_typ (hrow.alloc tmp) hb
   exact VF.row hg hn2 hq hcc (Or.inl rfl)
 refine ⟨h1,⟨_,h2,trivial⟩,h2,?_,h4,?_,v1.two v2⟩
 ·rw [List.length_append,vCs_app]
  have e:vCs [x]=vC x:=by simp [vCs]
  rw [e]
  exact h3
 ·exact (v1.two v2).two (VF.row (gb_setc w1 tb 0 v') (Nat.le_trans hn (v1.two v2).bel.size) hB h1 (Or.inr rfl))
theorem flat_le {α β:Type} (f:α->List β) (m:Nat) (h:∀x,(f x).length<=m):∀l:List α,(l.flatMap f).length<=l.length * m
 | []=>by simp
 | a :: r=>by
  rw [List.flatMap_cons,List.length_append,List.length_cons,Nat.add_mul,Nat.one_mul]
  have:=flat_le f m h r
  have:=h a
  omega
end Go.Proofs.YtbgnflcebafjjaaGreatDoor
