import Derived.Test.YtbgnflcebafjjaaGreatDoorP01
import Derived.Test.YtbgnflcebafjjaaGreatDoorP02
import Derived.Maps.OwnOps
import Derived.Maps.Views
import Derived.DeepKeys4
import Derived.Deep.AppendLies
import Derived.Test.YtbgnflcebafjjaaGreatDoorP03
namespace Go.Proofs.YtbgnflcebafjjaaGreatDoor
open Go.RowKit Go.Maps Go.WideMaps
set_option linter.unusedVariables false
theorem spotLaid:laidOutB Tryz.prog=true:=by kernel_rfl
theorem spotRow:(167:TypeId) < Tryz.prog.types.size:=of_decide_eq_true (by kernel_rfl)
theorem spotLaw:KeyLaw Tryz.prog 167:=deep_law_laid spotLaid (m:=2) (by omega) spotRow (by kernel_rfl) (by rw [Tryz.underlying167])
theorem spotKeyed:Keyed Tryz.prog 167:=Keyed.of_law spotLaw
def holdL:List Value->Option (DataW Unit × List MemPlace)
 | [.int q n,.bool b]=>some (.agg [.lit (.int q n),.lit (.bool b)],[])
 | _=>none
def holdR (v:Value):Option (DataW Unit × List MemPlace) :=
 match v with
 | .agg cs=>holdL cs.toList
 | _=>none
theorem holdR_mk (q:IntKind) (n:Int) (b:Bool):holdR (.agg #[.int q n,.bool b])=some (.agg [.lit (.int q n),.lit (.bool b)],[]):=rfl
theorem holdL_inv {l:List Value} {q:IntKind} {n:Int} {b:Bool} {ps:List MemPlace} (h:holdL l=some (.agg [.lit (.int q n),.lit (.bool b)],ps)):l=[.int q n,.bool b]:=by
 unfold holdL at h
 split at h
 ·injection h with h
  injection h with h _
  injection h with h
  injection h with h1 h2
  injection h2 with h2 _
  injection h1 with h1
  injection h2 with h2
  injection h1 with h3 h4
  injection h2 with h5
  rw [h3,h4,h5]
 ·cases h
theorem holdR_inv {v:Value} {q:IntKind} {n:Int} {b:Bool} {ps:List MemPlace} (h:holdR v=some (.agg [.lit (.int q n),.lit (.bool b)],ps)):v=.agg #[.int q n,.bool b]:=by
 unfold holdR at h
 split at h
 ·rename_i cs
  have:=holdL_inv h
  congr 1
  exact Array.ext' this
 ·cases h
def keyV (t:Nat) (k:List UInt8):Value:=.agg #[.int .i64 (t:Nat),.string ⟨k.toArray⟩]
noncomputable def keyL (t:Nat) (k:List UInt8):Lit:=(keyOf Tryz.prog 167 (keyV t k)).getD (.bool false)
theorem keyL_some (t:Nat) (k:List UInt8) (ht:t < 4611686018427387904) (hk:k.length<=1048576):∃l,keyOf Tryz.prog 167 (keyV t k)=some l:=by
 have h1:Tryz.prog.keyType 167=true:=by kernel_rfl
 have h2:∀a b:Value,(Value.agg #[a,b]).formed Tryz.prog 167=true:=fun a b=>by
  have hc:Tryz.prog.cellsOf 167=2:=by kernel_rfl
  simp [Value.formed,Tryz.underlying167,hc]
 obtain ⟨m,hm⟩:∃m,Tryz.prog.types.size=m+1:=⟨Tryz.prog.types.size - 1,by have h0:0 < Tryz.prog.types.size:=Nat.lt_of_le_of_lt (Nat.zero_le _) spotRow;omega⟩
 have hc:Tryz.prog.cellsOf 167=2:=by kernel_rfl
 have hci:Tryz.prog.cellsOf 3=1:=by kernel_rfl
 have hcs:Tryz.prog.cellsOf 9=1:=by kernel_rfl
 have hw:(Lit.int .i64 (t:Nat)).wf=true:=by
  have h1:IntKind.i64.min=-9223372036854775808:=by decide
  have h2:IntKind.i64.max=9223372036854775807:=by decide
  simp only [Lit.wf,h1,h2]
  simp
  omega
 have hz:(⟨k.toArray⟩:ByteArray).size<=maxLen:=by
  show k.toArray.size<=_
  unfold maxLen
  simp
  omega
 unfold keyOf keyV
 simp only [Tryz.underlying167,h1,h2,Bool.and_self,if_true,hm]
 have e1:Tryz.prog.keyLits (m+1) 3 [.int .i64 (t:Nat)]=some [.int .i64 (t:Nat)]:=by
  simp [Program.keyLits,Tryz.underlying3,hw]
 have e2:Tryz.prog.keyLits (m+1) 9 [.string ⟨k.toArray⟩]=some [.string k]:=by
  simp [Program.keyLits,Tryz.underlying9,hz]
 refine ⟨.string (keyBytes ([.int .i64 (t:Nat)]++[.string k])),?_⟩
 unfold Program.keyLits
 simp [Tryz.underlying167,hc,hci,hcs,e1,e2,Value.cells]
theorem keyL_ok (t:Nat) (k:List UInt8) (ht:t < 4611686018427387904) (hk:k.length<=1048576):keyOf Tryz.prog 167 (keyV t k)=some (keyL t k):=by
 obtain ⟨l,hl⟩:=keyL_some t k ht hk
 unfold keyL
 rw [hl];rfl
theorem keyL_inj {t t':Nat} {k k':List UInt8} (ht:t < 4611686018427387904) (hk:k.length<=1048576) (ht':t' < 4611686018427387904) (hk':k'.length<=1048576) (h:keyL t k=keyL t' k'):t=t'/\k=k':=by
 have h1:=keyL_ok t k ht hk
 have h2:=keyL_ok t' k' ht' hk'
 rw [<-h] at h2
 have h3:=spotKeyed.inj h1 h2
 unfold keyV at h3
 injection h3 with h3
 have h4:=congrArg Array.toList h3
 simp only [List.cons.injEq,Value.int.injEq,Value.string.injEq,true_and,and_true] at h4
 obtain ⟨h5,h6⟩:=h4
 refine ⟨Int.ofNat_inj.1 h5,?_⟩
 have h7:=congrArg (fun b:ByteArray=>b.data.toList) h6
 simpa using h7
def HM (w:World) (M n:Nat) (f:Nat->List UInt8->Option (Nat × Bool)):Prop:=∃D:DataW Unit,w.ownsMap Tryz.prog 167 holdR M n D/\IsMap D/\∀t k,t < 4611686018427387904->k.length<=1048576->∀zd,D.atKey (keyL t k) zd=match f t k with | some v=>.agg [.lit (.int .i64 (v.1:Nat)),.lit (.bool v.2)] | none=>zd
theorem HM.mono {w:World} {M n n':Nat} {f:Nat->List UInt8->Option (Nat × Bool)} (h:HM w M n f) (hn:n<=n'):HM w M n' f:=by
 obtain ⟨D,h1,h2,h3⟩:=h
 exact ⟨D,h1.mono hn,h2,h3⟩
theorem HM.block {w w':World} {M n:Nat} {f:Nat->List UInt8->Option (Nat × Bool)} (h:HM w M n f) (hb:w'.heap[M]?=w.heap[M]?):HM w' M n f:=by
 obtain ⟨D,⟨es,c,h1,h1'⟩,h2,h3⟩:=h
 exact ⟨D,⟨es,c,hb.trans h1,h1'⟩,h2,h3⟩
theorem HM.map {w:World} {M n:Nat} {f:Nat->List UInt8->Option (Nat × Bool)} (h:HM w M n f):∃es c,w.heap[M]?=some (.map es c):=by
 obtain ⟨D,⟨es,c,h1,h1'⟩,h2,h3⟩:=h
 exact ⟨es,c,h1⟩
theorem HM.made (w:World):HM (w.alloc (.map #[] 0)) w.heap.size 0 (fun _ _=>none):=⟨.map [],World.ownsMap_made w _ _ _,isMap_empty,fun _ _ _ _ _=>rfl⟩
theorem hold_zero (w:World):(zeroValue 164).run Tryz.prog w=.ok (.agg #[.int .i64 0,.bool false]) w:=by kernel_rfl
theorem HM.look {w:World} {M n:Nat} {f:Nat->List UInt8->Option (Nat × Bool)} (h:HM w M n f) (t:Nat) (k:List UInt8) (ht:t < 4611686018427387904) (hk:k.length<=1048576) :
  (Instr.lookup 62 (.map (some M)) (keyV t k) true).run Tryz.prog w=.ok (match f t k with | some v=>.tuple #[.agg #[.int .i64 (v.1:Nat),.bool v.2],.bool true] | none=>.tuple #[.agg #[.int .i64 0,.bool false],.bool false]) w:=by
 obtain ⟨D,⟨es,c,h1,F,hs,rfl⟩,h2,h3⟩:=h
 have h4:=h3 t k ht hk
 rcases Maps.fit_look true spotKeyed Tryz.underlying62 (hold_zero w) h1 F (keyL_ok t k ht hk) with ⟨hrun,-,hat⟩ | ⟨e0,y,-,-,hrun,hRv,hat,-⟩
 ·rw [hrun]
  cases hf:f t k with
  | none=>rfl
  | some v =>
   exfalso
   have:=h4 .nil
   rw [hf,hat .nil] at this
   cases this
 ·rw [hrun]
  cases hf:f t k with
  | none =>
   exfalso
   have a1:=h4 .nil
   have a2:=h4 (.map [])
   rw [hf,hat] at a1 a2
   simp only [] at a1 a2
   rw [a1] at a2
   cases a2
  | some v =>
   have a1:=h4 .nil
   rw [hf,hat] at a1
   obtain ⟨y1,y2⟩:=y
   simp only [] at a1
   subst a1
   have:=holdR_inv hRv
   rw [this];rfl
set_option maxRecDepth 100000 in
theorem HM.put {w:World} {M n:Nat} {f:Nat->List UInt8->Option (Nat × Bool)} (h:HM w M n f) (t:Nat) (k:List UInt8) (ht:t < 4611686018427387904) (hk:k.length<=1048576) (hn:n < 1099511627776) (q:Nat) (b:Bool) :
  ∃w',(Instr.mapUpdate 62 (.map (some M)) (keyV t k) (.agg #[.int .i64 (q:Nat),.bool b])).run Tryz.prog w=.ok () w'/\HM w' M (n+1) (putF f t k (q,b))/\w.grownBy w' (some M):=by
 obtain ⟨D,h1,h2,h3⟩:=h
 obtain ⟨w',hr,ho,hg⟩:=h1.update spotKeyed Tryz.underlying62 (by unfold maxLen;omega) (keyL_ok t k ht hk) (holdR_mk .i64 (q:Nat) b)
 refine ⟨w',hr,⟨_,ho,h2.put _ _,fun t' k' ht' hk' zd=>?_⟩,hg⟩
 unfold putF
 by_cases he:t'=t/\k'=k
 ·rw [if_pos he]
  obtain ⟨rfl,rfl⟩:=he
  have hk1:=keyL_ok t' k' ht hk
  have hk2:=Keyed.key spotKeyed hk1
  generalize keyL t' k'=kl at hk2
  rw [atKey_put_same h2 hk2]
 ·rw [if_neg he,atKey_put_other (fun e=>he (keyL_inj ht' hk' ht hk e))]
  exact h3 t' k' ht' hk' zd
end Go.Proofs.YtbgnflcebafjjaaGreatDoor
namespace Go.Proofs.YtbgnflcebafjjaaGreatDoor
open Go.RowKit Go.Joins
set_option linter.unusedVariables false
theorem four_ok (l:List UInt8):∀k i n m j,i<=l.length->four l k i n=.ok (m,j)->j=i+k/\j<=l.length/\m < (n+1) * 16 ^ k:=by
 intro k
 induction k with
 | zero =>
  intro i n m j hi h
  cases h
  exact ⟨rfl,hi,by simp⟩
 | succ k ih =>
  intro i n m j hi h
  rw [four_step] at h
  split at h
  ·cases h
  ·rename_i hx
   have hlt:i < l.length:=by
    apply Classical.byContradiction
    intro hn
    rw [nx_end l i (by omega),hexV_end] at hx
    omega
   obtain ⟨h1,h2,h3⟩:=ih (i+1) _ m j hlt h
   have hb:=hexV_bound (nx l i)
   refine ⟨by omega,h2,Nat.lt_of_lt_of_le h3 ?_⟩
   rw [Nat.pow_succ,Nat.mul_comm (16 ^ k) 16,<-Nat.mul_assoc]
   exact Nat.mul_le_mul_right _ (by omega)
theorem escC_small (x:Int) (n:Nat) (h:escC x=some n):n < 128/\0<=x:=by
 unfold escC at h
 repeat' split at h
 all_goals first | (cases h;omega) | (cases h)
theorem escN_ok (l:List UInt8) (i n j:Nat) (hi:i < l.length) (h:escN l i=.ok (n,j)):n < 65536/\sur n=false/\i+2<=j/\j<=l.length:=by
 unfold escN at h
 split at h
 ·rename_i hx
  have hlt:i+1 < l.length:=nx_lt (by rw [hx];decide)
  unfold numB at h
  cases hf:four l 4 (i+2) 0 with
  | error e=>rw [hf] at h;cases h
  | ok q =>
   obtain ⟨m,k⟩:=q
   rw [hf] at h
   have h2:(if sur m=true then Except.error (2,i) else Except.ok (m,k):Rs (Nat × Nat))=.ok (n,j):=h
   split at h2
   ·cases h2
   ·rename_i hs
    cases h2
    obtain ⟨h3,h4,h5⟩:=four_ok l 4 (i+2) 0 n j (by omega) hf
    refine ⟨by simpa using h5,by simpa using hs,by omega,h4⟩
 ·cases hc:escC (nx l (i+1)) with
  | none=>rw [hc] at h;cases h
  | some m =>
   rw [hc] at h
   cases h
   obtain ⟨h1,h2⟩:=escC_small _ _ hc
   have:=nx_lt h2
   refine ⟨by omega,decide_eq_false (by omega),by omega,by omega⟩
theorem wrt_len (n:Nat):(wrt n).length<=3:=by
 unfold wrt
 repeat' split
 all_goals simp
theorem seqN_ok (l:List UInt8) (i:Nat) (hi:i<=l.length):i+seqN l i<=l.length:=by
 have key:∀k lo hi',0<=lo->goesB l (i+k) lo hi'=true->i+k < l.length:=fun k lo hi' h0 h=>by
  have:=of_decide_eq_true h
  exact nx_lt (by omega)
 have hlo:0<=(if nx l i=224 then (160:Int) else if nx l i=240 then 144 else 128):=by
  repeat' split
  all_goals omega
 unfold seqN
 simp only []
 generalize (if nx l i=224 then (160:Int) else if nx l i=240 then 144 else 128)=lo at hlo ⊢
 generalize (if nx l i=237 then (159:Int) else if nx l i=244 then 143 else 191)=hi'
 split
 ·omega
 ·rename_i h0
  have hlt:i < l.length:=nx_lt (by omega)
  split
  ·omega
  split
  ·omega
  split
  ·omega
  ·rename_i h1
   have a1:=key 1 lo hi' hlo (by simpa using h1)
   split
   ·omega
   split
   ·omega
   ·rename_i h2
    have a2:=key 2 128 191 (by omega) (by simpa using h2)
    split
    ·omega
    split
    ·omega
    ·rename_i h3
     have a3:=key 3 128 191 (by omega) (by simpa using h3)
     omega
theorem str_step (l:List UInt8) (f i:Nat) (acc:List UInt8):str l (f+1) i acc =
  if nx l i=34 then .ok (acc,i+1)
  else if nx l i=92 then (match esc l i with | .error e=>.error e | .ok (b,j)=>str l f j (acc++b))
  else if nx l i=-1\/isBr (nx l i)=true then .error (2,i)
  else if seqN l i=0 then .error (2,i)
  else str l f (i+seqN l i) (acc++subT l i (seqN l i)):=rfl
theorem gb_bel {w w1 w2:World} {r:Option Nat} {B:Nat} (h:w.grownBy w1 r) (hB:w.heap.size<=B) (hb:Below B w1 w2):w.grownBy w2 r :=
 ⟨hb.os.trans h.os,hb.tape.trans h.tape,hb.output.trans h.output,Nat.le_trans h.size hb.size,fun k hk hn=>(hb.block k (by omega)).trans (h.block k hk hn)⟩
theorem Rd.bel {w w':World} {R:Nat} {s:ByteArray} {i T B:Nat} (h:Rd w R s i T) (hR:R < B) (hb:Below B w w'):Rd w' R s i T:=(hb.block R hR).trans h
theorem Rd.lt {w:World} {R:Nat} {s:ByteArray} {i T:Nat} (h:Rd w R s i T):R < w.heap.size:=(Array.getElem?_eq_some_iff.1 h).1
theorem tabs_grow {w w':World} {R g3 g4:Nat} (h:Lib.Utf8Tabs g3 g4 w) (h3:¬ R=g3) (h4:¬ R=g4) (hg:w.grownBy w' (some R)):Lib.Utf8Tabs g3 g4 w' :=
 ⟨fun c hc=>hg.cell (h.1 c hc) (by simp;exact fun e=>h3 e.symm),fun i hi=>⟨hg.cell (h.2 i hi).1 (by simp;exact fun e=>h4 e.symm),hg.cell (h.2 i hi).2 (by simp;exact fun e=>h4 e.symm)⟩⟩
end Go.Proofs.YtbgnflcebafjjaaGreatDoor
namespace Go.Proofs.YtbgnflcebafjjaaGreatDoor
open Go.RowKit Go.Maps Go.WideMaps Go.Joins
set_option linter.unusedVariables false
theorem own_block {w w':World} {B:Nat} {e:TypeId} {s:Nat} {v:Value} {n:Nat} {xs:List Value} (h:w.ownsRow B e s v n xs) (hb:∀g cur,v.ownBlock=some g->w.heap[g]?=some (.cells cur e (0,0))->w'.heap[g]?=w.heap[g]?):w'.ownsRow B e s v n xs:=by
 refine ⟨h.1,?_⟩
 rcases h.2 with h1 | ⟨g,cap,cur,rfl,h2,h3,h4⟩
 ·exact Or.inl h1
 ·exact Or.inr ⟨g,cap,cur,rfl,h2,(hb g cur rfl h3).trans h3,h4⟩
theorem own_typ {w:World} {B:Nat} {e:TypeId} {s:Nat} {v:Value} {n:Nat} {xs:List Value} (h:w.ownsRow B e s v n xs) {g:Nat} (hg:v.ownBlock=some g):B<=g/\∃cur,w.heap[g]?=some (.cells cur e (0,0)):=by
 rcases h.2 with ⟨rfl,_⟩ | ⟨g',cap,cur,rfl,h2,h3,h4⟩
 ·cases hg
 ·cases hg
  exact ⟨h2,cur,h3⟩
theorem ne_typ {w:World} {a b:Nat} {c1 c2:Array Value} {t1 t2:TypeId} {f1 f2:Nat × Nat} (h1:w.heap[a]?=some (.cells c1 t1 f1)) (h2:w.heap[b]?=some (.cells c2 t2 f2)) (h:¬ t1=t2):¬ a=b:=fun e=>by
 subst e
 rw [h1] at h2
 injection h2 with h2
 injection h2 with _ e2 _
 exact h e2
theorem ne_map {w:World} {a b:Nat} {c1:Array Value} {t1:TypeId} {f1:Nat × Nat} {es:Array MapEntry} {c:Nat} (h1:w.heap[a]?=some (.cells c1 t1 f1)) (h2:w.heap[b]?=some (.map es c)):¬ a=b:=fun e=>by
 subst e
 rw [h1] at h2
 cases h2
theorem blk_lt {w:World} {b:Nat} {o:Obj} (h:w.heap[b]?=some o):b < w.heap.size:=(Array.getElem?_eq_some_iff.1 h).1
structure TrD (w:World) (B T:Nat) (ns:List Tn) (now N c M:Nat) (xs:List Value) (ks:Nat->Value) (n:Nat) (f:Nat->List UInt8->Option (Nat × Bool)):Prop where
 blk:w.heap[T]?=some (.cells #[.slice (some ⟨N,0,none⟩) ns.length c,.map (some M),.int .i64 (now:Nat)] 64 (0,0))
 bT:B<=T
 row:w.ownsRow B 33 6 (.slice (some ⟨N,0,none⟩) ns.length c) ns.length xs
 cel:∀i (hi:i < ns.length),xs[i * 6]?=some (.int .i64 ns[i].kd)/\xs[i * 6+1]?=some (.string ⟨ns[i].ky.toArray⟩)/\xs[i * 6+2]?=some (.string ⟨ns[i].tx.toArray⟩)/\xs[i * 6+3]?=some (.int .i64 ns[i].nu)/\xs[i * 6+4]?=some (ks i)/\xs[i * 6+5]?=some (.int .i64 (ns[i].pl:Nat))
 kid:∀i (hi:i < ns.length),w.ownsRow B 3 1 (ks i) ns[i].ks.length (ns[i].ks.map fun q=>.int .i64 (q:Nat))
 apart:∀i j g,i < ns.length->j < ns.length->(ks i).ownBlock=some g->(ks j).ownBlock=some g->i=j
 map:HM w M n f
 bM:B<=M
section
variable {w w':World} {B T:Nat} {ns:List Tn} {now N c M:Nat} {xs:List Value} {ks:Nat->Value} {n:Nat} {f:Nat->List UInt8->Option (Nat × Bool)}
theorem TrD.rowT (h:TrD w B T ns now N c M xs ks n f):∃cur,w.heap[N]?=some (.cells cur 33 (0,0)):=(own_typ h.row rfl).2
theorem TrD.cells (h:TrD w B T ns now N c M xs ks n f):w.cell? ⟨T,0,none⟩=some (.slice (some ⟨N,0,none⟩) ns.length c)/\w.cell? ⟨T,1,none⟩=some (.map (some M))/\w.cell? ⟨T,2,none⟩=some (.int .i64 (now:Nat))/\∀k,w.frozen? ⟨T,k,none⟩=false :=
 ⟨by rw [Lib.cell_of_heap h.blk];rfl,by rw [Lib.cell_of_heap h.blk];rfl,by rw [Lib.cell_of_heap h.blk];rfl,fun k=>Lib.frozen_of_heap h.blk k⟩
theorem zero_off (g k:Nat):(⟨g,0,none⟩:Addr).add k=⟨g,k,none⟩:=by
 unfold Addr.add
 split
 ·rename_i h;rw [h]
 ·simp
theorem TrD.node (h:TrD w B T ns now N c M xs ks n f) (i:Nat) (hi:i < ns.length):w.cell? ⟨N,i * 6,none⟩=some (.int .i64 ns[i].kd)/\w.cell? ⟨N,i * 6+1,none⟩=some (.string ⟨ns[i].ky.toArray⟩)/\w.cell? ⟨N,i * 6+2,none⟩=some (.string ⟨ns[i].tx.toArray⟩)/\w.cell? ⟨N,i * 6+3,none⟩=some (.int .i64 ns[i].nu)/\w.cell? ⟨N,i * 6+4,none⟩=some (ks i)/\w.cell? ⟨N,i * 6+5,none⟩=some (.int .i64 (ns[i].pl:Nat))/\∀k,w.frozen? ⟨N,k,none⟩=false:=by
 obtain ⟨h0,h1,h2,h3,h4,h5⟩:=h.cel i hi
 have key:∀j u,xs[j]?=some u->w.cell? ⟨N,j,none⟩=some u:=fun j u hu=>by
  have:=h.row.cells (g:=N) rfl j u hu
  rw [zero_off] at this
  exact this
 obtain ⟨cur,hc⟩:=h.rowT
 exact ⟨key _ _ h0,key _ _ h1,key _ _ h2,key _ _ h3,key _ _ h4,key _ _ h5,fun k=>Lib.frozen_of_heap hc k⟩
def Keeps (w w':World):Prop:=(∀(b:Nat) (cs:Array Value) (t:TypeId) (fz:Nat × Nat),w.heap[b]?=some (.cells cs t fz)->(t=64\/t=33\/t=3)->w'.heap[b]?=w.heap[b]?)/\∀(b:Nat) (es:Array MapEntry) (c:Nat),w.heap[b]?=some (.map es c)->w'.heap[b]?=w.heap[b]?
theorem TrD.keeps (h:TrD w B T ns now N c M xs ks n f) (hk:Keeps w w'):TrD w' B T ns now N c M xs ks n f:=by
 refine ⟨(hk.1 _ _ _ _ h.blk (Or.inl rfl)).trans h.blk,h.bT,own_block h.row fun g cur _ hc=>hk.1 _ _ _ _ hc (Or.inr (Or.inl rfl)),h.cel,fun i hi=>own_block (h.kid i hi) fun g cur _ hc=>hk.1 _ _ _ _ hc (Or.inr (Or.inr rfl)),h.apart,?_,h.bM⟩
 obtain ⟨es,cc,hm⟩:=h.map.map
 exact h.map.block (hk.2 _ _ _ hm)
theorem keeps_gb (hg:w.grownBy w' none):Keeps w w':=⟨fun b cs t fz hb _=>hg.block b (blk_lt hb) (by simp),fun b es c hb=>hg.block b (blk_lt hb) (by simp)⟩
theorem keeps_R {R:Nat} {s:ByteArray} {i T':Nat} (h:Rd w R s i T') (hg:w.grownBy w' (some R)):Keeps w w' :=
 ⟨fun b cs t fz hb ht=>hg.block b (blk_lt hb) (by
  simp only [ne_eq,Option.some.injEq]
  refine ne_typ hb h ?_
  rcases ht with rfl | rfl | rfl <;> decide),fun b es c hb=>hg.block b (blk_lt hb) (by
  simp only [ne_eq,Option.some.injEq]
  exact fun e=>ne_map h hb e.symm)⟩
structure Fr (B:Nat) (w w':World):Prop where
 bel:Below B w w'
 oth:∀(b:Nat) (cs:Array Value) (t:TypeId) (fz:Nat × Nat),w.heap[b]?=some (.cells cs t fz)->¬ t=64->¬ t=33->¬ t=3->w'.heap[b]?=w.heap[b]?
theorem Fr.two {w1 w2:World} (h:Fr B w w1) (h':Fr B w1 w2):Fr B w w2 :=
 ⟨h.bel.trans h'.bel,fun b cs t fz hb h1 h2 h3=>by
  have e1:=h.oth b cs t fz hb h1 h2 h3
  exact (h'.oth b cs t fz (e1.trans hb) h1 h2 h3).trans e1⟩
theorem Fr.gb (hg:w.grownBy w' none) (hB:B<=w.heap.size):Fr B w w' :=
 ⟨⟨hg.os,hg.tape,hg.output,hg.size,fun k hk=>hg.block k (by omega) (by simp)⟩,fun b cs t fz hb _ _ _=>hg.block b (blk_lt hb) (by simp)⟩
theorem Fr.row {t:TypeId} {g:Nat} {cur:Array Value} {fz:Nat × Nat} (hg:w.grownBy w' (some g)) (hB:B<=w.heap.size) (hgB:B<=g) (hb:w.heap[g]?=some (.cells cur t fz)) (ht:t=64\/t=33\/t=3):Fr B w w' :=
 ⟨⟨hg.os,hg.tape,hg.output,hg.size,fun k hk=>hg.block k (by omega) (by simp;omega)⟩,fun b cs t' fz' hb' h1 h2 h3=>hg.block b (blk_lt hb') (by
  simp only [ne_eq,Option.some.injEq]
  refine ne_typ hb' hb ?_
  rcases ht with rfl | rfl | rfl
  ·exact h1
  ·exact h2
  ·exact h3)⟩
theorem Fr.mapd {M:Nat} {es:Array MapEntry} {c:Nat} (hg:w.grownBy w' (some M)) (hB:B<=w.heap.size) (hgB:B<=M) (hb:w.heap[M]?=some (.map es c)):Fr B w w' :=
 ⟨⟨hg.os,hg.tape,hg.output,hg.size,fun k hk=>hg.block k (by omega) (by simp;omega)⟩,fun b cs t' fz' hb' h1 h2 h3=>hg.block b (blk_lt hb') (by
  simp only [ne_eq,Option.some.injEq]
  exact ne_map hb' hb)⟩
theorem gb_setc (w:World) (g o:Nat) (v:Value):w.grownBy (w.setCell ⟨g,o,none⟩ v) (some g) :=
 ⟨rfl,rfl,rfl,by simp [World.setCell],fun k hk hn=>heap_setCell_other w _ k v (fun e=>hn (by rw [e]))⟩
theorem TrD.push (h:TrD w B T ns now N c M xs ks n f) {w1:World} {g cap L:Nat} (x:Tn) (hx:x.ks=[]) (hL:ns.length+1=L)
  (ho:w1.ownsRow B 33 6 (.slice (some ⟨g,0,none⟩) L cap) L (xs++[.int .i64 x.kd,.string ⟨x.ky.toArray⟩,.string ⟨x.tx.toArray⟩,.int .i64 x.nu,.slice none 0 0,.int .i64 (x.pl:Nat)])) (hg:w.grownBy w1 (some N)) :
  TrD (w1.setCell ⟨T,0,none⟩ (.slice (some ⟨g,0,none⟩) L cap)) B T (ns++[x]) now g cap M (xs++[.int .i64 x.kd,.string ⟨x.ky.toArray⟩,.string ⟨x.tx.toArray⟩,.int .i64 x.nu,.slice none 0 0,.int .i64 (x.pl:Nat)]) (fun i=>if i=ns.length then .slice none 0 0 else ks i) n f:=by
 obtain ⟨cur,hN⟩:=h.rowT
 have hT1:w1.heap[T]?=w.heap[T]?:=hg.block T (blk_lt h.blk) (by simp only [ne_eq,Option.some.injEq];exact ne_typ h.blk hN (by decide))
 have hb1:=hT1.trans h.blk
 obtain ⟨cg,hcg⟩:=(own_typ ho rfl).2
 have hxl:xs.length=ns.length * 6:=h.row.1
 have hlen:(ns++[x]).length=L:=by simp [hL]
 have hset:=block_setCell (i:=0) hb1 (.slice (some ⟨g,0,none⟩) L cap)
 refine ⟨?_,h.bT,?_,?_,?_,?_,?_,h.bM⟩
 ·rw [hlen];exact hset
 ·rw [hlen]
  exact own_block ho fun g' cur' _ hc=>heap_setCell_other _ _ _ _ (ne_typ hc hb1 (by decide))
 ·intro i hi
  rw [hlen] at hi
  by_cases he:i=ns.length
  ·subst he
   simp only [List.getElem_append_right (Nat.le_refl _),Nat.sub_self,List.getElem_cons_zero]
   rw [<-hxl]
   refine ⟨?_,?_,?_,?_,?_,?_⟩
   ·rw [List.getElem?_append_right (by omega),Nat.sub_self];rfl
   ·rw [List.getElem?_append_right (by omega),show xs.length+1 - xs.length=1 by omega];rfl
   ·rw [List.getElem?_append_right (by omega),show xs.length+2 - xs.length=2 by omega];rfl
   ·rw [List.getElem?_append_right (by omega),show xs.length+3 - xs.length=3 by omega];rfl
   ·rw [List.getElem?_append_right (by omega),show xs.length+4 - xs.length=4 by omega];simp
   ·rw [List.getElem?_append_right (by omega),show xs.length+5 - xs.length=5 by omega];rfl
  ·have hlt:i < ns.length:=by omega
   obtain ⟨h0,h1,h2,h3,h4,h5⟩:=h.cel i hlt
   simp only [List.getElem_append_left hlt,if_neg he]
   refine ⟨?_,?_,?_,?_,?_,?_⟩
   all_goals (rw [List.getElem?_append_left (by omega)];assumption)
 ·intro i hi
  rw [hlen] at hi
  by_cases he:i=ns.length
  ·subst he
   simp only [List.getElem_append_right (Nat.le_refl _),Nat.sub_self,List.getElem_cons_zero,hx,if_true]
   exact ⟨rfl,Or.inl ⟨rfl,rfl⟩⟩
  ·have hlt:i < ns.length:=by omega
   simp only [List.getElem_append_left hlt,if_neg he]
   refine own_block (h.kid i hlt) fun g' cur' _ hc=>?_
   have e1:w1.heap[g']?=w.heap[g']?:=hg.block g' (blk_lt hc) (by simp only [ne_eq,Option.some.injEq];exact ne_typ hc hN (by decide))
   exact (heap_setCell_other _ _ _ _ (ne_typ (e1.trans hc) hb1 (by decide))).trans e1
 ·intro i j g' hi hj h1 h2
  rw [hlen] at hi hj
  by_cases hei:i=ns.length
  ·rw [if_pos hei] at h1;cases h1
  ·by_cases hej:j=ns.length
   ·rw [if_pos hej] at h2;cases h2
   ·rw [if_neg hei] at h1
    rw [if_neg hej] at h2
    exact h.apart i j g' (by omega) (by omega) h1 h2
 ·obtain ⟨es,cc,hm⟩:=h.map.map
  have e1:w1.heap[M]?=w.heap[M]?:=hg.block M (blk_lt hm) (by simp only [ne_eq,Option.some.injEq];exact fun e=>ne_map hN hm e.symm)
  exact h.map.block ((heap_setCell_other _ _ _ _ (fun e=>ne_map hb1 (e1.trans hm) e.symm)).trans e1)
theorem TrD.kidOwn (h:TrD w B T ns now N c M xs ks n f) {i:Nat} (hi:i < ns.length) {g:Nat} (hg:(ks i).ownBlock=some g):∃cur,w.heap[g]?=some (.cells cur 3 (0,0)):=(own_typ (h.kid i hi) hg).2
theorem TrD.kidp (h:TrD w B T ns now N c M xs ks n f) {w1:World} {g cap L:Nat} (p:Nat) (hp:p < ns.length) (q:Nat) (hL:ns[p].ks.length+1=L)
  (ho:w1.ownsRow B 3 1 (.slice (some ⟨g,0,none⟩) L cap) L ((ns[p].ks.map fun q=>.int .i64 (q:Nat))++[.int .i64 (q:Nat)])) (hg:w.grownBy w1 (ks p).ownBlock) (hat:(ks p).ownBlock=some g\/w.heap.size<=g) :
  TrD (w1.setCell ⟨N,p * 6+4,none⟩ (.slice (some ⟨g,0,none⟩) L cap)) B T (ns.set p { ns[p] with ks:=ns[p].ks++[q] }) now N c M (xs.set (p * 6+4) (.slice (some ⟨g,0,none⟩) L cap)) (fun i=>if i=p then .slice (some ⟨g,0,none⟩) L cap else ks i) n f:=by
 obtain ⟨cur,hN⟩:=h.rowT
 have hneP:∀(b:Nat) (cs:Array Value) (t:TypeId) (fz:Nat × Nat),w.heap[b]?=some (.cells cs t fz)->¬ t=3->w1.heap[b]?=w.heap[b]?:=fun b cs t fz hb ht=>hg.block b (blk_lt hb) (fun e=>by
  obtain ⟨cc,hcc⟩:=h.kidOwn hp e.symm
  exact ne_typ hb hcc ht rfl)
 have hN1:=hneP _ _ _ _ hN (by decide)
 have hT1:=hneP _ _ _ _ h.blk (by decide)
 have hxl:xs.length=ns.length * 6:=h.row.1
 have hlen:(ns.set p { ns[p] with ks:=ns[p].ks++[q] }).length=ns.length:=by simp
 obtain ⟨cg,hcg⟩:=(own_typ ho rfl).2
 refine ⟨?_,h.bT,?_,?_,?_,?_,?_,h.bM⟩
 ·rw [hlen]
  exact (heap_setCell_other _ _ _ _ (ne_typ (hT1.trans h.blk) (hN1.trans hN) (by decide))).trans (hT1.trans h.blk)
 ·rw [hlen]
  have r1:w1.ownsRow B 33 6 (.slice (some ⟨N,0,none⟩) ns.length c) ns.length xs:=own_block h.row fun g' cur' hh hc=>hneP _ _ _ _ hc (by decide)
  refine ⟨by rw [List.length_set];exact r1.1,?_⟩
  rcases r1.2 with ⟨e1,_⟩ | ⟨g',cap',cu,e1,hb,hgg,hn,hm,hs,ht⟩
  ·cases e1
  ·cases e1
   refine Or.inr ⟨N,c,cu.setIfInBounds (p * 6+4) _,rfl,hb,block_setCell hgg _,hn,hm,by simpa using hs,?_⟩
   rw [Array.toList_setIfInBounds,List.take_set,ht]
 ·intro i hi
  rw [hlen] at hi
  obtain ⟨h0,h1,h2,h3,h4,h5⟩:=h.cel i hi
  have keep:∀j,j < xs.length->¬ j=p * 6+4->(xs.set (p * 6+4) (.slice (some ⟨g,0,none⟩) L cap))[j]?=xs[j]?:=fun j hj hne=>List.getElem?_set_ne (fun e=>hne e.symm)
  by_cases he:i=p
  ·subst he
   simp only [List.getElem_set_self,if_true]
   refine ⟨(keep _ (by omega) (by omega)).trans h0,(keep _ (by omega) (by omega)).trans h1,(keep _ (by omega) (by omega)).trans h2,(keep _ (by omega) (by omega)).trans h3,List.getElem?_set_self (by omega),(keep _ (by omega) (by omega)).trans h5⟩
  ·have hpi:¬ p=i:=fun e=>he e.symm
   simp only [List.getElem_set_ne hpi,if_neg he]
   refine ⟨(keep _ (by omega) (by omega)).trans h0,(keep _ (by omega) (by omega)).trans h1,(keep _ (by omega) (by omega)).trans h2,(keep _ (by omega) (by omega)).trans h3,(keep _ (by omega) (by omega)).trans h4,(keep _ (by omega) (by omega)).trans h5⟩
 ·intro i hi
  rw [hlen] at hi
  have hs:∀(g':Nat) (cur':Array Value),w1.heap[g']?=some (.cells cur' 3 (0,0))->(w1.setCell ⟨N,p * 6+4,none⟩ (.slice (some ⟨g,0,none⟩) L cap)).heap[g']?=w1.heap[g']?:=fun g' cur' hc=>heap_setCell_other _ _ _ _ (ne_typ hc (hN1.trans hN) (by decide))
  by_cases he:i=p
  ·subst he
   simp only [List.getElem_set_self,if_true]
   rw [List.map_append,List.length_append,List.length_singleton,hL]
   exact own_block ho fun g' cur' _ hc=>hs g' cur' hc
  ·have hpi:¬ p=i:=fun e=>he e.symm
   simp only [List.getElem_set_ne hpi,if_neg he]
   refine own_block (h.kid i hi) fun g' cur' hgo hc=>?_
   have e1:w1.heap[g']?=w.heap[g']?:=hg.block g' (blk_lt hc) (fun e=>he (h.apart i p g' hi hp hgo e.symm))
   exact (hs g' cur' (e1.trans hc)).trans e1
 ·intro i j g' hi hj h1 h2
  rw [hlen] at hi hj
  have fresh:∀k,k < ns.length->¬ k=p->(ks k).ownBlock=some g->False:=fun k hk hne e=>by
   rcases hat with e2 | e2
   ·exact hne (h.apart k p g hk hp e e2)
   ·obtain ⟨cc,hcc⟩:=h.kidOwn hk e
    have:=blk_lt hcc
    omega
  by_cases hei:i=p
  ·by_cases hej:j=p
   ·rw [hei,hej]
   ·rw [if_pos hei] at h1
    rw [if_neg hej] at h2
    cases h1
    exact (fresh j hj hej h2).elim
  ·by_cases hej:j=p
   ·rw [if_pos hej] at h2
    rw [if_neg hei] at h1
    cases h2
    exact (fresh i hi hei h1).elim
   ·rw [if_neg hei] at h1
    rw [if_neg hej] at h2
    exact h.apart i j g' hi hj h1 h2
 ·obtain ⟨es,cc,hm⟩:=h.map.map
  have e1:w1.heap[M]?=w.heap[M]?:=hg.block M (blk_lt hm) (fun e=>by
   obtain ⟨cc,hcc⟩:=h.kidOwn hp e.symm
   exact ne_map hcc hm rfl)
  exact h.map.block ((heap_setCell_other _ _ _ _ (fun e=>ne_map (hN1.trans hN) (e1.trans hm) e.symm)).trans e1)
theorem TrD.mapd (h:TrD w B T ns now N c M xs ks n f) {n':Nat} {f':Nat->List UInt8->Option (Nat × Bool)} (hm:HM w' M n' f') (hg:w.grownBy w' (some M)):TrD w' B T ns now N c M xs ks n' f':=by
 obtain ⟨es,cc,hm0⟩:=h.map.map
 have hb:∀(b:Nat) (cs:Array Value) (t:TypeId) (fz:Nat × Nat),w.heap[b]?=some (.cells cs t fz)->w'.heap[b]?=w.heap[b]?:=fun b cs t fz hb=>hg.block b (blk_lt hb) (by simp only [ne_eq,Option.some.injEq];exact ne_map hb hm0)
 exact ⟨(hb _ _ _ _ h.blk).trans h.blk,h.bT,own_block h.row fun g cur _ hc=>hb _ _ _ _ hc,h.cel,fun i hi=>own_block (h.kid i hi) fun g cur _ hc=>hb _ _ _ _ hc,h.apart,hm,h.bM⟩
theorem TrD.hand (h:TrD w B T ns now N c M xs ks n f) (m:Nat):TrD (w.setCell ⟨T,2,none⟩ (.int .i64 (m:Nat))) B T ns m N c M xs ks n f:=by
 have hb:∀(b:Nat) (cs:Array Value) (t:TypeId) (fz:Nat × Nat),w.heap[b]?=some (.cells cs t fz)->¬ t=64->(w.setCell ⟨T,2,none⟩ (.int .i64 (m:Nat))).heap[b]?=w.heap[b]?:=fun b cs t fz hb ht=>heap_setCell_other _ _ _ _ (ne_typ hb h.blk ht)
 refine ⟨block_setCell (i:=2) h.blk _,h.bT,own_block h.row fun g cur _ hc=>hb _ _ _ _ hc (by decide),h.cel,fun i hi=>own_block (h.kid i hi) fun g cur _ hc=>hb _ _ _ _ hc (by decide),h.apart,?_,h.bM⟩
 obtain ⟨es,cc,hm⟩:=h.map.map
 exact h.map.block (heap_setCell_other _ _ _ _ (fun e=>ne_map h.blk hm e.symm))
theorem TrD.cellSet (h:TrD w B T ns now N c M xs ks n f) (q o:Nat) (v:Value) (x:Tn) (hq:q < ns.length) (ho:o < 6) (h4:¬ o=4) (hk:x.ks=ns[q].ks)
  (hv:∀j u,(if j=o then some v else ([.int .i64 ns[q].kd,.string ⟨ns[q].ky.toArray⟩,.string ⟨ns[q].tx.toArray⟩,.int .i64 ns[q].nu,ks q,.int .i64 (ns[q].pl:Nat)]:List Value)[j]?)=some u->([.int .i64 x.kd,.string ⟨x.ky.toArray⟩,.string ⟨x.tx.toArray⟩,.int .i64 x.nu,ks q,.int .i64 (x.pl:Nat)]:List Value)[j]?=some u) :
  TrD (w.setCell ⟨N,q * 6+o,none⟩ v) B T (ns.set q x) now N c M (xs.set (q * 6+o) v) ks n f:=by
 obtain ⟨cur,hN⟩:=h.rowT
 have hb:∀(b:Nat) (cs:Array Value) (t:TypeId) (fz:Nat × Nat),w.heap[b]?=some (.cells cs t fz)->¬ t=33->(w.setCell ⟨N,q * 6+o,none⟩ v).heap[b]?=w.heap[b]?:=fun b cs t fz hb ht=>heap_setCell_other _ _ _ _ (ne_typ hb hN ht)
 have hxl:xs.length=ns.length * 6:=h.row.1
 have hlen:(ns.set q x).length=ns.length:=by simp
 refine ⟨?_,h.bT,?_,?_,?_,?_,?_,h.bM⟩
 ·rw [hlen];exact (hb _ _ _ _ h.blk (by decide)).trans h.blk
 ·rw [hlen]
  refine ⟨by rw [List.length_set];exact h.row.1,?_⟩
  rcases h.row.2 with ⟨e1,_⟩ | ⟨g',cap',cu,e1,hb,hgg,hn,hm,hs,ht⟩
  ·cases e1
  ·cases e1
   refine Or.inr ⟨N,c,cu.setIfInBounds (q * 6+o) v,rfl,hb,block_setCell hgg _,hn,hm,by simpa using hs,?_⟩
   rw [Array.toList_setIfInBounds,List.take_set,ht]
 ·intro i hi
  rw [hlen] at hi
  obtain ⟨h0,h1,h2,h3,h4',h5⟩:=h.cel i hi
  have keep:∀j,¬ j=q * 6+o->(xs.set (q * 6+o) v)[j]?=xs[j]?:=fun j hne=>List.getElem?_set_ne (fun e=>hne e.symm)
  by_cases he:i=q
  ·subst he
   simp only [List.getElem_set_self]
   have get:∀j u,j < 6->([.int .i64 ns[i].kd,.string ⟨ns[i].ky.toArray⟩,.string ⟨ns[i].tx.toArray⟩,.int .i64 ns[i].nu,ks i,.int .i64 (ns[i].pl:Nat)]:List Value)[j]?=some u->xs[i * 6+j]?=some u:=fun j u hj hu=>by
    match j,hj,hu with
    | 0,_,hu=>cases hu;exact h0
    | 1,_,hu=>cases hu;exact h1
    | 2,_,hu=>cases hu;exact h2
    | 3,_,hu=>cases hu;exact h3
    | 4,_,hu=>cases hu;exact h4'
    | 5,_,hu=>cases hu;exact h5
   have main:∀j (hj:j < 6),∀u,(xs.set (i * 6+o) v)[i * 6+j]?=some u->([.int .i64 x.kd,.string ⟨x.ky.toArray⟩,.string ⟨x.tx.toArray⟩,.int .i64 x.nu,ks i,.int .i64 (x.pl:Nat)]:List Value)[j]?=some u:=fun j hj u hu=>by
    apply hv j u
    by_cases hjo:j=o
    ·subst hjo
     rw [List.getElem?_set_self (by omega)] at hu
     rw [if_pos rfl];exact hu
    ·rw [keep _ (by omega)] at hu
     rw [if_neg hjo]
     have hlt:j < ([.int .i64 ns[i].kd,.string ⟨ns[i].ky.toArray⟩,.string ⟨ns[i].tx.toArray⟩,.int .i64 ns[i].nu,ks i,.int .i64 (ns[i].pl:Nat)]:List Value).length:=hj
     have:=get j _ hj (List.getElem?_eq_getElem hlt)
     rw [this] at hu
     rw [List.getElem?_eq_getElem hlt];exact hu
   have has:∀j,j < 6->∃u,(xs.set (i * 6+o) v)[i * 6+j]?=some u:=fun j hj=>⟨_,List.getElem?_eq_getElem (by rw [List.length_set];omega)⟩
   have fin:∀j (hj:j < 6),(xs.set (i * 6+o) v)[i * 6+j]?=([.int .i64 x.kd,.string ⟨x.ky.toArray⟩,.string ⟨x.tx.toArray⟩,.int .i64 x.nu,ks i,.int .i64 (x.pl:Nat)]:List Value)[j]?:=fun j hj=>by
    obtain ⟨u,hu⟩:=has j hj
    rw [hu,main j hj u hu]
   exact ⟨fin 0 (by omega),fin 1 (by omega),fin 2 (by omega),fin 3 (by omega),fin 4 (by omega),fin 5 (by omega)⟩
  ·have hqi:¬ q=i:=fun e=>he e.symm
   simp only [List.getElem_set_ne hqi]
   exact ⟨(keep _ (by omega)).trans h0,(keep _ (by omega)).trans h1,(keep _ (by omega)).trans h2,(keep _ (by omega)).trans h3,(keep _ (by omega)).trans h4',(keep _ (by omega)).trans h5⟩
 ·intro i hi
  rw [hlen] at hi
  by_cases he:i=q
  ·subst he
   simp only [List.getElem_set_self,hk]
   exact own_block (h.kid i hq) fun g cur _ hc=>hb _ _ _ _ hc (by decide)
  ·have hqi:¬ q=i:=fun e=>he e.symm
   simp only [List.getElem_set_ne hqi]
   exact own_block (h.kid i hi) fun g cur _ hc=>hb _ _ _ _ hc (by decide)
 ·intro i j g' hi hj
  rw [hlen] at hi hj
  exact h.apart i j g' hi hj
 ·obtain ⟨es,cc,hm⟩:=h.map.map
  exact h.map.block (heap_setCell_other _ _ _ _ (fun e=>ne_map hN hm e.symm))
end
def Tr (w:World) (B T:Nat) (ns:List Tn) (own:List Nat) (now:Nat):Prop:=∃N c M xs ks,TrD w B T ns now N c M xs ks (ns.length+own.length) (hold ns own)
end Go.Proofs.YtbgnflcebafjjaaGreatDoor
