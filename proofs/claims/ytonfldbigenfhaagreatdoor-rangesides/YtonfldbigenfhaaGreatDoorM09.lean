import Derived.Test.YtonfldbigenfhaaGreatDoorM08
import Derived.Lib.SmallJoins
namespace Go.Proofs.YtonfldbigenfhaaGreatDoor
open Go.RowKit
set_option linter.unusedVariables false
def zeroV0:V:=⟨0,0,0,[]⟩
def spV (x y:V) (o:Bool):Sp:=⟨x.major,x.minor,x.patch,⟨x.pre.toArray⟩,⟨#[]⟩,y.major,y.minor,y.patch,⟨y.pre.toArray⟩,⟨#[]⟩,o⟩
def outs:List V->List Sp
 | []=>[]
 | [x]=>[spV x zeroV0 true]
 | x :: y :: r=>spV x y false :: outs r
theorem outs_even:∀(T:List V) (x:V),T.length % 2=0->outs (T++[x])=outs T++[spV x zeroV0 true]
 | [],x,_=>rfl
 | [a],x,h=>by simp at h
 | a :: b :: r,x,h=>by
  have:=outs_even r x (by simp at h;omega)
  simp only [List.cons_append,outs,this]
theorem outs_odd:∀(T:List V) (x:V),T.length % 2=1->∃A y,outs T=A++[spV y zeroV0 true]/\outs (T++[x])=A++[spV y x false]
 | [],x,h=>by simp at h
 | [a],x,_=>⟨[],a,rfl,rfl⟩
 | a :: b :: r,x,h=>by
  obtain ⟨A,y,h1,h2⟩:=outs_odd r x (by simp at h;omega)
  exact ⟨spV a b false :: A,y,by simp only [outs,h1,List.cons_append],by simp only [List.cons_append,outs,h2]⟩
theorem spC_len (s:Sp):(spC s).length=11:=rfl
theorem flat_len (L:List Sp):(L.flatMap spC).length=L.length * 11:=by
 induction L with
 | nil=>rfl
 | cons s L ih=>rw [List.flatMap_cons,List.length_append,ih,spC_len,List.length_cons];omega
theorem having_upd (n l:Nat) (d:Int) (b:Nat->Int) (hl:l < n):having n (upd b l d)=having n b+(min (b l+d) 1 - min (b l) 1):=by
 unfold having
 induction n with
 | zero=>omega
 | succ n ih =>
  rw [List.range_succ,List.map_append,List.sum_append,List.map_append,List.sum_append]
  simp only [List.map_cons,List.map_nil,List.sum_cons,List.sum_nil]
  by_cases h:l=n
  ·subst h
   have:(List.range l).map (fun j=>min (upd b l d j) 1)=(List.range l).map (fun j=>min (b j) 1):=by
    apply List.map_congr_left
    intro j hj
    have:=List.mem_range.1 hj
    unfold upd
    rw [if_neg (by omega)]
   rw [this]
   unfold upd
   rw [if_pos rfl]
   omega
  ·have h2:=ih (by omega)
   rw [h2]
   unfold upd
   rw [if_neg (fun e=>h e.symm)]
   omega
theorem having_bound (n:Nat) (b:Nat->Int) (i:Nat) (h:∀j,-(i:Int)<=b j/\b j<=i):-(n * i:Int)<=having n b/\having n b<=n:=by
 unfold having
 induction n with
 | zero=>simp
 | succ n ih =>
  rw [List.range_succ,List.map_append,List.sum_append]
  simp only [List.map_cons,List.map_nil,List.sum_cons,List.sum_nil]
  have hn:=h n
  have e:((n+1:Nat):Int) * (i:Int)=(n:Int) * i+i:=by rw [Int.natCast_add,Int.add_mul];simp
  rw [e]
  omega
theorem er_in (Ls:List (List Sp)):∀(k:Nat),∀e ∈ erL k Ls,k<=e.l/\e.l < k+Ls.length/\(e.d=1\/e.d=-1):=by
 induction Ls with
 | nil=>intro k e he;simp [erL] at he
 | cons l Ls ih =>
  intro k e he
  rw [erL] at he
  rcases List.mem_append.1 he with he | he
  ·obtain ⟨s,hs,he⟩:=List.mem_flatMap.1 he
   unfold erS at he
   split at he
   ·simp at he;rw [he];simp [fromEr]
   ·split at he
    ·simp at he
     rcases he with rfl | rfl
     ·simp [fromEr]
     ·simp [toEr]
    ·simp at he
  ·have:=ih (k+1) e he
   simp
   omega
def EdAt (w:World) (p:Addr) (e:Er):Prop:=w.cell? p=some (.int .i64 e.a1)/\w.cell? ⟨p.block,p.off+1,none⟩=some (.int .i64 e.a2)/\w.cell? ⟨p.block,p.off+2,none⟩=some (.int .i64 e.a3)/\w.cell? ⟨p.block,p.off+3,none⟩=some (.string e.a4)/\w.cell? ⟨p.block,p.off+4,none⟩=some (.string e.a5)/\w.cell? ⟨p.block,p.off+5,none⟩=some (.int .i64 e.l)/\w.cell? ⟨p.block,p.off+6,none⟩=some (.int .i64 e.d)
theorem EdAt.grow {w w':World} {p:Addr} {e:Er} {r:Option Nat} (h:EdAt w p e) (hg:w.grownBy w' r) (hn:some p.block ≠ r):EdAt w' p e:=by
 obtain ⟨h0,h1,h2,h3,h4,h5,h6⟩:=h
 exact ⟨hg.cell h0 hn,hg.cell h1 hn,hg.cell h2 hn,hg.cell h3 hn,hg.cell h4 hn,hg.cell h5 hn,hg.cell h6 hn⟩
theorem ed_of_cells {w:World} {a:Addr} {n:Nat} {e:Er} (h:∀k v,(erC e)[k]?=some v->w.cell? (a.add (n+k))=some v):EdAt w (a.add n) e :=
 ⟨by have:=h 0 _ rfl;simpa using this,by have:=h 1 _ rfl;rw [add_off a n 1 (by omega)] at this;exact this,by have:=h 2 _ rfl;rw [add_off a n 2 (by omega)] at this;exact this,by have:=h 3 _ rfl;rw [add_off a n 3 (by omega)] at this;exact this,by have:=h 4 _ rfl;rw [add_off a n 4 (by omega)] at this;exact this,by have:=h 5 _ rfl;rw [add_off a n 5 (by omega)] at this;exact this,by have:=h 6 _ rfl;rw [add_off a n 6 (by omega)] at this;exact this⟩
theorem flat_er (L:List Er):∀(i:Nat) (hi:i < L.length) (k:Nat) (v:Value),(erC L[i])[k]?=some v->(L.flatMap erC)[i * 7+k]?=some v:=by
 induction L with
 | nil=>intro i hi;simp at hi
 | cons s L ih =>
  intro i hi k v h
  rw [List.flatMap_cons]
  have hl:(erC s).length=7:=rfl
  cases i with
  | zero =>
   simp only [List.getElem_cons_zero] at h
   have hk:k < (erC s).length:=(List.getElem?_eq_some_iff.1 h).1
   rw [Nat.zero_mul,Nat.zero_add,List.getElem?_append_left hk]
   exact h
  | succ i =>
   simp only [List.getElem_cons_succ] at h
   rw [List.getElem?_append_right (by rw [hl];omega),hl,show (i+1) * 7+k - 7=i * 7+k by omega]
   exact ih i (by simpa using hi) k v h
theorem edges_form {w:World} {base:Nat} {v:Value} {E:List Er} (h:w.ownsRow base 135 7 v E.length (E.flatMap erC)) :
  (v=.slice none 0 0/\E=[])\/∃(ga:Addr) (cap:Nat),v=.slice (some ga) E.length cap/\E.length<=cap/\base<=ga.block/\ga.block < w.heap.size/\ga.spot=none/\∀i (hi:i < E.length),EdAt w (ga.add (i * 7)) E[i]:=by
 rcases h.2 with ⟨h1,h2⟩ | ⟨g,cap,cur,h1,hb,hg,hn,hm,hs,ht⟩
 ·exact Or.inl ⟨h1,List.length_eq_zero_iff.1 h2⟩
 ·refine Or.inr ⟨⟨g,0,none⟩,cap,h1,hn,hb,(Array.getElem?_eq_some_iff.1 hg).1,rfl,fun i hi=>ed_of_cells fun k u hu=>?_⟩
  have:=flat_er E i hi k u hu
  exact h.cells (g:=g) (by rw [h1];rfl) (i * 7+k) u this
theorem add_block (a:Addr) (n:Nat):(a.add n).block=a.block:=by unfold Addr.add;split <;> rfl
theorem own_set {w:World} {base:Nat} {e:TypeId} {size:Nat} {g n cap:Nat} {xs:List Value} (h:w.ownsRow base e size (.slice (some ⟨g,0,none⟩) n cap) n xs) (o:Nat) (x:Value) (ho:o < n * size):(w.setCell ⟨g,o,none⟩ x).ownsRow base e size (.slice (some ⟨g,0,none⟩) n cap) n (xs.set o x):=by
 refine ⟨by rw [List.length_set];exact h.1,?_⟩
 rcases h.2 with ⟨h1,_⟩ | ⟨g',cap',cur,h1,hb,hg,hn,hm,hs,ht⟩
 ·cases h1
 ·cases h1
  refine Or.inr ⟨g,cap,cur.setIfInBounds o x,rfl,hb,?_,hn,hm,by simpa using hs,?_⟩
  ·simp [World.setCell,Array.getElem?_modify,hg]
  ·rw [Array.toList_setIfInBounds,List.take_set,ht]
theorem outs_len:∀(T:List V),(outs T).length<=T.length
 | []=>Nat.le_refl _
 | [a]=>Nat.le_refl _
 | a :: b :: r=>by have:=outs_len r;simp only [outs,List.length_cons];omega
theorem spC_open (e:Er):spC (spV (toEd e).at_ zeroV0 true)=[.int .i64 e.a1,.int .i64 e.a2,.int .i64 e.a3,.string e.a4,.string ⟨#[]⟩,.int .i64 0,.int .i64 0,.int .i64 0,.string ⟨#[]⟩,.string ⟨#[]⟩,.bool true]:=by
 simp only [spC,spV,toEd,zeroV0,Go.Joins.bytes_eta]
theorem gb_own_row {w wa wb:World} {B:Nat} {row:Option Nat} (h:w.grownBy wa (some B)) (hg:wa.grownBy wb row) (hr:∀q,row=some q->w.heap.size<=q):w.grownBy wb (some B) :=
 ⟨hg.os.trans h.os,hg.tape.trans h.tape,hg.output.trans h.output,Nat.le_trans h.size hg.size,fun k hk hn=>(hg.block k (Nat.lt_of_lt_of_le hk h.size) (fun e=>by have:=hr k e.symm;omega)).trans (h.block k hk hn)⟩
theorem add_zero_off (g k:Nat):(⟨g,0,none⟩:Addr).add k=⟨g,k,none⟩:=by
 unfold Addr.add
 split
 ·rename_i h;rw [h]
 ·simp
theorem set_behind {P l:List Value} {k:Nat} (hP:P.length=k) (q:Nat) (v:Value):(P++l).set (k+q) v=P++l.set q v:=by
 rw [List.set_append_right _ _ (by omega),hP,Nat.add_sub_cancel_left]
theorem close_row (e:Er) (y:V) {P:List Value} {k:Nat} (hP:P.length=k) :
  ((((((P++spC (spV y zeroV0 true)).set (k+5) (.int .i64 e.a1)).set (k+6) (.int .i64 e.a2)).set (k+7) (.int .i64 e.a3)).set (k+8) (.string e.a4)).set (k+9) (.string ⟨#[]⟩)).set (k+10) (.bool false)=P++spC (spV y (toEd e).at_ false):=by
 rw [set_behind hP,set_behind hP,set_behind hP,set_behind hP,set_behind hP,set_behind hP]
 simp only [spC,spV,toEd,zeroV0,Go.Joins.bytes_eta,List.set]
theorem last_cell {w:World} {base:Nat} {gs capS M:Nat} {A:List Sp} {s:Sp} (h:w.ownsRow base 37 11 (.slice (some ⟨gs,0,none⟩) (M+1) capS) (M+1) ((A++[s]).flatMap spC)) (hA:A.length=M) (q:Nat) (v:Value) (hq:(spC s)[q]?=some v):w.cell? ⟨gs,M * 11+q,none⟩=some v:=by
 have h1:((A++[s]).flatMap spC)[M * 11+q]?=some v:=flat_get (A++[s]) M (by rw [List.length_append,hA];simp) q v (by rw [List.getElem_append_right (by omega)];simpa [hA] using hq)
 have:=h.cells (g:=gs) rfl (M * 11+q) v h1
 rw [add_zero_off] at this
 exact this
theorem own_unfrozen {w:World} {base:Nat} {e:TypeId} {size gs n cap:Nat} {xs:List Value} (h:w.ownsRow base e size (.slice (some ⟨gs,0,none⟩) n cap) n xs) (o:Nat):w.frozen? ⟨gs,o,none⟩=false:=by
 rcases h.2 with ⟨h1,_⟩ | ⟨g',cap',cur,h1,hb,hg,_⟩
 ·cases h1
 ·cases h1;exact Lib.frozen_of_heap hg o
theorem erL_len (Ls:List (List Sp)) (h:∀l ∈ Ls,l.length<=1048576):∀k,(erL k Ls).length<=2097152 * Ls.length:=by
 induction Ls with
 | nil=>intro k;simp [erL]
 | cons l Ls ih =>
  intro k
  have h1:=ih (fun l' hl'=>h l' (by simp [hl'])) (k+1)
  have h2:=erFlat_len k l
  have h3:=h l (by simp)
  rw [erL,List.length_append,List.length_cons]
  omega
theorem having_zero (n:Nat):having n (fun _=>0)=0:=by
 unfold having
 induction n with
 | zero=>rfl
 | succ n ih=>rw [List.range_succ,List.map_append,List.sum_append,ih];rfl
end Go.Proofs.YtonfldbigenfhaaGreatDoor
