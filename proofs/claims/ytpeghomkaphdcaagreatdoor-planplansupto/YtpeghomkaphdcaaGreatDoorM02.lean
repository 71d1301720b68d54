import Derived.Test.YtpeghomkaphdcaaGreatDoorM01
import Derived.Below
import Derived.Lib.ConvBytes
import Derived.Deep.RegionHeld3
import Derived.Carry
import Derived.OwnWalk
import Derived.Laws.AppendOwn
import Derived.Deep.AppendSrc
import Derived.Deep.AppendLies
import Derived.Deep.OwnRows
import Derived.BigQuiet
import Derived.Deep.QuietTactic
import Derived.Shelf.Small.Wraps
import Derived.Test.YtpeghomkaphdcaaGreatDoorProg
namespace Go.Proofs.YtpeghomkaphdcaaGreatDoor
open Go.RowKit
set_option linter.unusedVariables false
theorem gb_below {w w':World} (h:w.grownBy w' none):Below w.heap.size w w':=⟨h.os,h.tape,h.output,h.size,fun k hk=>h.block k hk (by simp)⟩
theorem gb_undrew {w w':World} {r:Option Nat} (h:w.drew.grownBy w' r):w.grownBy w' r:=⟨h.os,h.tape,h.output,h.size,h.block⟩
theorem gb_alloc {w w':World} (h:w.grownBy w' none) (o:Obj):w.grownBy (w'.alloc o) none :=
 ⟨h.os,h.tape,h.output,by have:=h.size;simp;omega,fun k hk hn=>by rw [Lib.alloc_old _ _ _ (Nat.lt_of_lt_of_le hk h.size)];exact h.block k hk hn⟩
theorem gb_bytes (w:World) (e:TypeId) (s:ByteArray):w.grownBy (Lib.bytesWorld w e s) none :=
 ⟨rfl,rfl,rfl,by rw [Lib.bytesWorld_size];omega,fun k hk _=>Lib.bytesWorld_at_old w e s k hk⟩
theorem gb_weak {w w':World} (h:w.grownBy w' none) (r:Option Nat):w.grownBy w' r:=⟨h.os,h.tape,h.output,h.size,fun k hk _=>h.block k hk (by simp)⟩
set_option maxHeartbeats 400000 in
theorem isDigits_any (s:ByteArray) (w:World) (hs:s.size < 2 ^ 62) :
  Calls Tryz.prog 150 #[.string s] w fun e w'=>e=.returned (.bool (numT s.data.toList))/\w.grownBy w' none:=by
 have kc:=fun (w:World)=>Lib.run_convert_string_bytes (P:=Tryz.prog) w 9 53 5 s Tryz.underlying9 Tryz.underlying53 Tryz.underlying5
 obtain ⟨W,hW⟩:∃W,Lib.bytesWorld w 5 s=W:=⟨_,rfl⟩
 have HC:Hid (∀j,(hj:j < s.size)->W.cell? ⟨w.heap.size,j,none⟩=some (.int .u8 (s[j].toNat:Int))):=by
  show ∀j,(hj:j < s.size)->W.cell? ⟨w.heap.size,j,none⟩=some (.int .u8 (s[j].toNat:Int))
  intro j hj
  rw [<-hW,Lib.bytesWorld_cell w _ s j hj]
  have:s.data.toList.getD j 0=s[j]:=by
   rw [List.getD_eq_getElem?_getD,get_data s j hj];rfl
  rw [this]
 have HG:Hid (w.grownBy W none):=by show w.grownBy W none;rw [<-hW];exact gb_bytes w _ s
 have kw:=kc w
 rw [hW] at kw
 clear kc hW
 go_enter Tryz.func150,Tryz.ntmps150
 go_wp2
 go_loop [8] (fun i=>∃k:Nat,k<=s.size/\i=.int .i64 k/\∀j,(hj:j < s.size)->j < k->isD s[j]=true) (fun i=>s.size - (intOf i).toNat)
 case atStart=>exact ⟨0,Nat.zero_le _,rfl,fun j hj h=>absurd h (by omega)⟩
 case round =>
  obtain ⟨k,hk,rfl,hp⟩:=hrel
  have HP:Hid (∀j,(hj:j < s.size)->j < k->isD s[j]=true):=hp
  clear hp
  by_cases hlt:k < s.size
  ·have ck:=HC.out k hlt
   cases hd:isD s[k] with
   | true =>
    go_wp2_with (go_at_call 157;refine (isDigit_any _ _).mono ?_;rintro e w' ⟨rfl,rfl⟩)
    go_round
    case rel =>
     refine ⟨k+1,by omega,by go_num,fun j hj hjk=>?_⟩
     by_cases hjk':j < k
     ·exact HP.out j hj hjk'
     ·have e:j=k:=by omega
      subst e
      exact hd
    case measure=>simp [intOf];omega
   | false =>
    have HN:Hid (numT s.data.toList=false):=by
     show numT s.data.toList=false
     unfold numT
     have:s.data.toList.all isD=false:=by
      rw [List.all_eq_false]
      exact ⟨s[k],List.mem_of_getElem? (get_data s k hlt),by simp [hd]⟩
     rw [this,Bool.and_false]
    go_wp2_with (go_at_call 157;refine (isDigit_any _ _).mono ?_;rintro e w' ⟨rfl,rfl⟩)
    go_ret
    exact ⟨ret_bool HN.out.symm,HG.out⟩
  ·have hks:k=s.size:=by omega
   have HA:Hid (s.data.toList.all isD=true):=by
    show s.data.toList.all isD=true
    rw [List.all_eq_true]
    intro c hc
    obtain ⟨j,hj,rfl⟩:=List.getElem_of_mem hc
    exact HP.out j (by simpa using hj) (by simp at hj;have:s.size=s.data.size:=rfl;omega)
   clear hks hk
   go_wp2
   go_ret
   refine ⟨ret_bool ?_,HG.out⟩
   unfold numT
   rw [Lib.toList_data,HA.out,Bool.and_true]
theorem run_pre (s:ByteArray) (k:Nat) (hk:k<=s.size) (w:World) :
  (Instr.slice 9 (.string s) none (some (.int .i64 (k:Int))) none).run Tryz.prog w=.ok (.string ⟨(s.data.toList.take k).toArray⟩) w:=by
 have h5:(k:Int)<=(s.size:Int):=by omega
 have e:s.extract 0 k=⟨(s.data.toList.take k).toArray⟩:=by
  apply ByteArray.ext
  rw [ByteArray.data_extract]
  apply Array.ext'
  simp
 rw [<-e]
 simp [go_sem,Tryz.underlying9,h5]
theorem run_suf (s:ByteArray) (k:Nat) (hk:k<=s.size) (w:World) :
  (Instr.slice 9 (.string s) (some (.int .i64 (k:Int))) none none).run Tryz.prog w=.ok (.string ⟨(s.data.toList.drop k).toArray⟩) w:=by
 have h1:(0:Int)<=(k:Int):=by omega
 have h5:(k:Int)<=(s.size:Int):=by omega
 have e:s.extract k s.size=⟨(s.data.toList.drop k).toArray⟩:=by
  apply ByteArray.ext
  rw [ByteArray.data_extract]
  apply Array.ext'
  simp
  exact List.take_of_length_le (by simp)
 rw [<-e]
 simp [go_sem,Tryz.underlying9,h1,h5]
open Go.RowKit
set_option linter.unusedVariables false
def St (A:Nat) (a1 a2 a3:Int) (a4 a5:ByteArray) (w:World):Prop:=w.cell? ⟨A,0,none⟩=some (.int .i64 a1)/\w.cell? ⟨A,1,none⟩=some (.int .i64 a2)/\w.cell? ⟨A,2,none⟩=some (.int .i64 a3)/\w.cell? ⟨A,3,none⟩=some (.string a4)/\w.cell? ⟨A,4,none⟩=some (.string a5)
theorem St.grow {A:Nat} {a1 a2 a3:Int} {a4 a5:ByteArray} {w w':World} (h:St A a1 a2 a3 a4 a5 w) (hg:w.grownBy w' none):St A a1 a2 a3 a4 a5 w' :=
 ⟨hg.cell h.1 (by simp),hg.cell h.2.1 (by simp),hg.cell h.2.2.1 (by simp),hg.cell h.2.2.2.1 (by simp),hg.cell h.2.2.2.2 (by simp)⟩
open Go.RowKit
set_option linter.unusedVariables false
structure En where
 nm:ByteArray
 ve:ByteArray
 dg:ByteArray
 nd:List ByteArray
def TxS (w:World) (v:Value) (L:List ByteArray):Prop:=(v=.slice none 0 0/\L=[])\/∃a cap,v=.slice (some a) L.length cap/\L.length<=cap/\∀i (hi:i < L.length),w.cell? (a.add i)=some (.string L[i])
theorem TxS.grow {w w':World} {v:Value} {L:List ByteArray} (h:TxS w v L) (hg:w.grownBy w' none):TxS w' v L:=by
 rcases h with h | ⟨a,cap,h1,h2,h3⟩
 ·exact Or.inl h
 ·exact Or.inr ⟨a,cap,h1,h2,fun i hi=>hg.cell (h3 i hi) (by simp)⟩
theorem txs_slice {w:World} {v:Value} {L:List ByteArray} (h:TxS w v L):∃o c,v=.slice o L.length c:=by
 rcases h with ⟨rfl,rfl⟩ | ⟨a,cap,rfl,-⟩
 ·exact ⟨_,_,rfl⟩
 ·exact ⟨_,_,rfl⟩
def EnAt (w:World) (p:Addr) (x:En):Prop:=w.cell? p=some (.string x.nm)/\w.cell? ⟨p.block,p.off+1,none⟩=some (.string x.ve)/\w.cell? ⟨p.block,p.off+2,none⟩=some (.string x.dg)/\∃v,w.cell? ⟨p.block,p.off+3,none⟩=some v/\TxS w v x.nd
theorem EnAt.grow {w w':World} {p:Addr} {x:En} (h:EnAt w p x) (hg:w.grownBy w' none):EnAt w' p x:=by
 obtain ⟨h0,h1,h2,v,h3,h4⟩:=h
 exact ⟨hg.cell h0 (by simp),hg.cell h1 (by simp),hg.cell h2 (by simp),v,hg.cell h3 (by simp),h4.grow hg⟩
def EnS (w:World) (v:Value) (L:List En):Prop:=(v=.slice none 0 0/\L=[])\/∃a cap,v=.slice (some a) L.length cap/\L.length<=cap/\∀i (hi:i < L.length),EnAt w (a.add (i * 4)) L[i]
theorem EnS.grow {w w':World} {v:Value} {L:List En} (h:EnS w v L) (hg:w.grownBy w' none):EnS w' v L:=by
 rcases h with h | ⟨a,cap,h1,h2,h3⟩
 ·exact Or.inl h
 ·exact Or.inr ⟨a,cap,h1,h2,fun i hi=>(h3 i hi).grow hg⟩
theorem ens_slice {w:World} {v:Value} {L:List En} (h:EnS w v L):∃o c,v=.slice o L.length c:=by
 rcases h with ⟨rfl,rfl⟩ | ⟨a,cap,rfl,-⟩
 ·exact ⟨_,_,rfl⟩
 ·exact ⟨_,_,rfl⟩
theorem hcell_lt {w:World} {a:Addr} {v:Value} (h:w.cell? a=some v):a.block < w.heap.size:=by
 unfold World.cell? at h
 cases hb:w.heap[a.block]? with
 | none=>rw [hb] at h;simp at h
 | some o=>exact (Array.getElem?_eq_some_iff.1 hb).1
theorem hadd_off (a:Addr) (n k:Nat) (hk:0 < k):a.add (n+k)=⟨(a.add n).block,(a.add n).off+k,none⟩:=by
 unfold Addr.add
 rw [if_neg (by omega)]
 by_cases h:n=0
 ·rw [if_pos h,h];simp
 ·rw [if_neg h];simp [Nat.add_assoc]
theorem hblk (a:Addr) (k:Nat):(a.add k).block=a.block:=by unfold Addr.add;split <;> simp
theorem hbelow {B:Nat} {a w w':World} (h:Below B a w) (hB:B<=w.heap.size) (hg:w.grownBy w' none):Below B a w' :=
 ⟨hg.os.trans h.os,hg.tape.trans h.tape,hg.output.trans h.output,Nat.le_trans h.size hg.size,fun k hk=>(hg.block k (Nat.lt_of_lt_of_le hk hB) (by simp)).trans (h.block k hk)⟩
theorem bel_gb {w w':World} (h:Below w.heap.size w w'):w.grownBy w' none:=⟨h.os,h.tape,h.output,h.size,fun k hk _=>h.block k hk⟩
def TxFar (v:Value) (b:Option Nat):Prop:=∀a n c,v=.slice (some a) n c->0 < n->some a.block ≠ b
theorem TxS.far {w w':World} {v:Value} {L:List ByteArray} {b:Option Nat} (h:TxS w v L) (hg:w.grownBy w' b) (hf:TxFar v b):TxS w' v L:=by
 rcases h with h | ⟨a,cap,rfl,h2,h3⟩
 ·exact Or.inl h
 ·refine Or.inr ⟨a,cap,rfl,h2,fun i hi=>?_⟩
  have hb:=hf a _ _ rfl (by omega)
  exact hg.cell (h3 i hi) (by rw [hblk];exact hb)
theorem txs_lt {w:World} {a:Addr} {n c:Nat} {L:List ByteArray} (h:TxS w (.slice (some a) n c) L) (hn:0 < n):a.block < w.heap.size:=by
 rcases h with ⟨h,-⟩ | ⟨a',cap,h1,h2,h3⟩
 ·cases h
 ·cases h1
  have:=hcell_lt (h3 0 (by omega))
  rw [hblk] at this
  exact this
theorem txs_own {w:World} {base:Nat} {v:Value} {L:List ByteArray} {n:Nat} (hn:n=L.length) (h:w.ownsRow base 9 1 v n (L.map Value.string)):TxS w v L:=by
 subst hn
 rcases h.2 with ⟨h1,h2⟩ | ⟨g,cap,cur,hv,hb,hc,h3,h4,h5,h6⟩
 ·exact Or.inl ⟨h1,List.length_eq_zero_iff.1 h2⟩
 ·refine Or.inr ⟨⟨g,0,none⟩,cap,hv,h3,fun i hi=>?_⟩
  have h':=h
  rw [hv] at h'
  exact h'.cells (g:=g) rfl i _ (by rw [List.getElem?_map,List.getElem?_eq_getElem hi];rfl)
def enC (x:En) (v:Value):List Value:=[.string x.nm,.string x.ve,.string x.dg,v]
def enCs (L:List En) (vs:List Value):List Value:=(List.zipWith enC L vs).flatten
theorem enCs_snoc (L:List En) (vs:List Value) (x:En) (v:Value) (h:L.length=vs.length):enCs (L++[x]) (vs++[v])=enCs L vs++enC x v:=by
 unfold enCs
 rw [List.zipWith_append h]
 simp
theorem en_get:∀(L:List En) (vs:List Value) (h:L.length=vs.length) (i:Nat) (hi:i < L.length) (k:Nat) (u:Value),(enC L[i] (vs[i]'(by omega)))[k]?=some u->(enCs L vs)[i * 4+k]?=some u
 | [],vs,h,i,hi,k,u,hu=>by simp at hi
 | x :: L,[],h,i,hi,k,u,hu=>by simp at h
 | x :: L,v :: vs,h,i,hi,k,u,hu=>by
  have e:enCs (x :: L) (v :: vs)=enC x v++enCs L vs:=rfl
  have hl:(enC x v).length=4:=rfl
  rw [e]
  cases i with
  | zero =>
   simp only [List.getElem_cons_zero] at hu
   have hk:k < (enC x v).length:=(List.getElem?_eq_some_iff.1 hu).1
   rw [Nat.zero_mul,Nat.zero_add,List.getElem?_append_left hk]
   exact hu
  | succ i =>
   simp only [List.getElem_cons_succ] at hu
   rw [List.getElem?_append_right (by rw [hl];omega),hl,show (i+1) * 4+k - 4=i * 4+k by omega]
   exact en_get L vs (by simpa using h) i (by simpa using hi) k u hu
theorem infoEn:(Tryz.prog.info? 43).map (fun i=>(i.zero,i.size,i.bytes))=some (some (.agg #[.string ⟨#[]⟩,.string ⟨#[]⟩,.string ⟨#[]⟩,.slice none 0 0]),4,72):=by kernel_rfl
theorem infoTx:(Tryz.prog.info? 9).map (fun i=>(i.zero,i.size,i.bytes))=some (some (.string ⟨#[]⟩),1,16):=by kernel_rfl
theorem enc_one (s:En) (v:Value) (h:v.oneCell'=true):∀u ∈ enC s v,u.oneCell'=true:=by
 intro u hu
 simp only [enC,List.mem_cons,List.not_mem_nil,or_false] at hu
 rcases hu with rfl | rfl | rfl | rfl
 ·rfl
 ·rfl
 ·rfl
 ·exact h
theorem txt_one (L:List ByteArray):∀u ∈ L.map Value.string,u.oneCell'=true:=by
 intro u hu
 obtain ⟨s,-,rfl⟩:=List.mem_map.1 hu
 rfl
theorem append_zero {P:Program} {w:World} {ops:Array Oper} {rest:List Oper} {o:Oper} {a:Act} {Q:Exit->Act->World->Prop} (hgd:o.guard=none) (s x:Operand) (t:TypeId)
  (ho:o.op=.call { callee:=.builtin .append,args:=#[s,x],argTypes:=#[t,t] }) (e:TypeId) (i:TypeInfo) (ht:P.underlying t=some (.slice e)) (hi:P.info? e=some i)
  (hs:a.eval s=.slice none 0 0) (p:Option Addr) (c:Nat) (hx:a.eval x=.slice p 0 c)
  (h:wpList P ops Q rest (a.put o.dst (.slice none 0 0)) w):wpList P ops Q (o :: rest) a w:=by
 refine wpList_plain hgd fun K hK=>?_
 have hsrc:Src P i.size t (.slice p 0 c) 0 [] w:=by
  cases p with
  | none=>exact Src.ofNil w ht c
  | some ad=>exact Src.ofSlice w ht ad 0 c [] (by simp) (by intro j u hu;simp at hu) (by intro u hu;cases hu)
 have hrun:(Builtin.append_ #[t,t] o.type #[.slice none 0 0,.slice p 0 c]).run P w=.ok (.slice none 0 0) w:=by
  simp [Builtin.append_,run_underlying ht,sizeOf,typeInfo,hi,hsrc.len,hsrc.cells]
 unfold Oper.wp
 simp [execOp,ho,resolve,invoke,builtin,hs,hx,hrun,Result.andThen]
 exact hK _ _ h
theorem keepE {p:Addr} {s:En} {r:Option Nat} {w w':World} (hg:w.grownBy w' r) (hn:some p.block ≠ r) (h:w.cell? p=some (.string s.nm)/\w.cell? ⟨p.block,p.off+1,none⟩=some (.string s.ve)/\w.cell? ⟨p.block,p.off+2,none⟩=some (.string s.dg)):w'.cell? p=some (.string s.nm)/\w'.cell? ⟨p.block,p.off+1,none⟩=some (.string s.ve)/\w'.cell? ⟨p.block,p.off+2,none⟩=some (.string s.dg) :=
 ⟨hg.cell h.1 hn,hg.cell h.2.1 hn,hg.cell h.2.2 hn⟩
def ERow (L:List En) (w:World) (base:Nat) (vm:Value) (i:Nat):Prop:=∃vs:List Value,∃hl:vs.length=i,w.ownsRow base 43 4 vm i (enCs (L.take i) vs)/\∀j (hj:j < i) (hL:j < L.length),TxS w (vs[j]'(by omega)) L[j].nd/\TxFar (vs[j]'(by omega)) vm.ownBlock
set_option maxRecDepth 100000 in
set_option maxHeartbeats 6400000 in
theorem entries_at (a:Addr) (cap:Nat) (L:List En) (w:World) (hL:L.length<=1048576) (hcap:L.length<=cap) (hN:∀x ∈ L,x.nd.length<=1048576) (h:∀i (hi:i < L.length),EnAt w (a.add (i * 4)) L[i]) :
  Calls Tryz.prog 7 #[.slice (some a) L.length cap] w fun e w'=>∃v,e=.returned v/\ERow L w' w.heap.size v L.length/\Below w.heap.size w w':=by
 have HA:Hid (∀i (hi:i < L.length),EnAt w (a.add (i * 4)) L[i]):=h
 have HN:Hid (∀x ∈ L,x.nd.length<=1048576):=hN
 clear h hN
 have hinfo:=infoEn
 obtain ⟨i0,hi0,hii⟩:=Option.map_eq_some_iff.1 hinfo
 simp only [Prod.mk.injEq] at hii
 obtain ⟨hz0,hz1,hzb⟩:=hii
 have hinfo2:=infoTx
 obtain ⟨j0,hj0,hjj⟩:=Option.map_eq_some_iff.1 hinfo2
 simp only [Prod.mk.injEq] at hjj
 obtain ⟨hy0,hy1,hyb⟩:=hjj
 clear hinfo hinfo2
 go_enter Tryz.func7,Tryz.ntmps7
 go_wp2
 go_loopw [3,4] (fun vm vi wr=>∃i:Nat,vi=.int .i64 i/\i<=L.length/\ERow L wr w.heap.size vm i/\Below w.heap.size w wr) (fun _ vi _=>L.length - (intOf vi).toNat)
 case atStart=>exact ⟨0,rfl,Nat.zero_le _,⟨[],rfl,World.ownsRow_nil _ _ _ _,fun j hj=>by omega⟩,Below.refl _ _⟩
 case round =>
  obtain ⟨i,rfl,hi,⟨vs,hvs,hown,hin⟩,hb⟩:=hrel
  by_cases hlt:i < L.length
  ·obtain ⟨s,hs⟩:∃s,L[i]=s:=⟨_,rfl⟩
   have hat0:EnAt wr (a.add (i * 4)) s:=by rw [<-hs];exact (HA.out i hlt).grow (bel_gb hb)
   obtain ⟨e0,e1,e2,sv,e3,hsv⟩:=hat0
   have HFAR:Hid (some (a.add (i * 4)).block ≠ u3.ownBlock):=by
    show _ ≠ _
    intro e
    have h1:=(hown.lt _ e.symm).1
    have h2:=(HA.out i hlt).1
    have h3:(a.add (i * 4)).block < w.heap.size:=hcell_lt h2
    omega
   have hnd:=HN.out s (by rw [<-hs];exact List.getElem_mem _)
   have HIN:Hid (∀j (hj:j < i) (hL:j < L.length),TxS wr (vs[j]'(by omega)) L[j].nd/\TxFar (vs[j]'(by omega)) u3.ownBlock):=hin
   have HTK:Hid (∀v,enCs (L.take (i+1)) (vs++[v])=enCs (L.take i) vs++enC s v):=fun v=>by
    rw [List.take_succ_eq_append_getElem hlt,hs]
    exact enCs_snoc _ _ _ _ (by rw [List.length_take,hvs];omega)
   have HS:Hid (L[i]=s):=hs
   have hzz:=hb.size
   have HTX:Hid (TxS wr sv s.nd):=hsv
   obtain ⟨so,sc,rfl⟩:=txs_slice hsv
   clear hin hs hsv
   by_cases hn0:s.nd.length=0
   ·rw [hn0] at e3
    go_wp2_with (first | (at_builtin;refine append_zero rfl _ _ 40 rfl 9 j0 Tryz.underlying40 hj0 rfl _ _ rfl ?_))
    have hg1:wr.grownBy wr none:=gb_refl _ _
    have hnew1:TxS wr (.slice none 0 0) s.nd:=Or.inl ⟨rfl,List.length_eq_zero_iff.1 hn0⟩
    have hf1:∀a n k,Value.slice none 0 0=.slice (some a) n k->0 < n->wr.heap.size<=a.block:=fun a n k e=>by cases e
    have HNW:Hid (TxS wr (.slice none 0 0) s.nd):=hnew1
    have HF1:Hid (∀a n k,Value.slice none 0 0=.slice (some a) n k->0 < n->wr.heap.size<=a.block):=hf1
    have E0:=hg1.cell e0 (by simp)
    have E1:=hg1.cell e1 (by simp)
    have E2:=hg1.cell e2 (by simp)
    have hown1:=hown.kept hg1 (by cases u3.ownBlock <;> simp)
    have hsz1:wr.heap.size<=wr.heap.size:=hg1.size
    have hb1:Below w.heap.size w wr:=hbelow hb hzz hg1
    have HG1:Hid (wr.grownBy wr none):=hg1
    clear e0 e1 e2 e3 hnew1 hf1 hg1
    go_wp2
    go_region_held3 (fun w'=>w'.cell? (a.add (i * 4))=some (.string s.nm)/\w'.cell? ⟨(a.add (i * 4)).block,(a.add (i * 4)).off+1,none⟩=some (.string s.ve)/\w'.cell? ⟨(a.add (i * 4)).block,(a.add (i * 4)).off+2,none⟩=some (.string s.dg)) ((first | exact keepE (by assumption) (by first | exact HFAR.out | simp) (by assumption) | go_keep)) (first | (refine step_append_lies _ (by rfl) _ _ _ (by rfl) w.heap.size 43 i0 _ 4 72 Tryz.underlying23 hi0 hz0 hz1 hzb (by rfl) (by decide) u3 i (enCs (L.take i) vs) (by rfl) (hown1.drew.alloc _) _ 1 1 (enC s (.slice none 0 0)) (by rfl) (by rfl) (World.news_of_block (heap_alloc_new _ _)) (enc_one s _ rfl) (by omega) (by unfold maxLen;omega) (by omega) (by simp;omega) _ rfl ?_;intro g cap1 w3 hown3 hgrow hat hlt3))
    have g2:wr.grownBy (wr.drew.alloc (.cells #[.string s.nm,.string s.ve,.string s.dg,.slice none 0 0] 43)) none:=gb_alloc (gb_trans HG1.out (show wr.grownBy wr.drew none from ⟨rfl,rfl,rfl,Nat.le_refl _,fun _ _ _=>rfl⟩)) _
    have hb2:Below w.heap.size w wr.drew:=hbelow hb1 (Nat.le_trans hzz hsz1) ⟨rfl,rfl,rfl,Nat.le_refl _,fun _ _ _=>rfl⟩
    have HB3:Hid (Below w.heap.size w w3):=(hb2.alloc (Nat.le_trans hzz hsz1) _).grown hgrow (by simp;omega) (fun q hq=>(hown.lt q hq).1)
    have hnew:TxS (wr.drew.alloc (.cells #[.string s.nm,.string s.ve,.string s.dg,.slice none 0 0] 43)) (.slice none 0 0) s.nd:=HNW.out.grow (gb_alloc (show wr.grownBy wr.drew none from ⟨rfl,rfl,rfl,Nat.le_refl _,fun _ _ _=>rfl⟩) _)
    have hfn:TxFar (.slice none 0 0) u3.ownBlock:=fun a' n' k' e hn=>by
     have h1:=HF1.out a' n' k' e hn
     intro h2
     have h3:=(hown.lt a'.block h2.symm).2
     omega
    have far2:∀v (M:List ByteArray),TxS (wr.drew.alloc (.cells #[.string s.nm,.string s.ve,.string s.dg,.slice none 0 0] 43)) v M->(∀a' n' k',v=.slice (some a') n' k'->0 < n'->a'.block < wr.heap.size)->TxFar v u3.ownBlock->TxFar v (some g):=fun v M h1 h2 h3 a' n' k' e hn=>by
     have h4:=h2 a' n' k' e hn
     rcases hat with h5 | h5
     ·rw [<-h5];exact h3 a' n' k' e hn
     ·intro h6
      injection h6 with h6
      rw [h5] at h6
      simp at h6
      omega
    have HR3:Hid (ERow L w3 w.heap.size (.slice (some ⟨g,0,none⟩) (i+1) cap1) (i+1)):=by
     refine ⟨vs++[.slice none 0 0],by simp [hvs],?_,fun j hj hLj=>?_⟩
     ·rw [HTK.out];exact hown3
     ·by_cases hji:j < i
      ·obtain ⟨k1,k2⟩:=HIN.out j hji hLj
       have ej:(vs++[Value.slice none 0 0])[j]'(by simp;omega)=vs[j]'(by omega):=List.getElem_append_left (by omega)
       rw [ej]
       refine ⟨(k1.grow g2).far hgrow k2,?_⟩
       refine far2 _ _ (k1.grow g2) (fun a' n' k' e hn=>?_) k2
       have:=txs_lt (by rw [<-e];exact k1) hn
       exact Nat.lt_of_lt_of_le this hsz1
      ·have hje:j=i:=by omega
       subst hje
       have ej:(vs++[Value.slice none 0 0])[j]'(by simp;omega)=.slice none 0 0:=by simp [hvs]
       rw [ej]
       have esj:L[j].nd=s.nd:=by rw [HS.out]
       rw [esj]
       exact ⟨hnew.far hgrow hfn,far2 _ _ hnew (fun a' n' k' e hn=>txs_lt (by rw [<-e];exact HNW.out) hn) hfn⟩
    clear hown3 hgrow hat hown hown1 hb hb1 hb2 hlt3 E0 E1 E2 g2 hnew hfn far2
    go_wp2
    go_roundw
    case rel=>exact ⟨i+1,by go_num,by omega,HR3.out,HB3.out⟩
    case measure=>simp [intOf];omega
   ·obtain ⟨b,rfl,hb0⟩:∃b,so=some b/\∀j (hj:j < s.nd.length),wr.cell? (b.add j)=some (.string s.nd[j]):=by
     rcases HTX.out with ⟨h1,h2⟩ | ⟨b,cp,h1,h2,h3⟩
     ·rw [h2] at hn0;exact absurd rfl hn0
     ·cases h1;exact ⟨b,rfl,h3⟩
    have hnews:∀j u,(s.nd.map Value.string)[j]?=some u->wr.cell? (b.add j)=some u:=fun j u hu=>by
     obtain ⟨hj,rfl⟩:=List.getElem?_eq_some_iff.1 hu
     rw [List.getElem_map];exact hb0 j (by simpa using hj)
    obtain ⟨nn,hnn⟩:∃nn,s.nd.length=nn:=⟨_,rfl⟩
    rw [hnn] at e3 hnd hn0
    go_wp2_with (first | (at_builtin;refine wpList_append_lies _ rfl _ _ 40 rfl wr.heap.size 9 j0 _ 1 16 Tryz.underlying40 hj0 hy0 hy1 hyb rfl (by decide) (.slice none 0 0) 0 [] rfl (World.ownsRow_nil _ _ _ _) b nn sc (s.nd.map Value.string) rfl (by rw [List.length_map,hnn,Nat.mul_one]) hnews (txt_one _) (by omega) (by unfold maxLen;omega) (by omega) (Nat.le_refl _) _ rfl ?_;intro g0 cap0 w1 hown0 hgrow0 hat0 hlt0))
    simp only [Nat.zero_add] at hown0 ⊢
    have hg1:wr.grownBy w1 none:=hgrow0
    have hnew1:TxS w1 (.slice (some ⟨g0,0,none⟩) nn cap0) s.nd:=txs_own hnn.symm hown0
    have hf1:∀a n k,Value.slice (some ⟨g0,0,none⟩) nn cap0=.slice (some a) n k->0 < n->wr.heap.size<=a.block:=fun a n k e hn=>by
     rw [e] at hown0
     exact (hown0.lt a.block rfl).1
    clear hown0 hgrow0 hat0 hlt0 hnews hb0 hnn
    have HNW:Hid (TxS w1 (.slice (some ⟨g0,0,none⟩) nn cap0) s.nd):=hnew1
    have HF1:Hid (∀a n k,Value.slice (some ⟨g0,0,none⟩) nn cap0=.slice (some a) n k->0 < n->wr.heap.size<=a.block):=hf1
    have E0:=hg1.cell e0 (by simp)
    have E1:=hg1.cell e1 (by simp)
    have E2:=hg1.cell e2 (by simp)
    have hown1:=hown.kept hg1 (by cases u3.ownBlock <;> simp)
    have hsz1:wr.heap.size<=w1.heap.size:=hg1.size
    have hb1:Below w.heap.size w w1:=hbelow hb hzz hg1
    have HG1:Hid (wr.grownBy w1 none):=hg1
    clear e0 e1 e2 e3 hnew1 hf1 hg1
    go_wp2
    go_region_held3 (fun w'=>w'.cell? (a.add (i * 4))=some (.string s.nm)/\w'.cell? ⟨(a.add (i * 4)).block,(a.add (i * 4)).off+1,none⟩=some (.string s.ve)/\w'.cell? ⟨(a.add (i * 4)).block,(a.add (i * 4)).off+2,none⟩=some (.string s.dg)) ((first | exact keepE (by assumption) (by first | exact HFAR.out | simp) (by assumption) | go_keep)) (first | (refine step_append_lies _ (by rfl) _ _ _ (by rfl) w.heap.size 43 i0 _ 4 72 Tryz.underlying23 hi0 hz0 hz1 hzb (by rfl) (by decide) u3 i (enCs (L.take i) vs) (by rfl) (hown1.drew.alloc _) _ 1 1 (enC s (.slice (some ⟨g0,0,none⟩) nn cap0)) (by rfl) (by rfl) (World.news_of_block (heap_alloc_new _ _)) (enc_one s _ rfl) (by omega) (by unfold maxLen;omega) (by omega) (by simp;omega) _ rfl ?_;intro g cap1 w3 hown3 hgrow hat hlt3))
    have g2:wr.grownBy (w1.drew.alloc (.cells #[.string s.nm,.string s.ve,.string s.dg,.slice (some ⟨g0,0,none⟩) nn cap0] 43)) none:=gb_alloc (gb_trans HG1.out (show w1.grownBy w1.drew none from ⟨rfl,rfl,rfl,Nat.le_refl _,fun _ _ _=>rfl⟩)) _
    have hb2:Below w.heap.size w w1.drew:=hbelow hb1 (Nat.le_trans hzz hsz1) ⟨rfl,rfl,rfl,Nat.le_refl _,fun _ _ _=>rfl⟩
    have HB3:Hid (Below w.heap.size w w3):=(hb2.alloc (Nat.le_trans hzz hsz1) _).grown hgrow (by simp;omega) (fun q hq=>(hown.lt q hq).1)
    have hnew:TxS (w1.drew.alloc (.cells #[.string s.nm,.string s.ve,.string s.dg,.slice (some ⟨g0,0,none⟩) nn cap0] 43)) (.slice (some ⟨g0,0,none⟩) nn cap0) s.nd:=HNW.out.grow (gb_alloc (show w1.grownBy w1.drew none from ⟨rfl,rfl,rfl,Nat.le_refl _,fun _ _ _=>rfl⟩) _)
    have hfn:TxFar (.slice (some ⟨g0,0,none⟩) nn cap0) u3.ownBlock:=fun a' n' k' e hn=>by
     have h1:=HF1.out a' n' k' e hn
     intro h2
     have h3:=(hown.lt a'.block h2.symm).2
     omega
    have far2:∀v (M:List ByteArray),TxS (w1.drew.alloc (.cells #[.string s.nm,.string s.ve,.string s.dg,.slice (some ⟨g0,0,none⟩) nn cap0] 43)) v M->(∀a' n' k',v=.slice (some a') n' k'->0 < n'->a'.block < w1.heap.size)->TxFar v u3.ownBlock->TxFar v (some g):=fun v M h1 h2 h3 a' n' k' e hn=>by
     have h4:=h2 a' n' k' e hn
     rcases hat with h5 | h5
     ·rw [<-h5];exact h3 a' n' k' e hn
     ·intro h6
      injection h6 with h6
      rw [h5] at h6
      simp at h6
      omega
    have HR3:Hid (ERow L w3 w.heap.size (.slice (some ⟨g,0,none⟩) (i+1) cap1) (i+1)):=by
     refine ⟨vs++[.slice (some ⟨g0,0,none⟩) nn cap0],by simp [hvs],?_,fun j hj hLj=>?_⟩
     ·rw [HTK.out];exact hown3
     ·by_cases hji:j < i
      ·obtain ⟨k1,k2⟩:=HIN.out j hji hLj
       have ej:(vs++[Value.slice (some ⟨g0,0,none⟩) nn cap0])[j]'(by simp;omega)=vs[j]'(by omega):=List.getElem_append_left (by omega)
       rw [ej]
       refine ⟨(k1.grow g2).far hgrow k2,?_⟩
       refine far2 _ _ (k1.grow g2) (fun a' n' k' e hn=>?_) k2
       have:=txs_lt (by rw [<-e];exact k1) hn
       exact Nat.lt_of_lt_of_le this hsz1
      ·have hje:j=i:=by omega
       subst hje
       have ej:(vs++[Value.slice (some ⟨g0,0,none⟩) nn cap0])[j]'(by simp;omega)=.slice (some ⟨g0,0,none⟩) nn cap0:=by simp [hvs]
       rw [ej]
       have esj:L[j].nd=s.nd:=by rw [HS.out]
       rw [esj]
       exact ⟨hnew.far hgrow hfn,far2 _ _ hnew (fun a' n' k' e hn=>txs_lt (by rw [<-e];exact HNW.out) hn) hfn⟩
    clear hown3 hgrow hat hown hown1 hb hb1 hb2 hlt3 E0 E1 E2 g2 hnew hfn far2
    go_wp2
    go_roundw
    case rel=>exact ⟨i+1,by go_num,by omega,HR3.out,HB3.out⟩
    case measure=>simp [intOf];omega
  ·have hil:i=L.length:=by omega
   subst hil
   have HO:Hid (ERow L wr w.heap.size u3 L.length):=⟨vs,hvs,hown,hin⟩
   have HB:Hid (Below w.heap.size w wr):=hb
   clear hown hb hi hin
   go_wp2
   refine bodyPost_ret (results_tmp (t:=2) rfl _ _ _) rfl ⟨u3,rfl,HO.out,HB.out⟩
open Go.RowKit
set_option linter.unusedVariables false
theorem erow_ens {L:List En} {w:World} {base:Nat} {v:Value} (h:ERow L w base v L.length):EnS w v L:=by
 obtain ⟨vs,hl,ho,hn⟩:=h
 rw [List.take_length] at ho
 rcases ho.2 with ⟨h1,h2⟩ | ⟨g,cap,cur,hv,hb,hc,h3,h4,h5,h6⟩
 ·exact Or.inl ⟨h1,List.length_eq_zero_iff.1 h2⟩
 ·refine Or.inr ⟨⟨g,0,none⟩,cap,hv,h3,fun i hi=>?_⟩
  have h':=ho
  rw [hv] at h'
  have key:∀k u,0 < k->(enC L[i] (vs[i]'(by omega)))[k]?=some u->w.cell? ⟨((⟨g,0,none⟩:Addr).add (i * 4)).block,((⟨g,0,none⟩:Addr).add (i * 4)).off+k,none⟩=some u:=fun k u hk hu=>by
   have:=h'.cells (g:=g) rfl (i * 4+k) u (en_get L vs hl.symm i hi k u hu)
   rw [hadd_off _ _ k hk] at this
   exact this
  have k0:=h'.cells (g:=g) rfl (i * 4+0) _ (en_get L vs hl.symm i hi 0 _ rfl)
  exact ⟨by simpa using k0,key 1 _ (by omega) rfl,key 2 _ (by omega) rfl,_,key 3 _ (by omega) rfl,(hn i hi hi).1⟩
theorem same_txt (s:ByteArray):(s.toList != s.toList)=false:=by simp
set_option maxRecDepth 100000 in
set_option maxHeartbeats 1600000 in
theorem texts_any (v v':Value) (K:List ByteArray) (w:World) (h:TxS w v K) (h':TxS w v' K) (hK:K.length<=1048576) :
  Calls Tryz.prog 22 #[v,v'] w fun e w'=>e=.returned (.bool true)/\w.grownBy w' none:=by
 have H1:Hid (TxS w v K):=h
 have H2:Hid (TxS w v' K):=h'
 obtain ⟨o,c,rfl⟩:=txs_slice h
 obtain ⟨o',c',rfl⟩:=txs_slice h'
 have hnn:((K.length:Int) != (K.length:Int))=false:=by simp
 clear h h'
 go_enter Tryz.func22,Tryz.ntmps22
 go_wp2
 go_loopw [5] (fun vi wr=>∃i:Nat,vi=.int .i64 i/\i<=K.length/\w.grownBy wr none) (fun vi _=>K.length - (intOf vi).toNat)
 case atStart=>exact ⟨0,rfl,Nat.zero_le _,gb_refl _ _⟩
 case round =>
  obtain ⟨i,rfl,hi,hg⟩:=hrel
  have HG:Hid (w.grownBy wr none):=hg
  by_cases hlt:i < K.length
  ·obtain ⟨a,cap,e1,e2,e3⟩:∃a cap,(Value.slice o K.length c)=.slice (some a) K.length cap/\K.length<=cap/\∀j (h:j < K.length),wr.cell? (a.add j)=some (.string K[j]):=by
    rcases H1.out.grow hg with ⟨h1,h2⟩ | h
    ·rw [h2] at hlt;simp at hlt
    ·exact h
   obtain ⟨b,cbp,f1,f2,f3⟩:∃a cap,(Value.slice o' K.length c')=.slice (some a) K.length cap/\K.length<=cap/\∀j (h:j < K.length),wr.cell? (a.add j)=some (.string K[j]):=by
    rcases H2.out.grow hg with ⟨h1,h2⟩ | h
    ·rw [h2] at hlt;simp at hlt
    ·exact h
   cases e1
   cases f1
   have g1:=e3 i hlt
   have g2:=f3 i hlt
   obtain ⟨z,hz⟩:∃z,K[i]=z:=⟨_,rfl⟩
   rw [hz] at g1 g2
   have hzz:=same_txt z
   clear e3 f3 hz hg
   go_wp2
   go_quiet (fail)
   go_wp2
   go_roundw
   case rel=>exact ⟨i+1,by go_num,by omega,gb_drew HG.out _⟩
   case measure=>simp [intOf];omega
  ·clear hg
   have hil:i=K.length:=by omega
   go_wp2
   go_ret
   exact ⟨rfl,HG.out⟩
set_option maxRecDepth 100000 in
set_option maxHeartbeats 3200000 in
theorem sameEntries_any (v v':Value) (K:List En) (w:World) (h:EnS w v K) (h':EnS w v' K) (hK:K.length<=1048576) (hN:∀x ∈ K,x.nd.length<=1048576) :
  Calls Tryz.prog 10 #[v,v'] w fun e w'=>e=.returned (.bool true)/\w.grownBy w' none:=by
 have H1:Hid (EnS w v K):=h
 have H2:Hid (EnS w v' K):=h'
 have CS:Hid (∀x ∈ K,∀(u u':Value) (w:World),TxS w u x.nd->TxS w u' x.nd->Calls Tryz.prog 22 #[u,u'] w fun e w'=>e=.returned (.bool true)/\w.grownBy w' none):=fun x hx u u' w h1 h2=>texts_any u u' x.nd w h1 h2 (hN x hx)
 obtain ⟨o,c,rfl⟩:=ens_slice h
 obtain ⟨o',c',rfl⟩:=ens_slice h'
 have hnn:((K.length:Int) != (K.length:Int))=false:=by simp
 clear h h' hN
 go_enter Tryz.func10,Tryz.ntmps10
 go_wp2
 go_loopw [5] (fun vi wr=>∃i:Nat,vi=.int .i64 i/\i<=K.length/\w.grownBy wr none) (fun vi _=>K.length - (intOf vi).toNat)
 case atStart=>exact ⟨0,rfl,Nat.zero_le _,gb_refl _ _⟩
 case round =>
  obtain ⟨i,rfl,hi,hg⟩:=hrel
  have HG:Hid (w.grownBy wr none):=hg
  by_cases hlt:i < K.length
  ·obtain ⟨a,cap,e1,e2,e3⟩:∃a cap,(Value.slice o K.length c)=.slice (some a) K.length cap/\K.length<=cap/\∀j (h:j < K.length),EnAt wr (a.add (j * 4)) K[j]:=by
    rcases H1.out.grow hg with ⟨h1,h2⟩ | h
    ·rw [h2] at hlt;simp at hlt
    ·exact h
   obtain ⟨b,cbp,f1,f2,f3⟩:∃a cap,(Value.slice o' K.length c')=.slice (some a) K.length cap/\K.length<=cap/\∀j (h:j < K.length),EnAt wr (a.add (j * 4)) K[j]:=by
    rcases H2.out.grow hg with ⟨h1,h2⟩ | h
    ·rw [h2] at hlt;simp at hlt
    ·exact h
   cases e1
   cases f1
   obtain ⟨g1,g2,g4,sv,g3,gn⟩:=e3 i hlt
   obtain ⟨k1,k2,k4,sv',k3,kn⟩:=f3 i hlt
   have CSS:Hid (Calls Tryz.prog 22 #[sv,sv'] wr.drew fun e w'=>e=.returned (.bool true)/\wr.drew.grownBy w' none):=CS.out K[i] (List.getElem_mem _) sv sv' wr.drew (gn.grow ⟨rfl,rfl,rfl,Nat.le_refl _,fun _ _ _=>rfl⟩) (kn.grow ⟨rfl,rfl,rfl,Nat.le_refl _,fun _ _ _=>rfl⟩)
   obtain ⟨z1,hz1⟩:∃z,K[i].nm=z:=⟨_,rfl⟩
   obtain ⟨z2,hz2⟩:∃z,K[i].ve=z:=⟨_,rfl⟩
   obtain ⟨z4,hz4⟩:∃z,K[i].dg=z:=⟨_,rfl⟩
   rw [hz1] at g1 k1
   rw [hz2] at g2 k2
   rw [hz4] at g4 k4
   have q1:=same_txt z1
   have q2:=same_txt z2
   have q4:=same_txt z4
   clear e3 f3 hz1 hz2 hz4 hg gn kn
   go_wp2
   go_region_held3 (fun w'=>w'.cell? ⟨(a.add (i * 4)).block,(a.add (i * 4)).off+3,none⟩=some sv/\w'.cell? ⟨(b.add (i * 4)).block,(b.add (i * 4)).off+3,none⟩=some sv') ((first | exact ⟨World.grownBy.cell (by assumption) (And.left (by assumption)) (by simp),World.grownBy.cell (by assumption) (And.right (by assumption)) (by simp)⟩ | go_keep)) (first | (go_at_call 22;refine CSS.out.mono ?_;rintro e w1 ⟨rfl,hg1⟩))
   have hg2:wr.grownBy w1 none:=gb_undrew hg1
   have HG1:Hid (w.grownBy w1 none):=gb_trans HG.out hg2
   have G1:=hg2.cell g1 (by simp)
   have G2:=hg2.cell g2 (by simp)
   have G4:=hg2.cell g4 (by simp)
   have K1:=hg2.cell k1 (by simp)
   have K2:=hg2.cell k2 (by simp)
   have K4:=hg2.cell k4 (by simp)
   clear hg1 hg2 g1 g2 g3 g4 k1 k2 k3 k4
   go_wp2
   go_quiet (fail)
   go_wp2
   go_roundw
   case rel=>exact ⟨i+1,by go_num,by omega,gb_drew HG1.out _⟩
   case measure=>simp [intOf];omega
  ·clear hg
   have hil:i=K.length:=by omega
   go_wp2
   go_ret
   exact ⟨rfl,HG.out⟩
end Go.Proofs.YtpeghomkaphdcaaGreatDoor
namespace Go.Proofs
open Go.Shelf
def Tryz.lays103_ren:Go.Shelf.Ren:=⟨fun | 103=>76 | 206=>135 | 210=>105 | n=>n,fun | 22=>130 | 23=>190 | 24=>110 | 25=>111 | 27=>79 | 28=>165 | 31=>40 | 32=>112 | 33=>90 | 37=>53 | 40=>215 | 41=>95 | 42=>153 | 43=>109 | 46=>102 | 47=>101 | 48=>98 | 51=>134 | 52=>133 | 53=>136 | 54=>135 | 55=>204 | 59=>167 | 60=>168 | 63=>207 | 64=>210 | 67=>94 | 68=>143 | 69=>67 | 70=>52 | 71=>54 | 72=>55 | 73=>116 | 74=>63 | 75=>64 | 76=>65 | 77=>66 | 80=>68 | 81=>120 | 83=>81 | 84=>115 | 100=>84 | 101=>49 | 102=>70 | 103=>39 | 104=>83 | 105=>205 | 106=>206 | 111=>166 | 114=>175 | 115=>196 | 116=>197 | 117=>198 | 118=>199 | 119=>211 | 122=>195 | 123=>200 | 124=>201 | 127=>85 | 131=>72 | 135=>100 | 137=>212 | 138=>213 | 139=>214 | 146=>208 | 151=>209 | 164=>103 | 165=>104 | 166=>179 | 171=>149 | 172=>150 | 173=>151 | 174=>152 | 182=>126 | 183=>127 | 188=>125 | 189=>128 | 190=>129 | 191=>131 | 192=>132 | 211=>176 | 212=>177 | 213=>178 | 218=>154 | 219=>155 | 220=>156 | 222=>158 | 224=>157 | 225=>159 | 228=>180 | 229=>181 | 231=>182 | 232=>202 | 233=>203 | 238=>216 | 239=>217 | 240=>218 | 241=>219 | 242=>220 | 243=>221 | 244=>222 | 245=>223 | 246=>224 | 247=>225 | 248=>226 | 249=>227 | n=>n,fun | 3=>4 | 4=>5 | 17=>0 | 18=>2 | 19=>3 | n=>n⟩
set_option maxRecDepth 100000 in
theorem Tryz.lays103:Go.Proofs.Lays.n103 Tryz.prog Tryz.lays103_ren:={
 mixed:=by kernel_rfl
 f103:=Tryz.func76.trans (congrArg some (by kernel_rfl))
 f206:=Tryz.func135.trans (congrArg some (by kernel_rfl))
 f210:=Tryz.func105.trans (congrArg some (by kernel_rfl))
 t3:=Tryz.underlying3
 a3:=Tryz.isAgg3
 z3:=Tryz.sizeOf3
 v3:=Tryz.zeroValue3
 t4:=Tryz.underlying4
 a4:=Tryz.isAgg4
 z4:=Tryz.sizeOf4
 v4:=Tryz.zeroValue4
 t9:=Tryz.underlying9
 a9:=Tryz.isAgg9
 z9:=Tryz.sizeOf9
 v9:=Tryz.zeroValue9
 t24:=Tryz.underlying110
 a24:=Tryz.isAgg110
 z24:=Tryz.sizeOf110
 v24:=Tryz.zeroValue110 }
end Go.Proofs
