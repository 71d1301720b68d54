import Derived.Test.YtbbmbnpebiakbaaGreatDoorB01
import Derived.Deep.RegionHeld3
import Derived.Carry
import Derived.OwnWalk
import Derived.Laws.AppendOwn
import Derived.Deep.AppendSrc
import Derived.Deep.AppendLies
import Derived.Deep.OwnRows
import Derived.BigQuiet
import Derived.Deep.QuietTactic
import Derived.Shelf.Small.Wraps
import Derived.Test.YtbbmbnpebiakbaaGreatDoorProg
import Derived.WalkLawsBesides
namespace Go.Proofs.YtbbmbnpebiakbaaGreatDoor
open Go.RowKit
set_option linter.unusedVariables false
structure En where
 nm:ByteArray
 ve:ByteArray
 dg:ByteArray
 nd:List ByteArray
def TxS (w:World) (v:Value) (L:List ByteArray):Prop:=(v=.slice none 0 0/\L=[])\/∃a cap,v=.slice (some a) L.length cap/\L.length<=cap/\∀i (hi:i < L.length),w.cell? (a.add i)=some (.string L[i])
theorem TxS.grow {w w':World} {v:Value} {L:List ByteArray} (h:TxS w v L) (hg:w.grownBy w' none):TxS w' v L:=by
 rcases h with h | ⟨a,cap,h1,h2,h3⟩
 ·exact Or.inl h
 ·exact Or.inr ⟨a,cap,h1,h2,fun i hi=>hg.cell (h3 i hi) (by simp)⟩
theorem txs_slice {w:World} {v:Value} {L:List ByteArray} (h:TxS w v L):∃o c,v=.slice o L.length c:=by
 rcases h with ⟨rfl,rfl⟩ | ⟨a,cap,rfl,-⟩
 ·exact ⟨_,_,rfl⟩
 ·exact ⟨_,_,rfl⟩
def EnAt (w:World) (p:Addr) (x:En):Prop:=w.cell? p=some (.string x.nm)/\w.cell? ⟨p.block,p.off+1,none⟩=some (.string x.ve)/\w.cell? ⟨p.block,p.off+2,none⟩=some (.string x.dg)/\∃v,w.cell? ⟨p.block,p.off+3,none⟩=some v/\TxS w v x.nd
theorem EnAt.grow {w w':World} {p:Addr} {x:En} (h:EnAt w p x) (hg:w.grownBy w' none):EnAt w' p x:=by
 obtain ⟨h0,h1,h2,v,h3,h4⟩:=h
 exact ⟨hg.cell h0 (by simp),hg.cell h1 (by simp),hg.cell h2 (by simp),v,hg.cell h3 (by simp),h4.grow hg⟩
def EnS (w:World) (v:Value) (L:List En):Prop:=(v=.slice none 0 0/\L=[])\/∃a cap,v=.slice (some a) L.length cap/\L.length<=cap/\∀i (hi:i < L.length),EnAt w (a.add (i * 4)) L[i]
theorem EnS.grow {w w':World} {v:Value} {L:List En} (h:EnS w v L) (hg:w.grownBy w' none):EnS w' v L:=by
 rcases h with h | ⟨a,cap,h1,h2,h3⟩
 ·exact Or.inl h
 ·exact Or.inr ⟨a,cap,h1,h2,fun i hi=>(h3 i hi).grow hg⟩
theorem ens_slice {w:World} {v:Value} {L:List En} (h:EnS w v L):∃o c,v=.slice o L.length c:=by
 rcases h with ⟨rfl,rfl⟩ | ⟨a,cap,rfl,-⟩
 ·exact ⟨_,_,rfl⟩
 ·exact ⟨_,_,rfl⟩
theorem hcell_lt {w:World} {a:Addr} {v:Value} (h:w.cell? a=some v):a.block < w.heap.size:=by
 unfold World.cell? at h
 cases hb:w.heap[a.block]? with
 | none=>rw [hb] at h;simp at h
 | some o=>exact (Array.getElem?_eq_some_iff.1 hb).1
theorem hadd_off (a:Addr) (n k:Nat) (hk:0 < k):a.add (n+k)=⟨(a.add n).block,(a.add n).off+k,none⟩:=by
 unfold Addr.add
 rw [if_neg (by omega)]
 by_cases h:n=0
 ·rw [if_pos h,h];simp
 ·rw [if_neg h];simp [Nat.add_assoc]
theorem hblk (a:Addr) (k:Nat):(a.add k).block=a.block:=by unfold Addr.add;split <;> simp
theorem hbelow {B:Nat} {a w w':World} (h:Below B a w) (hB:B<=w.heap.size) (hg:w.grownBy w' none):Below B a w' :=
 ⟨hg.os.trans h.os,hg.tape.trans h.tape,hg.output.trans h.output,Nat.le_trans h.size hg.size,fun k hk=>(hg.block k (Nat.lt_of_lt_of_le hk hB) (by simp)).trans (h.block k hk)⟩
theorem bel_gb {w w':World} (h:Below w.heap.size w w'):w.grownBy w' none:=⟨h.os,h.tape,h.output,h.size,fun k hk _=>h.block k hk⟩
def TxFar (v:Value) (b:Option Nat):Prop:=∀a n c,v=.slice (some a) n c->0 < n->some a.block ≠ b
theorem TxS.far {w w':World} {v:Value} {L:List ByteArray} {b:Option Nat} (h:TxS w v L) (hg:w.grownBy w' b) (hf:TxFar v b):TxS w' v L:=by
 rcases h with h | ⟨a,cap,rfl,h2,h3⟩
 ·exact Or.inl h
 ·refine Or.inr ⟨a,cap,rfl,h2,fun i hi=>?_⟩
  have hb:=hf a _ _ rfl (by omega)
  exact hg.cell (h3 i hi) (by rw [hblk];exact hb)
theorem txs_lt {w:World} {a:Addr} {n c:Nat} {L:List ByteArray} (h:TxS w (.slice (some a) n c) L) (hn:0 < n):a.block < w.heap.size:=by
 rcases h with ⟨h,-⟩ | ⟨a',cap,h1,h2,h3⟩
 ·cases h
 ·cases h1
  have:=hcell_lt (h3 0 (by omega))
  rw [hblk] at this
  exact this
theorem txs_own {w:World} {base:Nat} {v:Value} {L:List ByteArray} {n:Nat} (hn:n=L.length) (h:w.ownsRow base 9 1 v n (L.map Value.string)):TxS w v L:=by
 subst hn
 rcases h.2 with ⟨h1,h2⟩ | ⟨g,cap,cur,hv,hb,hc,h3,h4,h5,h6⟩
 ·exact Or.inl ⟨h1,List.length_eq_zero_iff.1 h2⟩
 ·refine Or.inr ⟨⟨g,0,none⟩,cap,hv,h3,fun i hi=>?_⟩
  have h':=h
  rw [hv] at h'
  exact h'.cells (g:=g) rfl i _ (by rw [List.getElem?_map,List.getElem?_eq_getElem hi];rfl)
def enC (x:En) (v:Value):List Value:=[.string x.nm,.string x.ve,.string x.dg,v]
def enCs (L:List En) (vs:List Value):List Value:=(List.zipWith enC L vs).flatten
theorem enCs_snoc (L:List En) (vs:List Value) (x:En) (v:Value) (h:L.length=vs.length):enCs (L++[x]) (vs++[v])=enCs L vs++enC x v:=by
 unfold enCs
 rw [List.zipWith_append h]
 simp
theorem en_get:∀(L:List En) (vs:List Value) (h:L.length=vs.length) (i:Nat) (hi:i < L.length) (k:Nat) (u:Value),(enC L[i] (vs[i]'(by omega)))[k]?=some u->(enCs L vs)[i * 4+k]?=some u
 | [],vs,h,i,hi,k,u,hu=>by simp at hi
 | x :: L,[],h,i,hi,k,u,hu=>by simp at h
 | x :: L,v :: vs,h,i,hi,k,u,hu=>by
  have e:enCs (x :: L) (v :: vs)=enC x v++enCs L vs:=rfl
  have hl:(enC x v).length=4:=rfl
  rw [e]
  cases i with
  | zero =>
   simp only [List.getElem_cons_zero] at hu
   have hk:k < (enC x v).length:=(List.getElem?_eq_some_iff.1 hu).1
   rw [Nat.zero_mul,Nat.zero_add,List.getElem?_append_left hk]
   exact hu
  | succ i =>
   simp only [List.getElem_cons_succ] at hu
   rw [List.getElem?_append_right (by rw [hl];omega),hl,show (i+1) * 4+k - 4=i * 4+k by omega]
   exact en_get L vs (by simpa using h) i (by simpa using hi) k u hu
theorem infoEn:(Tryz.prog.info? 43).map (fun i=>(i.zero,i.size,i.bytes))=some (some (.agg #[.string ⟨#[]⟩,.string ⟨#[]⟩,.string ⟨#[]⟩,.slice none 0 0]),4,72):=by kernel_rfl
theorem infoTx:(Tryz.prog.info? 9).map (fun i=>(i.zero,i.size,i.bytes))=some (some (.string ⟨#[]⟩),1,16):=by kernel_rfl
theorem enc_one (s:En) (v:Value) (h:v.oneCell'=true):∀u ∈ enC s v,u.oneCell'=true:=by
 intro u hu
 simp only [enC,List.mem_cons,List.not_mem_nil,or_false] at hu
 rcases hu with rfl | rfl | rfl | rfl
 ·rfl
 ·rfl
 ·rfl
 ·exact h
theorem txt_one (L:List ByteArray):∀u ∈ L.map Value.string,u.oneCell'=true:=by
 intro u hu
 obtain ⟨s,-,rfl⟩:=List.mem_map.1 hu
 rfl
theorem append_zero {P:Program} {w:World} {ops:Array Oper} {rest:List Oper} {o:Oper} {a:Act} {Q:Exit->Act->World->Prop} (hgd:o.guard=none) (s x:Operand) (t:TypeId)
  (ho:o.op=.call { callee:=.builtin .append,args:=#[s,x],argTypes:=#[t,t] }) (e:TypeId) (i:TypeInfo) (ht:P.underlying t=some (.slice e)) (hi:P.info? e=some i)
  (hs:a.eval s=.slice none 0 0) (p:Option Addr) (c:Nat) (hx:a.eval x=.slice p 0 c)
  (h:wpList P ops Q rest (a.put o.dst (.slice none 0 0)) w):wpList P ops Q (o :: rest) a w:=by
 refine wpList_plain hgd fun K hK=>?_
 have hsrc:Src P i.size t (.slice p 0 c) 0 [] w:=by
  cases p with
  | none=>exact Src.ofNil w ht c
  | some ad=>exact Src.ofSlice w ht ad 0 c [] (by simp) (by intro j u hu;simp at hu) (by intro u hu;cases hu)
 have hrun:(Builtin.append_ #[t,t] o.type #[.slice none 0 0,.slice p 0 c]).run P w=.ok (.slice none 0 0) w:=by
  simp [Builtin.append_,run_underlying ht,sizeOf,typeInfo,hi,hsrc.len,hsrc.cells]
 unfold Oper.wp
 simp [execOp,ho,resolve,invoke,builtin,hs,hx,hrun,Result.andThen]
 exact hK _ _ h
theorem keepE {p:Addr} {s:En} {r:Option Nat} {w w':World} (hg:w.grownBy w' r) (hn:some p.block ≠ r) (h:w.cell? p=some (.string s.nm)/\w.cell? ⟨p.block,p.off+1,none⟩=some (.string s.ve)/\w.cell? ⟨p.block,p.off+2,none⟩=some (.string s.dg)):w'.cell? p=some (.string s.nm)/\w'.cell? ⟨p.block,p.off+1,none⟩=some (.string s.ve)/\w'.cell? ⟨p.block,p.off+2,none⟩=some (.string s.dg) :=
 ⟨hg.cell h.1 hn,hg.cell h.2.1 hn,hg.cell h.2.2 hn⟩
def ERow (L:List En) (w:World) (base:Nat) (vm:Value) (i:Nat):Prop:=∃vs:List Value,∃hl:vs.length=i,w.ownsRow base 43 4 vm i (enCs (L.take i) vs)/\∀j (hj:j < i) (hL:j < L.length),TxS w (vs[j]'(by omega)) L[j].nd/\TxFar (vs[j]'(by omega)) vm.ownBlock
set_option maxRecDepth 100000 in
set_option maxHeartbeats 6400000 in
theorem entries_at (a:Addr) (cap:Nat) (L:List En) (w:World) (hL:L.length<=1048576) (hcap:L.length<=cap) (hN:∀x ∈ L,x.nd.length<=1048576) (h:∀i (hi:i < L.length),EnAt w (a.add (i * 4)) L[i]) :
  Calls Tryz.prog 7 #[.slice (some a) L.length cap] w fun e w'=>∃v,e=.returned v/\ERow L w' w.heap.size v L.length/\Below w.heap.size w w':=by
 have HA:Hid (∀i (hi:i < L.length),EnAt w (a.add (i * 4)) L[i]):=h
 have HN:Hid (∀x ∈ L,x.nd.length<=1048576):=hN
 clear h hN
 have hinfo:=infoEn
 obtain ⟨i0,hi0,hii⟩:=Option.map_eq_some_iff.1 hinfo
 simp only [Prod.mk.injEq] at hii
 obtain ⟨hz0,hz1,hzb⟩:=hii
 have hinfo2:=infoTx
 obtain ⟨j0,hj0,hjj⟩:=Option.map_eq_some_iff.1 hinfo2
 simp only [Prod.mk.injEq] at hjj
 obtain ⟨hy0,hy1,hyb⟩:=hjj
 clear hinfo hinfo2
 go_enter Tryz.func7,Tryz.ntmps7
 go_wp2
 go_loopw [3,4] (fun vm vi wr=>∃i:Nat,vi=.int .i64 i/\i<=L.length/\ERow L wr w.heap.size vm i/\Below w.heap.size w wr) (fun _ vi _=>L.length - (intOf vi).toNat)
 case atStart=>exact ⟨0,rfl,Nat.zero_le _,⟨[],rfl,World.ownsRow_nil _ _ _ _,fun j hj=>by omega⟩,Below.refl _ _⟩
 case round =>
  obtain ⟨i,rfl,hi,⟨vs,hvs,hown,hin⟩,hb⟩:=hrel
  by_cases hlt:i < L.length
  ·obtain ⟨s,hs⟩:∃s,L[i]=s:=⟨_,rfl⟩
   have hat0:EnAt wr (a.add (i * 4)) s:=by rw [<-hs];exact (HA.out i hlt).grow (bel_gb hb)
   obtain ⟨e0,e1,e2,sv,e3,hsv⟩:=hat0
   have HFAR:Hid (some (a.add (i * 4)).block ≠ u3.ownBlock):=by
    show _ ≠ _
    intro e
    have h1:=(hown.lt _ e.symm).1
    have h2:=(HA.out i hlt).1
    have h3:(a.add (i * 4)).block < w.heap.size:=hcell_lt h2
    omega
   have hnd:=HN.out s (by rw [<-hs];exact List.getElem_mem _)
   have HIN:Hid (∀j (hj:j < i) (hL:j < L.length),TxS wr (vs[j]'(by omega)) L[j].nd/\TxFar (vs[j]'(by omega)) u3.ownBlock):=hin
   have HTK:Hid (∀v,enCs (L.take (i+1)) (vs++[v])=enCs (L.take i) vs++enC s v):=fun v=>by
    rw [List.take_succ_eq_append_getElem hlt,hs]
    exact enCs_snoc _ _ _ _ (by rw [List.length_take,hvs];omega)
   have HS:Hid (L[i]=s):=hs
   have hzz:=hb.size
   have HTX:Hid (TxS wr sv s.nd):=hsv
   obtain ⟨so,sc,rfl⟩:=txs_slice hsv
   clear hin hs hsv
   by_cases hn0:s.nd.length=0
   ·rw [hn0] at e3
    go_wp2_with (first | (at_builtin;refine append_zero rfl _ _ 40 rfl 9 j0 Tryz.underlying40 hj0 rfl _ _ rfl ?_))
    have hg1:wr.grownBy wr none:=gb_refl _ _
    have hnew1:TxS wr (.slice none 0 0) s.nd:=Or.inl ⟨rfl,List.length_eq_zero_iff.1 hn0⟩
    have hf1:∀a n k,Value.slice none 0 0=.slice (some a) n k->0 < n->wr.heap.size<=a.block:=fun a n k e=>by cases e
    have HNW:Hid (TxS wr (.slice none 0 0) s.nd):=hnew1
    have HF1:Hid (∀a n k,Value.slice none 0 0=.slice (some a) n k->0 < n->wr.heap.size<=a.block):=hf1
    have E0:=hg1.cell e0 (by simp)
    have E1:=hg1.cell e1 (by simp)
    have E2:=hg1.cell e2 (by simp)
    have hown1:=hown.kept hg1 (by cases u3.ownBlock <;> simp)
    have hsz1:wr.heap.size<=wr.heap.size:=hg1.size
    have hb1:Below w.heap.size w wr:=hbelow hb hzz hg1
    have HG1:Hid (wr.grownBy wr none):=hg1
    clear e0 e1 e2 e3 hnew1 hf1 hg1
    go_wp2
    go_region_held3 (fun w'=>w'.cell? (a.add (i * 4))=some (.string s.nm)/\w'.cell? ⟨(a.add (i * 4)).block,(a.add (i * 4)).off+1,none⟩=some (.string s.ve)/\w'.cell? ⟨(a.add (i * 4)).block,(a.add (i * 4)).off+2,none⟩=some (.string s.dg)) ((first | exact keepE (by assumption) (by first | exact HFAR.out | simp) (by assumption) | go_keep)) (first | (refine step_append_lies _ (by rfl) _ _ _ (by rfl) w.heap.size 43 i0 _ 4 72 Tryz.underlying23 hi0 hz0 hz1 hzb (by rfl) (by decide) u3 i (enCs (L.take i) vs) (by rfl) (hown1.drew.alloc _) _ 1 1 (enC s (.slice none 0 0)) (by rfl) (by rfl) (World.news_of_block (heap_alloc_new _ _)) (enc_one s _ rfl) (by omega) (by unfold maxLen;omega) (by omega) (by simp;omega) _ rfl ?_;intro g cap1 w3 hown3 hgrow hat hlt3))
    have g2:wr.grownBy (wr.drew.alloc (.cells #[.string s.nm,.string s.ve,.string s.dg,.slice none 0 0] 43)) none:=gb_alloc (gb_trans HG1.out (show wr.grownBy wr.drew none from ⟨rfl,rfl,rfl,Nat.le_refl _,fun _ _ _=>rfl⟩)) _
    have hb2:Below w.heap.size w wr.drew:=hbelow hb1 (Nat.le_trans hzz hsz1) ⟨rfl,rfl,rfl,Nat.le_refl _,fun _ _ _=>rfl⟩
    have HB3:Hid (Below w.heap.size w w3):=(hb2.alloc (Nat.le_trans hzz hsz1) _).grown hgrow (by simp;omega) (fun q hq=>(hown.lt q hq).1)
    have hnew:TxS (wr.drew.alloc (.cells #[.string s.nm,.string s.ve,.string s.dg,.slice none 0 0] 43)) (.slice none 0 0) s.nd:=HNW.out.grow (gb_alloc (show wr.grownBy wr.drew none from ⟨rfl,rfl,rfl,Nat.le_refl _,fun _ _ _=>rfl⟩) _)
    have hfn:TxFar (.slice none 0 0) u3.ownBlock:=fun a' n' k' e hn=>by
     have h1:=HF1.out a' n' k' e hn
     intro h2
     have h3:=(hown.lt a'.block h2.symm).2
     omega
    have far2:∀v (M:List ByteArray),TxS (wr.drew.alloc (.cells #[.string s.nm,.string s.ve,.string s.dg,.slice none 0 0] 43)) v M->(∀a' n' k',v=.slice (some a') n' k'->0 < n'->a'.block < wr.heap.size)->TxFar v u3.ownBlock->TxFar v (some g):=fun v M h1 h2 h3 a' n' k' e hn=>by
     have h4:=h2 a' n' k' e hn
     rcases hat with h5 | h5
     ·rw [<-h5];exact h3 a' n' k' e hn
     ·intro h6
      injection h6 with h6
      rw [h5] at h6
      simp at h6
      omega
    have HR3:Hid (ERow L w3 w.heap.size (.slice (some ⟨g,0,none⟩) (i+1) cap1) (i+1)):=by
     refine ⟨vs++[.slice none 0 0],by simp [hvs],?_,fun j hj hLj=>?_⟩
     ·rw [HTK.out];exact hown3
     ·by_cases hji:j < i
      ·obtain ⟨k1,k2⟩:=HIN.out j hji hLj
       have ej:(vs++[Value.slice none 0 0])[j]'(by simp;omega)=vs[j]'(by omega):=List.getElem_append_left (by omega)
       rw [ej]
       refine ⟨(k1.grow g2).far hgrow k2,?_⟩
       refine far2 _ _ (k1.grow g2) (fun a' n' k' e hn=>?_) k2
       have:=txs_lt (by rw [<-e];exact k1) hn
       exact Nat.lt_of_lt_of_le this hsz1
      ·have hje:j=i:=by omega
       subst hje
       have ej:(vs++[Value.slice none 0 0])[j]'(by simp;omega)=.slice none 0 0:=by simp [hvs]
       rw [ej]
       have esj:L[j].nd=s.nd:=by rw [HS.out]
       rw [esj]
       exact ⟨hnew.far hgrow hfn,far2 _ _ hnew (fun a' n' k' e hn=>txs_lt (by rw [<-e];exact HNW.out) hn) hfn⟩
    clear hown3 hgrow hat hown hown1 hb hb1 hb2 hlt3 E0 E1 E2 g2 hnew hfn far2
    go_wp2
    go_roundw
    case rel=>exact ⟨i+1,by go_num,by omega,HR3.out,HB3.out⟩
    case measure=>simp [intOf];omega
   ·obtain ⟨b,rfl,hb0⟩:∃b,so=some b/\∀j (hj:j < s.nd.length),wr.cell? (b.add j)=some (.string s.nd[j]):=by
     rcases HTX.out with ⟨h1,h2⟩ | ⟨b,cp,h1,h2,h3⟩
     ·rw [h2] at hn0;exact absurd rfl hn0
     ·cases h1;exact ⟨b,rfl,h3⟩
    have hnews:∀j u,(s.nd.map Value.string)[j]?=some u->wr.cell? (b.add j)=some u:=fun j u hu=>by
     obtain ⟨hj,rfl⟩:=List.getElem?_eq_some_iff.1 hu
     rw [List.getElem_map];exact hb0 j (by simpa using hj)
    obtain ⟨nn,hnn⟩:∃nn,s.nd.length=nn:=⟨_,rfl⟩
    rw [hnn] at e3 hnd hn0
    go_wp2_with (first | (at_builtin;refine wpList_append_lies _ rfl _ _ 40 rfl wr.heap.size 9 j0 _ 1 16 Tryz.underlying40 hj0 hy0 hy1 hyb rfl (by decide) (.slice none 0 0) 0 [] rfl (World.ownsRow_nil _ _ _ _) b nn sc (s.nd.map Value.string) rfl (by rw [List.length_map,hnn,Nat.mul_one]) hnews (txt_one _) (by omega) (by unfold maxLen;omega) (by omega) (Nat.le_refl _) _ rfl ?_;intro g0 cap0 w1 hown0 hgrow0 hat0 hlt0))
    simp only [Nat.zero_add] at hown0 ⊢
    have hg1:wr.grownBy w1 none:=hgrow0
    have hnew1:TxS w1 (.slice (some ⟨g0,0,none⟩) nn cap0) s.nd:=txs_own hnn.symm hown0
    have hf1:∀a n k,Value.slice (some ⟨g0,0,none⟩) nn cap0=.slice (some a) n k->0 < n->wr.heap.size<=a.block:=fun a n k e hn=>by
     rw [e] at hown0
     exact (hown0.lt a.block rfl).1
    clear hown0 hgrow0 hat0 hlt0 hnews hb0 hnn
    have HNW:Hid (TxS w1 (.slice (some ⟨g0,0,none⟩) nn cap0) s.nd):=hnew1
    have HF1:Hid (∀a n k,Value.slice (some ⟨g0,0,none⟩) nn cap0=.slice (some a) n k->0 < n->wr.heap.size<=a.block):=hf1
    have E0:=hg1.cell e0 (by simp)
    have E1:=hg1.cell e1 (by simp)
    have E2:=hg1.cell e2 (by simp)
    have hown1:=hown.kept hg1 (by cases u3.ownBlock <;> simp)
    have hsz1:wr.heap.size<=w1.heap.size:=hg1.size
    have hb1:Below w.heap.size w w1:=hbelow hb hzz hg1
    have HG1:Hid (wr.grownBy w1 none):=hg1
    clear e0 e1 e2 e3 hnew1 hf1 hg1
    go_wp2
    go_region_held3 (fun w'=>w'.cell? (a.add (i * 4))=some (.string s.nm)/\w'.cell? ⟨(a.add (i * 4)).block,(a.add (i * 4)).off+1,none⟩=some (.string s.ve)/\w'.cell? ⟨(a.add (i * 4)).block,(a.add (i * 4)).off+2,none⟩=some (.string s.dg)) ((first | exact keepE (by assumption) (by first | exact HFAR.out | simp) (by assumption) | go_keep)) (first | (refine step_append_lies _ (by rfl) _ _ _ (by rfl) w.heap.size 43 i0 _ 4 72 Tryz.underlying23 hi0 hz0 hz1 hzb (by rfl) (by decide) u3 i (enCs (L.take i) vs) (by rfl) (hown1.drew.alloc _) _ 1 1 (enC s (.slice (some ⟨g0,0,none⟩) nn cap0)) (by rfl) (by rfl) (World.news_of_block (heap_alloc_new _ _)) (enc_one s _ rfl) (by omega) (by unfold maxLen;omega) (by omega) (by simp;omega) _ rfl ?_;intro g cap1 w3 hown3 hgrow hat hlt3))
    have g2:wr.grownBy (w1.drew.alloc (.cells #[.string s.nm,.string s.ve,.string s.dg,.slice (some ⟨g0,0,none⟩) nn cap0] 43)) none:=gb_alloc (gb_trans HG1.out (show w1.grownBy w1.drew none from ⟨rfl,rfl,rfl,Nat.le_refl _,fun _ _ _=>rfl⟩)) _
    have hb2:Below w.heap.size w w1.drew:=hbelow hb1 (Nat.le_trans hzz hsz1) ⟨rfl,rfl,rfl,Nat.le_refl _,fun _ _ _=>rfl⟩
    have HB3:Hid (Below w.heap.size w w3):=(hb2.alloc (Nat.le_trans hzz hsz1) _).grown hgrow (by simp;omega) (fun q hq=>(hown.lt q hq).1)
    have hnew:TxS (w1.drew.alloc (.cells #[.string s.nm,.string s.ve,.string s.dg,.slice (some ⟨g0,0,none⟩) nn cap0] 43)) (.slice (some ⟨g0,0,none⟩) nn cap0) s.nd:=HNW.out.grow (gb_alloc (show w1.grownBy w1.drew none from ⟨rfl,rfl,rfl,Nat.le_refl _,fun _ _ _=>rfl⟩) _)
    have hfn:TxFar (.slice (some ⟨g0,0,none⟩) nn cap0) u3.ownBlock:=fun a' n' k' e hn=>by
     have h1:=HF1.out a' n' k' e hn
     intro h2
     have h3:=(hown.lt a'.block h2.symm).2
     omega
    have far2:∀v (M:List ByteArray),TxS (w1.drew.alloc (.cells #[.string s.nm,.string s.ve,.string s.dg,.slice (some ⟨g0,0,none⟩) nn cap0] 43)) v M->(∀a' n' k',v=.slice (some a') n' k'->0 < n'->a'.block < w1.heap.size)->TxFar v u3.ownBlock->TxFar v (some g):=fun v M h1 h2 h3 a' n' k' e hn=>by
     have h4:=h2 a' n' k' e hn
     rcases hat with h5 | h5
     ·rw [<-h5];exact h3 a' n' k' e hn
     ·intro h6
      injection h6 with h6
      rw [h5] at h6
      simp at h6
      omega
    have HR3:Hid (ERow L w3 w.heap.size (.slice (some ⟨g,0,none⟩) (i+1) cap1) (i+1)):=by
     refine ⟨vs++[.slice (some ⟨g0,0,none⟩) nn cap0],by simp [hvs],?_,fun j hj hLj=>?_⟩
     ·rw [HTK.out];exact hown3
     ·by_cases hji:j < i
      ·obtain ⟨k1,k2⟩:=HIN.out j hji hLj
       have ej:(vs++[Value.slice (some ⟨g0,0,none⟩) nn cap0])[j]'(by simp;omega)=vs[j]'(by omega):=List.getElem_append_left (by omega)
       rw [ej]
       refine ⟨(k1.grow g2).far hgrow k2,?_⟩
       refine far2 _ _ (k1.grow g2) (fun a' n' k' e hn=>?_) k2
       have:=txs_lt (by rw [<-e];exact k1) hn
       exact Nat.lt_of_lt_of_le this hsz1
      ·have hje:j=i:=by omega
       subst hje
       have ej:(vs++[Value.slice (some ⟨g0,0,none⟩) nn cap0])[j]'(by simp;omega)=.slice (some ⟨g0,0,none⟩) nn cap0:=by simp [hvs]
       rw [ej]
       have esj:L[j].nd=s.nd:=by rw [HS.out]
       rw [esj]
       exact ⟨hnew.far hgrow hfn,far2 _ _ hnew (fun a' n' k' e hn=>txs_lt (by rw [<-e];exact HNW.out) hn) hfn⟩
    clear hown3 hgrow hat hown hown1 hb hb1 hb2 hlt3 E0 E1 E2 g2 hnew hfn far2
    go_wp2
    go_roundw
    case rel=>exact ⟨i+1,by go_num,by omega,HR3.out,HB3.out⟩
    case measure=>simp [intOf];omega
  ·have hil:i=L.length:=by omega
   subst hil
   have HO:Hid (ERow L wr w.heap.size u3 L.length):=⟨vs,hvs,hown,hin⟩
   have HB:Hid (Below w.heap.size w wr):=hb
   clear hown hb hi hin
   go_wp2
   refine bodyPost_ret (results_tmp (t:=2) rfl _ _ _) rfl ⟨u3,rfl,HO.out,HB.out⟩
open Go.RowKit
set_option linter.unusedVariables false
theorem erow_ens {L:List En} {w:World} {base:Nat} {v:Value} (h:ERow L w base v L.length):EnS w v L:=by
 obtain ⟨vs,hl,ho,hn⟩:=h
 rw [List.take_length] at ho
 rcases ho.2 with ⟨h1,h2⟩ | ⟨g,cap,cur,hv,hb,hc,h3,h4,h5,h6⟩
 ·exact Or.inl ⟨h1,List.length_eq_zero_iff.1 h2⟩
 ·refine Or.inr ⟨⟨g,0,none⟩,cap,hv,h3,fun i hi=>?_⟩
  have h':=ho
  rw [hv] at h'
  have key:∀k u,0 < k->(enC L[i] (vs[i]'(by omega)))[k]?=some u->w.cell? ⟨((⟨g,0,none⟩:Addr).add (i * 4)).block,((⟨g,0,none⟩:Addr).add (i * 4)).off+k,none⟩=some u:=fun k u hk hu=>by
   have:=h'.cells (g:=g) rfl (i * 4+k) u (en_get L vs hl.symm i hi k u hu)
   rw [hadd_off _ _ k hk] at this
   exact this
  have k0:=h'.cells (g:=g) rfl (i * 4+0) _ (en_get L vs hl.symm i hi 0 _ rfl)
  exact ⟨by simpa using k0,key 1 _ (by omega) rfl,key 2 _ (by omega) rfl,_,key 3 _ (by omega) rfl,(hn i hi hi).1⟩
theorem cEntries (sl:Value) (L:List En) (w:World) (h:EnS w sl L) (hL:L.length<=1048576) (hN:∀x ∈ L,x.nd.length<=1048576) :
  Calls Tryz.prog 7 #[sl] w fun e w'=>∃o c,e=.returned (.slice o L.length c)/\EnS w' (.slice o L.length c) L/\w.grownBy w' none:=by
 rcases h with ⟨rfl,rfl⟩ | ⟨a,cap,rfl,h2,h3⟩
 ·go_enter Tryz.func7,Tryz.ntmps7
  go_wp2
  go_loopw [3,4] (fun vm vi wr=>vi=.int .i64 0/\vm=.slice none 0 0/\w.grownBy wr none) (fun _ vi _=>0)
  case atStart=>exact ⟨rfl,rfl,gb_refl _ _⟩
  case round =>
   obtain ⟨rfl,rfl,hb⟩:=hrel
   have HB:Hid (w.grownBy wr none):=hb
   clear hb
   go_wp2
   refine bodyPost_ret (results_tmp (t:=2) rfl _ _ _) rfl ⟨none,0,rfl,Or.inl ⟨rfl,rfl⟩,HB.out⟩
 ·refine (entries_at a cap L w hL h2 hN h3).mono ?_
  rintro e w' ⟨v,rfl,hr,hb⟩
  have h1:=erow_ens hr
  obtain ⟨o,c,rfl⟩:=ens_slice h1
  exact ⟨o,c,rfl,h1,bel_gb hb⟩
end Go.Proofs.YtbbmbnpebiakbaaGreatDoor
namespace Go.Proofs
open Go.Shelf
def Tryz.lays103_ren:Go.Shelf.Ren:=⟨fun | 103=>76 | 206=>135 | 210=>105 | n=>n,fun | 22=>130 | 23=>190 | 24=>110 | 25=>111 | 27=>79 | 28=>165 | 31=>40 | 32=>112 | 33=>90 | 37=>53 | 40=>215 | 41=>95 | 42=>153 | 43=>109 | 46=>102 | 47=>101 | 48=>98 | 51=>134 | 52=>133 | 53=>136 | 54=>135 | 55=>204 | 59=>167 | 60=>168 | 63=>207 | 64=>210 | 67=>94 | 68=>143 | 69=>67 | 70=>52 | 71=>54 | 72=>55 | 73=>116 | 74=>63 | 75=>64 | 76=>65 | 77=>66 | 80=>68 | 81=>120 | 83=>81 | 84=>115 | 100=>84 | 101=>49 | 102=>70 | 103=>39 | 104=>83 | 105=>205 | 106=>206 | 111=>166 | 114=>175 | 115=>196 | 116=>197 | 117=>198 | 118=>199 | 119=>211 | 122=>195 | 123=>200 | 124=>201 | 127=>85 | 131=>72 | 135=>100 | 137=>212 | 138=>213 | 139=>214 | 146=>208 | 151=>209 | 164=>103 | 165=>104 | 166=>179 | 171=>149 | 172=>150 | 173=>151 | 174=>152 | 182=>126 | 183=>127 | 188=>125 | 189=>128 | 190=>129 | 191=>131 | 192=>132 | 211=>176 | 212=>177 | 213=>178 | 218=>154 | 219=>155 | 220=>156 | 222=>158 | 224=>157 | 225=>159 | 228=>180 | 229=>181 | 231=>182 | 232=>202 | 233=>203 | 238=>216 | 239=>217 | 240=>218 | 241=>219 | 242=>220 | 243=>221 | 244=>222 | 245=>223 | 246=>224 | 247=>225 | 248=>226 | 249=>227 | n=>n,fun | 3=>4 | 4=>5 | 17=>0 | 18=>2 | 19=>3 | n=>n⟩
set_option maxRecDepth 100000 in
theorem Tryz.lays103:Go.Proofs.Lays.n103 Tryz.prog Tryz.lays103_ren:={
 mixed:=by kernel_rfl
 f103:=Tryz.func76.trans (congrArg some (by kernel_rfl))
 f206:=Tryz.func135.trans (congrArg some (by kernel_rfl))
 f210:=Tryz.func105.trans (congrArg some (by kernel_rfl))
 t3:=Tryz.underlying3
 a3:=Tryz.isAgg3
 z3:=Tryz.sizeOf3
 v3:=Tryz.zeroValue3
 t4:=Tryz.underlying4
 a4:=Tryz.isAgg4
 z4:=Tryz.sizeOf4
 v4:=Tryz.zeroValue4
 t9:=Tryz.underlying9
 a9:=Tryz.isAgg9
 z9:=Tryz.sizeOf9
 v9:=Tryz.zeroValue9
 t24:=Tryz.underlying110
 a24:=Tryz.isAgg110
 z24:=Tryz.sizeOf110
 v24:=Tryz.zeroValue110 }
end Go.Proofs
namespace Go.Proofs.YtbbmbnpebiakbaaGreatDoor
open Go.RowKit
set_option linter.unusedVariables false
def sg (c:Int):Int:=if 48<=c/\c<=57 then c - 48 else if 97<=c/\c<=102 then c - 87 else -1
theorem sg_nonneg (c:Int):0<=sg c ↔ (48<=c/\c<=57)\/(97<=c/\c<=102):=by unfold sg;split;omega;split;omega;omega
def okS (b:UInt8):Bool:=decide (0<=sg b.toNat)
theorem okS_iff (b:UInt8):okS b=true ↔ 0<=sg b.toNat:=by simp [okS]
def dgFw (l:List UInt8):Nat:=l.findIdx (fun b=>!okS b)
theorem fw_at (l:List UInt8) (k:Nat) (hk:k < l.length) (hp:∀j,(hj:j < k)->okS (l[j]'(by omega))=true) (hb:okS l[k]=false):dgFw l=k:=by
 unfold dgFw
 rw [List.findIdx_eq hk]
 exact ⟨by simp [hb],fun j hj=>by simpa using hp j hj⟩
theorem fw_all (l:List UInt8) (hp:∀j,(hj:j < l.length)->okS l[j]=true):dgFw l=l.length:=by
 unfold dgFw
 rw [List.findIdx_eq_length]
 intro x hx
 obtain ⟨j,hj,rfl⟩:=List.getElem_of_mem hx
 simpa using hp j hj
def dgPre:List UInt8:=[115,104,97,50,53,54,58]
def isDig (l:List UInt8):Bool:=decide (l.length=71) && (l.take 7 == dgPre) && (decide (dgFw (l.drop 7)=(l.drop 7).length))
theorem ex7 (s:ByteArray):(s.extract 0 7).toList=s.data.toList.take 7:=by
 rw [ByteArray.toList_eq,ByteArray.data_extract]
 simp
theorem dig_lead (l:List UInt8) (hl:l.length=71) (h7:l.take 7=dgPre):isDig l=decide (dgFw (l.drop 7)=(l.drop 7).length):=by
 unfold isDig;rw [hl,h7];rfl
theorem fw_drop_no (l:List UInt8) (k:Nat) (h7:7<=k) (hk:k < l.length) (hp:∀j,(hj:j < k)->7<=j->(hz:j < l.length)->okS l[j]=true) (hb:okS l[k]=false):decide (dgFw (l.drop 7)=(l.drop 7).length)=false:=by
 rw [fw_at (l.drop 7) (k - 7) (by simp;omega) (fun j hj=>by rw [List.getElem_drop];exact hp (7+j) (by omega) (by omega) _) (by
  rw [List.getElem_drop]
  rw [<-hb]
  congr 1
  congr 1
  omega)]
 simp
 omega
theorem fw_drop_yes (l:List UInt8) (hp:∀j,7<=j->(hz:j < l.length)->okS l[j]=true):decide (dgFw (l.drop 7)=(l.drop 7).length)=true:=by
 rw [fw_all (l.drop 7) (fun j hj=>by rw [List.getElem_drop];exact hp (7+j) (by omega) _)]
 simp
theorem dig_not (l:List UInt8) (h7:¬ l.take 7=dgPre):isDig l=false:=by
 unfold isDig
 rw [show (l.take 7 == dgPre)=false from by simpa using h7]
 simp
set_option maxHeartbeats 400000 in
theorem dgSign_any (c:Int) (w:World) (h0:0<=c) (h1:c<=255):Calls Tryz.prog 65 #[.int .u8 c] w fun e w'=>e=.returned (.int .i64 (sg c))/\w'=w:=by
 go_enter Tryz.func65,Tryz.ntmps65
 go_wp2
 all_goals go_ret
 all_goals refine ⟨ret_int ?_,rfl⟩
 all_goals (unfold sg;first | (rw [if_pos ⟨‹_›,‹_›⟩];done) | (rw [if_neg (by omega),if_pos (by omega)];omega) | (rw [if_neg (by omega),if_neg (by omega)]))
set_option maxHeartbeats 400000 in
theorem isSign_any (c:Int) (w:World):Calls Tryz.prog 106 #[.int .u8 c] w fun e w'=>e=.returned (.bool (decide (0<=sg c)))/\w'=w:=by
 go_enter Tryz.func106,Tryz.ntmps106
 go_wp2
 all_goals go_ret
 all_goals (refine ⟨ret_bool ?_,rfl⟩;rw [Bool.eq_iff_iff];simp [sg_nonneg];omega)
set_option maxHeartbeats 400000 in
theorem fw_any (s:ByteArray) (w:World) (hs:s.size<=maxLen) :
  Calls Tryz.prog 77 #[.string s] w fun e w'=>e=.returned (.int .i64 (dgFw s.data.toList))/\w'=w:=by
 unfold maxLen at hs
 go_enter Tryz.func77,Tryz.ntmps77
 go_wp2
 go_loop [6] (fun i=>∃k:Nat,k<=s.size/\i=.int .i64 k/\∀j,(hj:j < k)->(hz:j < s.data.toList.length)->okS s.data.toList[j]=true) (fun i=>s.size - (intOf i).toNat)
 case atStart=>exact ⟨0,Nat.zero_le _,rfl,fun j hj=>absurd hj (by omega)⟩
 case round =>
  obtain ⟨k,hk,rfl,hp⟩:=hrel
  have HP:Hid (∀j,(hj:j < k)->(hz:j < s.data.toList.length)->okS s.data.toList[j]=true):=hp
  clear hp
  by_cases hlt:k < s.size
  ·by_cases hb:0<=sg (s[k].toNat:Int)
   ·have hd:decide (0<=sg (s[k].toNat:Int))=true:=by simpa using hb
    go_wp2_with (go_at_call 106;refine (isSign_any _ _).mono ?_;rintro e w' ⟨rfl,rfl⟩)
    go_round
    case rel =>
     refine ⟨k+1,by omega,by go_num,fun j hj hz=>?_⟩
     by_cases hjk:j < k
     ·exact HP.out j hjk hz
     ·have e:j=k:=by omega
      subst e
      rw [okS_iff]
      exact hb
    case measure=>simp [intOf];omega
   ·have hd:decide (0<=sg (s[k].toNat:Int))=false:=by simpa using hb
    go_wp2_with (go_at_call 106;refine (isSign_any _ _).mono ?_;rintro e w' ⟨rfl,rfl⟩)
    go_ret
    refine ⟨ret_int ?_,rfl⟩
    rw [fw_at s.data.toList k (by simpa using hlt) (fun j hj=>HP.out j hj _) (by unfold okS;exact hd)]
  ·have hks:k=s.size:=by omega
   have HE:Hid (dgFw s.data.toList=s.size):=by
    show dgFw s.data.toList=s.size
    rw [fw_all s.data.toList (fun j hj=>HP.out j (by simp at hj;have:s.size=s.data.size:=rfl;omega) hj)]
    simp
   clear hks
   go_wp2
   go_ret
   exact ⟨ret_int (by rw [HE.out]),rfl⟩
def cutP (l:List UInt8):List UInt8:=Lib.trimPrefix l dgPre
def hasP (l:List UInt8):Bool:=Lib.hasPrefix l dgPre
theorem dgCut_any (s:ByteArray) (w:World):Calls Tryz.prog 76 #[.string s,.string ⟨#[115,104,97,50,53,54,58]⟩] w fun e w'=>e=.returned (.tuple #[.string ⟨(cutP s.data.toList).toArray⟩,.bool (hasP s.data.toList)])/\w'=w :=
 Any.strings_CutPrefix Tryz.lays103 s _ w
theorem fw_list (l:List UInt8) (w:World) (hs:l.length<=maxLen) :
  Calls Tryz.prog 77 #[.string ⟨l.toArray⟩] w fun e w'=>e=.returned (.int .i64 (dgFw l))/\w'=w :=
 fw_any ⟨l.toArray⟩ w (by simpa [ByteArray.size] using hs)
def dgChk (l:List UInt8):Bool:=hasP l && (decide ((cutP l).length=64) && decide (dgFw (cutP l)=(cutP l).length))
set_option maxHeartbeats 400000 in
theorem dgCheck_any (s:ByteArray) (w:World) :
  Calls Tryz.prog 53 #[.string s] w fun e w'=>e=.returned (.bool (dgChk s.data.toList))/\w'=w:=by
 by_cases hp:hasP s.data.toList=true
 ·by_cases hl:(cutP s.data.toList).length=64
  ·have hl':(((cutP s.data.toList).length:Int) == 64)=true:=by rw [hl];rfl
   have HE:Hid (dgChk s.data.toList=decide (dgFw (cutP s.data.toList)=(cutP s.data.toList).length)):=by
    show dgChk s.data.toList=_
    unfold dgChk;rw [hp,hl];rfl
   have hm:(cutP s.data.toList).length<=maxLen:=by unfold maxLen;omega
   clear hl
   go_enter Tryz.func53,Tryz.ntmps53
   go_wp2_with (first | (go_at_call 76;refine (dgCut_any _ _).mono ?_;rintro e w' ⟨rfl,rfl⟩) | (go_at_call 77;refine (fw_list _ _ hm).mono ?_;rintro e w' ⟨rfl,rfl⟩))
   go_ret
   refine ⟨ret_bool ?_,rfl⟩
   rw [HE.out,Bool.eq_iff_iff]
   simp;omega
  ·have hl':(((cutP s.data.toList).length:Int) == 64)=false:=by simp;omega
   have HE:Hid (dgChk s.data.toList=false):=by
    show dgChk s.data.toList=_
    unfold dgChk;rw [hp,decide_eq_false hl];rfl
   clear hl
   go_enter Tryz.func53,Tryz.ntmps53
   go_wp2_with (first | (go_at_call 76;refine (dgCut_any _ _).mono ?_;rintro e w' ⟨rfl,rfl⟩))
   go_ret
   exact ⟨ret_bool HE.out.symm,rfl⟩
 ·have hp':hasP s.data.toList=false:=by simpa using hp
  have HE:Hid (dgChk s.data.toList=false):=by
   show dgChk s.data.toList=_
   unfold dgChk;rw [hp'];rfl
  clear hp
  go_enter Tryz.func53,Tryz.ntmps53
  go_wp2_with (first | (go_at_call 76;refine (dgCut_any _ _).mono ?_;rintro e w' ⟨rfl,rfl⟩))
  go_ret
  exact ⟨ret_bool HE.out.symm,rfl⟩
set_option maxHeartbeats 400000 in
theorem isDigest_any (s:ByteArray) (w:World) (hs:s.size<=maxLen) :
  Calls Tryz.prog 43 #[.string s] w fun e w'=>e=.returned (.bool (isDig s.data.toList))/\w'=w:=by
 unfold maxLen at hs
 by_cases hl:s.size=71
 ·have hl':((s.size:Int) != 71)=false:=by simp;omega
  have h7:7<=s.size:=by omega
  by_cases hq:s.data.toList.take 7=dgPre
  ·have hq':(!(s.extract 0 7).toList == [115,104,97,50,53,54,58])=false:=by rw [ex7,hq];rfl
   have HE:Hid (isDig s.data.toList=decide (dgFw (s.data.toList.drop 7)=(s.data.toList.drop 7).length)):=dig_lead _ (by simpa using hl) hq
   clear hl hq
   go_enter Tryz.func43,Tryz.ntmps43
   go_wp2
   go_loop [3] (fun i=>∃k:Nat,7<=k/\k<=s.size/\i=.int .i64 k/\∀j,(hj:j < k)->7<=j->(hz:j < s.data.toList.length)->okS s.data.toList[j]=true) (fun i=>s.size - (intOf i).toNat)
   case atStart=>exact ⟨7,by omega,h7,rfl,fun j hj h7'=>absurd hj (by omega)⟩
   case round =>
    obtain ⟨k,hk7,hk,rfl,hp⟩:=hrel
    have HP:Hid (∀j,(hj:j < k)->7<=j->(hz:j < s.data.toList.length)->okS s.data.toList[j]=true):=hp
    clear hp
    by_cases hlt:k < s.size
    ·have hb256:(s[k].toNat:Int)<=255:=by have:=s[k].toNat_lt;omega
     by_cases hb:0<=sg (s[k].toNat:Int)
     ·go_wp2_with (go_at_call 65;refine (dgSign_any _ _ (by omega) (by omega)).mono ?_;rintro e w' ⟨rfl,rfl⟩)
      go_round
      case rel =>
       refine ⟨k+1,by omega,by omega,by go_num,fun j hj h7 hz=>?_⟩
       by_cases hjk:j < k
       ·exact HP.out j hjk h7 hz
       ·have e:j=k:=by omega
        subst e
        rw [okS_iff]
        exact hb
      case measure=>simp [intOf];omega
     ·have hbn:sg (s[k].toNat:Int) < 0:=by omega
      have hd:decide (0<=sg (s[k].toNat:Int))=false:=by simpa using hb
      have HF:Hid (isDig s.data.toList=false):=by
       show isDig s.data.toList=false
       rw [HE.out]
       exact fw_drop_no _ k hk7 (by simpa using hlt) HP.out hd
      clear hb hd
      go_wp2_with (go_at_call 65;refine (dgSign_any _ _ (by omega) (by omega)).mono ?_;rintro e w' ⟨rfl,rfl⟩)
      go_ret
      exact ⟨ret_bool HF.out.symm,rfl⟩
    ·have HF:Hid (isDig s.data.toList=true):=by
      show isDig s.data.toList=true
      rw [HE.out]
      exact fw_drop_yes _ (fun j h7 hz=>HP.out j (by simp at hz;have:s.size=s.data.size:=rfl;omega) h7 hz)
     go_wp2
     go_ret
     exact ⟨ret_bool HF.out.symm,rfl⟩
  ·have hq':(!(s.extract 0 7).toList == [115,104,97,50,53,54,58])=true:=by rw [ex7];simpa [dgPre] using hq
   have HE:Hid (isDig s.data.toList=false):=dig_not _ hq
   clear hl hq
   go_enter Tryz.func43,Tryz.ntmps43
   go_wp2
   go_ret
   exact ⟨ret_bool HE.out.symm,rfl⟩
 ·have hl':((s.size:Int) != 71)=true:=by simp;omega
  have HE:Hid (isDig s.data.toList=false):=by
   show isDig s.data.toList=_
   unfold isDig;rw [decide_eq_false (by simpa using hl)];rfl
  clear hl
  go_enter Tryz.func43,Tryz.ntmps43
  go_wp2
  go_ret
  exact ⟨ret_bool HE.out.symm,rfl⟩
theorem chk_isDig (l:List UInt8):dgChk l=isDig l:=by
 unfold dgChk isDig hasP cutP Lib.trimPrefix Lib.hasPrefix
 by_cases h:l.take 7=dgPre
 ·have hp:List.isPrefixOf dgPre l=true:=by
   rw [List.isPrefixOf_iff_prefix,<-h]
   exact List.take_prefix _ _
  have h7:7<=l.length:=by
   have:=congrArg List.length h
   simp [dgPre] at this
   omega
  simp only [hp,if_true]
  rw [show dgPre.length=7 from rfl,h]
  simp only [Bool.true_and,beq_self_eq_true,Bool.and_true]
  congr 1
  simp
  omega
 ·have hp:List.isPrefixOf dgPre l=false:=by
   rw [Bool.eq_false_iff]
   intro hp
   rw [List.isPrefixOf_iff_prefix] at hp
   apply h
   have:=List.prefix_iff_eq_take.1 hp
   rw [this]
   rfl
  rw [hp,show (l.take 7 == dgPre)=false from by simpa using h]
  simp
open Go.RowKit
set_option linter.unusedVariables false
set_option maxHeartbeats 400000 in
theorem rdigit_any (c:UInt8) (w:World):Calls Tryz.prog 63 #[.int .u8 (c.toNat:Int)] w fun e w'=>e=.returned (.bool (isD c))/\w'=w:=by
 go_enter Tryz.func63,Tryz.ntmps63
 go_wp2
 all_goals go_ret
 all_goals (refine ⟨ret_bool ?_,rfl⟩;rw [Bool.eq_iff_iff];unfold isD;simp;omega)
set_option maxHeartbeats 400000 in
theorem rpartByte_any (c:UInt8) (w:World):Calls Tryz.prog 144 #[.int .u8 (c.toNat:Int)] w fun e w'=>e=.returned (.bool (isP c))/\w'=w:=by
 go_enter Tryz.func144,Tryz.ntmps144
 go_wp2_with (go_at_call 63;refine (rdigit_any _ _).mono ?_;rintro e w' ⟨rfl,rfl⟩)
 all_goals go_ret
 all_goals (refine ⟨ret_bool ?_,rfl⟩;rw [Bool.eq_iff_iff];unfold isP;simp_all;try omega)
set_option maxHeartbeats 400000 in
theorem rdigits_any (s:ByteArray) (w:World) (hs:s.size < 2 ^ 62) :
  Calls Tryz.prog 132 #[.string s] w fun e w'=>e=.returned (.bool (s.data.toList.all isD))/\w'=w:=by
 obtain ⟨R,hR⟩:∃R,R=s.data.toList.all isD:=⟨_,rfl⟩
 have HR:Hid (R=s.data.toList.all isD):=hR
 rw [<-hR]
 clear hR
 go_enter Tryz.func132,Tryz.ntmps132
 go_wp2
 go_loop [3] (fun i=>∃k:Nat,k<=s.size/\i=.int .i64 k/\∀j,(hj:j < s.size)->j < k->isD s[j]=true) (fun i=>s.size - (intOf i).toNat)
 case atStart=>exact ⟨0,Nat.zero_le _,rfl,fun j hj h=>absurd h (by omega)⟩
 case round =>
  obtain ⟨k,hk,rfl,hp⟩:=hrel
  have HP:Hid (∀j,(hj:j < s.size)->j < k->isD s[j]=true):=hp
  clear hp
  by_cases hlt:k < s.size
  ·cases hd:isD s[k] with
   | true =>
    go_wp2_with (go_at_call 63;refine (rdigit_any _ _).mono ?_;rintro e w' ⟨rfl,rfl⟩)
    go_round
    case rel =>
     refine ⟨k+1,by omega,by go_num,fun j hj hjk=>?_⟩
     by_cases hjk':j < k
     ·exact HP.out j hj hjk'
     ·have e:j=k:=by omega
      subst e
      exact hd
    case measure=>simp [intOf];omega
   | false =>
    have HN:Hid (R=false):=by
     show R=false
     rw [HR.out,List.all_eq_false]
     exact ⟨s[k],List.mem_of_getElem? (get_data s k hlt),by simp [hd]⟩
    go_wp2_with (go_at_call 63;refine (rdigit_any _ _).mono ?_;rintro e w' ⟨rfl,rfl⟩)
    go_ret
    exact ⟨ret_bool HN.out.symm,rfl⟩
  ·have HN:Hid (R=true):=by
    show R=true
    rw [HR.out,List.all_eq_true]
    intro c hc
    obtain ⟨j,hj,rfl⟩:=List.getElem_of_mem hc
    exact HP.out j (by simpa using hj) (by simp at hj;have:s.size=s.data.size:=rfl;omega)
   clear hk
   go_wp2
   go_ret
   exact ⟨ret_bool HN.out.symm,rfl⟩
end Go.Proofs.YtbbmbnpebiakbaaGreatDoor
