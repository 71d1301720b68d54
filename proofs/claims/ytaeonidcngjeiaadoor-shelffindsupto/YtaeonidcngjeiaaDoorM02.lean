import Derived.Test.YtaeonidcngjeiaaDoorM01
import Derived.Below
import Derived.Lib.ConvBytes
import Derived.Deep.RegionHeld3
import Derived.Carry
import Derived.OwnWalk
import Derived.Laws.AppendOwn
import Derived.Deep.AppendLies
import Derived.Deep.OwnRows
import Derived.Shelf.Strings.Prefix
import Derived.Test.YtaeonidcngjeiaaDoorProg
namespace Go.Proofs.YtaeonidcngjeiaaDoor
open Go.RowKit
set_option linter.unusedVariables false
theorem gb_below {w w':World} (h:w.grownBy w' none):Below w.heap.size w w':=⟨h.os,h.tape,h.output,h.size,fun k hk=>h.block k hk (by simp)⟩
theorem gb_undrew {w w':World} {r:Option Nat} (h:w.drew.grownBy w' r):w.grownBy w' r:=⟨h.os,h.tape,h.output,h.size,h.block⟩
theorem gb_alloc {w w':World} (h:w.grownBy w' none) (o:Obj):w.grownBy (w'.alloc o) none :=
 ⟨h.os,h.tape,h.output,by have:=h.size;simp;omega,fun k hk hn=>by rw [Lib.alloc_old _ _ _ (Nat.lt_of_lt_of_le hk h.size)];exact h.block k hk hn⟩
theorem gb_bytes (w:World) (e:TypeId) (s:ByteArray):w.grownBy (Lib.bytesWorld w e s) none :=
 ⟨rfl,rfl,rfl,by rw [Lib.bytesWorld_size];omega,fun k hk _=>Lib.bytesWorld_at_old w e s k hk⟩
theorem gb_weak {w w':World} (h:w.grownBy w' none) (r:Option Nat):w.grownBy w' r:=⟨h.os,h.tape,h.output,h.size,fun k hk _=>h.block k hk (by simp)⟩
set_option maxHeartbeats 400000 in
theorem isDigits_any (s:ByteArray) (w:World) (hs:s.size < 2 ^ 62) :
  Calls Tryd.prog 57 #[.string s] w fun e w'=>e=.returned (.bool (numT s.data.toList))/\w.grownBy w' none:=by
 have kc:=fun (w:World)=>Lib.run_convert_string_bytes (P:=Tryd.prog) w 9 127 5 s Tryd.underlying9 Tryd.underlying127 Tryd.underlying5
 obtain ⟨W,hW⟩:∃W,Lib.bytesWorld w 5 s=W:=⟨_,rfl⟩
 have HC:Hid (∀j,(hj:j < s.size)->W.cell? ⟨w.heap.size,j,none⟩=some (.int .u8 (s[j].toNat:Int))):=by
  show ∀j,(hj:j < s.size)->W.cell? ⟨w.heap.size,j,none⟩=some (.int .u8 (s[j].toNat:Int))
  intro j hj
  rw [<-hW,Lib.bytesWorld_cell w _ s j hj]
  have:s.data.toList.getD j 0=s[j]:=by
   rw [List.getD_eq_getElem?_getD,get_data s j hj];rfl
  rw [this]
 have HG:Hid (w.grownBy W none):=by show w.grownBy W none;rw [<-hW];exact gb_bytes w _ s
 have kw:=kc w
 rw [hW] at kw
 clear kc hW
 go_enter Tryd.func57,Tryd.ntmps57
 go_wp2
 go_loop [8] (fun i=>∃k:Nat,k<=s.size/\i=.int .i64 k/\∀j,(hj:j < s.size)->j < k->isD s[j]=true) (fun i=>s.size - (intOf i).toNat)
 case atStart=>exact ⟨0,Nat.zero_le _,rfl,fun j hj h=>absurd h (by omega)⟩
 case round =>
  obtain ⟨k,hk,rfl,hp⟩:=hrel
  have HP:Hid (∀j,(hj:j < s.size)->j < k->isD s[j]=true):=hp
  clear hp
  by_cases hlt:k < s.size
  ·have ck:=HC.out k hlt
   cases hd:isD s[k] with
   | true =>
    go_wp2_with (go_at_call 69;refine (isDigit_any _ _).mono ?_;rintro e w' ⟨rfl,rfl⟩)
    go_round
    case rel =>
     refine ⟨k+1,by omega,by go_num,fun j hj hjk=>?_⟩
     by_cases hjk':j < k
     ·exact HP.out j hj hjk'
     ·have e:j=k:=by omega
      subst e
      exact hd
    case measure=>simp [intOf];omega
   | false =>
    have HN:Hid (numT s.data.toList=false):=by
     show numT s.data.toList=false
     unfold numT
     have:s.data.toList.all isD=false:=by
      rw [List.all_eq_false]
      exact ⟨s[k],List.mem_of_getElem? (get_data s k hlt),by simp [hd]⟩
     rw [this,Bool.and_false]
    go_wp2_with (go_at_call 69;refine (isDigit_any _ _).mono ?_;rintro e w' ⟨rfl,rfl⟩)
    go_ret
    exact ⟨ret_bool HN.out.symm,HG.out⟩
  ·have hks:k=s.size:=by omega
   have HA:Hid (s.data.toList.all isD=true):=by
    show s.data.toList.all isD=true
    rw [List.all_eq_true]
    intro c hc
    obtain ⟨j,hj,rfl⟩:=List.getElem_of_mem hc
    exact HP.out j (by simpa using hj) (by simp at hj;have:s.size=s.data.size:=rfl;omega)
   clear hks hk
   go_wp2
   go_ret
   refine ⟨ret_bool ?_,HG.out⟩
   unfold numT
   rw [Lib.toList_data,HA.out,Bool.and_true]
theorem run_pre (s:ByteArray) (k:Nat) (hk:k<=s.size) (w:World) :
  (Instr.slice 9 (.string s) none (some (.int .i64 (k:Int))) none).run Tryd.prog w=.ok (.string ⟨(s.data.toList.take k).toArray⟩) w:=by
 have h5:(k:Int)<=(s.size:Int):=by omega
 have e:s.extract 0 k=⟨(s.data.toList.take k).toArray⟩:=by
  apply ByteArray.ext
  rw [ByteArray.data_extract]
  apply Array.ext'
  simp
 rw [<-e]
 simp [go_sem,Tryd.underlying9,h5]
theorem run_suf (s:ByteArray) (k:Nat) (hk:k<=s.size) (w:World) :
  (Instr.slice 9 (.string s) (some (.int .i64 (k:Int))) none none).run Tryd.prog w=.ok (.string ⟨(s.data.toList.drop k).toArray⟩) w:=by
 have h1:(0:Int)<=(k:Int):=by omega
 have h5:(k:Int)<=(s.size:Int):=by omega
 have e:s.extract k s.size=⟨(s.data.toList.drop k).toArray⟩:=by
  apply ByteArray.ext
  rw [ByteArray.data_extract]
  apply Array.ext'
  simp
  exact List.take_of_length_le (by simp)
 rw [<-e]
 simp [go_sem,Tryd.underlying9,h1,h5]
open Go.RowKit
set_option linter.unusedVariables false
def St (A:Nat) (a1 a2 a3:Int) (a4 a5:ByteArray) (w:World):Prop:=w.cell? ⟨A,0,none⟩=some (.int .i64 a1)/\w.cell? ⟨A,1,none⟩=some (.int .i64 a2)/\w.cell? ⟨A,2,none⟩=some (.int .i64 a3)/\w.cell? ⟨A,3,none⟩=some (.string a4)/\w.cell? ⟨A,4,none⟩=some (.string a5)
theorem St.grow {A:Nat} {a1 a2 a3:Int} {a4 a5:ByteArray} {w w':World} (h:St A a1 a2 a3 a4 a5 w) (hg:w.grownBy w' none):St A a1 a2 a3 a4 a5 w' :=
 ⟨hg.cell h.1 (by simp),hg.cell h.2.1 (by simp),hg.cell h.2.2.1 (by simp),hg.cell h.2.2.2.1 (by simp),hg.cell h.2.2.2.2 (by simp)⟩
theorem st_row {A t:Nat} {a1 a2 a3:Int} {a4 a5:ByteArray} {w:World} (h:w.heap[A]?=some (.cells #[.int .i64 a1,.int .i64 a2,.int .i64 a3,.string a4,.string a5] t (0,0))):St A a1 a2 a3 a4 a5 w :=
 ⟨by rw [Lib.cell_of_heap h];rfl,by rw [Lib.cell_of_heap h];rfl,by rw [Lib.cell_of_heap h];rfl,by rw [Lib.cell_of_heap h];rfl,by rw [Lib.cell_of_heap h];rfl⟩
open Go.RowKit
set_option linter.unusedVariables false
structure Nd where
 n:ByteArray
 r:ByteArray
def ndC (x:Nd):List Value:=[.string x.n,.string x.r]
structure Re where
 nm:ByteArray
 ve:ByteArray
 nd:List Nd
 da:ByteArray
def NdAt (w:World) (p:Addr) (x:Nd):Prop:=w.cell? p=some (.string x.n)/\w.cell? ⟨p.block,p.off+1,none⟩=some (.string x.r)
theorem NdAt.grow {w w':World} {p:Addr} {x:Nd} (h:NdAt w p x) (hg:w.grownBy w' none):NdAt w' p x:=⟨hg.cell h.1 (by simp),hg.cell h.2 (by simp)⟩
def NdS (w:World) (v:Value) (L:List Nd):Prop:=(v=.slice none 0 0/\L=[])\/∃a cap,v=.slice (some a) L.length cap/\L.length<=cap/\∀i (hi:i < L.length),NdAt w (a.add (i * 2)) L[i]
theorem NdS.grow {w w':World} {v:Value} {L:List Nd} (h:NdS w v L) (hg:w.grownBy w' none):NdS w' v L:=by
 rcases h with h | ⟨a,cap,h1,h2,h3⟩
 ·exact Or.inl h
 ·exact Or.inr ⟨a,cap,h1,h2,fun i hi=>(h3 i hi).grow hg⟩
theorem nds_slice {w:World} {v:Value} {L:List Nd} (h:NdS w v L):∃o c,v=.slice o L.length c:=by
 rcases h with ⟨rfl,rfl⟩ | ⟨a,cap,rfl,-⟩
 ·exact ⟨_,_,rfl⟩
 ·exact ⟨_,_,rfl⟩
def ReAt (w:World) (p:Addr) (x:Re):Prop:=w.cell? p=some (.string x.nm)/\w.cell? ⟨p.block,p.off+1,none⟩=some (.string x.ve)/\(∃v,w.cell? ⟨p.block,p.off+2,none⟩=some v/\NdS w v x.nd)/\w.cell? ⟨p.block,p.off+3,none⟩=some (.string x.da)
theorem ReAt.grow {w w':World} {p:Addr} {x:Re} (h:ReAt w p x) (hg:w.grownBy w' none):ReAt w' p x:=by
 obtain ⟨h0,h1,⟨v,h2,h3⟩,h4⟩:=h
 exact ⟨hg.cell h0 (by simp),hg.cell h1 (by simp),⟨v,hg.cell h2 (by simp),h3.grow hg⟩,hg.cell h4 (by simp)⟩
def ReS (w:World) (v:Value) (L:List Re):Prop:=(v=.slice none 0 0/\L=[])\/∃a cap,v=.slice (some a) L.length cap/\L.length<=cap/\∀i (hi:i < L.length),ReAt w (a.add (i * 4)) L[i]
theorem ReS.grow {w w':World} {v:Value} {L:List Re} (h:ReS w v L) (hg:w.grownBy w' none):ReS w' v L:=by
 rcases h with h | ⟨a,cap,h1,h2,h3⟩
 ·exact Or.inl h
 ·exact Or.inr ⟨a,cap,h1,h2,fun i hi=>(h3 i hi).grow hg⟩
theorem hcell_lt {w:World} {a:Addr} {v:Value} (h:w.cell? a=some v):a.block < w.heap.size:=by
 unfold World.cell? at h
 cases hb:w.heap[a.block]? with
 | none=>rw [hb] at h;simp at h
 | some o=>exact (Array.getElem?_eq_some_iff.1 hb).1
theorem hadd_off (a:Addr) (n k:Nat) (hk:0 < k):a.add (n+k)=⟨(a.add n).block,(a.add n).off+k,none⟩:=by
 unfold Addr.add
 rw [if_neg (by omega)]
 by_cases h:n=0
 ·rw [if_pos h,h];simp
 ·rw [if_neg h];simp [Nat.add_assoc]
theorem hbelow {B:Nat} {a w w':World} (h:Below B a w) (hB:B<=w.heap.size) (hg:w.grownBy w' none):Below B a w' :=
 ⟨hg.os.trans h.os,hg.tape.trans h.tape,hg.output.trans h.output,Nat.le_trans h.size hg.size,fun k hk=>(hg.block k (Nat.lt_of_lt_of_le hk hB) (by simp)).trans (h.block k hk)⟩
theorem bel_gb {w w':World} (h:Below w.heap.size w w'):w.grownBy w' none:=⟨h.os,h.tape,h.output,h.size,fun k hk _=>h.block k hk⟩
theorem infoNd:(Tryd.prog.info? 65).map (fun i=>(i.zero,i.size,i.bytes))=some (some (.agg #[.string ⟨#[]⟩,.string ⟨#[]⟩]),2,32):=by kernel_rfl
theorem ndc_one (s:Nd):∀u ∈ ndC s,u.oneCell'=true:=by
 intro u hu
 simp only [ndC,List.mem_cons,List.not_mem_nil,or_false] at hu
 rcases hu with rfl | rfl <;> rfl
theorem keepN {p:Addr} {s:Nd} {r:Option Nat} {w w':World} (hg:w.grownBy w' r) (hn:some p.block ≠ r) (h:w.cell? p=some (.string s.n)/\w.cell? ⟨p.block,p.off+1,none⟩=some (.string s.r)):w'.cell? p=some (.string s.n)/\w'.cell? ⟨p.block,p.off+1,none⟩=some (.string s.r):=⟨hg.cell h.1 hn,hg.cell h.2 hn⟩
def NeedsPost (L:List Nd) (w:World) (e:Ending) (w':World):Prop:=∃v,e=.returned v/\w'.ownsRow w.heap.size 65 2 v L.length (L.flatMap ndC)/\Below w.heap.size w w'
set_option maxRecDepth 100000 in
set_option maxHeartbeats 1600000 in
theorem needs_at (a:Addr) (cap:Nat) (L:List Nd) (w:World) (hL:L.length<=1048576) (hcap:L.length<=cap) (h:∀i (hi:i < L.length),NdAt w (a.add (i * 2)) L[i]) :
  Calls Tryd.prog 16 #[.slice (some a) L.length cap] w (NeedsPost L w):=by
 have HA:Hid (∀i (hi:i < L.length),NdAt w (a.add (i * 2)) L[i]):=h
 clear h
 have hinfo:=infoNd
 obtain ⟨i0,hi0,hii⟩:=Option.map_eq_some_iff.1 hinfo
 simp only [Prod.mk.injEq] at hii
 obtain ⟨hz0,hz1,hzb⟩:=hii
 clear hinfo
 go_enter Tryd.func16,Tryd.ntmps16
 go_wp2
 go_loopw [3,4] (fun vm vi wr=>∃i:Nat,vi=.int .i64 i/\i<=L.length/\wr.ownsRow w.heap.size 65 2 vm i ((L.take i).flatMap ndC)/\Below w.heap.size w wr) (fun _ vi _=>L.length - (intOf vi).toNat)
 case atStart=>exact ⟨0,rfl,Nat.zero_le _,World.ownsRow_nil _ _ _ _,Below.refl _ _⟩
 case round =>
  obtain ⟨i,rfl,hi,hown,hb⟩:=hrel
  by_cases hlt:i < L.length
  ·obtain ⟨s,hs⟩:∃s,L[i]=s:=⟨_,rfl⟩
   have HE:Hid (NdAt wr (a.add (i * 2)) s):=by show NdAt wr _ s;rw [<-hs];exact (HA.out i hlt).grow (bel_gb hb)
   obtain ⟨e0,e1⟩:=HE.out
   have HFAR:Hid (some (a.add (i * 2)).block ≠ u3.ownBlock):=by
    show _ ≠ _
    intro e
    have h1:=(hown.lt _ e.symm).1
    have h2:=(HA.out i hlt).1
    have h3:(a.add (i * 2)).block < w.heap.size:=hcell_lt h2
    omega
   have HTK:Hid ((L.take (i+1)).flatMap ndC=(L.take i).flatMap ndC++ndC s):=by
    show _=_
    rw [List.take_succ_eq_append_getElem hlt,List.flatMap_append,hs];simp
   have hzz:=hb.size
   go_wp2
   go_region_held3 (fun w'=>w'.cell? (a.add (i * 2))=some (.string s.n)/\w'.cell? ⟨(a.add (i * 2)).block,(a.add (i * 2)).off+1,none⟩=some (.string s.r)) ((first | exact keepN (by assumption) (by first | exact HFAR.out | simp) (by assumption) | go_keep)) (first | (refine step_append_lies _ (by rfl) _ _ _ (by rfl) w.heap.size 65 i0 _ 2 32 Tryd.underlying27 hi0 hz0 hz1 hzb (by rfl) (by decide) u3 i ((L.take i).flatMap ndC) (by rfl) (hown.drew.alloc _) _ 1 1 (ndC s) (by rfl) (by rfl) (World.news_of_block (heap_alloc_new _ _)) (ndc_one s) (by omega) (by unfold maxLen;omega) (by omega) (by simp;omega) _ rfl ?_;intro g cap1 w3 hown3 hgrow hat hlt3))
   have hb2:Below w.heap.size w wr.drew:=hbelow hb hzz ⟨rfl,rfl,rfl,Nat.le_refl _,fun _ _ _=>rfl⟩
   have HB3:Hid (Below w.heap.size w w3):=(hb2.alloc hzz _).grown hgrow (by simp;omega) (fun q hq=>(hown.lt q hq).1)
   have HO3:Hid (w3.ownsRow w.heap.size 65 2 (.slice (some ⟨g,0,none⟩) (i+1) cap1) (i+1) ((L.take (i+1)).flatMap ndC)):=by show World.ownsRow _ _ _ _ _ _ _;rw [HTK.out];exact hown3
   clear hown3 hgrow hat hb2 hown hb hlt3 e0 e1 hs
   go_wp2
   go_roundw
   case rel=>exact ⟨i+1,by go_num,by omega,HO3.out,HB3.out⟩
   case measure=>simp [intOf];omega
  ·have hil:i=L.length:=by omega
   have HO:Hid (wr.ownsRow w.heap.size 65 2 u3 L.length (L.flatMap ndC)):=by
    show World.ownsRow _ _ _ _ _ _ _
    rw [hil,List.take_length] at hown
    exact hown
   have HB:Hid (Below w.heap.size w wr):=hb
   clear hown hb hil hi
   go_wp2
   refine bodyPost_ret (results_tmp (t:=2) rfl _ _ _) rfl ⟨u3,rfl,HO.out,HB.out⟩
set_option maxHeartbeats 400000 in
theorem needs_nil (w:World):Calls Tryd.prog 16 #[.slice none 0 0] w (NeedsPost [] w):=by
 go_enter Tryd.func16,Tryd.ntmps16
 go_wp2
 go_loopw [3,4] (fun vm vi wr=>vi=.int .i64 0/\vm=.slice none 0 0/\Below w.heap.size w wr) (fun _ vi _=>0)
 case atStart=>exact ⟨rfl,rfl,Below.refl _ _⟩
 case round =>
  obtain ⟨rfl,rfl,hb⟩:=hrel
  have HB:Hid (Below w.heap.size w wr):=hb
  clear hb
  go_wp2
  refine bodyPost_ret (results_tmp (t:=2) rfl _ _ _) rfl ⟨_,rfl,World.ownsRow_nil _ _ _ _,HB.out⟩
theorem nd_get (l:List Nd):∀(i:Nat) (hi:i < l.length) (k:Nat) (u:Value),(ndC l[i])[k]?=some u->(l.flatMap ndC)[i * 2+k]?=some u:=by
 induction l with
 | nil=>intro i hi;simp at hi
 | cons t l ih =>
  intro i hi k u h
  rw [List.flatMap_cons]
  have hl:(ndC t).length=2:=rfl
  cases i with
  | zero =>
   simp only [List.getElem_cons_zero] at h
   have hk:k < (ndC t).length:=(List.getElem?_eq_some_iff.1 h).1
   rw [Nat.zero_mul,Nat.zero_add,List.getElem?_append_left hk]
   exact h
  | succ i =>
   simp only [List.getElem_cons_succ] at h
   rw [List.getElem?_append_right (by rw [hl];omega),hl,show (i+1) * 2+k - 2=i * 2+k by omega]
   exact ih i (by simpa using hi) k u h
theorem nds_own {w:World} {base:Nat} {v:Value} {L:List Nd} (h:w.ownsRow base 65 2 v L.length (L.flatMap ndC)):NdS w v L:=by
 rcases h.2 with ⟨h1,h2⟩ | ⟨g,cap,cur,hv,hb,hc,h3,h4,h5,h6⟩
 ·exact Or.inl ⟨h1,List.length_eq_zero_iff.1 h2⟩
 ·refine Or.inr ⟨⟨g,0,none⟩,cap,hv,h3,fun i hi=>?_⟩
  have h':=h
  rw [hv] at h'
  have k0:=h'.cells (g:=g) rfl (i * 2+0) _ (nd_get L i hi 0 _ rfl)
  have k1:=h'.cells (g:=g) rfl (i * 2+1) _ (nd_get L i hi 1 _ rfl)
  refine ⟨?_,?_⟩
  ·simpa using k0
  ·rw [hadd_off _ _ 1 (by omega)] at k1
   simpa using k1
open Go.RowKit
set_option linter.unusedVariables false
def NdFar (v:Value) (b:Option Nat):Prop:=∀a n c,v=.slice (some a) n c->0 < n->some a.block ≠ b
theorem NdS.far {w w':World} {v:Value} {L:List Nd} {b:Option Nat} (h:NdS w v L) (hg:w.grownBy w' b) (hf:NdFar v b):NdS w' v L:=by
 rcases h with h | ⟨a,cap,rfl,h2,h3⟩
 ·exact Or.inl h
 ·refine Or.inr ⟨a,cap,rfl,h2,fun i hi=>?_⟩
  have hb:=hf a _ _ rfl (by omega)
  have e:∀k,(a.add k).block=a.block:=fun k=>by unfold Addr.add;split <;> simp
  obtain ⟨k0,k1⟩:=h3 i hi
  exact ⟨hg.cell k0 (by rw [e];exact hb),hg.cell k1 (by show some (a.add (i * 2)).block ≠ b;rw [e];exact hb)⟩
theorem nds_lt {w:World} {a:Addr} {n c:Nat} {L:List Nd} (h:NdS w (.slice (some a) n c) L) (hn:0 < n):a.block < w.heap.size:=by
 rcases h with ⟨h,-⟩ | ⟨a',cap,h1,h2,h3⟩
 ·cases h
 ·cases h1
  have:=hcell_lt (h3 0 (by omega)).1
  have e:(a.add (0 * 2)).block=a.block:=by unfold Addr.add;split <;> simp
  rw [e] at this
  exact this
theorem cNeedsN (v:Value) (L:List Nd) (w:World) (h:NdS w v L) (hL:L.length<=1048576) :
  Calls Tryd.prog 16 #[v] w fun e w'=>∃o c,e=.returned (.slice o L.length c)/\NdS w' (.slice o L.length c) L/\(∀a n k,Value.slice o L.length c=.slice (some a) n k->0 < n->w.heap.size<=a.block)/\w.grownBy w' none:=by
 have key:∀e w',NeedsPost L w e w'->∃o c,e=.returned (.slice o L.length c)/\NdS w' (.slice o L.length c) L/\(∀a n k,Value.slice o L.length c=.slice (some a) n k->0 < n->w.heap.size<=a.block)/\w.grownBy w' none:=by
  rintro e w' ⟨v,rfl,ho,hb⟩
  obtain ⟨o,c,rfl⟩:=nds_slice (nds_own ho)
  refine ⟨o,c,rfl,nds_own ho,fun a n k e hn=>?_,bel_gb hb⟩
  rw [e] at ho
  exact (ho.lt a.block rfl).1
 rcases h with ⟨rfl,rfl⟩ | ⟨a,cap,rfl,h2,h3⟩
 ·exact (needs_nil w).mono key
 ·exact (needs_at a cap L w hL h2 h3).mono key
def reC (x:Re) (v:Value):List Value:=[.string x.nm,.string x.ve,v,.string x.da]
def reCs (L:List Re) (vs:List Value):List Value:=(List.zipWith reC L vs).flatten
theorem reCs_snoc (L:List Re) (vs:List Value) (x:Re) (v:Value) (h:L.length=vs.length):reCs (L++[x]) (vs++[v])=reCs L vs++reC x v:=by
 unfold reCs
 rw [List.zipWith_append h]
 simp
theorem re_get:∀(L:List Re) (vs:List Value) (h:L.length=vs.length) (i:Nat) (hi:i < L.length) (k:Nat) (u:Value),(reC L[i] (vs[i]'(by omega)))[k]?=some u->(reCs L vs)[i * 4+k]?=some u
 | [],vs,h,i,hi,k,u,hu=>by simp at hi
 | x :: L,[],h,i,hi,k,u,hu=>by simp at h
 | x :: L,v :: vs,h,i,hi,k,u,hu=>by
  have e:reCs (x :: L) (v :: vs)=reC x v++reCs L vs:=rfl
  have hl:(reC x v).length=4:=rfl
  rw [e]
  cases i with
  | zero =>
   simp only [List.getElem_cons_zero] at hu
   have hk:k < (reC x v).length:=(List.getElem?_eq_some_iff.1 hu).1
   rw [Nat.zero_mul,Nat.zero_add,List.getElem?_append_left hk]
   exact hu
  | succ i =>
   simp only [List.getElem_cons_succ] at hu
   rw [List.getElem?_append_right (by rw [hl];omega),hl,show (i+1) * 4+k - 4=i * 4+k by omega]
   exact re_get L vs (by simpa using h) i (by simpa using hi) k u hu
theorem infoRe:(Tryd.prog.info? 29).map (fun i=>(i.zero,i.size,i.bytes))=some (some (.agg #[.string ⟨#[]⟩,.string ⟨#[]⟩,.slice none 0 0,.string ⟨#[]⟩]),4,72):=by kernel_rfl
theorem rec_one (s:Re) (v:Value) (h:v.oneCell'=true):∀u ∈ reC s v,u.oneCell'=true:=by
 intro u hu
 simp only [reC,List.mem_cons,List.not_mem_nil,or_false] at hu
 rcases hu with rfl | rfl | rfl | rfl
 ·rfl
 ·rfl
 ·exact h
 ·rfl
theorem keepR {p:Addr} {s:Re} {v:Value} {r:Option Nat} {w w':World} (hg:w.grownBy w' r) (hn:some p.block ≠ r) (h:w.cell? p=some (.string s.nm)/\w.cell? ⟨p.block,p.off+1,none⟩=some (.string s.ve)/\w.cell? ⟨p.block,p.off+2,none⟩=some v/\w.cell? ⟨p.block,p.off+3,none⟩=some (.string s.da)):w'.cell? p=some (.string s.nm)/\w'.cell? ⟨p.block,p.off+1,none⟩=some (.string s.ve)/\w'.cell? ⟨p.block,p.off+2,none⟩=some v/\w'.cell? ⟨p.block,p.off+3,none⟩=some (.string s.da) :=
 ⟨hg.cell h.1 hn,hg.cell h.2.1 hn,hg.cell h.2.2.1 hn,hg.cell h.2.2.2 hn⟩
def RRow (L:List Re) (w:World) (base:Nat) (vm:Value) (i:Nat):Prop:=∃vs:List Value,∃hl:vs.length=i,w.ownsRow base 29 4 vm i (reCs (L.take i) vs)/\∀j (hj:j < i) (hL:j < L.length),NdS w (vs[j]'(by omega)) L[j].nd/\NdFar (vs[j]'(by omega)) vm.ownBlock
set_option maxRecDepth 100000 in
set_option maxHeartbeats 3200000 in
theorem releases_at (a:Addr) (cap:Nat) (L:List Re) (w:World) (hL:L.length<=1048576) (hcap:L.length<=cap) (hN:∀x ∈ L,x.nd.length<=1048576) (h:∀i (hi:i < L.length),ReAt w (a.add (i * 4)) L[i]) :
  Calls Tryd.prog 5 #[.slice (some a) L.length cap] w fun e w'=>∃v,e=.returned v/\RRow L w' w.heap.size v L.length/\Below w.heap.size w w':=by
 have HA:Hid (∀i (hi:i < L.length),ReAt w (a.add (i * 4)) L[i]):=h
 have HN:Hid (∀x ∈ L,x.nd.length<=1048576):=hN
 clear h hN
 have hinfo:=infoRe
 obtain ⟨i0,hi0,hii⟩:=Option.map_eq_some_iff.1 hinfo
 simp only [Prod.mk.injEq] at hii
 obtain ⟨hz0,hz1,hzb⟩:=hii
 clear hinfo
 go_enter Tryd.func5,Tryd.ntmps5
 go_wp2
 go_loopw [3,4] (fun vm vi wr=>∃i:Nat,vi=.int .i64 i/\i<=L.length/\RRow L wr w.heap.size vm i/\Below w.heap.size w wr) (fun _ vi _=>L.length - (intOf vi).toNat)
 case atStart=>exact ⟨0,rfl,Nat.zero_le _,⟨[],rfl,World.ownsRow_nil _ _ _ _,fun j hj=>by omega⟩,Below.refl _ _⟩
 case round =>
  obtain ⟨i,rfl,hi,⟨vs,hvs,hown,hin⟩,hb⟩:=hrel
  by_cases hlt:i < L.length
  ·obtain ⟨s,hs⟩:∃s,L[i]=s:=⟨_,rfl⟩
   have hat0:ReAt wr (a.add (i * 4)) s:=by rw [<-hs];exact (HA.out i hlt).grow (bel_gb hb)
   obtain ⟨e0,e1,⟨sv,e2,hsv⟩,e3⟩:=hat0
   have HFAR:Hid (some (a.add (i * 4)).block ≠ u3.ownBlock):=by
    show _ ≠ _
    intro e
    have h1:=(hown.lt _ e.symm).1
    have h2:=(HA.out i hlt).1
    have h3:(a.add (i * 4)).block < w.heap.size:=hcell_lt h2
    omega
   have CND:Hid (Calls Tryd.prog 16 #[sv] wr.drew fun e w'=>∃o c,e=.returned (.slice o s.nd.length c)/\NdS w' (.slice o s.nd.length c) s.nd/\(∀a n k,Value.slice o s.nd.length c=.slice (some a) n k->0 < n->wr.heap.size<=a.block)/\wr.drew.grownBy w' none):=cNeedsN sv s.nd wr.drew (hsv.grow ⟨rfl,rfl,rfl,Nat.le_refl _,fun _ _ _=>rfl⟩) (HN.out s (by rw [<-hs];exact List.getElem_mem _))
   have HIN:Hid (∀j (hj:j < i) (hL:j < L.length),NdS wr (vs[j]'(by omega)) L[j].nd/\NdFar (vs[j]'(by omega)) u3.ownBlock):=hin
   have HTK:Hid (∀v,reCs (L.take (i+1)) (vs++[v])=reCs (L.take i) vs++reC s v):=fun v=>by
    rw [List.take_succ_eq_append_getElem hlt,hs]
    exact reCs_snoc _ _ _ _ (by rw [List.length_take,hvs];omega)
   have HS:Hid (L[i]=s):=hs
   have hzz:=hb.size
   obtain ⟨nn,hnn⟩:∃nn,s.nd.length=nn:=⟨_,rfl⟩
   rw [hnn] at CND
   clear hin hs hsv
   go_wp2
   go_region_held3 (fun w'=>w'.cell? (a.add (i * 4))=some (.string s.nm)/\w'.cell? ⟨(a.add (i * 4)).block,(a.add (i * 4)).off+1,none⟩=some (.string s.ve)/\w'.cell? ⟨(a.add (i * 4)).block,(a.add (i * 4)).off+2,none⟩=some sv/\w'.cell? ⟨(a.add (i * 4)).block,(a.add (i * 4)).off+3,none⟩=some (.string s.da)) ((first | exact keepR (by assumption) (by first | exact HFAR.out | simp) (by assumption) | go_keep)) (first | (refine step_append_lies _ (by rfl) _ _ _ (by rfl) w.heap.size 29 i0 _ 4 72 Tryd.underlying25 hi0 hz0 hz1 hzb (by rfl) (by decide) u3 i (reCs (L.take i) vs) (by rfl) ((hown.kept (gb_undrew hg1) (by cases u3.ownBlock <;> simp)).alloc _) _ 1 1 (reC s (.slice o1 nn c1)) (by rfl) (by rfl) (World.news_of_block (heap_alloc_new _ _)) (rec_one s _ rfl) (by omega) (by unfold maxLen;omega) (by omega) (by have q1:=hg1.size;simp at q1 ⊢;omega) _ rfl ?_;intro g cap1 w3 hown3 hgrow hat hlt3) | (go_at_call 16;refine CND.out.mono ?_;rintro e w1 ⟨o1,c1,rfl,hn1,hf1,hg1⟩))
   have g1:wr.grownBy w1 none:=gb_undrew hg1
   have g2:wr.grownBy (w1.alloc (.cells #[.string s.nm,.string s.ve,.slice o1 nn c1,.string s.da] 29)) none:=gb_alloc g1 _
   have hz1':w.heap.size<=w1.heap.size:=Nat.le_trans hzz g1.size
   have HB3:Hid (Below w.heap.size w w3):=((hbelow hb hzz g1).alloc hz1' _).grown hgrow (by simp;omega) (fun q hq=>(hown.lt q hq).1)
   have hnew:NdS (w1.alloc (.cells #[.string s.nm,.string s.ve,.slice o1 nn c1,.string s.da] 29)) (.slice o1 nn c1) s.nd:=hn1.grow (gb_alloc (gb_refl w1 none) _)
   have hfn:NdFar (.slice o1 nn c1) u3.ownBlock:=fun a' n' k' e hn=>by
    have h1:=hf1 a' n' k' e hn
    intro h2
    have h3:=(hown.lt a'.block h2.symm).2
    omega
   have far2:∀v (M:List Nd),NdS (w1.alloc (.cells #[.string s.nm,.string s.ve,.slice o1 nn c1,.string s.da] 29)) v M->(∀a' n' k',v=.slice (some a') n' k'->0 < n'->a'.block < w1.heap.size)->NdFar v u3.ownBlock->NdFar v (some g):=fun v M h1 h2 h3 a' n' k' e hn=>by
    have h4:=h2 a' n' k' e hn
    rcases hat with h5 | h5
    ·rw [<-h5];exact h3 a' n' k' e hn
    ·intro h6
     injection h6 with h6
     rw [h5] at h6
     simp at h6
     omega
   have HR3:Hid (RRow L w3 w.heap.size (.slice (some ⟨g,0,none⟩) (i+1) cap1) (i+1)):=by
    refine ⟨vs++[.slice o1 nn c1],by simp [hvs],?_,fun j hj hLj=>?_⟩
    ·rw [HTK.out];exact hown3
    ·by_cases hji:j < i
     ·obtain ⟨k1,k2⟩:=HIN.out j hji hLj
      have ej:(vs++[Value.slice o1 nn c1])[j]'(by simp;omega)=vs[j]'(by omega):=List.getElem_append_left (by omega)
      rw [ej]
      refine ⟨(k1.grow g2).far hgrow k2,?_⟩
      refine far2 _ _ (k1.grow g2) (fun a' n' k' e hn=>?_) k2
      have:=nds_lt (by rw [<-e];exact k1) hn
      exact Nat.lt_of_lt_of_le this g1.size
     ·have hje:j=i:=by omega
      subst hje
      have ej:(vs++[Value.slice o1 nn c1])[j]'(by simp;omega)=.slice o1 nn c1:=by simp [hvs]
      rw [ej]
      have esj:L[j].nd=s.nd:=by rw [HS.out]
      rw [esj]
      exact ⟨hnew.far hgrow hfn,far2 _ _ hnew (fun a' n' k' e hn=>nds_lt (by rw [<-e];exact hn1) hn) hfn⟩
   clear hown3 hgrow hat hown hb hlt3 e0 e1 e2 e3 hn1 hf1 hg1 g1 g2 hnew hfn far2 hz1'
   go_wp2
   go_roundw
   case rel=>exact ⟨i+1,by go_num,by omega,HR3.out,HB3.out⟩
   case measure=>simp [intOf];omega
  ·have hil:i=L.length:=by omega
   subst hil
   have HO:Hid (RRow L wr w.heap.size u3 L.length):=⟨vs,hvs,hown,hin⟩
   have HB:Hid (Below w.heap.size w wr):=hb
   clear hown hb hi hin
   go_wp2
   refine bodyPost_ret (results_tmp (t:=2) rfl _ _ _) rfl ⟨u3,rfl,HO.out,HB.out⟩
end Go.Proofs.YtaeonidcngjeiaaDoor
namespace Go.Proofs
open Go.Shelf
def Tryd.lays99_ren:Go.Shelf.Ren:=⟨fun | 99=>87 | 206=>94 | n=>n,fun | 22=>57 | 23=>113 | 27=>61 | 28=>23 | 31=>104 | 34=>31 | 37=>127 | 40=>150 | 41=>121 | 42=>122 | 43=>44 | 46=>60 | 47=>59 | 51=>82 | 52=>81 | 53=>84 | 54=>83 | 55=>137 | 59=>85 | 60=>86 | 63=>141 | 64=>144 | 68=>105 | 69=>123 | 80=>151 | 81=>99 | 104=>53 | 105=>139 | 106=>140 | 111=>62 | 114=>138 | 115=>129 | 116=>130 | 117=>131 | 118=>132 | 119=>146 | 122=>128 | 123=>133 | 124=>134 | 127=>145 | 131=>79 | 137=>147 | 138=>148 | 139=>149 | 146=>142 | 151=>143 | 164=>170 | 182=>74 | 183=>75 | 218=>106 | 219=>107 | 220=>108 | 222=>110 | 228=>124 | 229=>125 | 238=>152 | 239=>153 | 240=>154 | 241=>155 | 242=>156 | 243=>157 | 244=>158 | 245=>159 | 246=>160 | 247=>161 | 248=>162 | 249=>163 | n=>n,fun | 1=>0 | 3=>1 | 4=>2 | n=>n⟩
set_option maxRecDepth 100000 in
theorem Tryd.lays99:Go.Proofs.Lays.n99 Tryd.prog Tryd.lays99_ren:={
 mixed:=by kernel_rfl
 f99:=Tryd.func87.trans (congrArg some (by kernel_rfl))
 f206:=Tryd.func94.trans (congrArg some (by kernel_rfl))
 t3:=Tryd.underlying3
 a3:=Tryd.isAgg3
 z3:=Tryd.sizeOf3
 v3:=Tryd.zeroValue3
 t4:=Tryd.underlying4
 a4:=Tryd.isAgg4
 z4:=Tryd.sizeOf4
 v4:=Tryd.zeroValue4
 t9:=Tryd.underlying9
 a9:=Tryd.isAgg9
 z9:=Tryd.sizeOf9
 v9:=Tryd.zeroValue9 }
end Go.Proofs
namespace Go.Proofs.YtaeonidcngjeiaaDoor
open Go.RowKit
set_option linter.unusedVariables false
set_option maxHeartbeats 400000 in
theorem isPartByte_any (c:UInt8) (w:World):Calls Tryd.prog 88 #[.int .u8 (c.toNat:Int)] w fun e w'=>e=.returned (.bool (isP c))/\w'=w:=by
 go_enter Tryd.func88,Tryd.ntmps88
 go_wp2_with (go_at_call 69;refine (isDigit_any _ _).mono ?_;rintro e w' ⟨rfl,rfl⟩)
 all_goals go_ret
 all_goals (refine ⟨ret_bool ?_,rfl⟩;rw [Bool.eq_iff_iff];unfold isP;simp_all;try omega)
def RS (b:Nat) (s:ByteArray) (i:Nat) (w:World):Prop:=∃t,w.heap[b]?=some (.cells #[.string s,.int .i64 (i:Int)] t (0,0))
theorem RS.c0 {b:Nat} {s:ByteArray} {i:Nat} {w:World} (h:RS b s i w):w.cell? ⟨b,0,none⟩=some (.string s):=by obtain ⟨t,h⟩:=h;rw [Lib.cell_of_heap h];rfl
theorem RS.c1 {b:Nat} {s:ByteArray} {i:Nat} {w:World} (h:RS b s i w):w.cell? ⟨b,1,none⟩=some (.int .i64 (i:Int)):=by obtain ⟨t,h⟩:=h;rw [Lib.cell_of_heap h];rfl
theorem RS.f1 {b:Nat} {s:ByteArray} {i:Nat} {w:World} (h:RS b s i w):w.frozen? ⟨b,1,none⟩=false:=by obtain ⟨t,h⟩:=h;exact Lib.frozen_of_heap h 1
theorem RS.drew {b:Nat} {s:ByteArray} {i:Nat} {w:World} (h:RS b s i w) (n:Nat):RS b s i (w.drewN n):=h
theorem RS.set {b:Nat} {s:ByteArray} {i:Nat} {w:World} (h:RS b s i w) (j:Nat):RS b s j (w.setCell ⟨b,1,none⟩ (.int .i64 (j:Int))):=by
 obtain ⟨t,h⟩:=h
 exact ⟨t,by simp [World.setCell,Array.getElem?_modify,h]⟩
theorem prefix_any (s p:ByteArray) (w:World) :
  Calls Tryd.prog 87 #[.string s,.string p] w fun e w'=>e=.returned (.bool (Lib.hasPrefix s.data.toList p.data.toList))/\w'=w:=Any.strings_HasPrefix Tryd.lays99 s p w
set_option maxHeartbeats 400000 in
theorem next_any (b:Nat) (s t:ByteArray) (i:Nat) (w:World) (hi:i<=s.size) (h:RS b s i w) :
  Calls Tryd.prog 74 #[.pointer (some ⟨b,0,none⟩),.string t] w fun e w'=>e=.returned (.bool (Lib.hasPrefix (s.data.toList.drop i) t.data.toList))/\∃n,w'=w.drewN n:=by
 have h0:=h.c0
 have h1:=h.c1
 obtain ⟨X,hX⟩:∃X:ByteArray,X=⟨(s.data.toList.drop i).toArray⟩:=⟨_,rfl⟩
 have sl:∀wx,(Instr.slice 9 (.string s) (some (.int .i64 (i:Int))) none none).run Tryd.prog wx=.ok (.string X) wx:=fun wx=>by rw [hX];exact run_suf s i hi wx
 obtain ⟨p,hp⟩:∃p,Lib.hasPrefix (s.data.toList.drop i) t.data.toList=p:=⟨_,rfl⟩
 have CP:Hid (∀w,Calls Tryd.prog 87 #[.string X,.string t] w fun e w'=>e=.returned (.bool p)/\w'=w):=fun w=>by
  rw [<-hp]
  have:=prefix_any X t w
  rw [hX] at this ⊢
  exact this
 rw [hp]
 clear h hX hp hi
 go_enter Tryd.func74,Tryd.ntmps74
 go_wp2
 go_quiet (first | (go_at_call 87;exact Calls.quiet_of_same (CP.out _)))
 go_wp2
 go_ret
 exact ⟨rfl,_,rfl⟩
set_option maxHeartbeats 400000 in
theorem take_any (b:Nat) (s t:ByteArray) (i:Nat) (w:World) (hi:i<=s.size) (h:RS b s i w) (hs:s.size < 2 ^ 62) (ht:t.size < 2 ^ 62) :
  Calls Tryd.prog 59 #[.pointer (some ⟨b,0,none⟩),.string t] w fun e w'=>e=.returned (.bool (Lib.hasPrefix (s.data.toList.drop i) t.data.toList))/\RS b s (if Lib.hasPrefix (s.data.toList.drop i) t.data.toList then i+t.size else i) w'/\w.grownBy w' (some b):=by
 obtain ⟨p,hp⟩:∃p,Lib.hasPrefix (s.data.toList.drop i) t.data.toList=p:=⟨_,rfl⟩
 have CN:Hid (Calls Tryd.prog 74 #[.pointer (some ⟨b,0,none⟩),.string t] w fun e w'=>e=.returned (.bool p)/\∃n,w'=w.drewN n):=by
  show Calls _ _ _ _ _
  rw [<-hp];exact next_any b s t i w hi h
 rw [hp]
 have HR:Hid (RS b s i w):=h
 have hw:IntKind.i64.wrap ((i:Int)+(t.size:Int))=((i+t.size:Nat):Int):=by rw [IntKind.wrap_i64];omega
 clear hp h hs ht hi
 cases p with
 | true =>
  go_enter Tryd.func59,Tryd.ntmps59
  go_wp2_with (go_at_call 74;refine CN.out.mono ?_)
  rintro e w1 ⟨rfl,n,hn⟩
  have HR1:Hid (RS b s i w1):=by show RS b s i w1;rw [hn];exact HR.out.drew n
  have HG1:Hid (w.grownBy w1 (some b)):=by show w.grownBy w1 (some b);rw [hn];exact gb_drew (gb_refl w _) n
  have d1:=HR1.out.c1
  have df:=HR1.out.f1
  clear hn
  go_wp2
  go_ret
  exact ⟨rfl,HR1.out.set (i+t.size),gb_set HG1.out _ _⟩
 | false =>
  go_enter Tryd.func59,Tryd.ntmps59
  go_wp2_with (go_at_call 74;refine CN.out.mono ?_)
  rintro e w1 ⟨rfl,n,hn⟩
  have HR1:Hid (RS b s i w1):=by show RS b s i w1;rw [hn];exact HR.out.drew n
  have HG1:Hid (w.grownBy w1 (some b)):=by show w.grownBy w1 (some b);rw [hn];exact gb_drew (gb_refl w _) n
  clear hn
  go_wp2
  go_ret
  exact ⟨rfl,HR1.out,HG1.out⟩
set_option maxHeartbeats 400000 in
theorem ended_any (b:Nat) (s:ByteArray) (i:Nat) (w:World) (h:RS b s i w) :
  Calls Tryd.prog 44 #[.pointer (some ⟨b,0,none⟩)] w fun e w'=>e=.returned (.bool (decide (i=s.size)))/\∃n,w'=w.drewN n:=by
 have h0:=h.c0
 have h1:=h.c1
 clear h
 by_cases hc:i=s.size
 ·have hd:((i:Int) == (s.size:Int))=true:=by simp;omega
  have HD:Hid (decide (i=s.size)=true):=decide_eq_true hc
  rw [HD.out]
  clear hc
  go_enter Tryd.func44,Tryd.ntmps44
  go_wp2
  go_quiet (fail)
  go_wp2
  go_ret
  exact ⟨rfl,_,rfl⟩
 ·have hd:((i:Int) == (s.size:Int))=false:=by simp;omega
  have HD:Hid (decide (i=s.size)=false):=decide_eq_false hc
  rw [HD.out]
  clear hc
  go_enter Tryd.func44,Tryd.ntmps44
  go_wp2
  go_quiet (fail)
  go_wp2
  go_ret
  exact ⟨rfl,_,rfl⟩
theorem prefix_one (l:List UInt8) (i:Nat) (c:UInt8):Lib.hasPrefix (l.drop i) [c]=decide (l[i]?=some c):=by
 have e:l[i]?=(l.drop i)[0]?:=by rw [List.getElem?_drop];rfl
 rw [e]
 cases l.drop i with
 | nil=>rfl
 | cons x r =>
  show (c == x && true)=decide (some x=some c)
  rw [Bool.and_true]
  by_cases h:x=c
  ·subst h;rw [decide_eq_true rfl];exact beq_self_eq_true x
  ·rw [decide_eq_false (fun e=>h (Option.some.inj e))]
   exact beq_eq_false_iff_ne.2 (fun e=>h e.symm)
theorem take_yes (b:Nat) (s:ByteArray) (i:Nat) (c:UInt8) (w:World) (hc:s.data.toList[i]?=some c) (h:RS b s i w) (hs:s.size < 2 ^ 62) :
  Calls Tryd.prog 59 #[.pointer (some ⟨b,0,none⟩),.string ⟨#[c]⟩] w fun e w'=>e=.returned (.bool true)/\RS b s (i+1) w'/\w.grownBy w' (some b):=by
 have hlt:i < s.size:=by have:=(List.getElem?_eq_some_iff.1 hc).1;simpa using this
 have:=take_any b s ⟨#[c]⟩ i w (Nat.le_of_lt hlt) h hs (by show 1 < _;decide)
 rw [show (ByteArray.mk #[c]).data.toList=[c] from rfl,prefix_one,decide_eq_true hc] at this
 exact this
theorem take_no (b:Nat) (s:ByteArray) (i:Nat) (c:UInt8) (w:World) (hi:i<=s.size) (hc:¬ s.data.toList[i]?=some c) (h:RS b s i w) (hs:s.size < 2 ^ 62) :
  Calls Tryd.prog 59 #[.pointer (some ⟨b,0,none⟩),.string ⟨#[c]⟩] w fun e w'=>e=.returned (.bool false)/\RS b s i w'/\w.grownBy w' (some b):=by
 have:=take_any b s ⟨#[c]⟩ i w hi h hs (by show 1 < _;decide)
 rw [show (ByteArray.mk #[c]).data.toList=[c] from rfl,prefix_one,decide_eq_false hc] at this
 exact this
end Go.Proofs.YtaeonidcngjeiaaDoor
