import Derived.Test.YtfplkhnclmidnaaGreatDoorProg
import Derived.Test.YtfplkhnclmidnaaGreatDoorM01
import Derived.WalkKit
import Derived.WalkSpells
import Derived.WalkLawsBesides
import Derived.Deep.QuietTactic
import Derived.BigQuiet
import Derived.Below
import Derived.Lib.ConvBytes
import Derived.Deep.RegionHeld3
import Derived.Carry
import Derived.OwnWalk
import Derived.Laws.AppendOwn
import Derived.Deep.AppendLies
import Derived.Deep.OwnRows
namespace Go.Proofs.YtfplkhnclmidnaaGreatDoor
open Go.RowKit
set_option linter.unusedVariables false
def Hid (p:Prop):Prop:=p
theorem Hid.out {p:Prop} (h:Hid p):p:=h
theorem ret_int {k:IntKind} {a b:Int} (h:a=b):Ending.returned (.int k a)=.returned (.int k b):=by rw [h]
theorem ret_bool {a b:Bool} (h:a=b):Ending.returned (.bool a)=.returned (.bool b):=by rw [h]
set_option maxHeartbeats 400000 in
theorem isDigit_any (c:UInt8) (w:World):Calls Tryz.prog 99 #[.int .u8 (c.toNat:Int)] w fun e w'=>e=.returned (.bool (isD c))/\w'=w:=by
 go_enter Tryz.func99,Tryz.ntmps99
 go_wp2
 all_goals go_ret
 all_goals (refine ⟨ret_bool ?_,rfl⟩;rw [Bool.eq_iff_iff];unfold isD;simp;omega)
theorem gb_refl (w:World) (r:Option Nat):w.grownBy w r:=⟨rfl,rfl,rfl,Nat.le_refl _,fun _ _ _=>rfl⟩
theorem gb_drew {w w':World} {r:Option Nat} (h:w.grownBy w' r) (n:Nat):w.grownBy (w'.drewN n) r:=⟨h.os,h.tape,h.output,h.size,h.block⟩
theorem gb_set {w w':World} {b:Nat} (h:w.grownBy w' (some b)) (o:Nat) (v:Value):w.grownBy (w'.setCell ⟨b,o,none⟩ v) (some b):=by
 refine ⟨h.os,h.tape,h.output,by simpa [World.setCell] using h.size,fun k hk hne=>?_⟩
 rw [<-h.block k hk hne]
 exact heap_setCell_other w' _ k v (fun e=>hne (by rw [e]))
theorem gb_trans {w w1 w2:World} {r:Option Nat} (h:w.grownBy w1 r) (h':w1.grownBy w2 r):w.grownBy w2 r :=
 ⟨h'.os.trans h.os,h'.tape.trans h.tape,h'.output.trans h.output,Nat.le_trans h.size h'.size,fun k hk hne=>(h'.block k (Nat.lt_of_lt_of_le hk h.size) hne).trans (h.block k hk hne)⟩
theorem get_data (s:ByteArray) (i:Nat) (h:i < s.size):s.data.toList[i]?=some s[i]:=by rw [List.getElem?_eq_getElem (by simpa using h)];rfl
theorem run_sub (s:ByteArray) (i j:Nat) (hi:i<=j) (hj:j<=s.size) (w:World) :
  (Instr.slice 9 (.string s) (some (.int .i64 (i:Int))) (some (.int .i64 (j:Int))) none).run Tryz.prog w=.ok (.string ⟨(subT s.data.toList i (j - i)).toArray⟩) w:=by
 have h1:(0:Int)<=(i:Int):=by omega
 have h4:(i:Int)<=(j:Int):=by omega
 have h5:(j:Int)<=(s.size:Int):=by omega
 have e:s.extract i j=⟨(subT s.data.toList i (j - i)).toArray⟩:=by
  apply ByteArray.ext
  rw [ByteArray.data_extract]
  apply Array.ext'
  unfold subT
  simp
 rw [<-e]
 simp [go_sem,Tryz.underlying9,h1,h4,h5]
open Go.RowKit
set_option linter.unusedVariables false
theorem gb_below {w w':World} (h:w.grownBy w' none):Below w.heap.size w w':=⟨h.os,h.tape,h.output,h.size,fun k hk=>h.block k hk (by simp)⟩
theorem gb_undrew {w w':World} {r:Option Nat} (h:w.drew.grownBy w' r):w.grownBy w' r:=⟨h.os,h.tape,h.output,h.size,h.block⟩
theorem gb_alloc {w w':World} (h:w.grownBy w' none) (o:Obj):w.grownBy (w'.alloc o) none :=
 ⟨h.os,h.tape,h.output,by have:=h.size;simp;omega,fun k hk hn=>by rw [Lib.alloc_old _ _ _ (Nat.lt_of_lt_of_le hk h.size)];exact h.block k hk hn⟩
theorem gb_bytes (w:World) (e:TypeId) (s:ByteArray):w.grownBy (Lib.bytesWorld w e s) none :=
 ⟨rfl,rfl,rfl,by rw [Lib.bytesWorld_size];omega,fun k hk _=>Lib.bytesWorld_at_old w e s k hk⟩
theorem gb_weak {w w':World} (h:w.grownBy w' none) (r:Option Nat):w.grownBy w' r:=⟨h.os,h.tape,h.output,h.size,fun k hk _=>h.block k hk (by simp)⟩
set_option maxHeartbeats 400000 in
theorem isDigits_any (s:ByteArray) (w:World) (hs:s.size < 2 ^ 62) :
  Calls Tryz.prog 104 #[.string s] w fun e w'=>e=.returned (.bool (numT s.data.toList))/\w.grownBy w' none:=by
 have kc:=fun (w:World)=>Lib.run_convert_string_bytes (P:=Tryz.prog) w 9 166 5 s Tryz.underlying9 Tryz.underlying166 Tryz.underlying5
 obtain ⟨W,hW⟩:∃W,Lib.bytesWorld w 5 s=W:=⟨_,rfl⟩
 have HC:Hid (∀j,(hj:j < s.size)->W.cell? ⟨w.heap.size,j,none⟩=some (.int .u8 (s[j].toNat:Int))):=by
  show ∀j,(hj:j < s.size)->W.cell? ⟨w.heap.size,j,none⟩=some (.int .u8 (s[j].toNat:Int))
  intro j hj
  rw [<-hW,Lib.bytesWorld_cell w _ s j hj]
  have:s.data.toList.getD j 0=s[j]:=by
   rw [List.getD_eq_getElem?_getD,get_data s j hj];rfl
  rw [this]
 have HG:Hid (w.grownBy W none):=by show w.grownBy W none;rw [<-hW];exact gb_bytes w _ s
 have kw:=kc w
 rw [hW] at kw
 clear kc hW
 go_enter Tryz.func104,Tryz.ntmps104
 go_wp2
 go_loop [8] (fun i=>∃k:Nat,k<=s.size/\i=.int .i64 k/\∀j,(hj:j < s.size)->j < k->isD s[j]=true) (fun i=>s.size - (intOf i).toNat)
 case atStart=>exact ⟨0,Nat.zero_le _,rfl,fun j hj h=>absurd h (by omega)⟩
 case round =>
  obtain ⟨k,hk,rfl,hp⟩:=hrel
  have HP:Hid (∀j,(hj:j < s.size)->j < k->isD s[j]=true):=hp
  clear hp
  by_cases hlt:k < s.size
  ·have ck:=HC.out k hlt
   cases hd:isD s[k] with
   | true =>
    go_wp2_with (go_at_call 99;refine (isDigit_any _ _).mono ?_;rintro e w' ⟨rfl,rfl⟩)
    go_round
    case rel =>
     refine ⟨k+1,by omega,by go_num,fun j hj hjk=>?_⟩
     by_cases hjk':j < k
     ·exact HP.out j hj hjk'
     ·have e:j=k:=by omega
      subst e
      exact hd
    case measure=>simp [intOf];omega
   | false =>
    have HN:Hid (numT s.data.toList=false):=by
     show numT s.data.toList=false
     unfold numT
     have:s.data.toList.all isD=false:=by
      rw [List.all_eq_false]
      exact ⟨s[k],List.mem_of_getElem? (get_data s k hlt),by simp [hd]⟩
     rw [this,Bool.and_false]
    go_wp2_with (go_at_call 99;refine (isDigit_any _ _).mono ?_;rintro e w' ⟨rfl,rfl⟩)
    go_ret
    exact ⟨ret_bool HN.out.symm,HG.out⟩
  ·have hks:k=s.size:=by omega
   have HA:Hid (s.data.toList.all isD=true):=by
    show s.data.toList.all isD=true
    rw [List.all_eq_true]
    intro c hc
    obtain ⟨j,hj,rfl⟩:=List.getElem_of_mem hc
    exact HP.out j (by simpa using hj) (by simp at hj;have:s.size=s.data.size:=rfl;omega)
   clear hks hk
   go_wp2
   go_ret
   refine ⟨ret_bool ?_,HG.out⟩
   unfold numT
   rw [Lib.toList_data,HA.out,Bool.and_true]
theorem run_pre (s:ByteArray) (k:Nat) (hk:k<=s.size) (w:World) :
  (Instr.slice 9 (.string s) none (some (.int .i64 (k:Int))) none).run Tryz.prog w=.ok (.string ⟨(s.data.toList.take k).toArray⟩) w:=by
 have h5:(k:Int)<=(s.size:Int):=by omega
 have e:s.extract 0 k=⟨(s.data.toList.take k).toArray⟩:=by
  apply ByteArray.ext
  rw [ByteArray.data_extract]
  apply Array.ext'
  simp
 rw [<-e]
 simp [go_sem,Tryz.underlying9,h5]
theorem run_suf (s:ByteArray) (k:Nat) (hk:k<=s.size) (w:World) :
  (Instr.slice 9 (.string s) (some (.int .i64 (k:Int))) none none).run Tryz.prog w=.ok (.string ⟨(s.data.toList.drop k).toArray⟩) w:=by
 have h1:(0:Int)<=(k:Int):=by omega
 have h5:(k:Int)<=(s.size:Int):=by omega
 have e:s.extract k s.size=⟨(s.data.toList.drop k).toArray⟩:=by
  apply ByteArray.ext
  rw [ByteArray.data_extract]
  apply Array.ext'
  simp
  exact List.take_of_length_le (by simp)
 rw [<-e]
 simp [go_sem,Tryz.underlying9,h1,h5]
open Go.RowKit
set_option linter.unusedVariables false
def St (A:Nat) (a1 a2 a3:Int) (a4 a5:ByteArray) (w:World):Prop:=w.cell? ⟨A,0,none⟩=some (.int .i64 a1)/\w.cell? ⟨A,1,none⟩=some (.int .i64 a2)/\w.cell? ⟨A,2,none⟩=some (.int .i64 a3)/\w.cell? ⟨A,3,none⟩=some (.string a4)/\w.cell? ⟨A,4,none⟩=some (.string a5)
theorem St.grow {A:Nat} {a1 a2 a3:Int} {a4 a5:ByteArray} {w w':World} (h:St A a1 a2 a3 a4 a5 w) (hg:w.grownBy w' none):St A a1 a2 a3 a4 a5 w' :=
 ⟨hg.cell h.1 (by simp),hg.cell h.2.1 (by simp),hg.cell h.2.2.1 (by simp),hg.cell h.2.2.2.1 (by simp),hg.cell h.2.2.2.2 (by simp)⟩
theorem st_row {A t:Nat} {a1 a2 a3:Int} {a4 a5:ByteArray} {w:World} (h:w.heap[A]?=some (.cells #[.int .i64 a1,.int .i64 a2,.int .i64 a3,.string a4,.string a5] t (0,0))):St A a1 a2 a3 a4 a5 w :=
 ⟨by rw [Lib.cell_of_heap h];rfl,by rw [Lib.cell_of_heap h];rfl,by rw [Lib.cell_of_heap h];rfl,by rw [Lib.cell_of_heap h];rfl,by rw [Lib.cell_of_heap h];rfl⟩
open Go.RowKit
set_option linter.unusedVariables false
structure Nd where
 n:ByteArray
 r:ByteArray
def ndC (x:Nd):List Value:=[.string x.n,.string x.r]
structure Re where
 nm:ByteArray
 ve:ByteArray
 nd:List Nd
 da:ByteArray
def NdAt (w:World) (p:Addr) (x:Nd):Prop:=w.cell? p=some (.string x.n)/\w.cell? ⟨p.block,p.off+1,none⟩=some (.string x.r)
theorem NdAt.grow {w w':World} {p:Addr} {x:Nd} (h:NdAt w p x) (hg:w.grownBy w' none):NdAt w' p x:=⟨hg.cell h.1 (by simp),hg.cell h.2 (by simp)⟩
def NdS (w:World) (v:Value) (L:List Nd):Prop:=(v=.slice none 0 0/\L=[])\/∃a cap,v=.slice (some a) L.length cap/\L.length<=cap/\∀i (hi:i < L.length),NdAt w (a.add (i * 2)) L[i]
theorem NdS.grow {w w':World} {v:Value} {L:List Nd} (h:NdS w v L) (hg:w.grownBy w' none):NdS w' v L:=by
 rcases h with h | ⟨a,cap,h1,h2,h3⟩
 ·exact Or.inl h
 ·exact Or.inr ⟨a,cap,h1,h2,fun i hi=>(h3 i hi).grow hg⟩
theorem nds_slice {w:World} {v:Value} {L:List Nd} (h:NdS w v L):∃o c,v=.slice o L.length c:=by
 rcases h with ⟨rfl,rfl⟩ | ⟨a,cap,rfl,-⟩
 ·exact ⟨_,_,rfl⟩
 ·exact ⟨_,_,rfl⟩
def ReAt (w:World) (p:Addr) (x:Re):Prop:=w.cell? p=some (.string x.nm)/\w.cell? ⟨p.block,p.off+1,none⟩=some (.string x.ve)/\(∃v,w.cell? ⟨p.block,p.off+2,none⟩=some v/\NdS w v x.nd)/\w.cell? ⟨p.block,p.off+3,none⟩=some (.string x.da)
theorem ReAt.grow {w w':World} {p:Addr} {x:Re} (h:ReAt w p x) (hg:w.grownBy w' none):ReAt w' p x:=by
 obtain ⟨h0,h1,⟨v,h2,h3⟩,h4⟩:=h
 exact ⟨hg.cell h0 (by simp),hg.cell h1 (by simp),⟨v,hg.cell h2 (by simp),h3.grow hg⟩,hg.cell h4 (by simp)⟩
def ReS (w:World) (v:Value) (L:List Re):Prop:=(v=.slice none 0 0/\L=[])\/∃a cap,v=.slice (some a) L.length cap/\L.length<=cap/\∀i (hi:i < L.length),ReAt w (a.add (i * 4)) L[i]
theorem ReS.grow {w w':World} {v:Value} {L:List Re} (h:ReS w v L) (hg:w.grownBy w' none):ReS w' v L:=by
 rcases h with h | ⟨a,cap,h1,h2,h3⟩
 ·exact Or.inl h
 ·exact Or.inr ⟨a,cap,h1,h2,fun i hi=>(h3 i hi).grow hg⟩
theorem hcell_lt {w:World} {a:Addr} {v:Value} (h:w.cell? a=some v):a.block < w.heap.size:=by
 unfold World.cell? at h
 cases hb:w.heap[a.block]? with
 | none=>rw [hb] at h;simp at h
 | some o=>exact (Array.getElem?_eq_some_iff.1 hb).1
theorem hadd_off (a:Addr) (n k:Nat) (hk:0 < k):a.add (n+k)=⟨(a.add n).block,(a.add n).off+k,none⟩:=by
 unfold Addr.add
 rw [if_neg (by omega)]
 by_cases h:n=0
 ·rw [if_pos h,h];simp
 ·rw [if_neg h];simp [Nat.add_assoc]
theorem hbelow {B:Nat} {a w w':World} (h:Below B a w) (hB:B<=w.heap.size) (hg:w.grownBy w' none):Below B a w' :=
 ⟨hg.os.trans h.os,hg.tape.trans h.tape,hg.output.trans h.output,Nat.le_trans h.size hg.size,fun k hk=>(hg.block k (Nat.lt_of_lt_of_le hk hB) (by simp)).trans (h.block k hk)⟩
theorem bel_gb {w w':World} (h:Below w.heap.size w w'):w.grownBy w' none:=⟨h.os,h.tape,h.output,h.size,fun k hk _=>h.block k hk⟩
theorem infoNd:(Tryz.prog.info? 65).map (fun i=>(i.zero,i.size,i.bytes))=some (some (.agg #[.string ⟨#[]⟩,.string ⟨#[]⟩]),2,32):=by kernel_rfl
theorem ndc_one (s:Nd):∀u ∈ ndC s,u.oneCell'=true:=by
 intro u hu
 simp only [ndC,List.mem_cons,List.not_mem_nil,or_false] at hu
 rcases hu with rfl | rfl <;> rfl
theorem keepN {p:Addr} {s:Nd} {r:Option Nat} {w w':World} (hg:w.grownBy w' r) (hn:some p.block ≠ r) (h:w.cell? p=some (.string s.n)/\w.cell? ⟨p.block,p.off+1,none⟩=some (.string s.r)):w'.cell? p=some (.string s.n)/\w'.cell? ⟨p.block,p.off+1,none⟩=some (.string s.r):=⟨hg.cell h.1 hn,hg.cell h.2 hn⟩
def NeedsPost (L:List Nd) (w:World) (e:Ending) (w':World):Prop:=∃v,e=.returned v/\w'.ownsRow w.heap.size 65 2 v L.length (L.flatMap ndC)/\Below w.heap.size w w'
set_option maxRecDepth 100000 in
set_option maxHeartbeats 1600000 in
theorem needs_at (a:Addr) (cap:Nat) (L:List Nd) (w:World) (hL:L.length<=1048576) (hcap:L.length<=cap) (h:∀i (hi:i < L.length),NdAt w (a.add (i * 2)) L[i]) :
  Calls Tryz.prog 11 #[.slice (some a) L.length cap] w (NeedsPost L w):=by
 have HA:Hid (∀i (hi:i < L.length),NdAt w (a.add (i * 2)) L[i]):=h
 clear h
 have hinfo:=infoNd
 obtain ⟨i0,hi0,hii⟩:=Option.map_eq_some_iff.1 hinfo
 simp only [Prod.mk.injEq] at hii
 obtain ⟨hz0,hz1,hzb⟩:=hii
 clear hinfo
 go_enter Tryz.func11,Tryz.ntmps11
 go_wp2
 go_loopw [3,4] (fun vm vi wr=>∃i:Nat,vi=.int .i64 i/\i<=L.length/\wr.ownsRow w.heap.size 65 2 vm i ((L.take i).flatMap ndC)/\Below w.heap.size w wr) (fun _ vi _=>L.length - (intOf vi).toNat)
 case atStart=>exact ⟨0,rfl,Nat.zero_le _,World.ownsRow_nil _ _ _ _,Below.refl _ _⟩
 case round =>
  obtain ⟨i,rfl,hi,hown,hb⟩:=hrel
  by_cases hlt:i < L.length
  ·obtain ⟨s,hs⟩:∃s,L[i]=s:=⟨_,rfl⟩
   have HE:Hid (NdAt wr (a.add (i * 2)) s):=by show NdAt wr _ s;rw [<-hs];exact (HA.out i hlt).grow (bel_gb hb)
   obtain ⟨e0,e1⟩:=HE.out
   have HFAR:Hid (some (a.add (i * 2)).block ≠ u3.ownBlock):=by
    show _ ≠ _
    intro e
    have h1:=(hown.lt _ e.symm).1
    have h2:=(HA.out i hlt).1
    have h3:(a.add (i * 2)).block < w.heap.size:=hcell_lt h2
    omega
   have HTK:Hid ((L.take (i+1)).flatMap ndC=(L.take i).flatMap ndC++ndC s):=by
    show _=_
    rw [List.take_succ_eq_append_getElem hlt,List.flatMap_append,hs];simp
   have hzz:=hb.size
   go_wp2
   go_region_held3 (fun w'=>w'.cell? (a.add (i * 2))=some (.string s.n)/\w'.cell? ⟨(a.add (i * 2)).block,(a.add (i * 2)).off+1,none⟩=some (.string s.r)) ((first | exact keepN (by assumption) (by first | exact HFAR.out | simp) (by assumption) | go_keep)) (first | (refine step_append_lies _ (by rfl) _ _ _ (by rfl) w.heap.size 65 i0 _ 2 32 Tryz.underlying36 hi0 hz0 hz1 hzb (by rfl) (by decide) u3 i ((L.take i).flatMap ndC) (by rfl) (hown.drew.alloc _) _ 1 1 (ndC s) (by rfl) (by rfl) (World.news_of_block (heap_alloc_new _ _)) (ndc_one s) (by omega) (by unfold maxLen;omega) (by omega) (by simp;omega) _ rfl ?_;intro g cap1 w3 hown3 hgrow hat hlt3))
   have hb2:Below w.heap.size w wr.drew:=hbelow hb hzz ⟨rfl,rfl,rfl,Nat.le_refl _,fun _ _ _=>rfl⟩
   have HB3:Hid (Below w.heap.size w w3):=(hb2.alloc hzz _).grown hgrow (by simp;omega) (fun q hq=>(hown.lt q hq).1)
   have HO3:Hid (w3.ownsRow w.heap.size 65 2 (.slice (some ⟨g,0,none⟩) (i+1) cap1) (i+1) ((L.take (i+1)).flatMap ndC)):=by show World.ownsRow _ _ _ _ _ _ _;rw [HTK.out];exact hown3
   clear hown3 hgrow hat hb2 hown hb hlt3 e0 e1 hs
   go_wp2
   go_roundw
   case rel=>exact ⟨i+1,by go_num,by omega,HO3.out,HB3.out⟩
   case measure=>simp [intOf];omega
  ·have hil:i=L.length:=by omega
   have HO:Hid (wr.ownsRow w.heap.size 65 2 u3 L.length (L.flatMap ndC)):=by
    show World.ownsRow _ _ _ _ _ _ _
    rw [hil,List.take_length] at hown
    exact hown
   have HB:Hid (Below w.heap.size w wr):=hb
   clear hown hb hil hi
   go_wp2
   refine bodyPost_ret (results_tmp (t:=2) rfl _ _ _) rfl ⟨u3,rfl,HO.out,HB.out⟩
set_option maxHeartbeats 400000 in
theorem needs_nil (w:World):Calls Tryz.prog 11 #[.slice none 0 0] w (NeedsPost [] w):=by
 go_enter Tryz.func11,Tryz.ntmps11
 go_wp2
 go_loopw [3,4] (fun vm vi wr=>vi=.int .i64 0/\vm=.slice none 0 0/\Below w.heap.size w wr) (fun _ vi _=>0)
 case atStart=>exact ⟨rfl,rfl,Below.refl _ _⟩
 case round =>
  obtain ⟨rfl,rfl,hb⟩:=hrel
  have HB:Hid (Below w.heap.size w wr):=hb
  clear hb
  go_wp2
  refine bodyPost_ret (results_tmp (t:=2) rfl _ _ _) rfl ⟨_,rfl,World.ownsRow_nil _ _ _ _,HB.out⟩
theorem nd_get (l:List Nd):∀(i:Nat) (hi:i < l.length) (k:Nat) (u:Value),(ndC l[i])[k]?=some u->(l.flatMap ndC)[i * 2+k]?=some u:=by
 induction l with
 | nil=>intro i hi;simp at hi
 | cons t l ih =>
  intro i hi k u h
  rw [List.flatMap_cons]
  have hl:(ndC t).length=2:=rfl
  cases i with
  | zero =>
   simp only [List.getElem_cons_zero] at h
   have hk:k < (ndC t).length:=(List.getElem?_eq_some_iff.1 h).1
   rw [Nat.zero_mul,Nat.zero_add,List.getElem?_append_left hk]
   exact h
  | succ i =>
   simp only [List.getElem_cons_succ] at h
   rw [List.getElem?_append_right (by rw [hl];omega),hl,show (i+1) * 2+k - 2=i * 2+k by omega]
   exact ih i (by simpa using hi) k u h
theorem nds_own {w:World} {base:Nat} {v:Value} {L:List Nd} (h:w.ownsRow base 65 2 v L.length (L.flatMap ndC)):NdS w v L:=by
 rcases h.2 with ⟨h1,h2⟩ | ⟨g,cap,cur,hv,hb,hc,h3,h4,h5,h6⟩
 ·exact Or.inl ⟨h1,List.length_eq_zero_iff.1 h2⟩
 ·refine Or.inr ⟨⟨g,0,none⟩,cap,hv,h3,fun i hi=>?_⟩
  have h':=h
  rw [hv] at h'
  have k0:=h'.cells (g:=g) rfl (i * 2+0) _ (nd_get L i hi 0 _ rfl)
  have k1:=h'.cells (g:=g) rfl (i * 2+1) _ (nd_get L i hi 1 _ rfl)
  refine ⟨?_,?_⟩
  ·simpa using k0
  ·rw [hadd_off _ _ 1 (by omega)] at k1
   simpa using k1
open Go.RowKit
set_option linter.unusedVariables false
def NdFar (v:Value) (b:Option Nat):Prop:=∀a n c,v=.slice (some a) n c->0 < n->some a.block ≠ b
theorem NdS.far {w w':World} {v:Value} {L:List Nd} {b:Option Nat} (h:NdS w v L) (hg:w.grownBy w' b) (hf:NdFar v b):NdS w' v L:=by
 rcases h with h | ⟨a,cap,rfl,h2,h3⟩
 ·exact Or.inl h
 ·refine Or.inr ⟨a,cap,rfl,h2,fun i hi=>?_⟩
  have hb:=hf a _ _ rfl (by omega)
  have e:∀k,(a.add k).block=a.block:=fun k=>by unfold Addr.add;split <;> simp
  obtain ⟨k0,k1⟩:=h3 i hi
  exact ⟨hg.cell k0 (by rw [e];exact hb),hg.cell k1 (by show some (a.add (i * 2)).block ≠ b;rw [e];exact hb)⟩
theorem nds_lt {w:World} {a:Addr} {n c:Nat} {L:List Nd} (h:NdS w (.slice (some a) n c) L) (hn:0 < n):a.block < w.heap.size:=by
 rcases h with ⟨h,-⟩ | ⟨a',cap,h1,h2,h3⟩
 ·cases h
 ·cases h1
  have:=hcell_lt (h3 0 (by omega)).1
  have e:(a.add (0 * 2)).block=a.block:=by unfold Addr.add;split <;> simp
  rw [e] at this
  exact this
theorem cNeedsN (v:Value) (L:List Nd) (w:World) (h:NdS w v L) (hL:L.length<=1048576) :
  Calls Tryz.prog 11 #[v] w fun e w'=>∃o c,e=.returned (.slice o L.length c)/\NdS w' (.slice o L.length c) L/\(∀a n k,Value.slice o L.length c=.slice (some a) n k->0 < n->w.heap.size<=a.block)/\w.grownBy w' none:=by
 have key:∀e w',NeedsPost L w e w'->∃o c,e=.returned (.slice o L.length c)/\NdS w' (.slice o L.length c) L/\(∀a n k,Value.slice o L.length c=.slice (some a) n k->0 < n->w.heap.size<=a.block)/\w.grownBy w' none:=by
  rintro e w' ⟨v,rfl,ho,hb⟩
  obtain ⟨o,c,rfl⟩:=nds_slice (nds_own ho)
  refine ⟨o,c,rfl,nds_own ho,fun a n k e hn=>?_,bel_gb hb⟩
  rw [e] at ho
  exact (ho.lt a.block rfl).1
 rcases h with ⟨rfl,rfl⟩ | ⟨a,cap,rfl,h2,h3⟩
 ·exact (needs_nil w).mono key
 ·exact (needs_at a cap L w hL h2 h3).mono key
def reC (x:Re) (v:Value):List Value:=[.string x.nm,.string x.ve,v,.string x.da]
def reCs (L:List Re) (vs:List Value):List Value:=(List.zipWith reC L vs).flatten
theorem reCs_snoc (L:List Re) (vs:List Value) (x:Re) (v:Value) (h:L.length=vs.length):reCs (L++[x]) (vs++[v])=reCs L vs++reC x v:=by
 unfold reCs
 rw [List.zipWith_append h]
 simp
theorem re_get:∀(L:List Re) (vs:List Value) (h:L.length=vs.length) (i:Nat) (hi:i < L.length) (k:Nat) (u:Value),(reC L[i] (vs[i]'(by omega)))[k]?=some u->(reCs L vs)[i * 4+k]?=some u
 | [],vs,h,i,hi,k,u,hu=>by simp at hi
 | x :: L,[],h,i,hi,k,u,hu=>by simp at h
 | x :: L,v :: vs,h,i,hi,k,u,hu=>by
  have e:reCs (x :: L) (v :: vs)=reC x v++reCs L vs:=rfl
  have hl:(reC x v).length=4:=rfl
  rw [e]
  cases i with
  | zero =>
   simp only [List.getElem_cons_zero] at hu
   have hk:k < (reC x v).length:=(List.getElem?_eq_some_iff.1 hu).1
   rw [Nat.zero_mul,Nat.zero_add,List.getElem?_append_left hk]
   exact hu
  | succ i =>
   simp only [List.getElem_cons_succ] at hu
   rw [List.getElem?_append_right (by rw [hl];omega),hl,show (i+1) * 4+k - 4=i * 4+k by omega]
   exact re_get L vs (by simpa using h) i (by simpa using hi) k u hu
theorem infoRe:(Tryz.prog.info? 43).map (fun i=>(i.zero,i.size,i.bytes))=some (some (.agg #[.string ⟨#[]⟩,.string ⟨#[]⟩,.slice none 0 0,.string ⟨#[]⟩]),4,72):=by kernel_rfl
theorem rec_one (s:Re) (v:Value) (h:v.oneCell'=true):∀u ∈ reC s v,u.oneCell'=true:=by
 intro u hu
 simp only [reC,List.mem_cons,List.not_mem_nil,or_false] at hu
 rcases hu with rfl | rfl | rfl | rfl
 ·rfl
 ·rfl
 ·exact h
 ·rfl
theorem keepR {p:Addr} {s:Re} {v:Value} {r:Option Nat} {w w':World} (hg:w.grownBy w' r) (hn:some p.block ≠ r) (h:w.cell? p=some (.string s.nm)/\w.cell? ⟨p.block,p.off+1,none⟩=some (.string s.ve)/\w.cell? ⟨p.block,p.off+2,none⟩=some v/\w.cell? ⟨p.block,p.off+3,none⟩=some (.string s.da)):w'.cell? p=some (.string s.nm)/\w'.cell? ⟨p.block,p.off+1,none⟩=some (.string s.ve)/\w'.cell? ⟨p.block,p.off+2,none⟩=some v/\w'.cell? ⟨p.block,p.off+3,none⟩=some (.string s.da) :=
 ⟨hg.cell h.1 hn,hg.cell h.2.1 hn,hg.cell h.2.2.1 hn,hg.cell h.2.2.2 hn⟩
def RRow (L:List Re) (w:World) (base:Nat) (vm:Value) (i:Nat):Prop:=∃vs:List Value,∃hl:vs.length=i,w.ownsRow base 43 4 vm i (reCs (L.take i) vs)/\∀j (hj:j < i) (hL:j < L.length),NdS w (vs[j]'(by omega)) L[j].nd/\NdFar (vs[j]'(by omega)) vm.ownBlock
set_option maxRecDepth 100000 in
set_option maxHeartbeats 3200000 in
theorem releases_at (a:Addr) (cap:Nat) (L:List Re) (w:World) (hL:L.length<=1048576) (hcap:L.length<=cap) (hN:∀x ∈ L,x.nd.length<=1048576) (h:∀i (hi:i < L.length),ReAt w (a.add (i * 4)) L[i]) :
  Calls Tryz.prog 5 #[.slice (some a) L.length cap] w fun e w'=>∃v,e=.returned v/\RRow L w' w.heap.size v L.length/\Below w.heap.size w w':=by
 have HA:Hid (∀i (hi:i < L.length),ReAt w (a.add (i * 4)) L[i]):=h
 have HN:Hid (∀x ∈ L,x.nd.length<=1048576):=hN
 clear h hN
 have hinfo:=infoRe
 obtain ⟨i0,hi0,hii⟩:=Option.map_eq_some_iff.1 hinfo
 simp only [Prod.mk.injEq] at hii
 obtain ⟨hz0,hz1,hzb⟩:=hii
 clear hinfo
 go_enter Tryz.func5,Tryz.ntmps5
 go_wp2
 go_loopw [3,4] (fun vm vi wr=>∃i:Nat,vi=.int .i64 i/\i<=L.length/\RRow L wr w.heap.size vm i/\Below w.heap.size w wr) (fun _ vi _=>L.length - (intOf vi).toNat)
 case atStart=>exact ⟨0,rfl,Nat.zero_le _,⟨[],rfl,World.ownsRow_nil _ _ _ _,fun j hj=>by omega⟩,Below.refl _ _⟩
 case round =>
  obtain ⟨i,rfl,hi,⟨vs,hvs,hown,hin⟩,hb⟩:=hrel
  by_cases hlt:i < L.length
  ·obtain ⟨s,hs⟩:∃s,L[i]=s:=⟨_,rfl⟩
   have hat0:ReAt wr (a.add (i * 4)) s:=by rw [<-hs];exact (HA.out i hlt).grow (bel_gb hb)
   obtain ⟨e0,e1,⟨sv,e2,hsv⟩,e3⟩:=hat0
   have HFAR:Hid (some (a.add (i * 4)).block ≠ u3.ownBlock):=by
    show _ ≠ _
    intro e
    have h1:=(hown.lt _ e.symm).1
    have h2:=(HA.out i hlt).1
    have h3:(a.add (i * 4)).block < w.heap.size:=hcell_lt h2
    omega
   have CND:Hid (Calls Tryz.prog 11 #[sv] wr.drew fun e w'=>∃o c,e=.returned (.slice o s.nd.length c)/\NdS w' (.slice o s.nd.length c) s.nd/\(∀a n k,Value.slice o s.nd.length c=.slice (some a) n k->0 < n->wr.heap.size<=a.block)/\wr.drew.grownBy w' none):=cNeedsN sv s.nd wr.drew (hsv.grow ⟨rfl,rfl,rfl,Nat.le_refl _,fun _ _ _=>rfl⟩) (HN.out s (by rw [<-hs];exact List.getElem_mem _))
   have HIN:Hid (∀j (hj:j < i) (hL:j < L.length),NdS wr (vs[j]'(by omega)) L[j].nd/\NdFar (vs[j]'(by omega)) u3.ownBlock):=hin
   have HTK:Hid (∀v,reCs (L.take (i+1)) (vs++[v])=reCs (L.take i) vs++reC s v):=fun v=>by
    rw [List.take_succ_eq_append_getElem hlt,hs]
    exact reCs_snoc _ _ _ _ (by rw [List.length_take,hvs];omega)
   have HS:Hid (L[i]=s):=hs
   have hzz:=hb.size
   obtain ⟨nn,hnn⟩:∃nn,s.nd.length=nn:=⟨_,rfl⟩
   rw [hnn] at CND
   clear hin hs hsv
   go_wp2
   go_region_held3 (fun w'=>w'.cell? (a.add (i * 4))=some (.string s.nm)/\w'.cell? ⟨(a.add (i * 4)).block,(a.add (i * 4)).off+1,none⟩=some (.string s.ve)/\w'.cell? ⟨(a.add (i * 4)).block,(a.add (i * 4)).off+2,none⟩=some sv/\w'.cell? ⟨(a.add (i * 4)).block,(a.add (i * 4)).off+3,none⟩=some (.string s.da)) ((first | exact keepR (by assumption) (by first | exact HFAR.out | simp) (by assumption) | go_keep)) (first | (refine step_append_lies _ (by rfl) _ _ _ (by rfl) w.heap.size 43 i0 _ 4 72 Tryz.underlying23 hi0 hz0 hz1 hzb (by rfl) (by decide) u3 i (reCs (L.take i) vs) (by rfl) ((hown.kept (gb_undrew hg1) (by cases u3.ownBlock <;> simp)).alloc _) _ 1 1 (reC s (.slice o1 nn c1)) (by rfl) (by rfl) (World.news_of_block (heap_alloc_new _ _)) (rec_one s _ rfl) (by omega) (by unfold maxLen;omega) (by omega) (by have q1:=hg1.size;simp at q1 ⊢;omega) _ rfl ?_;intro g cap1 w3 hown3 hgrow hat hlt3) | (go_at_call 11;refine CND.out.mono ?_;rintro e w1 ⟨o1,c1,rfl,hn1,hf1,hg1⟩))
   have g1:wr.grownBy w1 none:=gb_undrew hg1
   have g2:wr.grownBy (w1.alloc (.cells #[.string s.nm,.string s.ve,.slice o1 nn c1,.string s.da] 43)) none:=gb_alloc g1 _
   have hz1':w.heap.size<=w1.heap.size:=Nat.le_trans hzz g1.size
   have HB3:Hid (Below w.heap.size w w3):=((hbelow hb hzz g1).alloc hz1' _).grown hgrow (by simp;omega) (fun q hq=>(hown.lt q hq).1)
   have hnew:NdS (w1.alloc (.cells #[.string s.nm,.string s.ve,.slice o1 nn c1,.string s.da] 43)) (.slice o1 nn c1) s.nd:=hn1.grow (gb_alloc (gb_refl w1 none) _)
   have hfn:NdFar (.slice o1 nn c1) u3.ownBlock:=fun a' n' k' e hn=>by
    have h1:=hf1 a' n' k' e hn
    intro h2
    have h3:=(hown.lt a'.block h2.symm).2
    omega
   have far2:∀v (M:List Nd),NdS (w1.alloc (.cells #[.string s.nm,.string s.ve,.slice o1 nn c1,.string s.da] 43)) v M->(∀a' n' k',v=.slice (some a') n' k'->0 < n'->a'.block < w1.heap.size)->NdFar v u3.ownBlock->NdFar v (some g):=fun v M h1 h2 h3 a' n' k' e hn=>by
    have h4:=h2 a' n' k' e hn
    rcases hat with h5 | h5
    ·rw [<-h5];exact h3 a' n' k' e hn
    ·intro h6
     injection h6 with h6
     rw [h5] at h6
     simp at h6
     omega
   have HR3:Hid (RRow L w3 w.heap.size (.slice (some ⟨g,0,none⟩) (i+1) cap1) (i+1)):=by
    refine ⟨vs++[.slice o1 nn c1],by simp [hvs],?_,fun j hj hLj=>?_⟩
    ·rw [HTK.out];exact hown3
    ·by_cases hji:j < i
     ·obtain ⟨k1,k2⟩:=HIN.out j hji hLj
      have ej:(vs++[Value.slice o1 nn c1])[j]'(by simp;omega)=vs[j]'(by omega):=List.getElem_append_left (by omega)
      rw [ej]
      refine ⟨(k1.grow g2).far hgrow k2,?_⟩
      refine far2 _ _ (k1.grow g2) (fun a' n' k' e hn=>?_) k2
      have:=nds_lt (by rw [<-e];exact k1) hn
      exact Nat.lt_of_lt_of_le this g1.size
     ·have hje:j=i:=by omega
      subst hje
      have ej:(vs++[Value.slice o1 nn c1])[j]'(by simp;omega)=.slice o1 nn c1:=by simp [hvs]
      rw [ej]
      have esj:L[j].nd=s.nd:=by rw [HS.out]
      rw [esj]
      exact ⟨hnew.far hgrow hfn,far2 _ _ hnew (fun a' n' k' e hn=>nds_lt (by rw [<-e];exact hn1) hn) hfn⟩
   clear hown3 hgrow hat hown hb hlt3 e0 e1 e2 e3 hn1 hf1 hg1 g1 g2 hnew hfn far2 hz1'
   go_wp2
   go_roundw
   case rel=>exact ⟨i+1,by go_num,by omega,HR3.out,HB3.out⟩
   case measure=>simp [intOf];omega
  ·have hil:i=L.length:=by omega
   subst hil
   have HO:Hid (RRow L wr w.heap.size u3 L.length):=⟨vs,hvs,hown,hin⟩
   have HB:Hid (Below w.heap.size w wr):=hb
   clear hown hb hi hin
   go_wp2
   refine bodyPost_ret (results_tmp (t:=2) rfl _ _ _) rfl ⟨u3,rfl,HO.out,HB.out⟩
open Go.RowKit
set_option linter.unusedVariables false
theorem rrow_res {L:List Re} {w:World} {base:Nat} {v:Value} (h:RRow L w base v L.length):ReS w v L:=by
 obtain ⟨vs,hl,ho,hn⟩:=h
 rw [List.take_length] at ho
 rcases ho.2 with ⟨h1,h2⟩ | ⟨g,cap,cur,hv,hb,hc,h3,h4,h5,h6⟩
 ·exact Or.inl ⟨h1,List.length_eq_zero_iff.1 h2⟩
 ·refine Or.inr ⟨⟨g,0,none⟩,cap,hv,h3,fun i hi=>?_⟩
  have h':=ho
  rw [hv] at h'
  have key:∀k u,0 < k->(reC L[i] (vs[i]'(by omega)))[k]?=some u->w.cell? ⟨((⟨g,0,none⟩:Addr).add (i * 4)).block,((⟨g,0,none⟩:Addr).add (i * 4)).off+k,none⟩=some u:=fun k u hk hu=>by
   have:=h'.cells (g:=g) rfl (i * 4+k) u (re_get L vs hl.symm i hi k u hu)
   rw [hadd_off _ _ k hk] at this
   exact this
  have k0:=h'.cells (g:=g) rfl (i * 4+0) _ (re_get L vs hl.symm i hi 0 _ rfl)
  exact ⟨by simpa using k0,key 1 _ (by omega) rfl,⟨_,key 2 _ (by omega) rfl,(hn i hi hi).1⟩,key 3 _ (by omega) rfl⟩
theorem cReleases (sl:Value) (L:List Re) (w:World) (h:ReS w sl L) (hL:L.length<=1048576) (hN:∀x ∈ L,x.nd.length<=1048576) :
  Calls Tryz.prog 5 #[sl] w fun e w'=>∃v,e=.returned v/\ReS w' v L/\w.grownBy w' none:=by
 rcases h with ⟨rfl,rfl⟩ | ⟨a,cap,rfl,h2,h3⟩
 ·go_enter Tryz.func5,Tryz.ntmps5
  go_wp2
  go_loopw [3,4] (fun vm vi wr=>vi=.int .i64 0/\vm=.slice none 0 0/\w.grownBy wr none) (fun _ vi _=>0)
  case atStart=>exact ⟨rfl,rfl,gb_refl _ _⟩
  case round =>
   obtain ⟨rfl,rfl,hb⟩:=hrel
   have HB:Hid (w.grownBy wr none):=hb
   clear hb
   go_wp2
   refine bodyPost_ret (results_tmp (t:=2) rfl _ _ _) rfl ⟨_,rfl,Or.inl ⟨rfl,rfl⟩,HB.out⟩
 ·refine (releases_at a cap L w hL h2 hN h3).mono ?_
  rintro e w' ⟨v,rfl,hr,hb⟩
  exact ⟨v,rfl,rrow_res hr,bel_gb hb⟩
theorem res_slice {w:World} {v:Value} {L:List Re} (h:ReS w v L):∃o n c,v=.slice o n c:=by
 rcases h with ⟨rfl,-⟩ | ⟨a,cap,rfl,-⟩
 ·exact ⟨_,_,_,rfl⟩
 ·exact ⟨_,_,_,rfl⟩
open Go.RowKit
set_option linter.unusedVariables false
theorem same_txt (s:ByteArray):(s.toList != s.toList)=false:=by simp
set_option maxRecDepth 100000 in
set_option maxHeartbeats 1600000 in
theorem sameNeeds_any (v v':Value) (K:List Nd) (w:World) (h:NdS w v K) (h':NdS w v' K) (hK:K.length<=1048576) :
  Calls Tryz.prog 19 #[v,v'] w fun e w'=>e=.returned (.bool true)/\w.grownBy w' none:=by
 have H1:Hid (NdS w v K):=h
 have H2:Hid (NdS w v' K):=h'
 obtain ⟨o,c,rfl⟩:=nds_slice h
 obtain ⟨o',c',rfl⟩:=nds_slice h'
 have hnn:((K.length:Int) != (K.length:Int))=false:=by simp
 clear h h'
 go_enter Tryz.func19,Tryz.ntmps19
 go_wp2
 go_loopw [5] (fun vi wr=>∃i:Nat,vi=.int .i64 i/\i<=K.length/\w.grownBy wr none) (fun vi _=>K.length - (intOf vi).toNat)
 case atStart=>exact ⟨0,rfl,Nat.zero_le _,gb_refl _ _⟩
 case round =>
  obtain ⟨i,rfl,hi,hg⟩:=hrel
  have HG:Hid (w.grownBy wr none):=hg
  by_cases hlt:i < K.length
  ·obtain ⟨a,cap,e1,e2,e3⟩:∃a cap,(Value.slice o K.length c)=.slice (some a) K.length cap/\K.length<=cap/\∀j (h:j < K.length),NdAt wr (a.add (j * 2)) K[j]:=by
    rcases H1.out.grow hg with ⟨h1,h2⟩ | h
    ·rw [h2] at hlt;simp at hlt
    ·exact h
   obtain ⟨b,cbp,f1,f2,f3⟩:∃a cap,(Value.slice o' K.length c')=.slice (some a) K.length cap/\K.length<=cap/\∀j (h:j < K.length),NdAt wr (a.add (j * 2)) K[j]:=by
    rcases H2.out.grow hg with ⟨h1,h2⟩ | h
    ·rw [h2] at hlt;simp at hlt
    ·exact h
   cases e1
   cases f1
   obtain ⟨g1,g2⟩:=e3 i hlt
   obtain ⟨g3,g4⟩:=f3 i hlt
   obtain ⟨z1,hz1⟩:∃z,K[i].n=z:=⟨_,rfl⟩
   obtain ⟨z2,hz2⟩:∃z,K[i].r=z:=⟨_,rfl⟩
   rw [hz1] at g1 g3
   rw [hz2] at g2 g4
   have q1:=same_txt z1
   have q2:=same_txt z2
   clear e3 f3 hz1 hz2 hg
   go_wp2
   go_quiet (fail)
   go_wp2
   go_roundw
   case rel=>exact ⟨i+1,by go_num,by omega,gb_drew HG.out _⟩
   case measure=>simp [intOf];omega
  ·clear hg
   have hil:i=K.length:=by omega
   go_wp2
   go_ret
   exact ⟨rfl,HG.out⟩
set_option maxRecDepth 100000 in
set_option maxHeartbeats 3200000 in
theorem sameReleases_any (v v':Value) (K:List Re) (w:World) (h:ReS w v K) (h':ReS w v' K) (hK:K.length<=1048576) (hN:∀x ∈ K,x.nd.length<=1048576) :
  Calls Tryz.prog 8 #[v,v'] w fun e w'=>e=.returned (.bool true)/\w.grownBy w' none:=by
 have H1:Hid (ReS w v K):=h
 have H2:Hid (ReS w v' K):=h'
 have CS:Hid (∀x ∈ K,∀(u u':Value) (w:World),NdS w u x.nd->NdS w u' x.nd->Calls Tryz.prog 19 #[u,u'] w fun e w'=>e=.returned (.bool true)/\w.grownBy w' none):=fun x hx u u' w h1 h2=>sameNeeds_any u u' x.nd w h1 h2 (hN x hx)
 obtain ⟨o,c,rfl⟩:∃o c,v=.slice o K.length c:=by
  rcases h with ⟨rfl,rfl⟩ | ⟨a,cap,rfl,-⟩
  ·exact ⟨_,_,rfl⟩
  ·exact ⟨_,_,rfl⟩
 obtain ⟨o',c',rfl⟩:∃o c,v'=.slice o K.length c:=by
  rcases h' with ⟨rfl,rfl⟩ | ⟨a,cap,rfl,-⟩
  ·exact ⟨_,_,rfl⟩
  ·exact ⟨_,_,rfl⟩
 have hnn:((K.length:Int) != (K.length:Int))=false:=by simp
 clear h h' hN
 go_enter Tryz.func8,Tryz.ntmps8
 go_wp2
 go_loopw [5] (fun vi wr=>∃i:Nat,vi=.int .i64 i/\i<=K.length/\w.grownBy wr none) (fun vi _=>K.length - (intOf vi).toNat)
 case atStart=>exact ⟨0,rfl,Nat.zero_le _,gb_refl _ _⟩
 case round =>
  obtain ⟨i,rfl,hi,hg⟩:=hrel
  have HG:Hid (w.grownBy wr none):=hg
  by_cases hlt:i < K.length
  ·obtain ⟨a,cap,e1,e2,e3⟩:∃a cap,(Value.slice o K.length c)=.slice (some a) K.length cap/\K.length<=cap/\∀j (h:j < K.length),ReAt wr (a.add (j * 4)) K[j]:=by
    rcases H1.out.grow hg with ⟨h1,h2⟩ | h
    ·rw [h2] at hlt;simp at hlt
    ·exact h
   obtain ⟨b,cbp,f1,f2,f3⟩:∃a cap,(Value.slice o' K.length c')=.slice (some a) K.length cap/\K.length<=cap/\∀j (h:j < K.length),ReAt wr (a.add (j * 4)) K[j]:=by
    rcases H2.out.grow hg with ⟨h1,h2⟩ | h
    ·rw [h2] at hlt;simp at hlt
    ·exact h
   cases e1
   cases f1
   obtain ⟨g1,g2,⟨sv,g3,gn⟩,g4⟩:=e3 i hlt
   obtain ⟨k1,k2,⟨sv',k3,kn⟩,k4⟩:=f3 i hlt
   have CSS:Hid (Calls Tryz.prog 19 #[sv,sv'] wr.drew fun e w'=>e=.returned (.bool true)/\wr.drew.grownBy w' none):=CS.out K[i] (List.getElem_mem _) sv sv' wr.drew (gn.grow ⟨rfl,rfl,rfl,Nat.le_refl _,fun _ _ _=>rfl⟩) (kn.grow ⟨rfl,rfl,rfl,Nat.le_refl _,fun _ _ _=>rfl⟩)
   obtain ⟨z1,hz1⟩:∃z,K[i].nm=z:=⟨_,rfl⟩
   obtain ⟨z2,hz2⟩:∃z,K[i].ve=z:=⟨_,rfl⟩
   obtain ⟨z4,hz4⟩:∃z,K[i].da=z:=⟨_,rfl⟩
   rw [hz1] at g1 k1
   rw [hz2] at g2 k2
   rw [hz4] at g4 k4
   have q1:=same_txt z1
   have q2:=same_txt z2
   have q4:=same_txt z4
   clear e3 f3 hz1 hz2 hz4 hg gn kn
   go_wp2
   go_region_held3 (fun w'=>w'.cell? ⟨(a.add (i * 4)).block,(a.add (i * 4)).off+2,none⟩=some sv/\w'.cell? ⟨(b.add (i * 4)).block,(b.add (i * 4)).off+2,none⟩=some sv') ((first | exact ⟨World.grownBy.cell (by assumption) (And.left (by assumption)) (by simp),World.grownBy.cell (by assumption) (And.right (by assumption)) (by simp)⟩ | go_keep)) (first | (go_at_call 19;refine CSS.out.mono ?_;rintro e w1 ⟨rfl,hg1⟩))
   have hg2:wr.grownBy w1 none:=gb_undrew hg1
   have HG1:Hid (w.grownBy w1 none):=gb_trans HG.out hg2
   have G1:=hg2.cell g1 (by simp)
   have G2:=hg2.cell g2 (by simp)
   have G4:=hg2.cell g4 (by simp)
   have K1:=hg2.cell k1 (by simp)
   have K2:=hg2.cell k2 (by simp)
   have K4:=hg2.cell k4 (by simp)
   clear hg1 hg2 g1 g2 g3 g4 k1 k2 k3 k4
   go_wp2
   go_quiet (fail)
   go_wp2
   go_roundw
   case rel=>exact ⟨i+1,by go_num,by omega,gb_drew HG1.out _⟩
   case measure=>simp [intOf];omega
  ·clear hg
   have hil:i=K.length:=by omega
   go_wp2
   go_ret
   exact ⟨rfl,HG.out⟩
open Go.RowKit
set_option linter.unusedVariables false
set_option maxHeartbeats 400000 in
theorem lnum_any (n:Int) (w:World):Calls Tryz.prog 9 #[.int .i64 n] w fun e w'=>e=.returned (.int .i64 n)/\w'=w:=by
 go_enter Tryz.func9,Tryz.ntmps9
 go_wp2
 go_ret
 exact ⟨rfl,rfl⟩
theorem lnum_gb (n:Int) (w:World):Calls Tryz.prog 9 #[.int .i64 n] w fun e w'=>e=.returned (.int .i64 n)/\w.grownBy w' none:=by
 refine (lnum_any n w).mono ?_
 rintro e w' ⟨rfl,rfl⟩
 exact ⟨rfl,gb_refl _ _⟩
open Go.RowKit
set_option linter.unusedVariables false
set_option maxHeartbeats 400000 in
theorem rdigit_any (c:UInt8) (w:World):Calls Tryz.prog 33 #[.int .u8 (c.toNat:Int)] w fun e w'=>e=.returned (.bool (isD c))/\w'=w:=by
 go_enter Tryz.func33,Tryz.ntmps33
 go_wp2
 all_goals go_ret
 all_goals (refine ⟨ret_bool ?_,rfl⟩;rw [Bool.eq_iff_iff];unfold isD;simp;omega)
set_option maxHeartbeats 400000 in
theorem rpartByte_any (c:UInt8) (w:World):Calls Tryz.prog 82 #[.int .u8 (c.toNat:Int)] w fun e w'=>e=.returned (.bool (isP c))/\w'=w:=by
 go_enter Tryz.func82,Tryz.ntmps82
 go_wp2_with (go_at_call 33;refine (rdigit_any _ _).mono ?_;rintro e w' ⟨rfl,rfl⟩)
 all_goals go_ret
 all_goals (refine ⟨ret_bool ?_,rfl⟩;rw [Bool.eq_iff_iff];unfold isP;simp_all;try omega)
set_option maxHeartbeats 400000 in
theorem rdigits_any (s:ByteArray) (w:World) (hs:s.size < 2 ^ 62) :
  Calls Tryz.prog 83 #[.string s] w fun e w'=>e=.returned (.bool (s.data.toList.all isD))/\w'=w:=by
 obtain ⟨R,hR⟩:∃R,R=s.data.toList.all isD:=⟨_,rfl⟩
 have HR:Hid (R=s.data.toList.all isD):=hR
 rw [<-hR]
 clear hR
 go_enter Tryz.func83,Tryz.ntmps83
 go_wp2
 go_loop [3] (fun i=>∃k:Nat,k<=s.size/\i=.int .i64 k/\∀j,(hj:j < s.size)->j < k->isD s[j]=true) (fun i=>s.size - (intOf i).toNat)
 case atStart=>exact ⟨0,Nat.zero_le _,rfl,fun j hj h=>absurd h (by omega)⟩
 case round =>
  obtain ⟨k,hk,rfl,hp⟩:=hrel
  have HP:Hid (∀j,(hj:j < s.size)->j < k->isD s[j]=true):=hp
  clear hp
  by_cases hlt:k < s.size
  ·cases hd:isD s[k] with
   | true =>
    go_wp2_with (go_at_call 33;refine (rdigit_any _ _).mono ?_;rintro e w' ⟨rfl,rfl⟩)
    go_round
    case rel =>
     refine ⟨k+1,by omega,by go_num,fun j hj hjk=>?_⟩
     by_cases hjk':j < k
     ·exact HP.out j hj hjk'
     ·have e:j=k:=by omega
      subst e
      exact hd
    case measure=>simp [intOf];omega
   | false =>
    have HN:Hid (R=false):=by
     show R=false
     rw [HR.out,List.all_eq_false]
     exact ⟨s[k],List.mem_of_getElem? (get_data s k hlt),by simp [hd]⟩
    go_wp2_with (go_at_call 33;refine (rdigit_any _ _).mono ?_;rintro e w' ⟨rfl,rfl⟩)
    go_ret
    exact ⟨ret_bool HN.out.symm,rfl⟩
  ·have HN:Hid (R=true):=by
    show R=true
    rw [HR.out,List.all_eq_true]
    intro c hc
    obtain ⟨j,hj,rfl⟩:=List.getElem_of_mem hc
    exact HP.out j (by simpa using hj) (by simp at hj;have:s.size=s.data.size:=rfl;omega)
   clear hk
   go_wp2
   go_ret
   exact ⟨ret_bool HN.out.symm,rfl⟩
end Go.Proofs.YtfplkhnclmidnaaGreatDoor
