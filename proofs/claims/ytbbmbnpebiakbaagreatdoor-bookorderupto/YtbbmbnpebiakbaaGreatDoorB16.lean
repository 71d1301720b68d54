import Derived.Test.YtbbmbnpebiakbaaGreatDoorB14
import Derived.Test.YtbbmbnpebiakbaaGreatDoorB13
import Derived.Test.YtbbmbnpebiakbaaGreatDoorB15
import Derived.Sort.OwnSorted
import Derived.Lib.Join
import Derived.Shelf.Strings.Builder1
import Derived.Shelf.Strconv.Itoa3
import Derived.Test.YtbbmbnpebiakbaaGreatDoorProg
namespace Go.Proofs.YtbbmbnpebiakbaaGreatDoor
open Go.RowKit Go.Shelf Go.Sort
set_option linter.unusedVariables false
theorem enc_back (L:List ByteArray):(L.map (·.data.toList)).map encStr=L.map Value.string:=by
 rw [List.map_map]
 exact List.map_congr_left (fun x _=>by simp [encStr])
theorem merge_sort (L:List ByteArray):((L.map (·.data.toList)).mergeSort (fun x y=>decide (x<=y))).map encStr=(sortT L).map Value.string:=by
 obtain ⟨M,hM⟩:∃M,(L.map (·.data.toList)).mergeSort (fun x y=>decide (x<=y))=M:=⟨_,rfl⟩
 have hp:M.Perm (L.map (·.data.toList)):=by rw [<-hM];exact List.mergeSort_perm _ _
 have hs:M.Pairwise (fun x y=>decide (x<=y)=true):=by
  rw [<-hM]
  refine List.pairwise_mergeSort (le:=fun (x y:List UInt8)=>decide (x<=y)) (fun a b c h1 h2=>?_) (fun a b=>?_) _
  ·simp only [decide_eq_true_eq] at h1 h2 ⊢
   exact List.le_trans h1 h2
  ·have:=List.le_total a b
   simpa using this
 rw [hM]
 have e1:M.map (fun l=>(⟨l.toArray⟩:ByteArray))=sortT L:=by
  refine sortT_one ?_ ?_
  ·have h1:=hp.map (fun l=>(⟨l.toArray⟩:ByteArray))
   rw [List.map_map] at h1
   have h2:L.map ((fun l=>(⟨l.toArray⟩:ByteArray)) ∘ (·.data.toList))=L:=by
    conv=>rhs;rw [<-List.map_id L]
    exact List.map_congr_left (fun x _=>by simp)
   rw [h2] at h1
   exact h1
  ·unfold RiseT
   rw [List.pairwise_map]
   refine hs.imp (fun {a b} h=>?_)
   have h1:¬ b < a:=of_decide_eq_true h
   refine cT_flip (fun h2=>h1 ?_)
   have h3:=cT_less h2
   rw [Lib.toList_data,Lib.toList_data] at h3
   simp only [] at h3
   rw [bytesLess_eq] at h3
   simpa using h3
 rw [<-e1,List.map_map]
 rfl
theorem sortTx (ve:Value) (L:List ByteArray) (base:Nat) (w:World) (hL:L.length<=1048576) (hown:w.ownsRow base 9 1 ve L.length (L.map Value.string)) :
  Calls Tryz.prog 45 #[ve] w fun e w'=>e=.returned (.tuple #[])/\w'.ownsRow base 9 1 ve L.length ((sortT L).map Value.string)/\w.grownBy w' ve.ownBlock:=by
 rcases hown.2 with ⟨rfl,h0⟩ | ⟨g,cap,cur,rfl,hb,hg,hn,hm,hs,ht⟩
 ·refine (Any.slices_Sort_string_none Tryz.lays190 none 0 w).mono ?_
  rintro e w' ⟨rfl,rfl⟩
  have hE:L=[]:=List.eq_nil_of_length_eq_zero h0
  subst hE
  exact ⟨rfl,by rw [show sortT []=[] from List.mergeSort_nil];exact hown,⟨rfl,rfl,rfl,Nat.le_refl _,fun _ _ _=>rfl⟩⟩
 ·have hl:(L.map (·.data.toList)).length=L.length:=by simp
  have hH:Holds encStr w g 0 (L.map (·.data.toList)).toArray:=holds_of_block hg (by rw [hl,enc_back];simpa using ht)
  have key:=Any.slices_Sort_string Tryz.lays190 g 0 cap (L.map (·.data.toList)) w hH (Array.getElem?_eq_some_iff.1 hg).1 (by rw [hl];omega)
  rw [hl] at key
  refine key.mono ?_
  rintro e w' ⟨rfl,n,os,rfl⟩
  have h1:=ownsRow_sorted (n:=n) (os:=os) (ss:=L.map (·.data.toList)) (ts:=(L.map (·.data.toList)).mergeSort (fun x y=>decide (x<=y))) (by simp) hb hg (by rw [hl];exact hn) hm hs
  rw [hl,merge_sort] at h1
  exact ⟨rfl,h1,grownBy_sorted _⟩
set_option maxHeartbeats 800000 in
theorem sortedS (bm:Nat) (o:Option Addr) (c:Nat) (L:List ByteArray) (hL:L.length<=1048576) (w:World) (hbm:w.heap[bm]?=some (.cells #[.slice o L.length c] 40 (0,0))) (htx:TxS w (.slice o L.length c) L) :
  Calls Tryz.prog 24 #[.func (.func 82) #[] #[.pointer (some ⟨bm,0,none⟩)]] w fun e w'=>∃o c,e=.returned (.slice o L.length c)/\w'.ownsRow w.heap.size 9 1 (.slice o L.length c) L.length ((sortT L).map Value.string)/\w.grownBy w' none:=by
 have HA:Hid (Calls Tryz.prog 66 #[.slice none 0 0,.func (.func 82) #[] #[.pointer (some ⟨bm,0,none⟩)]] w fun e w'=>∃o c,e=.returned (.slice o L.length c)/\w'.ownsRow w.heap.size 9 1 (.slice o L.length c) L.length (L.map Value.string)/\Below w.heap.size w w'):=(callsIn_wide.1 (appS bm o c L hL w hbm htx)).mono fun e w' ⟨v,h1,h2,h3⟩=>by
  obtain ⟨o,c,rfl⟩:=own_sl h2
  exact ⟨o,c,h1,h2,h3⟩
 have HC:Hid (Calls Tryz.prog 44 #[.func (.func 82) #[] #[.pointer (some ⟨bm,0,none⟩)]] w fun e w'=>∃o c,e=.returned (.slice o L.length c)/\w'.ownsRow w.heap.size 9 1 (.slice o L.length c) L.length (L.map Value.string)/\Below w.heap.size w w'):=by
  clear hbm htx
  show Calls _ _ _ _ _
  go_enter Tryz.func44,Tryz.ntmps44
  go_wp2_with (first | (go_at_call 66;refine HA.out.mono ?_))
  rintro e w1 ⟨o1,c1,rfl,h2,h3⟩
  go_wp2
  go_ret
  exact ⟨o1,c1,rfl,h2,h3⟩
 clear hbm htx HA
 go_enter Tryz.func24,Tryz.ntmps24
 go_wp2_with (first | (go_at_call 44;refine HC.out.mono ?_))
 rintro e w1 ⟨o1,c1,rfl,hown,hb⟩
 have CS:Hid (Calls Tryz.prog 45 #[.slice o1 L.length c1] w1 fun e w'=>e=.returned (.tuple #[])/\w'.ownsRow w.heap.size 9 1 (.slice o1 L.length c1) L.length ((sortT L).map Value.string)/\w1.grownBy w' (Value.slice o1 L.length c1).ownBlock):=sortTx _ L w.heap.size w1 hL hown
 have HB:Hid (w.grownBy w1 none):=bel_gb hb
 have HLT:Hid (∀q,(Value.slice o1 L.length c1).ownBlock=some q->w.heap.size<=q):=fun q hq=>(hown.lt q hq).1
 clear hown hb
 go_wp2_with (first | (go_at_call 45;refine CS.out.mono ?_))
 rintro e w2 ⟨rfl,hown2,hg2⟩
 go_wp2
 go_ret
 exact ⟨o1,c1,rfl,hown2,gb_row0b HB.out hg2 HLT.out⟩
end Go.Proofs.YtbbmbnpebiakbaaGreatDoor
namespace Go.Proofs.YtbbmbnpebiakbaaGreatDoor
open Go.RowKit Go.Shelf Go.Sort
set_option linter.unusedVariables false
def qd (s:ByteArray):ByteArray:=cat (cat ⟨#[34]⟩ s) ⟨#[34]⟩
theorem qd_list (s:ByteArray):(qd s).data.toList=34 :: (s.data.toList++[34]):=by
 unfold qd
 rw [cat_list,cat_list];simp
theorem qd_size (s:ByteArray):(qd s).size=s.size+2:=by
 unfold qd
 rw [cat_size,cat_size]
 show 1+s.size+1=_
 omega
theorem quoted_any (s:ByteArray) (w:World) (hs:s.size<=1048576):Calls Tryz.prog 39 #[.string s] w fun e w'=>e=.returned (.string (qd s))/\w'=w:=by
 unfold qd
 have c1:∀wx,(Op.stringOp .add ⟨#[34]⟩ s).run Tryz.prog wx=.ok (.string (cat ⟨#[34]⟩ s)) wx:=fun wx=>add_cat _ _ wx (by show 1+_<=_;omega)
 have z1:(cat ⟨#[34]⟩ s).size=1+s.size:=cat_size _ _
 generalize cat ⟨#[34]⟩ s=Q1 at c1 z1 ⊢
 have c2:∀wx,(Op.stringOp .add Q1 ⟨#[34]⟩).run Tryz.prog wx=.ok (.string (cat Q1 ⟨#[34]⟩)) wx:=fun wx=>add_cat _ _ wx (by show _+1<=_;omega)
 generalize cat Q1 ⟨#[34]⟩=Q2 at c2 ⊢
 go_enter Tryz.func39,Tryz.ntmps39
 go_wp2
 go_ret
 exact ⟨rfl,rfl⟩
theorem tail_snoc (sep:List UInt8) (r:List (List UInt8)) (x:List UInt8):Lib.joinTail sep (r++[x])=Lib.joinTail sep r++(sep++x):=by
 unfold Lib.joinTail
 simp
theorem join_ndk (S:List ByteArray):∀k,k<=S.length->Lib.join ((S.take k).map (fun y=>(qd y).data.toList)) [44,32]=ndK S k
 | 0,_=>by simp [Lib.join_nil,ndK]
 | k+1,hk=>by
  have ih:=join_ndk S k (by omega)
  rw [ndk_step S k (by omega),List.take_succ_eq_append_getElem (by omega),List.map_append,List.map_singleton,qd_list,<-ih]
  cases k with
  | zero=>simp [Lib.join_nil,Lib.join_one]
  | succ k =>
   match hm:(S.take (k+1)).map (fun y=>(qd y).data.toList) with
   | []=>have:=congrArg List.length hm;rw [List.length_map,List.length_take] at this;simp only [List.length_nil] at this;omega
   | z :: r =>
    rw [List.cons_append,Lib.join_cons,Lib.join_cons,tail_snoc]
    simp
theorem join_tot (S:List ByteArray):Lib.join ((S.map qd).map (·.data.toList)) [44,32]=ndK S S.length:=by
 have:=join_ndk S S.length (Nat.le_refl _)
 rw [List.take_length] at this
 rw [List.map_map]
 exact this
theorem cJoin (o:Option Addr) (c:Nat) (S:List ByteArray) (base:Nat) (w:World) (h:w.ownsRow base 9 1 (.slice o S.length c) S.length ((S.map qd).map Value.string)) (hl:S.length<=20) (hs:∀y ∈ S,y.size<=1048576) :
  Calls Tryz.prog 61 #[.slice o S.length c,.string ⟨#[44,32]⟩] w fun e w'=>e=.returned (.string ⟨(ndK S S.length).toArray⟩)/\w.grownBy w' none:=by
 have hlen:(ndK S S.length).length<=140737488355328:=by
  have:=ndk_len S hs S.length (Nat.le_refl _)
  omega
 rcases h.2 with ⟨h1,h0⟩ | ⟨g,cap,cur,hv,hb,hg,hn,hm,hcs,ht⟩
 ·have hE:S=[]:=List.eq_nil_of_length_eq_zero h0
  subst hE
  refine (Any.strings_Join_none Tryz.lays156 Tryz.Builder_Extra_156 o c ⟨#[44,32]⟩ w).mono ?_
  rintro e w' ⟨rfl,rfl⟩
  exact ⟨rfl,gb_refl _ _⟩
 ·cases hv
  have e1:(S.map qd).length=S.length:=by simp
  have key:=Any.strings_Join Tryz.lays156 Tryz.Builder_Extra_156 g 0 c (S.map qd) ⟨#[44,32]⟩ w (fun j x hx=>by
   rw [Nat.zero_add]
   have:=h.cells (g:=g) rfl j (.string x) (by rw [List.getElem?_map,hx];rfl)
   rw [hzero_off] at this
   exact this) (Array.getElem?_eq_some_iff.1 hg).1 (by rw [e1];omega) (by rw [e1];exact hn) (by rw [join_tot];exact hlen)
  rw [e1,join_tot] at key
  refine key.mono ?_
  rintro e w' ⟨rfl,hb'⟩
  exact ⟨rfl,bel_gb hb'⟩
set_option maxRecDepth 100000 in
set_option maxHeartbeats 3200000 in
theorem listOf_any (v:Value) (N:List ByteArray) (w:World) (h:TxS w v N) (hN:N.length<=20) (hs:∀y ∈ N,y.size<=1048576) :
  Calls Tryz.prog 40 #[v] w fun e w'=>∃T:ByteArray,e=.returned (.string T)/\T.data.toList=91 :: (ndK (sortT N) (sortT N).length++[93])/\w.grownBy w' none:=by
 obtain ⟨o,c,rfl⟩:=txs_slice h
 obtain ⟨n,hn⟩:∃n,N.length=n:=⟨_,rfl⟩
 have hb0:=heap_alloc_new w (.cells #[.slice o n c] 40)
 have CSd:Hid (Calls Tryz.prog 24 #[.func (.func 82) #[] #[.pointer (some ⟨w.heap.size,0,none⟩)]] (w.alloc (.cells #[.slice o n c] 40)) fun e w'=>∃o c,e=.returned (.slice o n c)/\w'.ownsRow (w.heap.size+1) 9 1 (.slice o n c) n ((sortT N).map Value.string)/\w.grownBy w' none):=by
  have key:=sortedS w.heap.size o c N (by omega) (w.alloc (.cells #[.slice o n c] 40)) (by rw [hn];exact hb0) (by rw [<-hn];exact h.grow (gb_alloc (gb_refl w none) _))
  refine key.mono fun e w' ⟨o2,c2,h1,h2,h3⟩=>⟨o2,c2,by rw [<-hn];exact h1,?_,gb_trans (gb_alloc (gb_refl w none) _) h3⟩
  rw [World.size_alloc,hn] at h2
  exact h2
 obtain ⟨S,hS⟩:∃S,sortT N=S:=⟨_,rfl⟩
 have hSl:S.length=n:=by rw [<-hS,(sortT_perm N).length_eq,hn]
 have HSS:Hid (∀y ∈ S,y.size<=1048576):=fun y hy=>hs y ((sortT_perm N).subset (by rw [hS];exact hy))
 have HSL:Hid (S.length=n):=hSl
 rw [hS] at CSd ⊢
 have CQ:Hid (∀y ∈ S,∀w,Calls Tryz.prog 39 #[.string y] w fun e w'=>e=.returned (.string (qd y))/\w'=w):=fun y hy w=>quoted_any y w (HSS.out y hy)
 have CJ:Hid (∀(o:Option Addr) (c:Nat) (wx:World),wx.ownsRow (w.heap.size+1) 9 1 (.slice o n c) n ((S.map qd).map Value.string)->Calls Tryz.prog 61 #[.slice o n c,.string ⟨#[44,32]⟩] wx fun e w'=>e=.returned (.string ⟨(ndK S S.length).toArray⟩)/\wx.grownBy w' none):=fun o c wx h=>by
  have key:=cJoin o c S (w.heap.size+1) wx (by rw [hSl];exact h) (by omega) HSS.out
  rw [hSl] at key ⊢
  exact key
 obtain ⟨J,hJ⟩:∃J:ByteArray,⟨(ndK S S.length).toArray⟩=J:=⟨_,rfl⟩
 have hJl:J.data.toList=ndK S S.length:=by rw [<-hJ]
 have hJs:J.size<=20 * 1048580:=by
  have h1:=ndk_len S HSS.out S.length (Nat.le_refl _)
  have h2:J.size=(ndK S S.length).length:=by rw [<-hJl];simp
  omega
 rw [hJ] at CJ
 have c1:∀wx,(Op.stringOp .add ⟨#[91]⟩ J).run Tryz.prog wx=.ok (.string (cat ⟨#[91]⟩ J)) wx:=fun wx=>add_cat _ _ wx (by show 1+_<=_;omega)
 have z1:(cat ⟨#[91]⟩ J).size=1+J.size:=cat_size _ _
 have l1:=cat_list ⟨#[91]⟩ J
 generalize cat ⟨#[91]⟩ J=Q1 at c1 z1 l1
 have c2:∀wx,(Op.stringOp .add Q1 ⟨#[93]⟩).run Tryz.prog wx=.ok (.string (cat Q1 ⟨#[93]⟩)) wx:=fun wx=>add_cat _ _ wx (by show _+1<=_;omega)
 have l2:=cat_list Q1 ⟨#[93]⟩
 generalize cat Q1 ⟨#[93]⟩=Q2 at c2 l2
 have HQ2:Hid (Q2.data.toList=91 :: (ndK S S.length++[93])):=by
  show _=_
  rw [l2,l1,hJl];simp
 rw [hn]
 rw [hn] at hN
 clear h hs hb0 hS hSl hJ hJl z1 l1 l2 hn hJs
 go_enter Tryz.func40,Tryz.ntmps40
 go_wp2_with (first | (go_at_call 60;refine (valS_any _ _ _ _).mono ?_;rintro e w' ⟨rfl,rfl⟩) | (go_at_call 24;refine CSd.out.mono ?_))
 rintro e w2 ⟨o2,c2,rfl,hown,hg⟩
 have HO:Hid (w2.ownsRow (w.heap.size+1) 9 1 (.slice o2 n c2) n ((((S.take 0).map qd)++S.drop 0).map Value.string)):=hown
 have HG:Hid (w.grownBy w2 none):=hg
 clear hown hg
 go_wp2
 go_loopw [11] (fun vi wr=>∃i:Nat,vi=.int .i64 i/\i<=n/\wr.ownsRow (w.heap.size+1) 9 1 (.slice o2 n c2) n ((((S.take i).map qd)++S.drop i).map Value.string)/\w.grownBy wr none) (fun vi _=>n - (intOf vi).toNat)
 case atStart=>exact ⟨0,rfl,Nat.zero_le _,HO.out,HG.out⟩
 case round =>
  obtain ⟨i,rfl,hi,hrow,hgr⟩:=hrel
  have HRW:Hid (wr.ownsRow (w.heap.size+1) 9 1 (.slice o2 n c2) n ((((S.take i).map qd)++S.drop i).map Value.string)):=hrow
  have HGR:Hid (w.grownBy wr none):=hgr
  by_cases hlt:i < n
  ·have hlS:i < S.length:=by rw [HSL.out];exact hlt
   obtain ⟨y,hy⟩:∃y,S[i]=y:=⟨_,rfl⟩
   have HD:Hid (S.drop i=y :: S.drop (i+1)):=by
    show _=_
    rw [List.drop_eq_getElem_cons hlS,hy]
   have CY:Hid (∀w,Calls Tryz.prog 39 #[.string y] w fun e w'=>e=.returned (.string (qd y))/\w'=w):=fun w=>CQ.out y (by rw [<-hy];exact List.getElem_mem _) w
   have HNX:Hid ((S.take (i+1)).map qd=(S.take i).map qd++[qd y]):=by
    show _=_
    rw [List.take_succ_eq_append_getElem hlS,List.map_append,hy];rfl
   obtain ⟨g,rfl,hgc⟩:∃g,o2=some ⟨g,0,none⟩/\n<=c2:=by
    rcases hrow.2 with ⟨h1,h0⟩ | ⟨g,cap,cur,hv,hb,hgb,hn',_⟩
    ·omega
    ·cases hv;exact ⟨g,rfl,hn'⟩
   have HTL:Hid (((S.take i).map qd).length=i):=by show _=_;rw [List.length_map,List.length_take];omega
   have d1:wr.cell? ⟨g,i,none⟩=some (.string y):=by
    have h1:=HRW.out
    rw [HD.out] at h1
    have:=srow_cell h1
    rw [HTL.out] at this
    exact this
   have ff:=hown_f HRW.out i
   have HGB:Hid (w.heap.size+1<=g):=(hrow.lt g rfl).1
   clear hrow hgr hy
   go_wp2_with (first | (go_at_call 39;refine (CY.out _).mono ?_;rintro e w' ⟨rfl,rfl⟩))
   refine ⟨⟨i+1,by go_num,by omega,?_,?_⟩,by simp [intOf];omega⟩
   ·have h1:=hown_set HRW.out i (.string (qd y)) (by omega)
    rw [HD.out] at h1
    rw [HNX.out]
    have e1:(((S.take i).map qd++y :: S.drop (i+1)).map Value.string).set i (.string (qd y))=(((S.take i).map qd++[qd y])++S.drop (i+1)).map Value.string:=by
     rw [List.map_append,List.set_append_right _ _ (by rw [List.length_map,HTL.out];omega),List.length_map,HTL.out,Nat.sub_self]
     simp
    rw [e1] at h1
    exact h1
   ·exact gb_row0b HGR.out (gb_set (gb_refl _ (some g)) _ _) (fun q hq=>by injection hq with hq;have:=HGB.out;omega)
  ·have hie:i=n:=by omega
   have CJJ:Hid (Calls Tryz.prog 61 #[.slice o2 n c2,.string ⟨#[44,32]⟩] wr fun e w'=>e=.returned (.string J)/\wr.grownBy w' none):=CJ.out o2 c2 wr (by
    rw [hie,<-HSL.out,List.take_length,List.drop_length,List.append_nil] at hrow
    rw [HSL.out] at hrow
    exact hrow)
   clear hrow hgr hie hi
   go_wp2_with (first | (go_at_call 61;refine CJJ.out.mono ?_;rintro e w3 ⟨rfl,hg3⟩))
   go_ret
   exact ⟨Q2,rfl,HQ2.out,gb_trans HGR.out hg3⟩
end Go.Proofs.YtbbmbnpebiakbaaGreatDoor
namespace Go.Proofs
open Go.Shelf
def Tryz.lays166_ren:Go.Shelf.Ren:=⟨fun | 166=>26 | 240=>47 | 276=>69 | n=>n,fun | 22=>130 | 23=>190 | 24=>110 | 25=>111 | 27=>79 | 28=>165 | 31=>40 | 32=>112 | 33=>90 | 37=>53 | 40=>215 | 41=>95 | 42=>153 | 43=>109 | 46=>102 | 47=>101 | 48=>98 | 51=>134 | 52=>133 | 53=>136 | 54=>135 | 55=>204 | 59=>167 | 60=>168 | 63=>207 | 64=>210 | 67=>94 | 68=>143 | 69=>67 | 70=>52 | 71=>54 | 72=>55 | 73=>116 | 74=>63 | 75=>64 | 76=>65 | 77=>66 | 80=>68 | 81=>120 | 83=>81 | 84=>115 | 100=>84 | 101=>49 | 102=>70 | 103=>39 | 104=>83 | 105=>205 | 106=>206 | 111=>166 | 114=>175 | 115=>196 | 116=>197 | 117=>198 | 118=>199 | 119=>211 | 122=>195 | 123=>200 | 124=>201 | 127=>85 | 131=>72 | 135=>100 | 137=>212 | 138=>213 | 139=>214 | 146=>208 | 151=>209 | 164=>103 | 165=>104 | 166=>179 | 171=>149 | 172=>150 | 173=>151 | 174=>152 | 182=>126 | 183=>127 | 188=>125 | 189=>128 | 190=>129 | 191=>131 | 192=>132 | 211=>176 | 212=>177 | 213=>178 | 218=>154 | 219=>155 | 220=>156 | 222=>158 | 224=>157 | 225=>159 | 228=>180 | 229=>181 | 231=>182 | 232=>202 | 233=>203 | 238=>216 | 239=>217 | 240=>218 | 241=>219 | 242=>220 | 243=>221 | 244=>222 | 245=>223 | 246=>224 | 247=>225 | 248=>226 | 249=>227 | n=>n,fun | 3=>4 | 4=>5 | 17=>0 | 18=>2 | 19=>3 | n=>n⟩
set_option maxRecDepth 100000 in
theorem Tryz.lays166:Go.Proofs.Lays.n166 Tryz.prog Tryz.lays166_ren:={
 mixed:=by kernel_rfl
 f166:=Tryz.func26.trans (congrArg some (by kernel_rfl))
 f240:=Tryz.func47.trans (congrArg some (by kernel_rfl))
 f276:=Tryz.func69.trans (congrArg some (by kernel_rfl))
 t0:=Tryz.underlying0
 a0:=Tryz.isAgg0
 z0:=Tryz.sizeOf0
 v0:=Tryz.zeroValue0
 t3:=Tryz.underlying3
 a3:=Tryz.isAgg3
 z3:=Tryz.sizeOf3
 v3:=Tryz.zeroValue3
 t4:=Tryz.underlying4
 a4:=Tryz.isAgg4
 z4:=Tryz.sizeOf4
 v4:=Tryz.zeroValue4
 t9:=Tryz.underlying9
 a9:=Tryz.isAgg9
 z9:=Tryz.sizeOf9
 v9:=Tryz.zeroValue9
 t20:=Tryz.underlying20
 a20:=Tryz.isAgg20
 z20:=Tryz.sizeOf20
 v20:=Tryz.zeroValue20
 t37:=Tryz.underlying53
 a37:=Tryz.isAgg53
 z37:=Tryz.sizeOf53
 v37:=Tryz.zeroValue53
 t70:=Tryz.underlying52
 a70:=Tryz.isAgg52
 z70:=Tryz.sizeOf52
 v70:=Tryz.zeroValue52
 t72:=Tryz.underlying55
 a72:=Tryz.isAgg55
 z72:=Tryz.sizeOf55
 v72:=Tryz.zeroValue55
 t75:=Tryz.underlying64
 a75:=Tryz.isAgg64
 z75:=Tryz.sizeOf64
 v75:=Tryz.zeroValue64
 t164:=Tryz.underlying103
 a164:=Tryz.isAgg103
 z164:=Tryz.sizeOf103
 v164:=Tryz.zeroValue103 }
def Tryz.lays169_ren:Go.Shelf.Ren:=⟨fun | 169=>28 | n=>n,fun | 22=>130 | 23=>190 | 24=>110 | 25=>111 | 27=>79 | 28=>165 | 31=>40 | 32=>112 | 33=>90 | 37=>53 | 40=>215 | 41=>95 | 42=>153 | 43=>109 | 46=>102 | 47=>101 | 48=>98 | 51=>134 | 52=>133 | 53=>136 | 54=>135 | 55=>204 | 59=>167 | 60=>168 | 63=>207 | 64=>210 | 67=>94 | 68=>143 | 69=>67 | 70=>52 | 71=>54 | 72=>55 | 73=>116 | 74=>63 | 75=>64 | 76=>65 | 77=>66 | 80=>68 | 81=>120 | 83=>81 | 84=>115 | 100=>84 | 101=>49 | 102=>70 | 103=>39 | 104=>83 | 105=>205 | 106=>206 | 111=>166 | 114=>175 | 115=>196 | 116=>197 | 117=>198 | 118=>199 | 119=>211 | 122=>195 | 123=>200 | 124=>201 | 127=>85 | 131=>72 | 135=>100 | 137=>212 | 138=>213 | 139=>214 | 146=>208 | 151=>209 | 164=>103 | 165=>104 | 166=>179 | 171=>149 | 172=>150 | 173=>151 | 174=>152 | 182=>126 | 183=>127 | 188=>125 | 189=>128 | 190=>129 | 191=>131 | 192=>132 | 211=>176 | 212=>177 | 213=>178 | 218=>154 | 219=>155 | 220=>156 | 222=>158 | 224=>157 | 225=>159 | 228=>180 | 229=>181 | 231=>182 | 232=>202 | 233=>203 | 238=>216 | 239=>217 | 240=>218 | 241=>219 | 242=>220 | 243=>221 | 244=>222 | 245=>223 | 246=>224 | 247=>225 | 248=>226 | 249=>227 | n=>n,fun | 3=>4 | 4=>5 | 17=>0 | 18=>2 | 19=>3 | n=>n⟩
set_option maxRecDepth 100000 in
theorem Tryz.lays169:Go.Proofs.Lays.n169 Tryz.prog Tryz.lays169_ren:={
 mixed:=by kernel_rfl
 f169:=Tryz.func28.trans (congrArg some (by kernel_rfl))
 t0:=Tryz.underlying0
 a0:=Tryz.isAgg0
 z0:=Tryz.sizeOf0
 v0:=Tryz.zeroValue0
 t3:=Tryz.underlying3
 a3:=Tryz.isAgg3
 z3:=Tryz.sizeOf3
 v3:=Tryz.zeroValue3
 t9:=Tryz.underlying9
 a9:=Tryz.isAgg9
 z9:=Tryz.sizeOf9
 v9:=Tryz.zeroValue9
 t37:=Tryz.underlying53
 a37:=Tryz.isAgg53
 z37:=Tryz.sizeOf53
 v37:=Tryz.zeroValue53
 t70:=Tryz.underlying52
 a70:=Tryz.isAgg52
 z70:=Tryz.sizeOf52
 v70:=Tryz.zeroValue52
 t72:=Tryz.underlying55
 a72:=Tryz.isAgg55
 z72:=Tryz.sizeOf55
 v72:=Tryz.zeroValue55
 t127:=Tryz.underlying85
 a127:=Tryz.isAgg85
 z127:=Tryz.sizeOf85
 v127:=Tryz.zeroValue85 }
def Tryz.lays171_ren:Go.Shelf.Ren:=⟨fun | 129=>98 | 171=>38 | 243=>59 | 246=>81 | 283=>115 | 284=>116 | 285=>117 | 286=>118 | 317=>139 | 318=>140 | 319=>141 | 320=>142 | 337=>153 | 338=>154 | n=>n,fun | 22=>130 | 23=>190 | 24=>110 | 25=>111 | 27=>79 | 28=>165 | 31=>40 | 32=>112 | 33=>90 | 37=>53 | 40=>215 | 41=>95 | 42=>153 | 43=>109 | 46=>102 | 47=>101 | 48=>98 | 51=>134 | 52=>133 | 53=>136 | 54=>135 | 55=>204 | 59=>167 | 60=>168 | 63=>207 | 64=>210 | 67=>94 | 68=>143 | 69=>67 | 70=>52 | 71=>54 | 72=>55 | 73=>116 | 74=>63 | 75=>64 | 76=>65 | 77=>66 | 80=>68 | 81=>120 | 83=>81 | 84=>115 | 100=>84 | 101=>49 | 102=>70 | 103=>39 | 104=>83 | 105=>205 | 106=>206 | 111=>166 | 114=>175 | 115=>196 | 116=>197 | 117=>198 | 118=>199 | 119=>211 | 122=>195 | 123=>200 | 124=>201 | 127=>85 | 131=>72 | 135=>100 | 137=>212 | 138=>213 | 139=>214 | 146=>208 | 151=>209 | 164=>103 | 165=>104 | 166=>179 | 171=>149 | 172=>150 | 173=>151 | 174=>152 | 182=>126 | 183=>127 | 188=>125 | 189=>128 | 190=>129 | 191=>131 | 192=>132 | 211=>176 | 212=>177 | 213=>178 | 218=>154 | 219=>155 | 220=>156 | 222=>158 | 224=>157 | 225=>159 | 228=>180 | 229=>181 | 231=>182 | 232=>202 | 233=>203 | 238=>216 | 239=>217 | 240=>218 | 241=>219 | 242=>220 | 243=>221 | 244=>222 | 245=>223 | 246=>224 | 247=>225 | 248=>226 | 249=>227 | n=>n,fun | 3=>4 | 4=>5 | 17=>0 | 18=>2 | 19=>3 | n=>n⟩
set_option maxRecDepth 100000 in
theorem Tryz.lays171:Go.Proofs.Lays.n171 Tryz.prog Tryz.lays171_ren:={
 mixed:=by kernel_rfl
 f129:=Tryz.func98.trans (congrArg some (by kernel_rfl))
 f171:=Tryz.func38.trans (congrArg some (by kernel_rfl))
 f243:=Tryz.func59.trans (congrArg some (by kernel_rfl))
 f246:=Tryz.func81.trans (congrArg some (by kernel_rfl))
 f283:=Tryz.func115.trans (congrArg some (by kernel_rfl))
 f284:=Tryz.func116.trans (congrArg some (by kernel_rfl))
 f285:=Tryz.func117.trans (congrArg some (by kernel_rfl))
 f286:=Tryz.func118.trans (congrArg some (by kernel_rfl))
 f317:=Tryz.func139.trans (congrArg some (by kernel_rfl))
 f318:=Tryz.func140.trans (congrArg some (by kernel_rfl))
 f319:=Tryz.func141.trans (congrArg some (by kernel_rfl))
 f320:=Tryz.func142.trans (congrArg some (by kernel_rfl))
 f337:=Tryz.func153.trans (congrArg some (by kernel_rfl))
 f338:=Tryz.func154.trans (congrArg some (by kernel_rfl))
 t0:=Tryz.underlying0
 a0:=Tryz.isAgg0
 z0:=Tryz.sizeOf0
 v0:=Tryz.zeroValue0
 t2:=Tryz.underlying2
 a2:=Tryz.isAgg2
 z2:=Tryz.sizeOf2
 v2:=Tryz.zeroValue2
 t3:=Tryz.underlying3
 a3:=Tryz.isAgg3
 z3:=Tryz.sizeOf3
 v3:=Tryz.zeroValue3
 t4:=Tryz.underlying4
 a4:=Tryz.isAgg4
 z4:=Tryz.sizeOf4
 v4:=Tryz.zeroValue4
 t5:=Tryz.underlying5
 a5:=Tryz.isAgg5
 z5:=Tryz.sizeOf5
 v5:=Tryz.zeroValue5
 t9:=Tryz.underlying9
 a9:=Tryz.isAgg9
 z9:=Tryz.sizeOf9
 v9:=Tryz.zeroValue9
 t20:=Tryz.underlying20
 a20:=Tryz.isAgg20
 z20:=Tryz.sizeOf20
 v20:=Tryz.zeroValue20
 t37:=Tryz.underlying53
 a37:=Tryz.isAgg53
 z37:=Tryz.sizeOf53
 v37:=Tryz.zeroValue53
 t46:=Tryz.underlying102
 a46:=Tryz.isAgg102
 z46:=Tryz.sizeOf102
 v46:=Tryz.zeroValue102
 t51:=Tryz.underlying134
 a51:=Tryz.isAgg134
 z51:=Tryz.sizeOf134
 v51:=Tryz.zeroValue134
 t53:=Tryz.underlying136
 a53:=Tryz.isAgg136
 z53:=Tryz.sizeOf136
 v53:=Tryz.zeroValue136
 t171:=Tryz.underlying149
 a171:=Tryz.isAgg149
 z171:=Tryz.sizeOf149
 v171:=Tryz.zeroValue149
 t173:=Tryz.underlying151
 a173:=Tryz.isAgg151
 z173:=Tryz.sizeOf151
 v173:=Tryz.zeroValue151
 t212:=Tryz.underlying177
 a212:=Tryz.isAgg177
 z212:=Tryz.sizeOf177
 v212:=Tryz.zeroValue177
 t213:=Tryz.underlying178
 a213:=Tryz.isAgg178
 z213:=Tryz.sizeOf178
 t232:=Tryz.underlying202
 a232:=Tryz.isAgg202
 z232:=Tryz.sizeOf202
 v232:=Tryz.zeroValue202
 t233:=Tryz.underlying203
 a233:=Tryz.isAgg203
 z233:=Tryz.sizeOf203
 v233:=Tryz.zeroValue203
 g17:=by kernel_rfl
 g18:=by kernel_rfl
 g19:=by kernel_rfl }
theorem Tryz.Builder_Extra_166:Builder.Extra Tryz.prog Tryz.lays166_ren:={
 sizeBuilder:=by kernel_rfl
 liesBuilder:=by kernel_rfl
 t5:=Tryz.underlying5
 a5:=Tryz.isAgg5
 z5:=Tryz.sizeOf5
 v5:=Tryz.zeroValue5
 infoByte:=by kernel_rfl
 cellsByte:=by kernel_rfl
 sizeByte:=by kernel_rfl
 neB5:=by decide }
theorem Tryz.Builder_Extra_169:Builder.Extra Tryz.prog Tryz.lays169_ren:={
 sizeBuilder:=by kernel_rfl
 liesBuilder:=by kernel_rfl
 t5:=Tryz.underlying5
 a5:=Tryz.isAgg5
 z5:=Tryz.sizeOf5
 v5:=Tryz.zeroValue5
 infoByte:=by kernel_rfl
 cellsByte:=by kernel_rfl
 sizeByte:=by kernel_rfl
 neB5:=by decide }
end Go.Proofs
