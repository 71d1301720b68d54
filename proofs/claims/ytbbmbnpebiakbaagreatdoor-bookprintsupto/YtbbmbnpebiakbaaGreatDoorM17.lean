import Derived.Test.YtbbmbnpebiakbaaGreatDoorM16
import Derived.Test.YtbbmbnpebiakbaaGreatDoorM02
import Derived.Test.YtbbmbnpebiakbaaGreatDoorRows
import Derived.Test.YtbbmbnpebiakbaaGreatDoorM01
import Derived.ProofKit
import Derived.OpenShut
import Derived.ShutString
import Derived.SizedLaws
import Derived.Lib.SmallJoins
import Derived.Deep.Slices
import Derived.Carry
import Derived.DataReads
namespace Go.Proofs.YtbbmbnpebiakbaaGreatDoor
open Go.RowKit
set_option linter.unusedVariables false
set_option maxRecDepth 100000 in
set_option maxHeartbeats 1600000 in
theorem rising_nil (w:World) :
  Calls Tryz.prog 21 #[.slice none 0 0] w fun e w'=>e=.returned (.slice none 0 0)/\w.grownBy w' none:=by
 have CS:Hid (∀w,Calls Tryz.prog 30 #[.slice none 0 0] w fun e w'=>∃o c,e=.returned (.slice o 0 c)/\w.grownBy w' none):=fun w=>(cSorted (.slice none 0 0) [] w (Or.inl ⟨rfl,rfl⟩) (by simp)).mono (by
  rintro e w4 ⟨v4,S,rfl,hown4,hp4,hr4,hb4⟩
  have hS:S=[]:=List.Perm.eq_nil hp4
  subst hS
  have htx4:TxS w4 v4 []:=txs_own rfl hown4
  obtain ⟨o,c,rfl⟩:=txs_slice htx4
  exact ⟨o,c,rfl,bel_gb hb4⟩)
 go_enter Tryz.func21,Tryz.ntmps21
 go_wp2
 go_loopw [3,4] (fun vm vi wr=>vm=.slice none 0 0/\vi=.int .i64 0/\w.grownBy wr none) (fun _ vi _=>0)
 case atStart=>exact ⟨rfl,rfl,gb_refl w none⟩
 case round =>
  obtain ⟨rfl,rfl,hb⟩:=hrel
  have HB:Hid (w.grownBy wr none):=hb
  clear hb
  go_wp2_with (first | (go_at_call 30;refine (CS.out _).mono ?_))
  rintro e w4 ⟨o,c,rfl,hg⟩
  have HB4:Hid (w.grownBy w4 none):=gb_trans HB.out hg
  clear hg
  go_wp2
  go_loopw [5,6] (fun vm vi wr=>vm=.slice none 0 0/\vi=.int .i64 0/\w.grownBy wr none) (fun _ vi _=>0)
  case atStart=>exact ⟨rfl,rfl,HB4.out⟩
  case round =>
   obtain ⟨rfl,rfl,hb⟩:=hrel
   have HB5:Hid (w.grownBy wr none):=hb
   clear hb
   go_wp2
   refine bodyPost_ret (results_tmp (t:=2) rfl _ _ _) rfl ⟨rfl,HB5.out⟩
set_option maxRecDepth 100000 in
set_option maxHeartbeats 1600000 in
theorem refPrint_nil (w:World) :
  Calls Tryz.prog 9 #[.slice none 0 0] w fun e w'=>e=.returned (.tuple #[.string ⟨#[102,111,114,109,97,116,32,61,32,49,10]⟩,.int .i64 0,.int .i64 0])/\w.grownBy w' none:=by
 have CR:Hid (∀w,Calls Tryz.prog 21 #[.slice none 0 0] w fun e w'=>e=.returned (.slice none 0 0)/\w.grownBy w' none):=rising_nil
 go_enter Tryz.func9,Tryz.ntmps9
 go_wp2
 go_loopw [5] (fun vi wr=>vi=.int .i64 0/\w.grownBy wr none) (fun vi _=>0)
 case atStart=>exact ⟨rfl,gb_refl w none⟩
 case round =>
  obtain ⟨rfl,hb⟩:=hrel
  have HB:Hid (w.grownBy wr none):=hb
  clear hb
  go_wp2_with (first | (go_at_call 21;refine (CR.out _).mono ?_))
  rintro e w4 ⟨rfl,hg⟩
  have HB4:Hid (w.grownBy w4 none):=gb_trans HB.out hg
  clear hg
  go_wp2
  go_loopw [7,9] (fun vm vi wr=>vm=.string ⟨#[102,111,114,109,97,116,32,61,32,49,10]⟩/\vi=.int .i64 0/\w.grownBy wr none) (fun _ vi _=>0)
  case atStart=>exact ⟨rfl,rfl,HB4.out⟩
  case round =>
   obtain ⟨rfl,rfl,hb⟩:=hrel
   have HB5:Hid (w.grownBy wr none):=hb
   clear hb
   go_wp2
   refine bodyPost_ret (results_tmp3 (t:=2) (u:=3) (v:=4) rfl _ _ _) rfl ⟨rfl,HB5.out⟩
theorem cPrintLock (v:Value) (L:List En) (w:World) (h:EnS w v L) (hL:L.length<=1048576) (hV:∀x ∈ L,x.nm.size<=1048576/\x.ve.size<=1048576/\x.dg.size<=1048576) (hN:∀x ∈ L,x.nd.length<=1048576) (hS:∀x ∈ L,∀y ∈ x.nd,y.size<=1048576) :
  Calls Tryz.prog 9 #[v] w fun e w'=>e=.returned (.tuple #[.string (lockR L),.int .i64 (lockFrom L L.length).1,.int .i64 ((lockFrom L L.length).2:Int)])/\w.grownBy w' none:=by
 rcases h with ⟨rfl,rfl⟩ | ⟨a,cap,rfl,h2,h3⟩
 ·have e0:lockFrom [] ([]:List En).length=(0,0):=rfl
  have e1:lockR []=⟨#[102,111,114,109,97,116,32,61,32,49,10]⟩:=by
   unfold lockR
   rw [e0,if_pos rfl]
   have:sortE []=[]:=List.Perm.eq_nil (sortE_perm [])
   unfold lockT
   rw [this];rfl
  rw [e0,e1]
  exact refPrint_nil w
 ·exact refPrint_at a cap L w h2 h3 hL hV hN hS
set_option maxRecDepth 100000 in
set_option maxHeartbeats 800000 in
theorem bookPrintsLaw (sl:Value) (L:List En) (w:World) (h:EnS w sl L) (hL:L.length<=1048576) (hV:∀x ∈ L,x.nm.size<=1048576/\x.ve.size<=1048576/\x.dg.size<=1048576) (hN:∀x ∈ L,x.nd.length<=1048576) (hS:∀x ∈ L,∀y ∈ x.nd,y.size<=1048576) :
  Calls Tryz.prog 3 #[sl] w fun e w'=>e=.returned (.bool true)/\w.grownBy w' none:=by
 have CRl:Hid (∀w',w.grownBy w' none->Calls Tryz.prog 7 #[sl] w' fun e w''=>∃o c,e=.returned (.slice o L.length c)/\EnS w'' (.slice o L.length c) L/\w'.grownBy w'' none):=fun w' hg=>cEntries sl L w' (h.grow hg) hL hN
 have CC:Hid (∀v w',EnS w' v L->Calls Tryz.prog 8 #[v] w' fun e w''=>e=.returned (.tuple #[.string (lockR L),.int .i64 (lockFrom L L.length).1,.int .i64 ((lockFrom L L.length).2:Int)])/\w'.grownBy w'' none):=fun v w' h=>bPrint_any v L w' h hL hV hN hS
 have CD:Hid (∀w',w.grownBy w' none->Calls Tryz.prog 9 #[sl] w' fun e w''=>e=.returned (.tuple #[.string (lockR L),.int .i64 (lockFrom L L.length).1,.int .i64 ((lockFrom L L.length).2:Int)])/\w'.grownBy w'' none):=fun w' hg=>cPrintLock sl L w' (h.grow hg) hL hV hN hS
 have CS:Hid (∀v w',EnS w' v L->w.grownBy w' none->Calls Tryz.prog 10 #[v,sl] w' fun e w''=>e=.returned (.bool true)/\w'.grownBy w'' none):=fun v w' h1 hg=>sameEntries_any v sl L w' h1 (h.grow hg) hL hN
 have CM:Hid (∀n w,Calls Tryz.prog 11 #[.int .i64 n] w fun e w'=>e=.returned (.int .i64 n)/\w.grownBy w' none):=fun n w=>lnum_gb n w
 obtain ⟨o0,c0,rfl⟩:=ens_slice h
 obtain ⟨E,hE⟩:∃E,(lockFrom L L.length).1=E:=⟨_,rfl⟩
 obtain ⟨K,hK⟩:∃K:Int,((lockFrom L L.length).2:Int)=K:=⟨_,rfl⟩
 obtain ⟨T,hT⟩:∃T,lockR L=T:=⟨_,rfl⟩
 rw [hE,hK,hT] at CC CD
 have hee:(E == E)=true:=by simp
 have hkk:(K == K)=true:=by simp
 have htt:(T.toList == T.toList)=true:=by simp
 clear h hV hN hS hE hK hT
 have HG:Hid (w.grownBy w none):=gb_refl _ _
 go_enter Tryz.func3,Tryz.ntmps3
 go_wp2_with (first | (go_at_call 7;refine (CRl.out _ HG.out).mono ?_))
 rintro e w1 ⟨o1,c1,rfl,hr1,hg⟩
 replace HG:Hid (w.grownBy w1 none):=gb_trans HG.out hg
 have HR1:Hid (EnS w1 (.slice o1 L.length c1) L):=hr1
 clear hg hr1
 go_wp2_with (first | (go_at_call 8;refine (CC.out _ _ HR1.out).mono ?_))
 rintro e w2 ⟨rfl,hg⟩
 replace HG:Hid (w.grownBy w2 none):=gb_trans HG.out hg
 replace HR1:Hid (EnS w2 (.slice o1 L.length c1) L):=HR1.out.grow hg
 clear hg
 go_wp2_with (first | (go_at_call 9;refine (CD.out _ HG.out).mono ?_))
 rintro e w3 ⟨rfl,hg⟩
 replace HG:Hid (w.grownBy w3 none):=gb_trans HG.out hg
 replace HR1:Hid (EnS w3 (.slice o1 L.length c1) L):=HR1.out.grow hg
 clear hg
 go_wp2_with (first | (go_at_call 10;refine (CS.out _ _ HR1.out HG.out).mono ?_))
 rintro e w4 ⟨rfl,hg⟩
 replace HG:Hid (w.grownBy w4 none):=gb_trans HG.out hg
 clear hg HR1
 go_wp2_with (first | (go_at_call 11;refine (CM.out _ _).mono ?_;rintro e w5 ⟨rfl,hg5⟩))
 go_ret
 exact ⟨rfl,gb_trans HG.out hg5⟩
end Go.Proofs.YtbbmbnpebiakbaaGreatDoor
namespace Go.Proofs.YtbbmbnpebiakbaaGreatDoor
open Go.ChangeShapes Go.WideShapes Go.ChangeAt Go.RowKit Go.Joins
set_option linter.unusedVariables false
instance:Inhabited En:=⟨⟨⟨#[]⟩,⟨#[]⟩,⟨#[]⟩,[]⟩⟩
theorem cellsEn:Tryz.prog.cellsOf 42=4:=by kernel_rfl
theorem cellsTx:Tryz.prog.cellsOf 9=1:=by kernel_rfl
theorem one_bulkE {H:Type} (d:DataW H):1<=Rows.uptoBulk d:=by
 cases d with
 | lit l=>cases l <;> simp [Rows.uptoBulk]
 | _=>simp [Rows.uptoBulk]
theorem len_bulkE {H:Type} (l:List (DataW H)):l.length<=Rows.uptoBulkAll l:=by
 induction l with
 | nil=>simp
 | cons d l ih =>
  have:=one_bulkE d
  simp only [Rows.uptoBulkAll,List.length_cons]
  omega
theorem mem_bulkE {H:Type} (l:List (DataW H)) (d:DataW H) (h:d ∈ l):Rows.uptoBulk d<=Rows.uptoBulkAll l:=by
 induction l with
 | nil=>cases h
 | cons e l ih =>
  simp only [Rows.uptoBulkAll]
  rcases List.mem_cons.1 h with rfl | h
  ·omega
  ·have:=ih h
   omega
theorem list4E {α:Type} {cs:List α} (h:cs.length=4):∃c0 c1 c2 c3,cs=[c0,c1,c2,c3]:=by
 match cs,h with
 | [c0,c1,c2,c3],_=>exact ⟨c0,c1,c2,c3,rfl⟩
set_option maxRecDepth 100000 in
theorem open_texts {H:Type} {enc:TypeId × Value->H} {w:World} {base:Nat} {spare:Nat->Bool} {held:Bool} {fuel:Nat} {v:Value} {x:DataW H × List MemPlace}
  (h:DataW.trod enc Tryz.prog w base spare held fuel 40 [v]=some x):∃L:List ByteArray,TxS w v L/\L.length<=Rows.uptoBulk x.1/\∀y ∈ L,y.size<=Rows.uptoBulk x.1:=by
 have hu:=Tryz.underlying40
 rcases Deep.open_slice hu h with ⟨hcs,hx⟩ | ⟨a,len,cap,m,n,D,Pl,hcs,hb,hl,hm,hmm,hx,hel⟩
 ·simp at hcs
  exact ⟨[],Or.inl ⟨hcs,rfl⟩,by simp,by simp⟩
 ·simp at hcs
  subst hcs
  have hle:len<=m:=by rw [hmm];split <;> omega
  have hS:∀i,i < len->∃s:ByteArray,w.cell? (a.add i)=some (.string s)/\s.size<=Rows.uptoBulk (D i):=by
   intro i hi
   obtain ⟨cs',h1,h2⟩:=hel i (by omega)
   rw [cellsTx] at h1
   obtain ⟨-,h4,h3⟩:=World.cells?_some h1
   obtain ⟨a0,e0,hd,w0⟩:=DataW.trod_string Tryz.underlying9 h2
   have q0:=h3 0 (by omega)
   rw [Deep.add_add,e0] at q0
   refine ⟨a0,by simpa using q0,?_⟩
   have hd':=congrArg Prod.fst hd
   simp only [] at hd'
   rw [hd']
   simp only [Rows.uptoBulk,Array.length_toList]
   have e1:a0.data.size=a0.size:=rfl
   omega
  obtain ⟨S,hS⟩:=Deep.choose_lt hS
  have hlen:((List.range len).map S).length=len:=by simp
  refine ⟨(List.range len).map S,Or.inr ⟨a,cap,by rw [hlen],by rw [hlen];exact hl,fun i hi=>?_⟩,?_,fun y hy=>?_⟩
  ·have hi':i < len:=by rw [hlen] at hi;exact hi
   rw [List.getElem_map,List.getElem_range]
   exact (hS i hi').1
  ·rw [hx,hlen]
   simp only [Rows.uptoBulk]
   have:=len_bulkE ((List.range len).map D)
   simp only [List.length_map,List.length_range] at this
   omega
  ·obtain ⟨i,hi,rfl⟩:=List.mem_map.1 hy
   have hm:=mem_bulkE ((List.range len).map D) (D i) (List.mem_map.2 ⟨i,hi,rfl⟩)
   have:=(hS i (List.mem_range.1 hi)).2
   rw [hx];simp only [Rows.uptoBulk];omega
set_option maxRecDepth 100000 in
set_option maxHeartbeats 800000 in
theorem en_cells {H:Type} {enc:TypeId × Value->H} {w:World} {base:Nat} {spare:Nat->Bool} {held:Bool} {fuel:Nat} {cs:List Value} {x:DataW H × List MemPlace}
  (h:DataW.trod enc Tryz.prog w base spare held fuel 42 cs=some x) :
  ∃(r:En) (v:Value),cs=[.string r.nm,.string r.ve,.string r.dg,v]/\TxS w v r.nd/\r.nm.size<=Rows.uptoBulk x.1/\r.ve.size<=Rows.uptoBulk x.1/\r.dg.size<=Rows.uptoBulk x.1/\r.nd.length<=Rows.uptoBulk x.1/\∀y ∈ r.nd,y.size<=Rows.uptoBulk x.1:=by
 have hu:=Tryz.underlying42
 obtain ⟨xs,n,_,hx,hl,hlen,hfs⟩:=DataW.trod_struct hu h
 obtain ⟨c0,c1,c2,c3,rfl⟩:=list4E (hl.trans cellsEn)
 match xs,hlen with
 | [y0,y1,y2,y3],_ =>
  have k9:Tryz.prog.cellsOf 9=1:=by kernel_rfl
  have k8:Tryz.prog.cellsOf 40=1:=by kernel_rfl
  have g0:=hfs 0 _ rfl
  have g1:=hfs 1 _ rfl
  have g2:=hfs 2 _ rfl
  have g3:=hfs 3 _ rfl
  simp [k8,k9] at g0 g1 g2 g3
  obtain ⟨a0,e0,rfl,w0⟩:=DataW.trod_string Tryz.underlying9 g0
  obtain ⟨a1,e1,rfl,w1⟩:=DataW.trod_string Tryz.underlying9 g1
  obtain ⟨a2,e2,rfl,w2⟩:=DataW.trod_string Tryz.underlying9 g2
  obtain ⟨N,hN,hNl,hNy⟩:=open_texts g3
  simp at e0 e1 e2
  subst e0
  subst e1
  subst e2
  have f0:a0.data.size=a0.size:=rfl
  have f1:a1.data.size=a1.size:=rfl
  have f2:a2.data.size=a2.size:=rfl
  refine ⟨⟨a0,a1,a2,N⟩,c3,rfl,hN,?_,?_,?_,?_,fun y hy=>?_⟩
  ·rw [hx]
   simp only [List.map,Rows.uptoBulk,Rows.uptoBulkAll,Array.length_toList]
   omega
  ·rw [hx]
   simp only [List.map,Rows.uptoBulk,Rows.uptoBulkAll,Array.length_toList]
   omega
  ·rw [hx]
   simp only [List.map,Rows.uptoBulk,Rows.uptoBulkAll,Array.length_toList]
   omega
  ·rw [hx]
   simp only [List.map,Rows.uptoBulk,Rows.uptoBulkAll,Array.length_toList]
   omega
  ·have:=hNy y hy
   rw [hx]
   simp only [List.map,Rows.uptoBulk,Rows.uptoBulkAll,Array.length_toList]
   omega
set_option maxRecDepth 100000 in
theorem open_entries {H:Type} {enc:TypeId × Value->H} {w:World} {base:Nat} {spare:Nat->Bool} {held:Bool} {r:Reach} {b0:Nat} {v:Value} {d:DataW H} {p:List MemPlace}
  (hv:Value.okWide Tryz.prog w r b0 22 v) (h:DataW.Trod enc Tryz.prog w base spare held 22 v d p) :
  ∃L:List En,EnS w v L/\L.length<=Rows.uptoBulk d/\∀s ∈ L,s.nm.size<=Rows.uptoBulk d/\s.ve.size<=Rows.uptoBulk d/\s.dg.size<=Rows.uptoBulk d/\s.nd.length<=Rows.uptoBulk d/\∀y ∈ s.nd,y.size<=Rows.uptoBulk d:=by
 have hu:=Tryz.underlying22
 obtain ⟨a0,l0,c0,rfl⟩:=okWide_slice hu hv
 obtain ⟨fuel,hf⟩:=h
 rcases Deep.open_slice hu hf with ⟨hcs,hx⟩ | ⟨a,len,cap,m,n,D,Pl,hcs,hb,hl,hm,hmm,hx,hel⟩
 ·simp [Value.cells] at hcs
  obtain ⟨rfl,rfl,rfl⟩:=hcs
  exact ⟨[],Or.inl ⟨rfl,rfl⟩,by simp,by simp⟩
 ·simp [Value.cells] at hcs
  obtain ⟨rfl,rfl,rfl⟩:=hcs
  have hle:l0<=m:=by rw [hmm];split <;> omega
  have hS:∀i,i < l0->∃s:En,EnAt w (a.add (i * 4)) s/\s.nm.size<=Rows.uptoBulk (D i)/\s.ve.size<=Rows.uptoBulk (D i)/\s.dg.size<=Rows.uptoBulk (D i)/\s.nd.length<=Rows.uptoBulk (D i)/\∀y ∈ s.nd,y.size<=Rows.uptoBulk (D i):=by
   intro i hi
   obtain ⟨cs',h1,h2⟩:=hel i (by omega)
   obtain ⟨s,v,hc,hn,hv1,hv2,hv3,hv4,hv5⟩:=en_cells h2
   rw [cellsEn] at h1
   obtain ⟨-,h4,h3⟩:=World.cells?_some h1
   subst hc
   have q0:=h3 0 (by omega)
   have q1:=h3 1 (by omega)
   have q2:=h3 2 (by omega)
   have q3:=h3 3 (by omega)
   rw [Deep.add_add] at q0 q1 q2 q3
   rw [hadd_off _ _ _ (by omega)] at q1 q2 q3
   exact ⟨s,⟨by simpa using q0,by simpa using q1,by simpa using q2,v,by simpa using q3,hn⟩,hv1,hv2,hv3,hv4,hv5⟩
  obtain ⟨S,hS⟩:=Deep.choose_lt hS
  have hlen:((List.range l0).map S).length=l0:=by simp
  have hd:d=.slice ((List.range l0).map D) ((List.range (m - l0)).map fun j=>D (l0+j)):=congrArg Prod.fst hx
  have hbl:=len_bulkE ((List.range l0).map D)
  simp only [List.length_map,List.length_range] at hbl
  refine ⟨(List.range l0).map S,Or.inr ⟨a,c0,by rw [hlen],by rw [hlen];exact hl,fun i hi=>?_⟩,?_,fun s hs=>?_⟩
  ·have hi':i < l0:=by rw [hlen] at hi;exact hi
   rw [List.getElem_map,List.getElem_range]
   exact (hS i hi').1
  ·rw [hd,hlen];simp only [Rows.uptoBulk];omega
  ·obtain ⟨i,hi,rfl⟩:=List.mem_map.1 hs
   have hm:=mem_bulkE ((List.range l0).map D) (D i) (List.mem_map.2 ⟨i,hi,rfl⟩)
   obtain ⟨-,b1,b2,b3,b4,b5⟩:=hS i (List.mem_range.1 hi)
   rw [hd];simp only [Rows.uptoBulk]
   exact ⟨by omega,by omega,by omega,by omega,fun y hy=>by have:=b5 y hy;omega⟩
end Go.Proofs.YtbbmbnpebiakbaaGreatDoor
