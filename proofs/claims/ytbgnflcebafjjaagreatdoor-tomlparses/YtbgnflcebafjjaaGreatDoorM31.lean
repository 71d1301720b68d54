import Derived.Test.YtbgnflcebafjjaaGreatDoorM27
import Derived.Test.YtbgnflcebafjjaaGreatDoorM29
import Derived.Test.YtbgnflcebafjjaaGreatDoorM30
import Derived.Test.YtbgnflcebafjjaaGreatDoorM28
import Derived.Test.YtbgnflcebafjjaaGreatDoorRows
import Derived.Test.YtbgnflcebafjjaaGreatDoorTie
import Derived.LaidLaws
import Derived.RowKitTokens
import Derived.Stop.ErrReads
import Derived.LaidSub
import Derived.LaidHandle
import Derived.Lib.LaidU8T
import Derived.Lib.LaidTab
namespace Go.Proofs.YtbgnflcebafjjaaGreatDoor
open Go.RowKit Go.Maps Go.WideMaps Go.Joins
set_option linter.unusedVariables false
theorem TrD.nos {w:World} {B T:Nat} {ns:List Tn} {now N c M:Nat} {xs:List Value} {ks:Nat->Value} {n:Nat} {f:Nat->List UInt8->Option (Nat × Bool)} (h:TrD w B T ns now N c M xs ks n f):NoS w (.slice (some ⟨N,0,none⟩) ns.length c) ns:=by
 refine ⟨_,_,rfl,fun i hi=>?_⟩
 obtain ⟨h0,h1,h2,h3,h4,h5,-⟩:=h.node i hi
 exact ⟨N,ks i,rfl,h0,h1,h2,h3,h4,h5,NuS.of (h.kid i hi)⟩
theorem DtD.nos {w:World} {B P:Nat} {ns:List Tn} {m:Nat} {own:List Nat} {N c:Nat} {OV:Value} {xs:List Value} {ks:Nat->Value} (h:DtD w B P ns m own (.slice (some ⟨N,0,none⟩) ns.length c) OV xs ks):NoS w (.slice (some ⟨N,0,none⟩) ns.length c) ns:=by
 refine ⟨_,_,rfl,fun i hi=>?_⟩
 obtain ⟨h0,h1,h2,h3,h4,h5,-⟩:=h.node i hi
 exact ⟨N,ks i,rfl,h0,h1,h2,h3,h4,h5,NuS.of (h.kid i hi)⟩
theorem nos_nil (w:World):NoS w (.slice none 0 0) []:=⟨none,0,rfl,fun i hi=>absurd hi (by simp)⟩
theorem NoS.grow {w w':World} {v:Value} {ns:List Tn} (h:NoS w v ns) (hg:w.grownBy w' none):NoS w' v ns:=by
 obtain ⟨o,c,hv,hc⟩:=h
 refine ⟨o,c,hv,fun i hi=>?_⟩
 obtain ⟨g,k,e,h0,h1,h2,h3,h4,h5,h6⟩:=hc i hi
 exact ⟨g,k,e,hg.cell h0 (by simp),hg.cell h1 (by simp),hg.cell h2 (by simp),hg.cell h3 (by simp),hg.cell h4 (by simp),hg.cell h5 (by simp),h6.grow hg⟩
structure SpF (b0 b1:Nat) (w w':World):Prop where
 os:w'.os=w.os
 tape:w'.tape=w.tape
 output:w'.output=w.output
 size:w.heap.size<=w'.heap.size
 block:∀b,(b < b0\/b1<=b)->w'.heap[b]?=w.heap[b]?
theorem SpF.refl (b0 b1:Nat) (w:World):SpF b0 b1 w w:=⟨rfl,rfl,rfl,Nat.le_refl _,fun _ _=>rfl⟩
theorem SpF.set {b0 b1:Nat} {w w':World} (h:SpF b0 b1 w w') {g:Nat} (h0:b0<=g) (h1:g < b1) (o:Nat) (v:Value):SpF b0 b1 w (w'.setCell ⟨g,o,none⟩ v) :=
 ⟨h.os,h.tape,h.output,by have:=h.size;simpa [World.setCell] using this,fun b hb=>(heap_setCell_other w' _ b v (by simp only [];omega)).trans (h.block b hb)⟩
theorem SpF.below {b0 b1:Nat} {w w':World} (h:SpF b0 b1 w w'):Below b0 w w':=⟨h.os,h.tape,h.output,h.size,fun k hk=>h.block k (Or.inl hk)⟩
structure SpL (w:World) (b0 b1 N n i:Nat) (ks:Nat->Value) (ls:Nat->Nat):Prop where
 lo:b0<=N
 hi:N < b1
 row:∃cur,w.heap[N]?=some (.cells cur 33 (0,0))/\n * 6<=cur.size/\∀j,i<=j->j < n->cur[j * 6+4]?=some (ks j)
 kid:∀j,j < n->∃o c,ks j=.slice o (ls j) c/\ls j<=1000000/\(0 < ls j->∃g cur,o=some ⟨g,0,none⟩/\b0<=g/\g < b1/\w.heap[g]?=some (.cells cur 3 (0,0))/\ls j<=cur.size)
section
variable {w:World} {b0 b1 N n i:Nat} {ks:Nat->Value} {ls:Nat->Nat}
theorem SpL.next (h:SpL w b0 b1 N n i ks ls):SpL w b0 b1 N n (i+1) ks ls:=by
 obtain ⟨cur,h1,h2,h3⟩:=h.row
 exact ⟨h.lo,h.hi,⟨cur,h1,h2,fun j hj hn=>h3 j (by omega) hn⟩,h.kid⟩
theorem SpL.cell (h:SpL w b0 b1 N n i ks ls) (o:Nat) (ho:o < i * 6) (v:Value):SpL (w.setCell ⟨N,o,none⟩ v) b0 b1 N n i ks ls:=by
 obtain ⟨cur,h1,h2,h3⟩:=h.row
 refine ⟨h.lo,h.hi,⟨cur.setIfInBounds o v,block_setCell h1 v,by simpa using h2,fun j hj hn=>?_⟩,fun j hj=>?_⟩
 ·rw [Array.getElem?_setIfInBounds_ne (by omega)]
  exact h3 j hj hn
 ·obtain ⟨oo,c,e,hm,hh⟩:=h.kid j hj
  refine ⟨oo,c,e,hm,fun hp=>?_⟩
  obtain ⟨g,cu,e1,e2,e3,e4,e5⟩:=hh hp
  exact ⟨g,cu,e1,e2,e3,(heap_setCell_other _ _ _ _ (ne_typ e4 h1 (by decide))).trans e4,e5⟩
theorem SpL.kidc (h:SpL w b0 b1 N n i ks ls) {g:Nat} {cu:Array Value} (hg:w.heap[g]?=some (.cells cu 3 (0,0))) (o:Nat) (v:Value):SpL (w.setCell ⟨g,o,none⟩ v) b0 b1 N n i ks ls:=by
 obtain ⟨cur,h1,h2,h3⟩:=h.row
 refine ⟨h.lo,h.hi,⟨cur,(heap_setCell_other _ _ _ _ (ne_typ h1 hg (by decide))).trans h1,h2,h3⟩,fun j hj=>?_⟩
 obtain ⟨oo,c,e,hm,hh⟩:=h.kid j hj
 refine ⟨oo,c,e,hm,fun hp=>?_⟩
 obtain ⟨g',cu',e1,e2,e3,e4,e5⟩:=hh hp
 by_cases hgg:g'=g
 ·subst hgg
  rw [hg] at e4
  cases e4
  exact ⟨g',_,e1,e2,e3,block_setCell hg v,by simpa using e5⟩
 ·exact ⟨g',cu',e1,e2,e3,(heap_setCell_other _ _ _ _ hgg).trans e4,e5⟩
theorem SpL.at (h:SpL w b0 b1 N n i ks ls) (j:Nat) (hj:i<=j) (hn:j < n):w.cell? ⟨N,j * 6+4,none⟩=some (ks j)/\∀k,w.frozen? ⟨N,k,none⟩=false:=by
 obtain ⟨cur,h1,h2,h3⟩:=h.row
 exact ⟨by rw [Lib.cell_of_heap h1];exact h3 j hj hn,fun k=>Lib.frozen_of_heap h1 k⟩
theorem SpL.any (h:SpL w b0 b1 N n i ks ls) (o:Nat) (ho:o < n * 6):∃v,w.cell? ⟨N,o,none⟩=some v:=by
 obtain ⟨cur,h1,h2,h3⟩:=h.row
 exact ⟨cur[o]'(by omega),by rw [Lib.cell_of_heap h1];exact Array.getElem?_eq_getElem (by omega)⟩
end
theorem TrD.spl {w w':World} {B T:Nat} {ns:List Tn} {now N c M:Nat} {xs:List Value} {ks:Nat->Value} {n:Nat} {f:Nat->List UInt8->Option (Nat × Bool)} (h:TrD w B T ns now N c M xs ks n f) (hg:w.grownBy w' none) (hl:∀i (hi:i < ns.length),ns[i].ks.length<=1000000):SpL w' B w.heap.size N ns.length 0 ks (fun i=>(ns[i]?.map (·.ks.length)).getD 0):=by
 obtain ⟨hlo,cur0,hN⟩:=own_typ h.row (g:=N) rfl
 refine ⟨hlo,blk_lt hN,?_,fun j hj=>?_⟩
 ·rcases h.row.2 with ⟨e1,_⟩ | ⟨g',cap',cu,e1,hb,hgg,hn,hm,hs,ht⟩
  ·cases e1
  ·cases e1
   refine ⟨cu,(hg.block N (blk_lt hgg) (by simp)).trans hgg,?_,fun j _ hj=>?_⟩
   ·have hx:=h.row.1
    rw [<-ht,List.length_take] at hx
    have:cu.toList.length=cu.size:=by simp
    omega
   ·have:=(h.cel j hj).2.2.2.2.1
    rw [<-ht,List.getElem?_take] at this
    split at this
    ·rw [Array.getElem?_toList] at this;exact this
    ·cases this
 ·have hk:=h.kid j hj
  have e:((ns[j]?.map (·.ks.length)).getD 0)=ns[j].ks.length:=by rw [List.getElem?_eq_getElem hj];rfl
  obtain ⟨o,c',hv⟩:=own_slice hk
  refine ⟨o,c',by rw [e];exact hv,by rw [e];exact hl j hj,fun hp=>?_⟩
  rw [e] at hp
  rcases hk.2 with ⟨e1,e2⟩ | ⟨g',cap',cu,e1,hb,hgg,hn,hm,hs,ht⟩
  ·omega
  ·rw [hv] at e1
   injection e1 with e1 _ _
   refine ⟨g',cu,e1,hb,blk_lt hgg,(hg.block g' (blk_lt hgg) (by simp)).trans hgg,?_⟩
   have hx:=hk.1
   rw [<-ht,List.length_take] at hx
   have:cu.toList.length=cu.size:=by simp
   rw [e]
   simp only [Nat.mul_one] at hx
   omega
theorem DtD.spf {w w':World} {B P:Nat} {ns:List Tn} {m:Nat} {own:List Nat} {LV OV:Value} {xs:List Value} {ks:Nat->Value} {b0 b1:Nat} (h:DtD w B P ns m own LV OV xs ks) (hf:SpF b0 b1 w w') (hB:b1<=B):DtD w' B P ns m own LV OV xs ks :=
 ⟨own_block h.row fun g cur hh _=>hf.block g (Or.inr (by have:=(own_typ h.row hh).1;omega)),h.cel,fun i hi=>own_block (h.kid i hi) fun g cur hh _=>hf.block g (Or.inr (by have:=(own_typ (h.kid i hi) hh).1;omega)),h.apart,own_block h.owr fun g cur hh _=>hf.block g (Or.inr (by have:=(own_typ h.owr hh).1;omega)),h.far,Nat.lt_of_lt_of_le h.hP hf.size⟩
theorem pe_any {r:Rs (List Tn)} {w:World} {e:Ending} {w':World} (h:PePost r w e w'):∃a b c,e=.returned (.tuple #[a,b,c])/\w.grownBy w' none:=by
 match r,h with
 | .ok ns,h =>
  obtain ⟨N,c,M,T,xs,ks,now,n,f,h1,-⟩:=h.1 ns rfl
  exact ⟨_,_,_,h1,h.2.2⟩
 | .error (c,p),h=>exact ⟨_,_,_,h.2.1 c p rfl,h.2.2⟩
end Go.Proofs.YtbgnflcebafjjaaGreatDoor
namespace Go.Proofs.YtbgnflcebafjjaaGreatDoor
open Go.RowKit Go.Maps Go.WideMaps Go.Joins
set_option linter.unusedVariables false
theorem rdAll_li (l:List UInt8):∀(f:Nat) (d d':Sd),Li l d->rdAll l f d=.ok d'->Li l d'
 | 0,d,d',L,h=>by cases h;exact L
 | f+1,d,d',L,h=>by
  rw [rdAll_step] at h
  split at h
  ·cases h;exact L
  ·cases hr:rdLine l d with
   | error e=>rw [hr] at h;cases h
   | ok d1 =>
    rw [hr] at h
    exact rdAll_li l f d1 d' (line_ok l d d1 L (by omega) hr).1 h
theorem toml_ok (l:List UInt8) (ns:List Tn) (h:rdToml l=.ok ns):∃own now,Jt ns own now/\kdAt ns 0=0/\ns.length<=200001/\l.length<=100000:=by
 rw [rdToml_eq] at h
 split at h
 ·cases h
 ·cases ha:rdAll l (l.length+1) ⟨0,[⟨0,[],[],0,[],0⟩],[],0⟩ with
  | error e=>rw [ha] at h;cases h
  | ok d =>
   rw [ha] at h
   have L:=rdAll_li l _ _ _ (li_start l) ha
   cases h
   have h1:=L.nn
   have h2:=L.le
   exact ⟨d.own,d.now,L.jt,L.rt,by omega,by omega⟩
theorem toml_kids {l:List UInt8} {ns:List Tn} (h:rdToml l=.ok ns) (i:Nat) (hi:i < ns.length):ns[i].ks.length<=1000000:=by
 obtain ⟨own,now,J,-,hn,-⟩:=toml_ok l ns h
 have:=J.wf.len i
 unfold ksAt at this
 rw [List.getElem?_eq_getElem hi] at this
 simp only [] at this
 omega
theorem Gl.up {w:World} {B B':Nat} {E:Int->TypeId × Value} (h:Gl w B E) (hB:B<=B'):Gl w B' E :=
 ⟨h.es,⟨Nat.lt_of_lt_of_le h.lo.te hB,Nat.lt_of_lt_of_le h.lo.ra hB,Nat.lt_of_lt_of_le h.lo.ma hB,Nat.lt_of_lt_of_le h.lo.tw hB⟩,h.tabs,Nat.lt_of_lt_of_le h.t3 hB,Nat.lt_of_lt_of_le h.t4 hB⟩
theorem lNum_any (w:World) (n:Int):Calls Tryz.prog 10 #[.int .i64 n] w fun e w'=>e=.returned (.int .i64 n)/\w'=w:=by
 go_enter Tryz.func10,Tryz.ntmps10
 go_wp2
 go_ret
 exact ⟨rfl,rfl⟩
set_option maxRecDepth 100000 in
set_option maxHeartbeats 6400000 in
theorem tomlParsesLaw (s:ByteArray) (E:Int->TypeId × Value) (b:Int->Addr) (w:World) (G:Gl w w.heap.size E) (S:Sn w E b) (h0:0 < w.heap.size) (hmx:s.size < 2 ^ 62) :
  Calls Tryz.prog 3 #[.string s] w fun e w'=>e=.returned (.bool true)/\w.grownBy w' none:=by
 have CP:Hid (∀w',w.grownBy w' none->Calls Tryz.prog 7 #[.string s] w' (PePost (rdToml s.data.toList) w')):=fun w' hg=>tParse_any s E b w' ((G.bel (gb_below hg)).up hg.size) (S.grow hg) hmx
 have CQ:Hid (∀w',w.grownBy w' none->Calls Tryz.prog 7 #[.string ⟨#[97,32,61,32,91,49,44,32,50,93,10,91,98,93,10,99,32,61,32,34,100,34,10]⟩] w' fun e w''=>∃a b c,e=.returned (.tuple #[a,b,c])/\w'.grownBy w'' none):=fun w' hg=>(tParse_any _ E b w' ((G.bel (gb_below hg)).up hg.size) (S.grow hg) (by decide)).mono fun e w'' h=>pe_any h
 have CR:Hid (∀w',w.grownBy w' none->Calls Tryz.prog 8 #[.string s] w' (RtPost (rdToml s.data.toList) w')):=fun w' hg=>dRead_any dHeader_any s w' (Nat.lt_of_lt_of_le h0 hg.size) hmx
 have CU:Hid (∀(w:World) (n:Int),Calls Tryz.prog 10 #[.int .i64 n] w fun e w'=>e=.returned (.int .i64 n)/\w'=w):=lNum_any
 have HOK:Hid (∀ns,rdToml s.data.toList=.ok ns->ns.length<=200001/\∀i (hi:i < ns.length),ns[i].ks.length<=1000000):=fun ns h=>by
  obtain ⟨own,now,-,-,h1,-⟩:=toml_ok _ ns h
  exact ⟨h1,fun i hi=>toml_kids h i hi⟩
 obtain ⟨X,hX⟩:∃X,rdToml s.data.toList=X:=⟨_,rfl⟩
 rw [hX] at CP CR HOK
 clear hX G S
 go_enter Tryz.func3,Tryz.ntmps3
 go_wp2_with (first | (go_at_call 7;refine (CP.out _ (gb_refl w none)).mono ?_))
 rintro e w1 ⟨h1,h2,hg1⟩
 have HG1:Hid (w.grownBy w1 none):=hg1
 clear hg1
 match X,h1,h2,CP,CR,HOK with
 | .error (c,p),_,h2,CP,CR,HOK =>
  obtain rfl:=h2 c p rfl
  have CN:Hid (∀w',Calls Tryz.prog 9 #[.slice none 0 0,.slice none 0 0] w' fun e w''=>e=.returned (.bool true)/\w'.grownBy w'' none):=fun w'=>lNodes_same w' _ _ [] (nos_nil w') (nos_nil w') (by simp) (fun i hi=>absurd hi (by simp))
  clear h1 h2
  go_wp2_with (first | (go_at_call 7;refine (CQ.out _ HG1.out).mono ?_))
  rintro e w2 ⟨y1,y2,y3,rfl,hg2⟩
  have HG2:Hid (w.grownBy w2 none):=gb_trans HG1.out hg2
  clear hg2
  go_wp2_with (first | (go_at_call 8;refine (CR.out _ HG2.out).mono ?_))
  rintro e w3 ⟨-,h2,hg3⟩
  obtain rfl:=h2 c p rfl
  have HG3:Hid (w.grownBy w3 none):=gb_trans HG2.out hg3
  clear h2 hg3
  go_wp2_with (first | (go_at_call 9;refine (CN.out _).mono ?_))
  rintro e w4 ⟨rfl,hg4⟩
  have HG4:Hid (w.grownBy w4 none):=gb_trans HG3.out hg4
  clear hg4
  have hcc:(c != c)=false:=by simp
  have hpp:((p:Int) != (p:Int))=false:=by simp
  go_wp2_with (first | (go_at_call 10;refine (CU.out _ c).mono ?_;rintro e w' ⟨rfl,rfl⟩))
  go_loopw [10] (fun v10 wr=>v10=.int .i64 0/\w.grownBy wr none) (fun _ _=>0)
  case atStart=>exact ⟨rfl,HG4.out⟩
  case round =>
   obtain ⟨rfl,hgr⟩:=hrel
   have HGR:Hid (w.grownBy wr none):=hgr
   clear hgr
   go_wp2_with (first | (go_at_call 7;refine (CP.out _ HGR.out).mono ?_))
   rintro e w5 ⟨-,h2,hg5⟩
   obtain rfl:=h2 c p rfl
   have HG5:Hid (w.grownBy w5 none):=gb_trans HGR.out hg5
   clear h2 hg5
   go_wp2_with (first | (go_at_call 9;refine (CN.out _).mono ?_;rintro e w6 ⟨rfl,hg6⟩))
   go_ret
   exact ⟨rfl,gb_trans HG5.out hg6⟩
 | .ok ns,h1,_,CP,CR,HOK =>
  obtain ⟨N,c,M,T,xs,ks,now,n0,f,rfl,hD⟩:=h1 ns rfl
  obtain ⟨hnl,hkl⟩:=HOK.out ns rfl
  have HD1:Hid (TrD w1 w.heap.size T ns now N c M xs ks n0 f):=hD
  have HKL:Hid (∀i (hi:i < ns.length),ns[i].ks.length<=1000000):=hkl
  have CN:Hid (∀w' va vb,NoS w' va ns->NoS w' vb ns->Calls Tryz.prog 9 #[va,vb] w' fun e w''=>e=.returned (.bool true)/\w'.grownBy w'' none):=fun w' va vb ha hb=>lNodes_same w' va vb ns ha hb (by omega) hkl
  clear h1 h2 hD hkl
  go_wp2_with (first | (go_at_call 7;refine (CQ.out _ HG1.out).mono ?_))
  rintro e w2 ⟨y1,y2,y3,rfl,hg2⟩
  have HG12:Hid (w1.grownBy w2 none):=hg2
  have HG2:Hid (w.grownBy w2 none):=gb_trans HG1.out hg2
  clear hg2
  go_wp2_with (first | (go_at_call 8;refine (CR.out _ HG2.out).mono ?_))
  rintro e w3 ⟨h1,-,hg3⟩
  obtain ⟨N2,c2,OV,xs2,ks2,own2,m2,rfl,hD2⟩:=h1 ns rfl
  have HD3:Hid (DtD w3 w2.heap.size 0 ns m2 own2 (.slice (some ⟨N2,0,none⟩) ns.length c2) OV xs2 ks2):=hD2
  have HG13:Hid (w1.grownBy w3 none):=gb_trans HG12.out hg3
  have HG3:Hid (w.grownBy w3 none):=gb_trans HG2.out hg3
  have CN1:Hid (Calls Tryz.prog 9 #[.slice (some ⟨N,0,none⟩) ns.length c,.slice (some ⟨N2,0,none⟩) ns.length c2] w3 fun e w''=>e=.returned (.bool true)/\w3.grownBy w'' none):=CN.out w3 _ _ (HD1.out.nos.grow HG13.out) hD2.nos
  obtain ⟨n,hn⟩:∃n,ns.length=n:=⟨_,rfl⟩
  have HN:Hid (ns.length=n):=hn
  rw [hn] at CN1 hnl
  simp only [hn]
  clear h1 hg3 hD2 hn
  go_wp2_with (first | (go_at_call 9;refine CN1.out.mono ?_))
  rintro e w4 ⟨rfl,hg4⟩
  have HG4:Hid (w.grownBy w4 none):=gb_trans HG3.out hg4
  have HD4:Hid (DtD w4 w2.heap.size 0 ns m2 own2 (.slice (some ⟨N2,0,none⟩) n c2) OV xs2 ks2):=by
   have:=HD3.out.gb hg4
   rw [HN.out] at this
   exact this
  have HS4:Hid (SpL w4 w.heap.size w1.heap.size N n 0 ks (fun i=>(ns[i]?.map (·.ks.length)).getD 0)):=by
   have:=HD1.out.spl (gb_trans HG13.out hg4) HKL.out
   rw [HN.out] at this
   exact this
  have HB:Hid (w1.heap.size<=w2.heap.size):=HG12.out.size
  obtain ⟨ls,hls⟩:∃ls:Nat->Nat,(fun i=>(ns[i]?.map (·.ks.length)).getD 0)=ls:=⟨_,rfl⟩
  rw [hls] at HS4
  clear hg4 hls
  go_wp2_with (first | (go_at_call 10;refine (CU.out _ 0).mono ?_;rintro e w' ⟨rfl,rfl⟩))
  go_loopw [10] (fun v10 wr=>∃i:Nat,v10=.int .i64 (i:Nat)/\i<=n/\SpL wr w.heap.size w1.heap.size N n i ks ls/\SpF w.heap.size w1.heap.size w' wr) (fun v10 _=>n - (intOf v10).toNat)
  case atStart=>exact ⟨0,rfl,Nat.zero_le _,HS4.out,SpF.refl _ _ _⟩
  case round =>
   obtain ⟨i,rfl,hi,hsp,hsf⟩:=hrel
   obtain ⟨wo,hwo⟩:∃wo,wo=wr:=⟨_,rfl⟩
   subst hwo
   by_cases hin:i < n
   ·have hI:(i:Int) < (n:Int):=by omega
    obtain ⟨ok,ck,hkv,hkm,hkp⟩:=hsp.kid i hin
    obtain ⟨m,hm⟩:∃m,ls i=m:=⟨_,rfl⟩
    rw [hm] at hkv hkm hkp
    have HKV:Hid (ks i=.slice ok m ck):=hkv
    have HKP:Hid (∀wx,SpL wx w.heap.size w1.heap.size N n i ks ls->0 < m->∃g cur,ok=some ⟨g,0,none⟩/\w.heap.size<=g/\g < w1.heap.size/\wx.heap[g]?=some (.cells cur 3 (0,0))/\m<=cur.size):=fun wx hx hp=>by
     obtain ⟨o',c',e1,-,e3⟩:=hx.kid i hin
     rw [hm] at e1 e3
     rw [hkv] at e1
     injection e1 with e1 _ _
     rw [e1]
     exact e3 hp
    have HSP:Hid (SpL wo w.heap.size w1.heap.size N n i ks ls):=hsp
    have HSF:Hid (SpF w.heap.size w1.heap.size w' wo):=hsf
    clear hsp hsf hkv hkp hm
    go_wp2
    go_loopw [11] (fun v11 wr=>∃k:Nat,v11=.int .i64 (k:Nat)/\k<=m/\SpL wr w.heap.size w1.heap.size N n i ks ls/\SpF w.heap.size w1.heap.size w' wr) (fun v11 _=>m - (intOf v11).toNat)
    case atStart=>exact ⟨0,rfl,Nat.zero_le _,HSP.out,HSF.out⟩
    case round =>
     obtain ⟨k,rfl,hk,hsp,hsf⟩:=hrel
     obtain ⟨a4,afz⟩:=hsp.at i (Nat.le_refl _) hin
     rw [HKV.out] at a4
     have HSQ:Hid (SpL wr w.heap.size w1.heap.size N n i ks ls):=hsp
     have HSG:Hid (SpF w.heap.size w1.heap.size w' wr):=hsf
     by_cases hkm':k < m
     ·have hkI:(k:Int) < (m:Int):=by omega
      obtain ⟨g,cur,rfl,hg0,hg1,hgb,hgs⟩:=HKP.out wr hsp (by omega)
      have b1:∃v,wr.cell? ⟨g,k,none⟩=some v:=⟨cur[k]'(by omega),by rw [Lib.cell_of_heap hgb];exact Array.getElem?_eq_getElem (by omega)⟩
      obtain ⟨v1,b1⟩:=b1
      have b2:wr.frozen? ⟨g,k,none⟩=false:=Lib.frozen_of_heap hgb k
      have HSX:Hid (SpL (wr.setCell ⟨g,k,none⟩ (.int .i64 (-7))) w.heap.size w1.heap.size N n i ks ls):=hsp.kidc hgb k _
      have HSY:Hid (SpF w.heap.size w1.heap.size w' (wr.setCell ⟨g,k,none⟩ (.int .i64 (-7)))):=hsf.set hg0 hg1 k _
      clear hsp hsf hgb hgs hg0 hg1 afz
      go_wp2
      go_roundw
      case rel=>exact ⟨k+1,by go_num,by omega,HSX.out,HSY.out⟩
      case measure=>simp [intOf];omega
     ·have hkI:¬ (k:Int) < (m:Int):=by omega
      obtain ⟨v0,e0⟩:=hsp.any (i * 6) (by omega)
      obtain ⟨v1,e1⟩:=hsp.any (i * 6+1) (by omega)
      obtain ⟨v2,e2⟩:=hsp.any (i * 6+2) (by omega)
      obtain ⟨v3,e3⟩:=hsp.any (i * 6+3) (by omega)
      obtain ⟨v5,e5⟩:=hsp.any (i * 6+5) (by omega)
      have f0:=afz (i * 6)
      have f1:=afz (i * 6+1)
      have f2:=afz (i * 6+2)
      have f3:=afz (i * 6+3)
      have f4:=afz (i * 6+4)
      have f5:=afz (i * 6+5)
      clear hsp hsf afz
      go_upto_region 14 with fail
      go_wp2
      refine ⟨⟨i+1,by go_num,by omega,(((((HSQ.out.next.cell _ (by omega) _).cell _ (by omega) _).cell _ (by omega) _).cell _ (by omega) _).cell _ (by omega) _).cell _ (by omega) _,(((((HSG.out.set HSQ.out.lo HSQ.out.hi _ _).set HSQ.out.lo HSQ.out.hi _ _).set HSQ.out.lo HSQ.out.hi _ _).set HSQ.out.lo HSQ.out.hi _ _).set HSQ.out.lo HSQ.out.hi _ _).set HSQ.out.lo HSQ.out.hi _ _⟩,?_⟩
      simp [intOf]
      omega
   ·have hI:¬ (i:Int) < (n:Int):=by omega
    have HGR:Hid (w.grownBy wo none):=bel_gbn ((gb_below HG4.out).trans hsf.below)
    have HDR:Hid (DtD wo w2.heap.size 0 ns m2 own2 (.slice (some ⟨N2,0,none⟩) n c2) OV xs2 ks2):=HD4.out.spf hsf HB.out
    clear hsp hsf
    go_wp2_with (first | (go_at_call 7;refine (CP.out _ HGR.out).mono ?_))
    rintro e w5 ⟨h1,-,hg5⟩
    obtain ⟨N5,c5,M5,T5,xs5,ks5,now5,n5,f5,rfl,hD5⟩:=h1 ns rfl
    have HG5:Hid (w.grownBy w5 none):=gb_trans HGR.out hg5
    have CN5:Hid (Calls Tryz.prog 9 #[.slice (some ⟨N5,0,none⟩) ns.length c5,.slice (some ⟨N2,0,none⟩) n c2] w5 fun e w''=>e=.returned (.bool true)/\w5.grownBy w'' none):=CN.out w5 _ _ hD5.nos (by
     have:=HDR.out.gb hg5
     rw [<-HN.out] at this ⊢
     exact this.nos)
    have hn:=HN.out
    rw [hn] at CN5
    simp only [hn]
    clear h1 hg5 hD5 hn
    go_wp2_with (first | (go_at_call 9;refine CN5.out.mono ?_;rintro e w6 ⟨rfl,hg6⟩))
    go_ret
    exact ⟨rfl,gb_trans HG5.out hg6⟩
end Go.Proofs.YtbgnflcebafjjaaGreatDoor
namespace Go.Proofs.YtbgnflcebafjjaaGreatDoor
open Go.RowKit Go.Joins Go.ChangeShapes Go.WideShapes
set_option linter.unusedVariables false
def u8R:Shelf.Ren:=⟨fun x=>x,fun x=>if x=5 then 5 else if x=119 then 213 else if x=138 then 215 else 216,fun x=>if x=3 then 7 else 8⟩
theorem u8T:U8Types Tryz.prog u8R:=⟨by kernel_rfl,by kernel_rfl,by kernel_rfl,by kernel_rfl⟩
theorem u8X:U8Extra Tryz.prog u8R:=⟨by kernel_rfl,by kernel_rfl,by kernel_rfl,by kernel_rfl,by kernel_rfl,by kernel_rfl,by kernel_rfl⟩
theorem first_is:(Rows.laid_unicode_utf8_first:DataW Unit)=Lib.firstData:=by kernel_rfl
theorem accept_is:(Rows.laid_unicode_utf8_acceptRanges:DataW Unit)=Lib.acceptData:=by kernel_rfl
theorem es_star : "*" ++ "errors.errorString" = "*errors.errorString":=by decide
theorem es_row (u:TypeId) (h:Tryz.prog.typeName? 3 u=some "*errors.errorString"):u=235 :=
 typeName_ptr_named (nm := "errors.errorString") (by rw [es_star];kernel_rfl) (by kernel_rfl) (by decide) u (by rw [es_star];exact h)
theorem es_cells:Tryz.prog.cellsOf 237=1:=by kernel_rfl
theorem st_cells:Tryz.prog.cellsOf 9=1:=by kernel_rfl
theorem g_lo:Tryz.prog.globalNamed "pantry/toml.errLong"=some 0:=by kernel_rfl
theorem g_te:Tryz.prog.globalNamed "pantry/toml.errText"=some 5:=by kernel_rfl
theorem g_ra:Tryz.prog.globalNamed "pantry/toml.errRange"=some 1:=by kernel_rfl
theorem g_ma:Tryz.prog.globalNamed "pantry/toml.errMany"=some 2:=by kernel_rfl
theorem g_tw:Tryz.prog.globalNamed "pantry/toml.errTwice"=some 3:=by kernel_rfl
theorem g_ty:Tryz.prog.globalNamed "errors.errorType"=some 4:=by kernel_rfl
theorem y_lo:(Tryz.prog.globals[0]?).map (·.type)=some 43:=by kernel_rfl
theorem y_te:(Tryz.prog.globals[5]?).map (·.type)=some 43:=by kernel_rfl
theorem y_ra:(Tryz.prog.globals[1]?).map (·.type)=some 43:=by kernel_rfl
theorem y_ma:(Tryz.prog.globals[2]?).map (·.type)=some 43:=by kernel_rfl
theorem y_tw:(Tryz.prog.globals[3]?).map (·.type)=some 43:=by kernel_rfl
theorem er_one:∀ty,ty < Tryz.prog.types.size->Tryz.prog.rowNamed ty [101,114,114,111,114]=true->ty=43:=by
 have h:(List.range Tryz.prog.types.size).all (fun t=>!(Tryz.prog.rowNamed t [101,114,114,111,114]) || t == 43)=true:=by kernel_rfl
 intro ty hty hr
 have:=List.all_eq_true.1 h ty (List.mem_range.2 hty)
 rw [hr] at this
 simpa using this
theorem rt_is:(Tryz.prog.cutTypes.find? (·.1 == "internal/reflectlite.rtype")).map (·.2)=some 139:=by kernel_rfl
theorem gl_size:Tryz.prog.globals.size=14:=by kernel_rfl
set_option maxRecDepth 100000 in
theorem sent_five {W:World} (h:laidMet Tryz.prog [("pantry/toml.errLong",Rows.laid_pantry_toml_errLong),("pantry/toml.errText",Rows.laid_pantry_toml_errText),("pantry/toml.errRange",Rows.laid_pantry_toml_errRange),("pantry/toml.errMany",Rows.laid_pantry_toml_errMany),("pantry/toml.errTwice",Rows.laid_pantry_toml_errTwice)] W) :
  ∃(b:Int->Addr),(∀k,1<=k->k<=5->∃cs t,W.heap[(b k).block]?=some (.cells cs t (0,0)))/\(∀k m,1<=k->k<=5->1<=m->m<=5->b k=b m->k=m) ∧
   W.cell? ⟨0,0,none⟩=some (.iface 235 (.pointer (some (b 1))))/\W.cell? ⟨5,0,none⟩=some (.iface 235 (.pointer (some (b 2))))/\W.cell? ⟨1,0,none⟩=some (.iface 235 (.pointer (some (b 3))))/\W.cell? ⟨2,0,none⟩=some (.iface 235 (.pointer (some (b 4))))/\W.cell? ⟨3,0,none⟩=some (.iface 235 (.pointer (some (b 5)))):=by
 obtain ⟨ps,⟨g1,t1,cs1,f1,p1,q1,hg1,ht1,hv1,hd1,⟨g2,t2,cs2,f2,p2,q2,hg2,ht2,hv2,hd2,⟨g3,t3,cs3,f3,p3,q3,hg3,ht3,hv3,hd3,⟨g4,t4,cs4,f4,p4,q4,hg4,ht4,hv4,hd4,⟨g5,t5,cs5,f5,p5,q5,hg5,ht5,hv5,hd5,hq5,e5⟩,e4⟩,e3⟩,e2⟩,e1⟩,hnd,hrows⟩:=h
 obtain rfl:=Option.some.inj (g_lo.symm.trans hg1)
 obtain rfl:=Option.some.inj (g_te.symm.trans hg2)
 obtain rfl:=Option.some.inj (g_ra.symm.trans hg3)
 obtain rfl:=Option.some.inj (g_ma.symm.trans hg4)
 obtain rfl:=Option.some.inj (g_tw.symm.trans hg5)
 obtain rfl:=Option.some.inj (y_lo.symm.trans ht1)
 obtain rfl:=Option.some.inj (y_te.symm.trans ht2)
 obtain rfl:=Option.some.inj (y_ra.symm.trans ht3)
 obtain rfl:=Option.some.inj (y_ma.symm.trans ht4)
 obtain rfl:=Option.some.inj (y_tw.symm.trans ht5)
 have hq5':q5=[]:=hq5
 subst hq5' e5 e4 e3 e2 e1
 obtain ⟨l1⟩:=cs1
 obtain ⟨l2⟩:=cs2
 obtain ⟨l3⟩:=cs3
 obtain ⟨l4⟩:=cs4
 obtain ⟨l5⟩:=cs5
 have ok1:∀u v,l1=[.iface u v]->Value.okWide Tryz.prog W .any 0 u v:=fun u v e=>by
  subst e
  exact (hrows 0 0 (by simp [MemPlace.row])).2 u v (by simpa using World.var?_cell hg1 hv1 0)
 have ok2:∀u v,l2=[.iface u v]->Value.okWide Tryz.prog W .any 0 u v:=fun u v e=>by
  subst e
  exact (hrows 5 0 (by simp [MemPlace.row])).2 u v (by simpa using World.var?_cell hg2 hv2 0)
 have ok3:∀u v,l3=[.iface u v]->Value.okWide Tryz.prog W .any 0 u v:=fun u v e=>by
  subst e
  exact (hrows 1 0 (by simp [MemPlace.row])).2 u v (by simpa using World.var?_cell hg3 hv3 0)
 have ok4:∀u v,l4=[.iface u v]->Value.okWide Tryz.prog W .any 0 u v:=fun u v e=>by
  subst e
  exact (hrows 2 0 (by simp [MemPlace.row])).2 u v (by simpa using World.var?_cell hg4 hv4 0)
 have ok5:∀u v,l5=[.iface u v]->Value.okWide Tryz.prog W .any 0 u v:=fun u v e=>by
  subst e
  exact (hrows 3 0 (by simp [MemPlace.row])).2 u v (by simpa using World.var?_cell hg5 hv5 0)
 obtain ⟨a1,s1,rfl,-,-,-,rfl⟩:=errorString_of_trod Tryz.underlying43 es_row Tryz.underlying235 Tryz.underlying237 rfl rfl Tryz.underlying9 es_cells st_cells hd1 ok1
 obtain ⟨a2,s2,rfl,-,-,-,rfl⟩:=errorString_of_trod Tryz.underlying43 es_row Tryz.underlying235 Tryz.underlying237 rfl rfl Tryz.underlying9 es_cells st_cells hd2 ok2
 obtain ⟨a3,s3,rfl,-,-,-,rfl⟩:=errorString_of_trod Tryz.underlying43 es_row Tryz.underlying235 Tryz.underlying237 rfl rfl Tryz.underlying9 es_cells st_cells hd3 ok3
 obtain ⟨a4,s4,rfl,-,-,-,rfl⟩:=errorString_of_trod Tryz.underlying43 es_row Tryz.underlying235 Tryz.underlying237 rfl rfl Tryz.underlying9 es_cells st_cells hd4 ok4
 obtain ⟨a5,s5,rfl,-,-,-,rfl⟩:=errorString_of_trod Tryz.underlying43 es_row Tryz.underlying235 Tryz.underlying237 rfl rfl Tryz.underlying9 es_cells st_cells hd5 ok5
 have b1:=(hrows a1.block a1.off (by simp [MemPlace.row])).1
 have b2:=(hrows a2.block a2.off (by simp [MemPlace.row])).1
 have b3:=(hrows a3.block a3.off (by simp [MemPlace.row])).1
 have b4:=(hrows a4.block a4.off (by simp [MemPlace.row])).1
 have b5:=(hrows a5.block a5.off (by simp [MemPlace.row])).1
 have c1:=World.var?_cell hg1 hv1 0
 have c2:=World.var?_cell hg2 hv2 0
 have c3:=World.var?_cell hg3 hv3 0
 have c4:=World.var?_cell hg4 hv4 0
 have c5:=World.var?_cell hg5 hv5 0
 have n12:a1 ≠ a2:=by rintro rfl;simp [MemPlace.row] at hnd
 have n13:a1 ≠ a3:=by rintro rfl;simp [MemPlace.row] at hnd
 have n14:a1 ≠ a4:=by rintro rfl;simp [MemPlace.row] at hnd
 have n15:a1 ≠ a5:=by rintro rfl;simp [MemPlace.row] at hnd
 have n23:a2 ≠ a3:=by rintro rfl;simp [MemPlace.row] at hnd
 have n24:a2 ≠ a4:=by rintro rfl;simp [MemPlace.row] at hnd
 have n25:a2 ≠ a5:=by rintro rfl;simp [MemPlace.row] at hnd
 have n34:a3 ≠ a4:=by rintro rfl;simp [MemPlace.row] at hnd
 have n35:a3 ≠ a5:=by rintro rfl;simp [MemPlace.row] at hnd
 have n45:a4 ≠ a5:=by rintro rfl;simp [MemPlace.row] at hnd
 refine ⟨fun k=>if k=1 then a1 else if k=2 then a2 else if k=3 then a3 else if k=4 then a4 else a5,fun k h1 h5=>?_,fun k m h1 h5 h1' h5'=>?_,by simpa using c1,by simpa using c2,by simpa using c3,by simpa using c4,by simpa using c5⟩
 ·have hk:k=1\/k=2\/k=3\/k=4\/k=5:=by omega
  rcases hk with rfl | rfl | rfl | rfl | rfl
  ·exact b1
  ·exact b2
  ·exact b3
  ·exact b4
  ·exact b5
 ·have hk:k=1\/k=2\/k=3\/k=4\/k=5:=by omega
  have hm:m=1\/m=2\/m=3\/m=4\/m=5:=by omega
  rcases hk with rfl | rfl | rfl | rfl | rfl <;> rcases hm with rfl | rfl | rfl | rfl | rfl <;> simp [n12,n13,n14,n15,n23,n24,n25,n34,n35,n45,n12.symm,n13.symm,n14.symm,n15.symm,n23.symm,n24.symm,n25.symm,n34.symm,n35.symm,n45.symm]
theorem lt_cell {W:World} {g k:Nat} {v:Value} (h:W.cell? ⟨g,k,none⟩=some v):g < W.heap.size:=block_lt_of_cell h
set_option maxRecDepth 100000 in
theorem tomlLaid {W:World} (h:laidMetH Tryz.prog Rows.tomlParsesRow.laid W):∃(E:Int->TypeId × Value) (b:Int->Addr),Gl W W.heap.size E/\Sn W E b:=by
 obtain ⟨hL,hH⟩:=laidMetH_iff.1 h
 have h5:laidMet Tryz.prog [("pantry/toml.errLong",Rows.laid_pantry_toml_errLong),("pantry/toml.errText",Rows.laid_pantry_toml_errText),("pantry/toml.errRange",Rows.laid_pantry_toml_errRange),("pantry/toml.errMany",Rows.laid_pantry_toml_errMany),("pantry/toml.errTwice",Rows.laid_pantry_toml_errTwice)] W:=hL.filter (fun x=>x.1 == "pantry/toml.errLong" || x.1 == "pantry/toml.errText" || x.1 == "pantry/toml.errRange" || x.1 == "pantry/toml.errMany" || x.1 == "pantry/toml.errTwice")
 have ht:laidMet Tryz.prog [("unicode/utf8.acceptRanges",Rows.laid_unicode_utf8_acceptRanges),("unicode/utf8.first",Rows.laid_unicode_utf8_first)] W:=hL.filter (fun x=>x.1 == "unicode/utf8.acceptRanges" || x.1 == "unicode/utf8.first")
 obtain ⟨b,b1,b2,c1,c2,c3,c4,c5⟩:=sent_five h5
 rw [first_is,accept_is] at ht
 have tabs:Lib.Utf8Tabs 7 8 W:=utf8Tabs_of_readsT u8T u8X (Lib.laidMet.reads ht (.tail _ (.head _))) (Lib.laidMet.reads ht (.head _))
 have hh:=hH ("errors.errorType",Rows.laid_errors_errorType) (by exact .head _)
 obtain ⟨name,u,ty,e1,e2,e3,e4,e5⟩:=hh
 obtain rfl:=Option.some.inj (rt_is.symm.trans e2)
 have en:name=[101,114,114,111,114]:=(Option.some.inj e1).symm
 rw [en] at e4
 obtain rfl:=er_one ty e3 e4
 have cty:=World.var?_cell g_ty e5 0
 refine ⟨fun k=>(235,.pointer (some (b k))),b,⟨⟨c2,c3,c4,c5⟩,⟨lt_cell c2,lt_cell c3,lt_cell c4,lt_cell c5⟩,tabs,?_,?_⟩,⟨fun k _ _=>rfl,b1,b2,?_,c1⟩⟩
 ·exact lt_cell (tabs.1 0 (by omega))
 ·exact lt_cell (tabs.2 0 (by omega)).1
 ·rw [cty]
  unfold typeHandle
  rw [gl_size]
  rfl
theorem own:ownKnob Tryz.prog.godebug=none:=by kernel_rfl
def litV {H:Type}:DataW H->Value
 | .lit (.int k n)=>.int k n
 | _=>.bool false
def rowV {H:Type}:DataW H->Array Value
 | .agg ps=>(ps.flatMap fun d=>match d with | .agg qs=>qs.map litV | d=>[litV d]).toArray
 | _=>#[]
def sentS {H:Type}:DataW H->ByteArray
 | .iface _ (.ptr (.agg [.lit (.string l)]))=>⟨l.toArray⟩
 | _=>⟨#[]⟩
def lowG (P:Program):Nat:=(World.holding P default ⟨#[],#[],[]⟩).heap.size
def sentO (d:DataW Unit):Obj:=.cells #[.string (sentS d)] 237 (0,0)
def sentC (P:Program) (k:Nat) (t:TypeId):Obj:=.cells #[.iface 235 (.pointer (some ⟨lowG P+k,0,none⟩))] t (0,0)
def laidWorld (P:Program) (os:Os):World :=
 let w0:=World.holding P os ⟨#[sentO Rows.laid_strconv_ErrRange,sentO Rows.laid_strconv_ErrSyntax,sentO Rows.laid_pantry_toml_errLong,sentO Rows.laid_pantry_toml_errText,sentO Rows.laid_pantry_toml_errRange,sentO Rows.laid_pantry_toml_errMany,sentO Rows.laid_pantry_toml_errTwice],#[],[]⟩
 { w0 with heap:=((((((((((((w0.heap.setIfInBounds 12 (.cells (rowV (Rows.laid_math_bits_deBruijn32tab:DataW Unit)) 238 (0,0))).setIfInBounds 13 (.cells (rowV (Rows.laid_math_bits_deBruijn64tab:DataW Unit)) 239 (0,0))).setIfInBounds 9 (.cells (rowV (Rows.laid_internal_strconv_uint64pow10:DataW Unit)) 227 (0,0))).setIfInBounds 8 (.cells (rowV (Rows.laid_unicode_utf8_acceptRanges:DataW Unit)) 216 (0,0))).setIfInBounds 7 (.cells (rowV Rows.laid_unicode_utf8_first) 213 (0,0))).setIfInBounds 4 (.cells #[.iface 139 (.agg #[.pointer (some ⟨14,43,none⟩)])] 99 (0,0))).setIfInBounds 11 (sentC P 0 43)).setIfInBounds 10 (sentC P 1 43)).setIfInBounds 0 (sentC P 2 43)).setIfInBounds 5 (sentC P 3 43)).setIfInBounds 1 (sentC P 4 43)).setIfInBounds 2 (sentC P 5 43)).setIfInBounds 3 (sentC P 6 43) }
set_option maxRecDepth 100000 in
theorem laid_met (os:Os):laidMetH Tryz.prog Rows.tomlParsesRow.laid ((laidWorld Tryz.prog os).forCall (fun _ _=>0) ⟨#[],#[.string ⟨#[]⟩],[]⟩).memory :=
 laidMetH_of_parts (laidMet_of_run' 8 (by kernel_rfl) (by kernel_rfl)) (by kernel_rfl)
end Go.Proofs.YtbgnflcebafjjaaGreatDoor
