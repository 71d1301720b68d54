import Derived.Test.YticgahdffjnabaaGreatDoorM35
import Derived.Test.YticgahdffjnabaaGreatDoorM29
import Derived.Test.YticgahdffjnabaaGreatDoorM24
import Derived.Test.YticgahdffjnabaaGreatDoorM28
import Derived.Deep.Cut
import Derived.Deep.RegionHeld3
import Derived.Deep.RegionWith
set_option linter.unusedVariables false
set_option maxHeartbeats 3200000
namespace Go.Proofs.YticgahdffjnabaaGreatDoor
open Go.RowKit
theorem infoLs:(Tryz.prog.info? 125).map (fun i=>(i.zero,i.size,i.bytes))=some (some (.slice none 0 0),1,24):=by kernel_rfl
def OA (w:World) (base:Nat) (sv:Value) (A:List (List Tq)):Prop :=
 ∃vals:List Value,w.ownsRow base 125 1 sv A.length vals/\vals.length=A.length/\∀i (hi:i < A.length),∃o n c,vals[i]?=some (.slice o n c)/\OT w base (.slice o n c) A[i]
theorem own_growb {w w':World} {base:Nat} {e:TypeId} {size n:Nat} {v:Value} {xs:List Value} {b:Nat} (h:w.ownsRow base e size v n xs) (hg:w.grownBy w' (some b)) (hb:b < base):w'.ownsRow base e size v n xs:=by
 refine ⟨h.1,?_⟩
 rcases h.2 with hn | ⟨g,cap,cur,hv,hbg,hc,rest⟩
 ·exact Or.inl hn
 ·refine Or.inr ⟨g,cap,cur,hv,hbg,?_,rest⟩;rw [hg.block g ((hqL hc)) (by simp;omega)];exact hc
theorem OA.growb {w w':World} {base:Nat} {sv:Value} {A:List (List Tq)} {b:Nat} (h:OA w base sv A) (hg:w.grownBy w' (some b)) (hb:b < base):OA w' base sv A:=by
 obtain ⟨vals,h1,h2,h3⟩:=h;refine ⟨vals,own_growb h1 hg hb,h2,fun i hi=>?_⟩;obtain ⟨o,n,c,h4,h5⟩:=h3 i hi;exact ⟨o,n,c,h4,h5.growb hg hb⟩
theorem OA.grow {w w':World} {base:Nat} {sv:Value} {A:List (List Tq)} (h:OA w base sv A) (hg:w.grownBy w' none):OA w' base sv A:=by
 obtain ⟨vals,h1,h2,h3⟩:=h;refine ⟨vals,own_keep h1 hg,h2,fun i hi=>?_⟩;obtain ⟨o,n,c,h4,h5⟩:=h3 i hi;exact ⟨o,n,c,h4,h5.grow hg⟩
theorem gb_setb (w:World) (b o:Nat) (v:Value):w.grownBy (w.setCell ⟨b,o,none⟩ v) (some b):=gb_set (gb_refl w _) o v
theorem tys_ne:(125:Nat) ≠ 131:=by decide
theorem OT.keepA {w w':World} {base:Nat} {sl sv:Value} {L:List Tq} {n:Nat} {xs:List Value} (h:OT w base sl L) (hs:w.ownsRow base 125 1 sv n xs) (hg:w.grownBy w' sv.ownBlock):OT w' base sl L:=by
 refine ⟨h.1,?_⟩
 rcases h.2 with hn | ⟨g,cap,cur,hv,hbg,hc,rest⟩
 ·exact Or.inl hn
 ·refine Or.inr ⟨g,cap,cur,hv,hbg,?_,rest⟩;rw [hg.block g ((hqL hc)) ?_]
  ·exact hc
  ·intro e
   rcases hs.2 with ⟨h1,_⟩ | ⟨g',cap',cur',hv',_,hc',_⟩
   ·rw [h1] at e;cases e
   ·rw [hv'] at e;simp only [Value.ownBlock,Option.some.injEq] at e;rw [e,hc'] at hc;simp only [Option.some.injEq,Obj.cells.injEq] at hc;exact tys_ne hc.2.1
theorem OA.push {w w':World} {base:Nat} {sv v':Value} {A:List (List Tq)} {o:Option Addr} {n c:Nat} {L:List Tq} {vals:List Value} (h1:w.ownsRow base 125 1 sv A.length vals) (h2:vals.length=A.length) (h3:∀i (hi:i < A.length),∃o n c,vals[i]?=some (.slice o n c)/\OT w base (.slice o n c) A[i]) (hL:OT w base (.slice o n c) L)
  (hg:w.grownBy w' sv.ownBlock) (hown:w'.ownsRow base 125 1 v' (A.length+1) (vals++[.slice o n c])):OA w' base v' (A++[L]):=by
 refine ⟨vals++[.slice o n c],by rw [List.length_append];exact hown,by simp [h2],fun i hi=>?_⟩;rw [List.length_append] at hi
 by_cases hlt:i < A.length
 ·obtain ⟨o',n',c',h4,h5⟩:=h3 i hlt;refine ⟨o',n',c',by rw [List.getElem?_append_left (by omega)];exact h4,?_⟩;rw [List.getElem_append_left hlt];exact h5.keepA h1 hg
 ·have e:i=A.length:=by simp at hi;omega
  subst e;refine ⟨o,n,c,by rw [<-h2];simp,?_⟩;rw [List.getElem_append_right (Nat.le_refl _)];simpa using hL.keepA h1 hg
theorem OA.far {w:World} {base:Nat} {sv:Value} {n:Nat} {xs:List Value} (h:w.ownsRow base 125 1 sv n xs):∀q,sv.ownBlock=some q->base<=q:=fun q hq=>(h.lt q hq).1
theorem OA.slice {w:World} {base:Nat} {sv:Value} {A:List (List Tq)} (h:OA w base sv A):∃o c,sv=.slice o A.length c:=by
 obtain ⟨vals,h1,_⟩:=h
 rcases h1.2 with ⟨e1,e2⟩ | ⟨g,cap,cur,hv,_⟩
 ·exact ⟨_,_,by rw [e1,e2]⟩
 ·exact ⟨_,_,hv⟩
def GB (g b:Nat) (sv:Value) (w:World):Prop:=w.heap[g]?=some (.cells #[.pointer (some ⟨b,0,none⟩),sv] 124 (0,0))
theorem GB.gr {g b:Nat} {sv:Value} {w:World} (h:GB g b sv w):GR g b w:=by unfold GR;rw [cOH h];rfl
theorem GB.c1 {g b:Nat} {sv:Value} {w:World} (h:GB g b sv w):w.cell? ⟨g,1,none⟩=some sv:=by rw [cOH h];rfl
theorem GB.f {g b:Nat} {sv:Value} {w:World} (h:GB g b sv w) (o:Nat):w.frozen? ⟨g,o,none⟩=false:=Lib.frozen_of_heap h o
theorem GB.growr {g b:Nat} {sv:Value} {w w':World} {row:Option Nat} (h:GB g b sv w) (hg:w.grownBy w' row) (hn:some g ≠ row):GB g b sv w':=by
 unfold GB at h ⊢;rw [hg.block g ((hqL h)) hn];exact h
theorem GB.set {g b:Nat} {sv:Value} {w:World} (h:GB g b sv w) (y:Value):GB g b y (w.setCell ⟨g,1,none⟩ y):=by
 unfold GB at h ⊢;simp [World.setCell,Array.getElem?_modify,h]
theorem OA.down {w:World} {base base':Nat} {sv:Value} {A:List (List Tq)} (h:OA w base sv A) (hb:base'<=base):OA w base' sv A:=by
 obtain ⟨vals,h1,h2,h3⟩:=h;refine ⟨vals,⟨h1.1,?_⟩,h2,fun i hi=>?_⟩
 ·rcases h1.2 with hn | ⟨g,cap,cur,hv,hbg,rest⟩
  ·exact Or.inl hn
  ·exact Or.inr ⟨g,cap,cur,hv,Nat.le_trans hb hbg,rest⟩
 ·obtain ⟨o,n,c,h4,h5⟩:=h3 i hi;exact ⟨o,n,c,h4,h5.base hb⟩
theorem gb_row00 {w wa wb:World} {row:Option Nat} (h:w.grownBy wa none) (hg:wa.grownBy wb row) (hr:∀q,row=some q->w.heap.size<=q):w.grownBy wb none :=
 ⟨hg.os.trans h.os,hg.tape.trans h.tape,hg.output.trans h.output,Nat.le_trans h.size hg.size,fun k hk hn=>(hg.block k (Nat.lt_of_lt_of_le hk h.size) (fun e=>by have:=hr k e.symm;omega)).trans (h.block k hk hn)⟩
theorem own_sl {w:World} {base:Nat} {e:TypeId} {size n:Nat} {v:Value} {xs:List Value} (h:w.ownsRow base e size v n xs):∃o n c,v=.slice o n c:=by
 rcases h.2 with ⟨h1,_⟩ | ⟨g,cap,cur,hv,_⟩
 ·exact ⟨_,_,_,h1⟩
 ·exact ⟨_,_,_,hv⟩
theorem gb_far0 {w u u':World} {b:Nat} (h:w.grownBy u none) (hg:u.grownBy u' (some b)) (hb:w.heap.size<=b):w.grownBy u' none :=
 ⟨hg.os.trans h.os,hg.tape.trans h.tape,hg.output.trans h.output,Nat.le_trans h.size hg.size,fun k hk hn=>(hg.block k (Nat.lt_of_lt_of_le hk h.size) (by simp;omega)).trans (h.block k hk hn)⟩
def bm:Value->Nat
 | .bool true=>1
 | _=>0
def RRPost (R:Int × Nat × List (List Te)) (w:World) (e:Ending) (w':World):Prop :=
 ∃(o:Option Addr) (n c:Nat) (A:List (List Tq)),e=.returned (.tuple #[.slice o n c,.int .i64 R.1,.int .i64 (R.2.1:Int)])/\w.grownBy w' none/\(R.1=0->OA w' w.heap.size (.slice o n c) A/\A.map (·.map teOf)=R.2.2/\A.length<=201/\∀L ∈ A,L.length<=1000/\∀x ∈ L,TqOk x)
theorem dset_len (l:List UInt8):∀(f i:Nat) (acc:List Te),(dset l f i acc).1=0->(dset l f i acc).2.2.length<=acc.length+f+2
 | 0,i,acc,_=>by unfold dset;simp only [];omega
 | f+1,i,acc,h=>by
  rw [dset] at h ⊢;split
  ·simp only [];omega
  ·rename_i h0;rw [if_neg h0] at h;split
   ·rename_i h1;rw [if_pos h1] at h;split
    ·rename_i h2;rw [if_pos h2] at h;split
     ·simp only [];omega
     ·split
      ·split
       ·simp
       ·simp only [];omega
      ·simp only [];omega
    ·rename_i h2;rw [if_neg h2] at h;split
     ·simp only [];omega
     ·rename_i h3;rw [if_neg h3] at h;have:=dset_len l f _ _ h;simp at this;omega
   ·simp only [];omega
set_option maxRecDepth 100000 in
theorem readRange_any (s:ByteArray) (w:World) (hs:s.size < 2 ^ 60):Calls Tryz.prog 44 #[.string s] w (RRPost (rdRange s.data.toList) w):=by
 by_cases h200:200 < s.size
 ·have hR:rdRange s.data.toList=(1,0,[]):=by unfold rdRange;rw [if_pos (by simpa using h200)]
  rw [hR];clear hR;go_enter Tryz.func44,Tryz.ntmps44;go_wp2;exact bodyPost_ret (results_tmp3 (t:=2) (u:=3) (v:=4) rfl _ _ _) rfl ⟨_,_,_,[],rfl,gb_refl _ _,fun h=>absurd h (by simp)⟩
 ·obtain ⟨l,hl⟩:=nm (s.data.toList);have hll:l.length=s.size:=by rw [<-hl];simp
  have HLL:Hd (l.length=s.size/\s.size<=200):=⟨hll,by omega⟩;rw [hl];obtain ⟨E0,J0,S0,hP⟩:∃E0 J0 S0,dsets l (l.length+1) 0 []=(E0,J0,S0):=⟨_,_,_,rfl⟩;have HRR:Hd (rdRange l=if E0=0 then (0,0,S0) else (E0,J0,[])):=by
   show rdRange l=_;unfold rdRange;rw [if_neg (by omega),hP]
  have HR0:Hd (dsets l (l.length+1) 0 []=(E0,J0,S0)):=hP;obtain ⟨b,hb⟩:=nm (w.heap.size);obtain ⟨g,hgg⟩:=nm (b+1);have hgb:g ≠ b:=by omega
  have CB:Hd (∀i a w,i<=s.size->GR g b w->VS b s i 0 a w->Calls Tryz.prog 61 #[.pointer (some ⟨g,0,none⟩)] w fun e w'=>e=.returned (.bool (decide (i < skipW l i)))/\VS b s (skipW l i) 0 a w'/\w.grownBy w' (some b)):=fun i a w hi h1 h2=>by rw [<-hl];exact rblanks_any g b s i a w hi hgb h1 h2 (by omega)
  have CS:Hd (∀i a w,i<=s.size->GR g b w->VS b s i 0 a w->Calls Tryz.prog 62 #[.pointer (some ⟨g,0,none⟩)] w (DSetPost b s (dset l (l.length+1) i []) w)):=fun i a w hi h1 h2=>by rw [<-hl];exact rset_any g b s i a w hi hgb h1 h2 (by omega)
  have CI:Hd (∀i a w,i<=s.size->GR g b w->VS b s i 0 a w->Calls Tryz.prog 63 #[.pointer (some ⟨g,0,none⟩),.string ⟨#[124,124]⟩] w fun e w'=>e=.returned (.bool (barsAt l i))/\∃n,w'=w.drewN n):=fun i a w hi h1 h2=>by rw [<-hl];exact is_bars g b s i a w hi h1 h2 (by omega)
  have CIL:Hd (∀(i:Nat) (E:Int) (a:Nat) w,¬ E=0->GR g b w->VS b s i E a w->Calls Tryz.prog 63 #[.pointer (some ⟨g,0,none⟩),.string ⟨#[124,124]⟩] w fun e w'=>e=.returned (.bool (false))/\∃n,w'=w.drewN n):=fun i E a w hE h1 h2=>is_late g b s _ i E a w hE h1 h2
  have HSK:Hd (∀i,i<=s.size->i<=skipW l i/\skipW l i<=s.size):=fun i hi=>⟨skip_ge l i,by have:=skip_le l i (by rw [hll];exact hi);rw [hll] at this;exact this⟩
  have HOP:Hd (∀i,i<=s.size->(oneD l i).1=0->i<=(oneD l i).2.1/\(oneD l i).2.1<=s.size):=fun i hi h0=>by
   obtain ⟨e1,e2,_⟩:=one_same l i (by rw [hll];exact hi);have:=one_place l i (by rw [hll];exact hi) (e1.trans h0);rw [e2,hll] at this;exact this
  have HGB:Hd (g ≠ b/\b < g/\w.heap.size=b/\b+1=g):=⟨hgb,by omega,hb,hgg⟩;clear hl hll hP hs hgb;go_enter Tryz.func44,Tryz.ntmps44;go_wp2;clear h200;obtain ⟨W,hW⟩:=nm ((w.alloc (.cells #[.string s,.int .i64 0,.int .i64 0,.int .i64 0] 114)).alloc (.cells #[.pointer (some ⟨b,0,none⟩),.slice none 0 0] 124));have hgW:w.grownBy W none:=by rw [<-hW];exact gb_alloc (gb_alloc (gb_refl w none) _) _
  have HV:Hd (VS b s 0 0 0 W):=by
   show W.heap[b]?=_;rw [<-hW,<-hb,Lib.alloc_old _ _ _ (by simp)];exact heap_alloc_new w _
  have HG:Hd (GB g b (.slice none 0 0) W):=by
   show W.heap[g]?=_;rw [<-hW,<-hgg,<-hb];exact row2' w _ _
  have HW:Hd (w.grownBy W none):=hgW
  try rw [hW]
  clear hgW hW hb hgg;go_loopw [6] (fun vm wr=>∃(f j c:Nat) (E:Int) (sv:Value) (A:List (List Tq)),VS b s j E c wr/\GB g b sv wr/\OA wr (g+1) sv A/\w.grownBy wr none/\A.length<=201 ∧
   ((vm=.bool true/\E=0/\j<=s.size/\A.length<=j/\l.length < f+j/\dsets l f j (A.map (·.map teOf))=(E0,J0,S0)/\∀L ∈ A,L.length<=1000/\∀x ∈ L,TqOk x)\/(vm=.bool false/\E=0/\E0=0/\S0=A.map (·.map teOf)/\∀L ∈ A,L.length<=1000/\∀x ∈ L,TqOk x)\/(vm=.bool false/\¬ E=0/\E0=E/\J0=c))) (fun vm wr=>bm vm * (s.size+3 - placeOf b wr))
  case atStart=>exact ⟨l.length+1,0,0,0,_,[],HV.o,HG.o,⟨[],World.ownsRow_nil _ _ _ _,rfl,fun i hi=>absurd hi (Nat.not_lt_zero _)⟩,HW.o,Nat.zero_le _,Or.inl ⟨rfl,rfl,Nat.zero_le _,Nat.zero_le _,by omega,HR0.o,fun L hL=>by cases hL⟩⟩
  case round =>
   obtain ⟨f,j,c,E,sv,A,hv,hgr,hoa,hgw,hal,hcase⟩:=hrel;clear HV HG HW HR0;obtain ⟨o1,c1,rfl⟩:=hoa.slice;obtain ⟨n1,hn1⟩:=nm (A.length);rw [hn1] at hgr hoa;have HV:Hd (VS b s j E c wr):=hv;have HG:Hd (GB g b (.slice o1 n1 c1) wr):=hgr;have HO:Hd (OA wr (g+1) (.slice o1 n1 c1) A):=hoa;have HW:Hd (w.grownBy wr none):=hgw;have HN1:Hd (A.length=n1/\n1<=201):=⟨hn1,by omega⟩;clear hv hgr hoa hgw hal hn1
   rcases hcase with ⟨rfl,rfl,hj,haj,hf,hds,hok⟩ | ⟨rfl,rfl,he0,hs0,hok⟩ | ⟨rfl,hE,he0,hj0⟩
   ·have HJ:Hd (j<=s.size/\n1<=j/\l.length < f+j):=⟨hj,by have:=HN1.o.1;omega,hf⟩;have HDS:Hd (dsets l f j (A.map (·.map teOf))=(E0,J0,S0)):=hds;have HOK:Hd (∀L ∈ A,L.length<=1000/\∀x ∈ L,TqOk x):=hok;have HPL:Hd (placeOf b wr=j):=HV.o.place;clear hj haj hf hds hok;obtain ⟨f,rfl⟩:∃f',f=f'+1:=by
     cases f with
     | zero=>have:=HLL.o.1;have:=HJ.o;omega
     | succ f=>exact ⟨f,rfl⟩
    have CB1:Hd (∀w,GR g b w->VS b s j 0 c w->Calls Tryz.prog 61 #[.pointer (some ⟨g,0,none⟩)] w fun e w'=>e=.returned (.bool (decide (j < skipW l j)))/\VS b s (skipW l j) 0 c w'/\w.grownBy w' (some b)):=fun w h1 h2=>CB.o j c w HJ.o.1 h1 h2
    have CS1:Hd (∀w,GR g b w->VS b s (skipW l j) 0 c w->Calls Tryz.prog 62 #[.pointer (some ⟨g,0,none⟩)] w (DSetPost b s (oneD l j) w)):=fun w h1 h2=>CS.o (skipW l j) c w (HSK.o j HJ.o.1).2 h1 h2
    have HOP1:Hd ((oneD l j).1=0->j<=(oneD l j).2.1/\(oneD l j).2.1<=s.size):=HOP.o j HJ.o.1;have HLN:Hd ((oneD l j).1=0->(oneD l j).2.2.length<=1000):=fun h=>by have h1:=dset_len l (l.length+1) (skipW l j) [] h;have h2:=HLL.o;simp only [List.length_nil] at h1;unfold oneD;omega
    have hds:=HDS.o;rw [dsets] at hds;obtain ⟨E1,J1,ts,hR⟩:∃E1 J1 ts,oneD l j=(E1,J1,ts):=⟨_,_,_,rfl⟩;rw [hR] at hds CS1 HOP1 HLN;simp only [] at hds HOP1 HLN;have HD1:Hd ((if E1=0 then (if barsAt l J1=true then dsets l f (J1+2) (A.map (·.map teOf)++[ts]) else (0,J1,A.map (·.map teOf)++[ts])) else (E1,J1,A.map (·.map teOf)))=(E0,J0,S0)):=hds;clear hds hR HDS;obtain ⟨K,hK⟩:=nm (skipW l j);rw [hK] at CB1 CS1;obtain ⟨ap,hap⟩:=nm (decide (j < K));rw [hap] at CB1;clear hK hap;go_wp2_with (first | (go_at_call 61;refine (CB1.o _ HG.o.gr HV.o).mono ?_));rintro e u1 ⟨rfl,hv,hg⟩;replace HV:Hd (VS b s K 0 c u1):=hv;replace HG:Hd (GB g b (.slice o1 n1 c1) u1):=HG.o.growr hg (by have:=HGB.o.1;simpa using this);replace HO:Hd (OA u1 (g+1) (.slice o1 n1 c1) A):=HO.o.growb hg (by have:=HGB.o.2.1;omega);replace HW:Hd (w.grownBy u1 none):=gb_far0 HW.o hg (by have:=HGB.o.2.2.1;omega)
    clear hv hg;have HBZ:Hd (g+1<=u1.heap.size):=(hqL HG.o);go_wp2_with (first | (go_at_call 62;refine (CS1.o _ HG.o.gr HV.o).mono ?_));rintro e u2 ⟨o2,n2,c2,acc,j2,d2,rfl,hv,hot,hg,hok,herr⟩;have HT:Hd (OT u2 (g+1) (.slice o2 n2 c2) acc):=hot.base HBZ.o;have HQ:Hd ((E1=0->acc.map teOf=ts/\j2=J1/\∀x ∈ acc,TqOk x)/\(¬ E1=0->d2=J1)):=⟨hok,herr⟩;clear hot hok herr;replace HV:Hd (VS b s j2 E1 d2 u2):=hv;replace HG:Hd (GB g b (.slice o1 n1 c1) u2):=HG.o.growr hg (by have:=HGB.o.1;simpa using this);replace HO:Hd (OA u2 (g+1) (.slice o1 n1 c1) A):=HO.o.growb hg (by have:=HGB.o.2.1;omega);replace HW:Hd (w.grownBy u2 none):=gb_far0 HW.o hg (by have:=HGB.o.2.2.1;omega);clear hv hg;obtain ⟨vals,hva,hvl,hve⟩:=HO.o;have HVA:Hd (u2.ownsRow (g+1) 125 1 (.slice o1 n1 c1) A.length vals):=hva;have HVE:Hd (vals.length=A.length/\∀i (hi:i < A.length),∃o n c,vals[i]?=some (.slice o n c)/\OT u2 (g+1) (.slice o n c) A[i]):=⟨hvl,hve⟩
    clear hva hvl hve;have hinfo:=infoLs;obtain ⟨i1,hj0,hjj⟩:=Option.map_eq_some_iff.1 hinfo;have hy0:i1.zero=some (.slice none 0 0):=congrArg (·.1) hjj;have hy1:i1.size=1:=congrArg (·.2.1) hjj;have hyb:i1.bytes=24:=congrArg (·.2.2) hjj;clear hjj hinfo;have g0:u2.cell? ⟨g,0,none⟩=some (.pointer (some ⟨b,0,none⟩)):=HG.o.gr;have g1:=HG.o.c1;obtain ⟨W3,hW3⟩:=nm (u2.alloc (.cells #[.slice o2 n2 c2] 125));have hga:u2.grownBy W3 none:=by rw [<-hW3];exact gb_alloc (gb_refl _ none) _
    have HR3:Hd (W3.heap[u2.heap.size]?=some (.cells #[.slice o2 n2 c2] 125 (0,0))):=by show _=_;rw [<-hW3];exact heap_alloc_new u2 _
    have HGA:Hd (u2.grownBy W3 none):=hga;clear hga;go_wp2_with (first | (at_builtin;refine wpList_append_own _ rfl _ _ 94 rfl (g+1) 125 i1 _ 1 24 Tryz.underlying94 hj0 hy0 hy1 hyb rfl (by decide) _ _ _ rfl (own_keep HVA.o HGA.o) _ 1 1 [.slice o2 n2 c2] rfl rfl (World.news_of_block HR3.o) (by intro u hu;simp only [List.mem_cons,List.not_mem_nil,or_false] at hu;subst hu;rfl) (by unfold maxLen;have:=HN1.o;omega) (by have:=HN1.o;omega) (by have h1:=HGA.o.size;have h2:=(hqL HG.o);omega) ?_;intro v' u4 hown hgrow _;obtain ⟨o4,n4,c4,rfl⟩:=own_sl hown;have hG4:GB g b (.slice o1 n1 c1) u4:=(HG.o.growr HGA.o (by simp)).growr hgrow (fun e=>by have:=HVA.o.lt g e.symm;omega);clear g0 g1;have g0:u4.cell? ⟨g,0,none⟩=some (.pointer (some ⟨b,0,none⟩)):=hG4.gr;have g1:=hG4.c1;have gf:=hG4.f));have HON0:Hd (OA u4 (g+1) (.slice o4 n4 c4) (A++[acc])):=OA.push (w:=W3) (own_keep HVA.o HGA.o) HVE.o.1 (fun i hi=>by obtain ⟨o,n,c,h1,h2⟩:=HVE.o.2 i hi;exact ⟨o,n,c,h1,h2.grow HGA.o⟩) (HT.o.grow HGA.o) hgrow hown
    have HFAR:Hd (∀q,(Value.slice o1 n1 c1).ownBlock=some q->g+1<=q):=fun q hq=>(HVA.o.lt q hq).1
    obtain ⟨u5,hu5⟩:=nm (u4.setCell ⟨g,1,none⟩ (.slice o4 n4 c4));have hg5:u4.grownBy u5 (some g):=by rw [<-hu5];exact gb_setb u4 g 1 _
    replace HV:Hd (VS b s j2 E1 d2 u5):=((HV.o.grow HGA.o (by simp)).grow hgrow (fun e=>by have:=HFAR.o b e.symm;have:=HGB.o.2.1;omega)).grow hg5 (by have:=HGB.o.1;simpa using Ne.symm this);replace HG:Hd (GB g b (.slice o4 n4 c4) u5):=by show GB g b _ u5;rw [<-hu5];exact hG4.set _
    replace HO:Hd (OA u5 (g+1) (.slice o4 n4 c4) (A++[acc])):=HON0.o.growb hg5 (by omega);replace HW:Hd (w.grownBy u5 none):=gb_far0 (gb_row00 (gb_trans HW.o HGA.o) hgrow (fun q hq=>by have:=HFAR.o q hq;have:=HGB.o;omega)) hg5 (by have:=HGB.o;omega)
    try rw [hu5]
    clear hown hgrow hG4 g0 g1 gf hg5 hu5 hW3 hj0 hy0 hy1 hyb HVA HVE HON0 HFAR HR3 HGA HT;have HLA:Hd ((A++[acc]).length<=201):=by show _<=_;rw [List.length_append,HN1.o.1];have h1:=HJ.o;have h2:=HLL.o.2;simp;omega
    by_cases hE1:E1=0
    ·subst hE1;obtain ⟨q1,q2,q3⟩:=HQ.o.1 rfl;obtain ⟨p1,p2⟩:=HOP1.o rfl;have HOK2:Hd (∀L ∈ A++[acc],L.length<=1000/\∀x ∈ L,TqOk x):=by
      intro L hL
      rcases List.mem_append.1 hL with h | h
      ·exact HOK.o L h
      ·rw [List.mem_singleton.1 h];exact ⟨by have h1:=HLN.o rfl;rw [<-q1,List.length_map] at h1;exact h1,q3⟩
     have HMP:Hd ((A++[acc]).map (·.map teOf)=A.map (·.map teOf)++[ts]):=by show _=_;rw [List.map_append,<-q1];rfl
     have HP:Hd (j<=J1/\J1<=s.size):=⟨p1,p2⟩;subst q2;clear q1 q3 p1 p2
     cases hba:barsAt l j2 with
     | true =>
      have CI1:Hd (∀w,GR g b w->VS b s j2 0 d2 w->Calls Tryz.prog 63 #[.pointer (some ⟨g,0,none⟩),.string ⟨#[124,124]⟩] w fun e w'=>e=.returned (.bool (true))/\∃n,w'=w.drewN n):=fun w h1 h2=>by have:=CI.o j2 d2 w HP.o.2 h1 h2;rw [hba] at this;exact this
      have HNX:Hd (dsets l f (j2+2) ((A++[acc]).map (·.map teOf))=(E0,J0,S0)):=by show _=_;have h:=HD1.o;rw [if_pos rfl,if_pos hba] at h;rw [HMP.o];exact h
      have HB2:Hd (j2+2<=s.size):=by have:=bars_lt l j2 hba;rw [HLL.o.1] at this;exact this
      clear hba;go_wp2_with (first | (go_at_call 63;refine (CI1.o _ HG.o.gr HV.o).mono ?_));rintro e u6 rfl n hn;replace HV:Hd (VS b s j2 0 d2 u6):=by show VS _ _ _ _ _ u6;rw [hn];exact HV.o.drew _
      replace HG:Hd (GB g b (.slice o4 n4 c4) u6):=by show GB g b _ u6;rw [hn];exact HG.o
      replace HO:Hd (OA u6 (g+1) (.slice o4 n4 c4) (A++[acc])):=by show OA u6 _ _ _;rw [hn];exact HO.o
      replace HW:Hd (w.grownBy u6 none):=by show w.grownBy u6 none;rw [hn];exact gb_drew HW.o _
      clear hn;have e0:u6.cell? ⟨g,0,none⟩=some (.pointer (some ⟨b,0,none⟩)):=HG.o.gr;have e1:=HV.o.c1;have ef:=HV.o.f1;have hwr:IntKind.i64.wrap ((j2:Int)+2)=(j2:Int)+2:=by rw [IntKind.wrap_i64];have:=HB2.o;have:=HLL.o.2;omega
      go_wp2_with (fail)
      go_region
      obtain ⟨u7,hu7⟩:=nm ((u6.setCell ⟨b,1,none⟩ (.int .i64 ((j2:Int)+2))).drew);have hg7:u6.grownBy u7 (some b):=by rw [<-hu7];exact gb_drw (gb_setb u6 b 1 _)
      replace HV:Hd (VS b s (j2+2) 0 d2 u7):=by show VS b s (j2+2) 0 d2 u7;rw [<-hu7,show ((j2:Int)+2)=((j2+2:Nat):Int) by omega];exact HV.o.set1 _
      replace HG:Hd (GB g b (.slice o4 n4 c4) u7):=HG.o.growr hg7 (by have:=HGB.o.1;simpa using this);replace HO:Hd (OA u7 (g+1) (.slice o4 n4 c4) (A++[acc])):=HO.o.growb hg7 (by have:=HGB.o;omega);replace HW:Hd (w.grownBy u7 none):=gb_far0 HW.o hg7 (by have:=HGB.o;omega)
      try rw [hu7]
      clear hg7 hu7 e0 e1 ef hwr;go_wp2;go_roundw
      case rel=>exact ⟨f,j2+2,d2,0,_,A++[acc],HV.o,HG.o,HO.o,HW.o,HLA.o,Or.inl ⟨rfl,rfl,HB2.o,by rw [List.length_append,HN1.o.1];have h1:=HJ.o;have h2:=HP.o;simp;omega,by have h1:=HJ.o;have h2:=HP.o;omega,HNX.o,HOK2.o⟩⟩
      case measure =>
       rw [HPL.o,HV.o.place];have h1:=HJ.o;have h2:=HP.o;simp only [bm];omega
     | false =>
      have CI1:Hd (∀w,GR g b w->VS b s j2 0 d2 w->Calls Tryz.prog 63 #[.pointer (some ⟨g,0,none⟩),.string ⟨#[124,124]⟩] w fun e w'=>e=.returned (.bool (false))/\∃n,w'=w.drewN n):=fun w h1 h2=>by have:=CI.o j2 d2 w HP.o.2 h1 h2;rw [hba] at this;exact this
      have HNX:Hd (E0=0/\S0=(A++[acc]).map (·.map teOf)):=by have h:=HD1.o;rw [if_pos rfl,if_neg (by rw [hba];decide)] at h;rw [HMP.o];simp only [Prod.mk.injEq] at h;exact ⟨h.1.symm,h.2.2.symm⟩
      clear hba;go_wp2_with (first | (go_at_call 63;refine (CI1.o _ HG.o.gr HV.o).mono ?_));rintro e u6 rfl n hn;replace HV:Hd (VS b s j2 0 d2 u6):=by show VS _ _ _ _ _ u6;rw [hn];exact HV.o.drew _
      replace HG:Hd (GB g b (.slice o4 n4 c4) u6):=by show GB g b _ u6;rw [hn];exact HG.o
      replace HO:Hd (OA u6 (g+1) (.slice o4 n4 c4) (A++[acc])):=by show OA u6 _ _ _;rw [hn];exact HO.o
      replace HW:Hd (w.grownBy u6 none):=by show w.grownBy u6 none;rw [hn];exact gb_drew HW.o _
      clear hn;go_wp2;go_roundw
      case rel=>exact ⟨0,j2,d2,0,_,A++[acc],HV.o,HG.o,HO.o,HW.o,HLA.o,Or.inr (Or.inl ⟨rfl,rfl,HNX.o.1,HNX.o.2,HOK2.o⟩)⟩
      case measure =>
       rw [HPL.o];have h1:=HJ.o;simp only [bm];omega
    ·have HEz:Hd (¬ E1=0):=hE1;have HNX:Hd (E0=E1/\J0=d2):=by have h:=HD1.o;rw [if_neg hE1] at h;simp only [Prod.mk.injEq] at h;exact ⟨h.1.symm,by rw [HQ.o.2 hE1];exact h.2.1.symm⟩
     clear hE1;have CI1:Hd (∀w,GR g b w->VS b s j2 E1 d2 w->Calls Tryz.prog 63 #[.pointer (some ⟨g,0,none⟩),.string ⟨#[124,124]⟩] w fun e w'=>e=.returned (.bool (false))/\∃n,w'=w.drewN n):=fun w h1 h2=>CIL.o j2 E1 d2 w HEz.o h1 h2
     go_wp2_with (first | (go_at_call 63;refine (CI1.o _ HG.o.gr HV.o).mono ?_));rintro e u6 ⟨rfl,n,hn⟩;replace HV:Hd (VS b s j2 E1 d2 u6):=by show VS _ _ _ _ _ u6;rw [hn];exact HV.o.drew _
     replace HG:Hd (GB g b (.slice o4 n4 c4) u6):=by show GB g b _ u6;rw [hn];exact HG.o
     replace HO:Hd (OA u6 (g+1) (.slice o4 n4 c4) (A++[acc])):=by show OA u6 _ _ _;rw [hn];exact HO.o
     replace HW:Hd (w.grownBy u6 none):=by show w.grownBy u6 none;rw [hn];exact gb_drew HW.o _
     clear hn;go_wp2;go_roundw
     case rel=>exact ⟨0,j2,d2,E1,_,A++[acc],HV.o,HG.o,HO.o,HW.o,HLA.o,Or.inr (Or.inr ⟨rfl,HEz.o,HNX.o.1,HNX.o.2⟩)⟩
     case measure =>
      rw [HPL.o];have h1:=HJ.o;simp only [bm];omega
   ·have HZ:Hd (rdRange l=(0,0,A.map (·.map teOf))):=by show _=_;rw [HRR.o,if_pos he0,hs0]
    have HOK:Hd (∀L ∈ A,L.length<=1000/\∀x ∈ L,TqOk x):=hok;clear he0 hs0 hok;have e0:wr.cell? ⟨g,0,none⟩=some (.pointer (some ⟨b,0,none⟩)):=HG.o.gr;have e1:=HG.o.c1;have e2:=HV.o.c2;go_wp2;refine bodyPost_ret (results_tmp3 (t:=2) (u:=3) (v:=4) rfl _ _ _) rfl ?_;rw [HZ.o];exact ⟨o1,n1,c1,A,rfl,HW.o,fun _=>⟨OA.down HO.o (by have:=HGB.o;omega),rfl,by rw [HN1.o.1];exact HN1.o.2,HOK.o⟩⟩
   ·have HZ:Hd (rdRange l=(E,c,[])):=by show _=_;rw [HRR.o,if_neg (by rw [he0];exact hE),he0,hj0]
    have HEz:Hd (¬ E=0):=hE;have hne:(E == 0)=false:=by simpa using hE
    clear he0 hj0 hE;have e0:wr.cell? ⟨g,0,none⟩=some (.pointer (some ⟨b,0,none⟩)):=HG.o.gr;have e2:=HV.o.c2;have e3:=HV.o.c3;go_wp2;go_quiet (fail);go_wp2;refine bodyPost_ret (results_tmp3 (t:=2) (u:=3) (v:=4) rfl _ _ _) rfl ?_;rw [HZ.o];exact ⟨_,_,_,[],rfl,gb_drew HW.o _,fun h=>absurd h HEz.o⟩
open Go.RowKit
theorem nIsRange_any (s:ByteArray) (w:World) (hs:s.size < 2 ^ 60):Calls Tryz.prog 34 #[.string s] w fun e w'=>e=.returned (.bool (okR s))/\w.grownBy w' none:=by
 have CR:Hd (∀w,Calls Tryz.prog 37 #[.string s] w fun e w'=>(∃(o:Option Addr) (n c:Nat) (k:Int),e=.returned (.tuple #[.slice o n c,.int .i64 (rdRange s.data.toList).1,.int .i64 k]))/\w.grownBy w' none):=fun w=>(rparse_any s w (by omega)).mono fun e w' ⟨o,n,c,h1,h2,_⟩=>⟨⟨o,n,c,_,h1⟩,h2⟩
 unfold okR;obtain ⟨E,hE⟩:=nm ((rdRange s.data.toList).1);rw [hE] at CR ⊢;clear hE;have hd:decide (E=0)=(E == 0):=by rw [Bool.eq_iff_iff];simp
 rw [hd];clear hd;go_enter Tryz.func34,Tryz.ntmps34;go_wp2_with (first | (go_at_call 37;refine (CR.o _).mono ?_));rintro e w1 ⟨⟨o,n,c,k,rfl⟩,hg⟩
 cases hz:(E == 0) with
 | true =>
  go_wp2;go_ret;exact ⟨ret_bool hz.symm,hg⟩
 | false =>
  go_wp2;go_ret;exact ⟨ret_bool hz.symm,hg⟩
theorem rIsRange_any (s:ByteArray) (w:World) (hs:s.size < 2 ^ 60):Calls Tryz.prog 29 #[.string s] w fun e w'=>e=.returned (.bool (okR s))/\w.grownBy w' none:=by
 have CR:Hd (∀w,Calls Tryz.prog 44 #[.string s] w fun e w'=>(∃(o:Option Addr) (n c:Nat) (k:Int),e=.returned (.tuple #[.slice o n c,.int .i64 (rdRange s.data.toList).1,.int .i64 k]))/\w.grownBy w' none):=fun w=>(readRange_any s w hs).mono fun e w' ⟨o,n,c,A,h1,h2,_⟩=>⟨⟨o,n,c,_,h1⟩,h2⟩
 unfold okR;obtain ⟨E,hE⟩:=nm ((rdRange s.data.toList).1);rw [hE] at CR ⊢;clear hE;have hd:decide (E=0)=(E == 0):=by rw [Bool.eq_iff_iff];simp
 rw [hd];clear hd;go_enter Tryz.func29,Tryz.ntmps29;go_wp2_with (first | (go_at_call 44;refine (CR.o _).mono ?_));rintro e w1 ⟨⟨o,n,c,k,rfl⟩,hg⟩
 cases hz:(E == 0) with
 | true =>
  go_wp2;go_ret;exact ⟨ret_bool hz.symm,hg⟩
 | false =>
  go_wp2;go_ret;exact ⟨ret_bool hz.symm,hg⟩
theorem name_small {s:ByteArray} (h:nameB s=true):s.size<=30:=by
 apply Classical.byContradiction;intro hn;rw [nameB_f (fun h=>hn h.2.1)] at h
 cases h
theorem good_small {L:List Nd} (h:L.all goodN=true):∀x ∈ L,x.n.size<=maxLen:=by
 intro x hx;have h1:=List.all_eq_true.1 h x hx;unfold goodN at h1;have:=name_small (Bool.and_eq_true_iff.1 h1).1;unfold maxLen;omega
theorem hasTwice_nil (w:World):Calls Tryz.prog 35 #[.slice none 0 0] w fun e w'=>e=.returned (.bool false)/\w.grownBy w' none:=by
 have hmm:=makeU 0 w;go_enter Tryz.func35,Tryz.ntmps35;go_wp2;go_loopw [13] (fun vi wr=>vi=.int .i64 0/\w.grownBy wr none) (fun vi _=>0)
 case atStart=>exact ⟨rfl,gb_alloc (gb_refl w none) _⟩
 case round =>
  obtain ⟨rfl,hb⟩:=hrel;have HB:Hd (w.grownBy wr none):=hb;clear hb hmm;go_wp2;go_ret;exact ⟨rfl,HB.o⟩
theorem cTwice (v:Value) (L:List Nd) (w:World) (h:NdS w v L) (hL:L.length<=1048576) (hz:L.all goodN=true) :
  Calls Tryz.prog 35 #[v] w fun e w'=>e=.returned (.bool (twTo L L.length))/\w.grownBy w' none:=by
 rcases h with ⟨rfl,rfl⟩ | ⟨a,cap,rfl,h2,h3⟩
 ·exact hasTwice_nil w
 ·exact hasTwice_at a cap L w hL h2 (good_small hz) h3
theorem nds_at {w:World} {o:Option Addr} {c:Nat} {L:List Nd} (h:NdS w (.slice o L.length c) L) {i:Nat} (hi:i < L.length):∃a,o=some a/\L.length<=c/\∀j (hj:j < L.length),NdAt w (a.add (j * 2)) L[j]:=by
 rcases h with ⟨h1,h2⟩ | ⟨a,cap,h1,h2,h3⟩
 ·rw [h2] at hi;simp at hi
 ·cases h1
  exact ⟨a,rfl,h2,h3⟩
set_option maxRecDepth 100000 in
theorem fault_any (v:Value) (L:List Nd) (w:World) (h:NdS w v L) (hL:L.length<=1048576) (hS:∀x ∈ L,x.n.size < 2 ^ 60/\x.r.size < 2 ^ 60) :
  Calls Tryz.prog 20 #[v] w fun e w'=>e=.returned (.int .i64 (wrongN L))/\w.grownBy w' none:=by
 have H1:Hd (NdS w v L):=h;have CN:Hd (∀x ∈ L,∀w,Calls Tryz.prog 33 #[.string x.n] w fun e w'=>e=.returned (.bool (nameB x.n))/\w'=w):=fun x hx w=>name_any x.n w (by have:=(hS x hx).1;omega)
 have CR:Hd (∀x ∈ L,∀w,Calls Tryz.prog 34 #[.string x.r] w fun e w'=>e=.returned (.bool (okR x.r))/\w.grownBy w' none):=fun x hx w=>nIsRange_any x.r w (hS x hx).2
 have CT:Hd (∀w,NdS w v L->L.all goodN=true->Calls Tryz.prog 35 #[v] w fun e w'=>e=.returned (.bool (twTo L L.length))/\w.grownBy w' none):=fun w h hz=>cTwice v L w h hL hz
 obtain ⟨o,c,rfl⟩:=nds_slice h;have HT:Hd (∀i (hi:i < L.length),goodN L[i]=false->wrongN L=2):=wrong_text L;have H5:Hd (L.all goodN=true->twTo L L.length=true->wrongN L=5):=wrong_twice L;have H0:Hd (L.all goodN=true->twTo L L.length=false->wrongN L=0):=wrong_not L;obtain ⟨R,hR⟩:=nm (wrongN L);rw [hR] at HT H5 H0 ⊢;clear h hS hR;go_enter Tryz.func20,Tryz.ntmps20;go_wp2;go_loopw [7] (fun vi wr=>∃i:Nat,vi=.int .i64 i/\i<=L.length/\(L.take i).all goodN=true/\w.grownBy wr none) (fun vi _=>L.length - (intOf vi).toNat)
 case atStart=>exact ⟨0,rfl,Nat.zero_le _,rfl,gb_refl _ _⟩
 case round =>
  obtain ⟨i,rfl,hi,hall,hg⟩:=hrel;have HALL:Hd ((L.take i).all goodN=true):=hall;have HG:Hd (w.grownBy wr none):=hg
  by_cases hlt:i < L.length
  ·obtain ⟨a,rfl,hcv,hat⟩:=nds_at (H1.o.grow hg) hlt;obtain ⟨x,hx⟩:=nm (L[i]);obtain ⟨e0,e1⟩:NdAt wr (a.add (i * 2)) x:=by rw [<-hx];exact hat i hlt
   have hmem:x ∈ L:=by rw [<-hx];exact List.getElem_mem _
   have CX:Hd (∀w,Calls Tryz.prog 33 #[.string x.n] w fun e w'=>e=.returned (.bool (nameB x.n))/\w'=w):=fun w=>CN.o x hmem w
   have CY:Hd (∀w,Calls Tryz.prog 34 #[.string x.r] w fun e w'=>e=.returned (.bool (okR x.r))/\w.grownBy w' none):=fun w=>CR.o x hmem w
   have HF:Hd (goodN x=false->R=2):=fun h=>HT.o i hlt (by rw [hx];exact h)
   have HN:Hd (goodN x=true->(L.take (i+1)).all goodN=true):=fun h=>all_step L i hlt (by rw [hx];exact h) HALL.o
   have hgd:goodN x=(nameB x.n && okR x.r):=rfl;rw [hgd] at HF HN;obtain ⟨q1,hq1⟩:∃q,nameB x.n=q:=⟨_,rfl⟩;obtain ⟨q2,hq2⟩:∃q,okR x.r=q:=⟨_,rfl⟩;rw [hq1] at CX HF HN;rw [hq2] at CY HF HN;obtain ⟨xn,xr⟩:=x;simp only [] at CX CY e0 e1;clear hall hg hx hmem hgd hq1 hq2 hat
   cases q1 with
   | false =>
    go_wp2_with (first | (go_at_call 33;refine (CX.o _).mono ?_;rintro e w' ⟨rfl,rfl⟩));go_ret;exact ⟨ret_int (HF.o (by trivial)).symm,gb_alloc HG.o _⟩
   | true =>
    go_wp2_with (first | (go_at_call 33;refine (CX.o _).mono ?_;rintro e w' ⟨rfl,rfl⟩) | (go_at_call 34;refine (CY.o _).mono ?_));rintro e w3 ⟨rfl,hg3⟩;have HG3:Hd (w.grownBy w3 none):=gb_trans HG.o (gb_trans (gb_alloc (gb_refl wr none) _) hg3);clear hg3
    cases q2 with
    | false =>
     go_wp2;go_ret;exact ⟨ret_int (HF.o (by trivial)).symm,HG3.o⟩
    | true =>
     go_wp2;exact ⟨⟨i+1,by go_num,by omega,HN.o (by trivial),HG3.o⟩,by simp [intOf];omega⟩
  ·have hil:i=L.length:=by omega
   have HL:Hd (L.all goodN=true):=by
    show L.all goodN=true;rw [hil,List.take_length] at hall;exact hall
   have CTT:Hd (Calls Tryz.prog 35 #[.slice o L.length c] wr fun e w'=>e=.returned (.bool (twTo L L.length))/\wr.grownBy w' none):=CT.o wr (H1.o.grow hg) HL.o;have H5':Hd (twTo L L.length=true->R=5):=fun h=>H5.o HL.o h
   have H0':Hd (twTo L L.length=false->R=0):=fun h=>H0.o HL.o h
   obtain ⟨q,hq⟩:=nm (twTo L L.length);rw [hq] at CTT H5' H0';clear hall hg hil hi hq
   cases q with
   | true =>
    go_wp2_with (first | (go_at_call 35;refine CTT.o.mono ?_;rintro e w3 ⟨rfl,hg3⟩));go_ret;exact ⟨ret_int (H5'.o (by trivial)).symm,gb_trans HG.o hg3⟩
   | false =>
    go_wp2_with (first | (go_at_call 35;refine CTT.o.mono ?_;rintro e w3 ⟨rfl,hg3⟩));go_ret;exact ⟨ret_int (H0'.o (by trivial)).symm,gb_trans HG.o hg3⟩
open Go.RowKit Go.Maps
theorem infoSet:(Tryz.prog.info? 35).map (fun i=>(i.zero,i.size,i.bytes))=some (some (.int .u64 0),1,8):=by kernel_rfl
theorem made_set (n:Nat):madeCells #[Value.int .u64 0] n=msV (List.replicate n 0):=by
 unfold madeCells msV;apply Array.ext';simp;apply List.ext_getElem?;intro i;simp
 by_cases h:i < n
 ·simp [h,Nat.mod_one]
 ·simp [h]
theorem make_set (n:Nat) (hn:n<=1048576) (W:World):(Instr.makeSlice 38 (.int .i64 (n:Int)) (.int .i64 (n:Int))).run Tryz.prog W=.ok (.slice (some ⟨W.heap.size,0,none⟩) n n) (W.alloc (.cells (msV (List.replicate n 0)) 35)):=by
 obtain ⟨i0,hi0,hii⟩:=Option.map_eq_some_iff.1 infoSet;simp only [Prod.mk.injEq] at hii;obtain ⟨hz0,hz1,hzb⟩:=hii;have:=run_make W 38 35 i0 (.int .u64 0) Tryz.underlying38 hi0 hz0 .i64 .i64 (n:Int) (n:Int) (by omega) (Int.le_refl _) (by rw [hzb];omega) (by omega);rw [this,hz1];have e:((n:Int)).toNat=n:=by omega
 rw [e,Nat.mul_one];have e2:(Value.int .u64 0).cells=#[.int .u64 0]:=rfl;rw [e2,made_set]
structure PlIs (N:List Nd) (L:List Re) (x:Pl):Prop where
 ok:PlOk x
 ln:x.mt.length=N.length
 nam:∀q,x.nam.testBit q=namB N L q
 mt:∀j (hj:j < x.mt.length) q,x.mt[j].testBit q=meetJ N L j q
structure PBt (N:List Nd) (L:List Re) (i k nam bar:Nat) (M:List Nat):Prop where
 n1:nam < 18446744073709551616
 n2:bar < 18446744073709551616
 n3:∀m ∈ M,m < 18446744073709551616
 b1:∀q,nam.testBit q=nmB N L i k q
 b2:∀j (hj:j < M.length) q,M[j].testBit q=mtB N L i k j q
theorem pb_zero (N:List Nd) (L:List Re) (n:Nat):PBt N L 0 0 0 0 (List.replicate n 0) :=
 ⟨by decide,by decide,fun m hm=>by rw [List.eq_of_mem_replicate hm];decide,fun q=>by rw [nmB_zero,Nat.zero_testBit],fun j hj q=>by rw [List.getElem_replicate,mtB_zero,Nat.zero_testBit]⟩
theorem pb_end {N:List Nd} {L:List Re} {i nam bar:Nat} {M:List Nat} (h:PBt N L i L.length nam bar M) (hi:i < N.length):PBt N L (i+1) 0 nam bar M :=
 ⟨h.n1,h.n2,h.n3,fun q=>by rw [h.b1,nmB_end N L i q hi],fun j hj q=>by rw [h.b2 j hj,mtB_end]⟩
theorem pb_skip {N:List Nd} {L:List Re} {i k nam bar:Nat} {M:List Nat} (h:PBt N L i k nam bar M) (hi:i < N.length) (hk:k < L.length) (hn:¬ N[i].n=nmK L k):PBt N L i (k+1) nam bar M:=by
 have h1:atN N L i k=false:=by rw [atN_at N L i k hi];simpa using hn
 have h2:meetJ N L i k=false:=by rw [meetJ_at N L i k hi hk];simp [hn]
 exact ⟨h.n1,h.n2,h.n3,fun q=>by rw [h.b1,nmB_step N L i k q hk,h1];simp,fun j hj q=>by rw [h.b2 j hj,mtB_step,h2];simp⟩
theorem pb_yes {N:List Nd} {L:List Re} {i k nam bar:Nat} {M:List Nat} (h:PBt N L i k nam bar M) (hi:i < N.length) (hk:k < L.length) (hk64:k < 64) (hn:N[i].n=nmK L k) (ha:admT N[i].r (veK L k)=true) (hiM:i < M.length):PBt N L i (k+1) (nam ||| 2 ^ k) bar (M.set i (M[i] ||| 2 ^ k)):=by
 have h1:atN N L i k=true:=by rw [atN_at N L i k hi];simpa using hn
 have h2:meetJ N L i k=true:=by rw [meetJ_at N L i k hi hk,ha];simp [hn]
 refine ⟨or_small h.n1 (bit_small hk64),h.n2,fun m hm=>?_,fun q=>by rw [bit_or,h.b1,nmB_step N L i k q hk,h1];simp,fun j hj q=>?_⟩
 ·rcases List.mem_or_eq_of_mem_set hm with hm | rfl
  ·exact h.n3 m hm
  ·exact or_small (h.n3 _ (List.getElem_mem _)) (bit_small hk64)
 ·rw [mtB_step,h2]
  by_cases hj':j=i
  ·subst hj';rw [List.getElem_set_self,bit_or,h.b2 j hiM];simp
  ·rw [List.getElem_set_ne (fun e=>hj' e.symm),h.b2 j (by simpa using hj)];simp [hj']
theorem pb_bar {N:List Nd} {L:List Re} {i k nam bar:Nat} {M:List Nat} (h:PBt N L i k nam bar M) (hi:i < N.length) (hk:k < L.length) (hk64:k < 64) (hn:N[i].n=nmK L k) (ha:admT N[i].r (veK L k)=false):PBt N L i (k+1) (nam ||| 2 ^ k) (bar ||| 2 ^ k) M:=by
 have h1:atN N L i k=true:=by rw [atN_at N L i k hi];simpa using hn
 have h2:meetJ N L i k=false:=by rw [meetJ_at N L i k hi hk,ha];simp
 exact ⟨or_small h.n1 (bit_small hk64),or_small h.n2 (bit_small hk64),h.n3,fun q=>by rw [bit_or,h.b1,nmB_step N L i k q hk,h1];simp,fun j hj q=>by rw [h.b2 j hj,mtB_step,h2];simp⟩
theorem pb_all {N:List Nd} {L:List Re} {nam bar:Nat} {M:List Nat} (h:PBt N L N.length 0 nam bar M) (hl:M.length=N.length) (hN:N.length<=1048576):PlIs N L ⟨nam,bar,M⟩ :=
 ⟨⟨h.n1,h.n2,h.n3,by show M.length<=_;omega⟩,hl,fun q=>by rw [<-nmB_all];exact h.b1 q,fun j hj q=>by rw [<-mtB_all N L j q (by have:j < M.length:=hj;omega)];exact h.b2 j hj q⟩
end Go.Proofs.YticgahdffjnabaaGreatDoor
