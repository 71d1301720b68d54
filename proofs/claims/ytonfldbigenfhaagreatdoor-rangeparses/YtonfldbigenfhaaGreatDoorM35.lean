import Derived.Test.YtonfldbigenfhaaGreatDoorM34
namespace Go.Proofs.YtonfldbigenfhaaGreatDoor
open Go.RowKit
set_option linter.unusedVariables false
theorem infoLs:(Tryz.prog.info? 53).map (fun i=>(i.zero,i.size,i.bytes))=some (some (.slice none 0 0),1,24):=by kernel_rfl
def OA (w:World) (base:Nat) (sv:Value) (A:List (List Tq)):Prop :=
 ∃vals:List Value,w.ownsRow base 53 1 sv A.length vals/\vals.length=A.length/\∀i (hi:i < A.length),∃o n c,vals[i]?=some (.slice o n c)/\OT w base (.slice o n c) A[i]
theorem own_growb {w w':World} {base:Nat} {e:TypeId} {size n:Nat} {v:Value} {xs:List Value} {b:Nat} (h:w.ownsRow base e size v n xs) (hg:w.grownBy w' (some b)) (hb:b < base):w'.ownsRow base e size v n xs:=by
 refine ⟨h.1,?_⟩
 rcases h.2 with hn | ⟨g,cap,cur,hv,hbg,hc,rest⟩
 ·exact Or.inl hn
 ·refine Or.inr ⟨g,cap,cur,hv,hbg,?_,rest⟩
  rw [hg.block g ((Array.getElem?_eq_some_iff.1 hc).1) (by simp;omega)];exact hc
theorem OA.growb {w w':World} {base:Nat} {sv:Value} {A:List (List Tq)} {b:Nat} (h:OA w base sv A) (hg:w.grownBy w' (some b)) (hb:b < base):OA w' base sv A:=by
 obtain ⟨vals,h1,h2,h3⟩:=h
 refine ⟨vals,own_growb h1 hg hb,h2,fun i hi=>?_⟩
 obtain ⟨o,n,c,h4,h5⟩:=h3 i hi
 exact ⟨o,n,c,h4,h5.growb hg hb⟩
theorem OA.grow {w w':World} {base:Nat} {sv:Value} {A:List (List Tq)} (h:OA w base sv A) (hg:w.grownBy w' none):OA w' base sv A:=by
 obtain ⟨vals,h1,h2,h3⟩:=h
 refine ⟨vals,own_keep h1 hg,h2,fun i hi=>?_⟩
 obtain ⟨o,n,c,h4,h5⟩:=h3 i hi
 exact ⟨o,n,c,h4,h5.grow hg⟩
theorem gb_setb (w:World) (b o:Nat) (v:Value):w.grownBy (w.setCell ⟨b,o,none⟩ v) (some b):=gb_set (gb_refl w _) o v
theorem tys_ne:(53:Nat) ≠ 84:=by decide
theorem OT.keepA {w w':World} {base:Nat} {sl sv:Value} {L:List Tq} {n:Nat} {xs:List Value} (h:OT w base sl L) (hs:w.ownsRow base 53 1 sv n xs) (hg:w.grownBy w' sv.ownBlock):OT w' base sl L:=by
 refine ⟨h.1,?_⟩
 rcases h.2 with hn | ⟨g,cap,cur,hv,hbg,hc,rest⟩
 ·exact Or.inl hn
 ·refine Or.inr ⟨g,cap,cur,hv,hbg,?_,rest⟩
  rw [hg.block g ((Array.getElem?_eq_some_iff.1 hc).1) ?_]
  ·exact hc
  ·intro e
   rcases hs.2 with ⟨h1,_⟩ | ⟨g',cap',cur',hv',_,hc',_⟩
   ·rw [h1] at e;cases e
   ·rw [hv'] at e
    simp only [Value.ownBlock,Option.some.injEq] at e
    rw [e,hc'] at hc
    simp only [Option.some.injEq,Obj.cells.injEq] at hc
    exact tys_ne hc.2.1
theorem OA.push {w w':World} {base:Nat} {sv v':Value} {A:List (List Tq)} {o:Option Addr} {n c:Nat} {L:List Tq} {vals:List Value} (h1:w.ownsRow base 53 1 sv A.length vals) (h2:vals.length=A.length) (h3:∀i (hi:i < A.length),∃o n c,vals[i]?=some (.slice o n c)/\OT w base (.slice o n c) A[i]) (hL:OT w base (.slice o n c) L)
  (hg:w.grownBy w' sv.ownBlock) (hown:w'.ownsRow base 53 1 v' (A.length+1) (vals++[.slice o n c])):OA w' base v' (A++[L]):=by
 refine ⟨vals++[.slice o n c],by rw [List.length_append];exact hown,by simp [h2],fun i hi=>?_⟩
 rw [List.length_append] at hi
 by_cases hlt:i < A.length
 ·obtain ⟨o',n',c',h4,h5⟩:=h3 i hlt
  refine ⟨o',n',c',by rw [List.getElem?_append_left (by omega)];exact h4,?_⟩
  rw [List.getElem_append_left hlt]
  exact h5.keepA h1 hg
 ·have e:i=A.length:=by simp at hi;omega
  subst e
  refine ⟨o,n,c,by rw [<-h2];simp,?_⟩
  rw [List.getElem_append_right (Nat.le_refl _)]
  simpa using hL.keepA h1 hg
theorem OA.far {w:World} {base:Nat} {sv:Value} {n:Nat} {xs:List Value} (h:w.ownsRow base 53 1 sv n xs):∀q,sv.ownBlock=some q->base<=q:=fun q hq=>(h.lt q hq).1
theorem OA.slice {w:World} {base:Nat} {sv:Value} {A:List (List Tq)} (h:OA w base sv A):∃o c,sv=.slice o A.length c:=by
 obtain ⟨vals,h1,_⟩:=h
 rcases h1.2 with ⟨e1,e2⟩ | ⟨g,cap,cur,hv,_⟩
 ·exact ⟨_,_,by rw [e1,e2]⟩
 ·exact ⟨_,_,hv⟩
def GB (g b:Nat) (sv:Value) (w:World):Prop:=w.heap[g]?=some (.cells #[.pointer (some ⟨b,0,none⟩),sv] 73 (0,0))
theorem GB.gr {g b:Nat} {sv:Value} {w:World} (h:GB g b sv w):GR g b w:=by unfold GR;rw [Lib.cell_of_heap h];rfl
theorem GB.c1 {g b:Nat} {sv:Value} {w:World} (h:GB g b sv w):w.cell? ⟨g,1,none⟩=some sv:=by rw [Lib.cell_of_heap h];rfl
theorem GB.f {g b:Nat} {sv:Value} {w:World} (h:GB g b sv w) (o:Nat):w.frozen? ⟨g,o,none⟩=false:=Lib.frozen_of_heap h o
theorem GB.growr {g b:Nat} {sv:Value} {w w':World} {row:Option Nat} (h:GB g b sv w) (hg:w.grownBy w' row) (hn:some g ≠ row):GB g b sv w':=by
 unfold GB at h ⊢
 rw [hg.block g ((Array.getElem?_eq_some_iff.1 h).1) hn];exact h
theorem GB.set {g b:Nat} {sv:Value} {w:World} (h:GB g b sv w) (y:Value):GB g b y (w.setCell ⟨g,1,none⟩ y):=by
 unfold GB at h ⊢;simp [World.setCell,Array.getElem?_modify,h]
theorem OA.down {w:World} {base base':Nat} {sv:Value} {A:List (List Tq)} (h:OA w base sv A) (hb:base'<=base):OA w base' sv A:=by
 obtain ⟨vals,h1,h2,h3⟩:=h
 refine ⟨vals,⟨h1.1,?_⟩,h2,fun i hi=>?_⟩
 ·rcases h1.2 with hn | ⟨g,cap,cur,hv,hbg,rest⟩
  ·exact Or.inl hn
  ·exact Or.inr ⟨g,cap,cur,hv,Nat.le_trans hb hbg,rest⟩
 ·obtain ⟨o,n,c,h4,h5⟩:=h3 i hi
  exact ⟨o,n,c,h4,h5.base hb⟩
theorem gb_row00 {w wa wb:World} {row:Option Nat} (h:w.grownBy wa none) (hg:wa.grownBy wb row) (hr:∀q,row=some q->w.heap.size<=q):w.grownBy wb none :=
 ⟨hg.os.trans h.os,hg.tape.trans h.tape,hg.output.trans h.output,Nat.le_trans h.size hg.size,fun k hk hn=>(hg.block k (Nat.lt_of_lt_of_le hk h.size) (fun e=>by have:=hr k e.symm;omega)).trans (h.block k hk hn)⟩
theorem own_sl {w:World} {base:Nat} {e:TypeId} {size n:Nat} {v:Value} {xs:List Value} (h:w.ownsRow base e size v n xs):∃o n c,v=.slice o n c:=by
 rcases h.2 with ⟨h1,_⟩ | ⟨g,cap,cur,hv,_⟩
 ·exact ⟨_,_,_,h1⟩
 ·exact ⟨_,_,_,hv⟩
theorem gb_far0 {w u u':World} {b:Nat} (h:w.grownBy u none) (hg:u.grownBy u' (some b)) (hb:w.heap.size<=b):w.grownBy u' none :=
 ⟨hg.os.trans h.os,hg.tape.trans h.tape,hg.output.trans h.output,Nat.le_trans h.size hg.size,fun k hk hn=>(hg.block k (Nat.lt_of_lt_of_le hk h.size) (by simp;omega)).trans (h.block k hk hn)⟩
def bm:Value->Nat
 | .bool true=>1
 | _=>0
def RRPost (R:Int × Nat × List (List Te)) (w:World) (e:Ending) (w':World):Prop :=
 ∃(o:Option Addr) (n c:Nat) (A:List (List Tq)),e=.returned (.tuple #[.slice o n c,.int .i64 R.1,.int .i64 (R.2.1:Int)])/\w.grownBy w' none/\(R.1=0->OA w' w.heap.size (.slice o n c) A/\A.map (·.map teOf)=R.2.2/\A.length<=201/\∀L ∈ A,L.length<=1000/\∀x ∈ L,TqOk x)
theorem dset_len (l:List UInt8):∀(f i:Nat) (acc:List Te),(dset l f i acc).1=0->(dset l f i acc).2.2.length<=acc.length+f+2
 | 0,i,acc,_=>by unfold dset;simp only [];omega
 | f+1,i,acc,h=>by
  rw [dset] at h ⊢
  split
  ·simp only [];omega
  ·rename_i h0
   rw [if_neg h0] at h
   split
   ·rename_i h1
    rw [if_pos h1] at h
    split
    ·rename_i h2
     rw [if_pos h2] at h
     split
     ·simp only [];omega
     ·split
      ·split
       ·simp
       ·simp only [];omega
      ·simp only [];omega
    ·rename_i h2
     rw [if_neg h2] at h
     split
     ·simp only [];omega
     ·rename_i h3
      rw [if_neg h3] at h
      have:=dset_len l f _ _ h
      simp at this
      omega
   ·simp only [];omega
set_option maxRecDepth 100000 in
set_option maxHeartbeats 1600000 in
theorem readRange_any (s:ByteArray) (w:World) (hs:s.size < 2 ^ 60):Calls Tryz.prog 12 #[.string s] w (RRPost (rdRange s.data.toList) w):=by
 by_cases h200:200 < s.size
 ·have hR:rdRange s.data.toList=(1,0,[]):=by unfold rdRange;rw [if_pos (by simpa using h200)]
  rw [hR]
  clear hR
  go_enter Tryz.func12,Tryz.ntmps12
  go_wp2
  exact bodyPost_ret (results_tmp3 (t:=2) (u:=3) (v:=4) rfl _ _ _) rfl ⟨_,_,_,[],rfl,gb_refl _ _,fun h=>absurd h (by simp)⟩
 ·obtain ⟨l,hl⟩:∃l,s.data.toList=l:=⟨_,rfl⟩
  have hll:l.length=s.size:=by rw [<-hl];simp
  have HLL:Hid (l.length=s.size/\s.size<=200):=⟨hll,by omega⟩
  rw [hl]
  obtain ⟨E0,J0,S0,hP⟩:∃E0 J0 S0,dsets l (l.length+1) 0 []=(E0,J0,S0):=⟨_,_,_,rfl⟩
  have HRR:Hid (rdRange l=if E0=0 then (0,0,S0) else (E0,J0,[])):=by
   show rdRange l=_
   unfold rdRange
   rw [if_neg (by omega),hP]
  have HR0:Hid (dsets l (l.length+1) 0 []=(E0,J0,S0)):=hP
  obtain ⟨b,hb⟩:∃b,w.heap.size=b:=⟨_,rfl⟩
  obtain ⟨g,hgg⟩:∃g,b+1=g:=⟨_,rfl⟩
  have hgb:g ≠ b:=by omega
  have CB:Hid (∀i a w,i<=s.size->GR g b w->VS b s i 0 a w->Calls Tryz.prog 34 #[.pointer (some ⟨g,0,none⟩)] w fun e w'=>e=.returned (.bool (decide (i < skipW l i)))/\VS b s (skipW l i) 0 a w'/\w.grownBy w' (some b)):=fun i a w hi h1 h2=>by rw [<-hl];exact rblanks_any g b s i a w hi hgb h1 h2 (by omega)
  have CS:Hid (∀i a w,i<=s.size->GR g b w->VS b s i 0 a w->Calls Tryz.prog 35 #[.pointer (some ⟨g,0,none⟩)] w (DSetPost b s (dset l (l.length+1) i []) w)):=fun i a w hi h1 h2=>by rw [<-hl];exact rset_any g b s i a w hi hgb h1 h2 (by omega)
  have CI:Hid (∀i a w,i<=s.size->GR g b w->VS b s i 0 a w->Calls Tryz.prog 36 #[.pointer (some ⟨g,0,none⟩),.string ⟨#[124,124]⟩] w fun e w'=>e=.returned (.bool (barsAt l i))/\∃n,w'=w.drewN n):=fun i a w hi h1 h2=>by rw [<-hl];exact is_bars g b s i a w hi h1 h2 (by omega)
  have CIL:Hid (∀(i:Nat) (E:Int) (a:Nat) w,¬ E=0->GR g b w->VS b s i E a w->Calls Tryz.prog 36 #[.pointer (some ⟨g,0,none⟩),.string ⟨#[124,124]⟩] w fun e w'=>e=.returned (.bool (false))/\∃n,w'=w.drewN n):=fun i E a w hE h1 h2=>is_late g b s _ i E a w hE h1 h2
  have HSK:Hid (∀i,i<=s.size->i<=skipW l i/\skipW l i<=s.size):=fun i hi=>⟨skip_ge l i,by have:=skip_le l i (by rw [hll];exact hi);rw [hll] at this;exact this⟩
  have HOP:Hid (∀i,i<=s.size->(oneD l i).1=0->i<=(oneD l i).2.1/\(oneD l i).2.1<=s.size):=fun i hi h0=>by
   obtain ⟨e1,e2,_⟩:=one_same l i (by rw [hll];exact hi)
   have:=one_place l i (by rw [hll];exact hi) (e1.trans h0)
   rw [e2,hll] at this
   exact this
  have HGB:Hid (g ≠ b/\b < g/\w.heap.size=b/\b+1=g):=⟨hgb,by omega,hb,hgg⟩
  clear hl hll hP hs hgb
  go_enter Tryz.func12,Tryz.ntmps12
  go_wp2
  clear h200
  obtain ⟨W,hW⟩:∃W,(w.alloc (.cells #[.string s,.int .i64 0,.int .i64 0,.int .i64 0] 71)).alloc (.cells #[.pointer (some ⟨b,0,none⟩),.slice none 0 0] 73)=W:=⟨_,rfl⟩
  have hgW:w.grownBy W none:=by rw [<-hW];exact gb_alloc (gb_alloc (gb_refl w none) _) _
  have HV:Hid (VS b s 0 0 0 W):=by
   show W.heap[b]?=_
   rw [<-hW,<-hb,Lib.alloc_old _ _ _ (by simp)];exact heap_alloc_new w _
  have HG:Hid (GB g b (.slice none 0 0) W):=by
   show W.heap[g]?=_
   rw [<-hW,<-hgg,<-hb];exact row2' w _ _
  have HW:Hid (w.grownBy W none):=hgW
  try rw [hW]
  clear hgW hW hb hgg
  go_loopw [6] (fun vm wr=>∃(f j c:Nat) (E:Int) (sv:Value) (A:List (List Tq)),VS b s j E c wr/\GB g b sv wr/\OA wr (g+1) sv A/\w.grownBy wr none/\A.length<=201 ∧
   ((vm=.bool true/\E=0/\j<=s.size/\A.length<=j/\l.length < f+j/\dsets l f j (A.map (·.map teOf))=(E0,J0,S0)/\∀L ∈ A,L.length<=1000/\∀x ∈ L,TqOk x)\/(vm=.bool false/\E=0/\E0=0/\S0=A.map (·.map teOf)/\∀L ∈ A,L.length<=1000/\∀x ∈ L,TqOk x)\/(vm=.bool false/\¬ E=0/\E0=E/\J0=c))) (fun vm wr=>bm vm * (s.size+3 - placeOf b wr))
  case atStart=>exact ⟨l.length+1,0,0,0,_,[],HV.out,HG.out,⟨[],World.ownsRow_nil _ _ _ _,rfl,fun i hi=>absurd hi (Nat.not_lt_zero _)⟩,HW.out,Nat.zero_le _,Or.inl ⟨rfl,rfl,Nat.zero_le _,Nat.zero_le _,by omega,HR0.out,fun L hL=>by cases hL⟩⟩
  case round =>
   obtain ⟨f,j,c,E,sv,A,hv,hgr,hoa,hgw,hal,hcase⟩:=hrel
   clear HV HG HW HR0
   obtain ⟨o1,c1,rfl⟩:=hoa.slice
   obtain ⟨n1,hn1⟩:∃n1,A.length=n1:=⟨_,rfl⟩
   rw [hn1] at hgr hoa
   have HV:Hid (VS b s j E c wr):=hv
   have HG:Hid (GB g b (.slice o1 n1 c1) wr):=hgr
   have HO:Hid (OA wr (g+1) (.slice o1 n1 c1) A):=hoa
   have HW:Hid (w.grownBy wr none):=hgw
   have HN1:Hid (A.length=n1/\n1<=201):=⟨hn1,by omega⟩
   clear hv hgr hoa hgw hal hn1
   rcases hcase with ⟨rfl,rfl,hj,haj,hf,hds,hok⟩ | ⟨rfl,rfl,he0,hs0,hok⟩ | ⟨rfl,hE,he0,hj0⟩
   ·have HJ:Hid (j<=s.size/\n1<=j/\l.length < f+j):=⟨hj,by have:=HN1.out.1;omega,hf⟩
    have HDS:Hid (dsets l f j (A.map (·.map teOf))=(E0,J0,S0)):=hds
    have HOK:Hid (∀L ∈ A,L.length<=1000/\∀x ∈ L,TqOk x):=hok
    have HPL:Hid (placeOf b wr=j):=HV.out.place
    clear hj haj hf hds hok
    obtain ⟨f,rfl⟩:∃f',f=f'+1:=by
     cases f with
     | zero=>have:=HLL.out.1;have:=HJ.out;omega
     | succ f=>exact ⟨f,rfl⟩
    have CB1:Hid (∀w,GR g b w->VS b s j 0 c w->Calls Tryz.prog 34 #[.pointer (some ⟨g,0,none⟩)] w fun e w'=>e=.returned (.bool (decide (j < skipW l j)))/\VS b s (skipW l j) 0 c w'/\w.grownBy w' (some b)):=fun w h1 h2=>CB.out j c w HJ.out.1 h1 h2
    have CS1:Hid (∀w,GR g b w->VS b s (skipW l j) 0 c w->Calls Tryz.prog 35 #[.pointer (some ⟨g,0,none⟩)] w (DSetPost b s (oneD l j) w)):=fun w h1 h2=>CS.out (skipW l j) c w (HSK.out j HJ.out.1).2 h1 h2
    have HOP1:Hid ((oneD l j).1=0->j<=(oneD l j).2.1/\(oneD l j).2.1<=s.size):=HOP.out j HJ.out.1
    have HLN:Hid ((oneD l j).1=0->(oneD l j).2.2.length<=1000):=fun h=>by have h1:=dset_len l (l.length+1) (skipW l j) [] h;have h2:=HLL.out;simp only [List.length_nil] at h1;unfold oneD;omega
    have hds:=HDS.out
    rw [dsets] at hds
    obtain ⟨E1,J1,ts,hR⟩:∃E1 J1 ts,oneD l j=(E1,J1,ts):=⟨_,_,_,rfl⟩
    rw [hR] at hds CS1 HOP1 HLN
    simp only [] at hds HOP1 HLN
    have HD1:Hid ((if E1=0 then (if barsAt l J1=true then dsets l f (J1+2) (A.map (·.map teOf)++[ts]) else (0,J1,A.map (·.map teOf)++[ts])) else (E1,J1,A.map (·.map teOf)))=(E0,J0,S0)):=hds
    clear hds hR HDS
    obtain ⟨K,hK⟩:∃K,skipW l j=K:=⟨_,rfl⟩
    rw [hK] at CB1 CS1
    obtain ⟨ap,hap⟩:∃ap,decide (j < K)=ap:=⟨_,rfl⟩
    rw [hap] at CB1
    clear hK hap
    go_wp2_with (first | (go_at_call 34;refine (CB1.out _ HG.out.gr HV.out).mono ?_))
    rintro e u1 ⟨rfl,hv,hg⟩
    replace HV:Hid (VS b s K 0 c u1):=hv
    replace HG:Hid (GB g b (.slice o1 n1 c1) u1):=HG.out.growr hg (by have:=HGB.out.1;simpa using this)
    replace HO:Hid (OA u1 (g+1) (.slice o1 n1 c1) A):=HO.out.growb hg (by have:=HGB.out.2.1;omega)
    replace HW:Hid (w.grownBy u1 none):=gb_far0 HW.out hg (by have:=HGB.out.2.2.1;omega)
    clear hv hg
    have HBZ:Hid (g+1<=u1.heap.size):=(Array.getElem?_eq_some_iff.1 HG.out).1
    go_wp2_with (first | (go_at_call 35;refine (CS1.out _ HG.out.gr HV.out).mono ?_))
    rintro e u2 ⟨o2,n2,c2,acc,j2,d2,rfl,hv,hot,hg,hok,herr⟩
    have HT:Hid (OT u2 (g+1) (.slice o2 n2 c2) acc):=hot.base HBZ.out
    have HQ:Hid ((E1=0->acc.map teOf=ts/\j2=J1/\∀x ∈ acc,TqOk x)/\(¬ E1=0->d2=J1)):=⟨hok,herr⟩
    clear hot hok herr
    replace HV:Hid (VS b s j2 E1 d2 u2):=hv
    replace HG:Hid (GB g b (.slice o1 n1 c1) u2):=HG.out.growr hg (by have:=HGB.out.1;simpa using this)
    replace HO:Hid (OA u2 (g+1) (.slice o1 n1 c1) A):=HO.out.growb hg (by have:=HGB.out.2.1;omega)
    replace HW:Hid (w.grownBy u2 none):=gb_far0 HW.out hg (by have:=HGB.out.2.2.1;omega)
    clear hv hg
    obtain ⟨vals,hva,hvl,hve⟩:=HO.out
    have HVA:Hid (u2.ownsRow (g+1) 53 1 (.slice o1 n1 c1) A.length vals):=hva
    have HVE:Hid (vals.length=A.length/\∀i (hi:i < A.length),∃o n c,vals[i]?=some (.slice o n c)/\OT u2 (g+1) (.slice o n c) A[i]):=⟨hvl,hve⟩
    clear hva hvl hve
    have hinfo:=infoLs
    obtain ⟨i1,hj0,hjj⟩:=Option.map_eq_some_iff.1 hinfo
    have hy0:i1.zero=some (.slice none 0 0):=congrArg (·.1) hjj
    have hy1:i1.size=1:=congrArg (·.2.1) hjj
    have hyb:i1.bytes=24:=congrArg (·.2.2) hjj
    clear hjj hinfo
    have g0:u2.cell? ⟨g,0,none⟩=some (.pointer (some ⟨b,0,none⟩)):=HG.out.gr
    have g1:=HG.out.c1
    obtain ⟨W3,hW3⟩:∃W3,u2.alloc (.cells #[.slice o2 n2 c2] 53)=W3:=⟨_,rfl⟩
    have hga:u2.grownBy W3 none:=by rw [<-hW3];exact gb_alloc (gb_refl _ none) _
    have HR3:Hid (W3.heap[u2.heap.size]?=some (.cells #[.slice o2 n2 c2] 53 (0,0))):=by show _=_;rw [<-hW3];exact heap_alloc_new u2 _
    have HGA:Hid (u2.grownBy W3 none):=hga
    clear hga
    go_wp2_with (first | (at_builtin;refine wpList_append_own _ rfl _ _ 26 rfl (g+1) 53 i1 _ 1 24 Tryz.underlying26 hj0 hy0 hy1 hyb rfl (by decide) _ _ _ rfl (own_keep HVA.out HGA.out) _ 1 1 [.slice o2 n2 c2] rfl rfl (World.news_of_block HR3.out) (by intro u hu;simp only [List.mem_cons,List.not_mem_nil,or_false] at hu;subst hu;rfl) (by unfold maxLen;have:=HN1.out;omega) (by have:=HN1.out;omega) (by have h1:=HGA.out.size;have h2:=(Array.getElem?_eq_some_iff.1 HG.out).1;omega) ?_;intro v' u4 hown hgrow _;obtain ⟨o4,n4,c4,rfl⟩:=own_sl hown;have hG4:GB g b (.slice o1 n1 c1) u4:=(HG.out.growr HGA.out (by simp)).growr hgrow (fun e=>by have:=HVA.out.lt g e.symm;omega);clear g0 g1;have g0:u4.cell? ⟨g,0,none⟩=some (.pointer (some ⟨b,0,none⟩)):=hG4.gr;have g1:=hG4.c1;have gf:=hG4.f))
    have HON0:Hid (OA u4 (g+1) (.slice o4 n4 c4) (A++[acc])):=OA.push (w:=W3) (own_keep HVA.out HGA.out) HVE.out.1 (fun i hi=>by obtain ⟨o,n,c,h1,h2⟩:=HVE.out.2 i hi;exact ⟨o,n,c,h1,h2.grow HGA.out⟩) (HT.out.grow HGA.out) hgrow hown
    have HFAR:Hid (∀q,(Value.slice o1 n1 c1).ownBlock=some q->g+1<=q):=fun q hq=>(HVA.out.lt q hq).1
    obtain ⟨u5,hu5⟩:∃u5,u4.setCell ⟨g,1,none⟩ (.slice o4 n4 c4)=u5:=⟨_,rfl⟩
    have hg5:u4.grownBy u5 (some g):=by rw [<-hu5];exact gb_setb u4 g 1 _
    replace HV:Hid (VS b s j2 E1 d2 u5):=((HV.out.grow HGA.out (by simp)).grow hgrow (fun e=>by have:=HFAR.out b e.symm;have:=HGB.out.2.1;omega)).grow hg5 (by have:=HGB.out.1;simpa using Ne.symm this)
    replace HG:Hid (GB g b (.slice o4 n4 c4) u5):=by show GB g b _ u5;rw [<-hu5];exact hG4.set _
    replace HO:Hid (OA u5 (g+1) (.slice o4 n4 c4) (A++[acc])):=HON0.out.growb hg5 (by omega)
    replace HW:Hid (w.grownBy u5 none):=gb_far0 (gb_row00 (gb_trans HW.out HGA.out) hgrow (fun q hq=>by have:=HFAR.out q hq;have:=HGB.out;omega)) hg5 (by have:=HGB.out;omega)
    try rw [hu5]
    clear hown hgrow hG4 g0 g1 gf hg5 hu5 hW3 hj0 hy0 hy1 hyb HVA HVE HON0 HFAR HR3 HGA HT
    have HLA:Hid ((A++[acc]).length<=201):=by show _<=_;rw [List.length_append,HN1.out.1];have h1:=HJ.out;have h2:=HLL.out.2;simp;omega
    by_cases hE1:E1=0
    ·subst hE1
     obtain ⟨q1,q2,q3⟩:=HQ.out.1 rfl
     obtain ⟨p1,p2⟩:=HOP1.out rfl
     have HOK2:Hid (∀L ∈ A++[acc],L.length<=1000/\∀x ∈ L,TqOk x):=by
      intro L hL
      rcases List.mem_append.1 hL with h | h
      ·exact HOK.out L h
      ·rw [List.mem_singleton.1 h];exact ⟨by have h1:=HLN.out rfl;rw [<-q1,List.length_map] at h1;exact h1,q3⟩
     have HMP:Hid ((A++[acc]).map (·.map teOf)=A.map (·.map teOf)++[ts]):=by show _=_;rw [List.map_append,<-q1];rfl
     have HP:Hid (j<=J1/\J1<=s.size):=⟨p1,p2⟩
     subst q2
     clear q1 q3 p1 p2
     cases hba:barsAt l j2 with
     | true =>
      have CI1:Hid (∀w,GR g b w->VS b s j2 0 d2 w->Calls Tryz.prog 36 #[.pointer (some ⟨g,0,none⟩),.string ⟨#[124,124]⟩] w fun e w'=>e=.returned (.bool (true))/\∃n,w'=w.drewN n):=fun w h1 h2=>by have:=CI.out j2 d2 w HP.out.2 h1 h2;rw [hba] at this;exact this
      have HNX:Hid (dsets l f (j2+2) ((A++[acc]).map (·.map teOf))=(E0,J0,S0)):=by show _=_;have h:=HD1.out;rw [if_pos rfl,if_pos hba] at h;rw [HMP.out];exact h
      have HB2:Hid (j2+2<=s.size):=by have:=bars_lt l j2 hba;rw [HLL.out.1] at this;exact this
      clear hba
      go_wp2_with (first | (go_at_call 36;refine (CI1.out _ HG.out.gr HV.out).mono ?_))
      rintro e u6 rfl n hn
      replace HV:Hid (VS b s j2 0 d2 u6):=by show VS _ _ _ _ _ u6;rw [hn];exact HV.out.drew _
      replace HG:Hid (GB g b (.slice o4 n4 c4) u6):=by show GB g b _ u6;rw [hn];exact HG.out
      replace HO:Hid (OA u6 (g+1) (.slice o4 n4 c4) (A++[acc])):=by show OA u6 _ _ _;rw [hn];exact HO.out
      replace HW:Hid (w.grownBy u6 none):=by show w.grownBy u6 none;rw [hn];exact gb_drew HW.out _
      clear hn
      have e0:u6.cell? ⟨g,0,none⟩=some (.pointer (some ⟨b,0,none⟩)):=HG.out.gr
      have e1:=HV.out.c1
      have ef:=HV.out.f1
      have hwr:IntKind.i64.wrap ((j2:Int)+2)=(j2:Int)+2:=by rw [IntKind.wrap_i64];have:=HB2.out;have:=HLL.out.2;omega
      go_wp2_with (fail)
      go_region
      obtain ⟨u7,hu7⟩:∃u7,(u6.setCell ⟨b,1,none⟩ (.int .i64 ((j2:Int)+2))).drew=u7:=⟨_,rfl⟩
      have hg7:u6.grownBy u7 (some b):=by rw [<-hu7];exact gb_drw (gb_setb u6 b 1 _)
      replace HV:Hid (VS b s (j2+2) 0 d2 u7):=by show VS b s (j2+2) 0 d2 u7;rw [<-hu7,show ((j2:Int)+2)=((j2+2:Nat):Int) by omega];exact HV.out.set1 _
      replace HG:Hid (GB g b (.slice o4 n4 c4) u7):=HG.out.growr hg7 (by have:=HGB.out.1;simpa using this)
      replace HO:Hid (OA u7 (g+1) (.slice o4 n4 c4) (A++[acc])):=HO.out.growb hg7 (by have:=HGB.out;omega)
      replace HW:Hid (w.grownBy u7 none):=gb_far0 HW.out hg7 (by have:=HGB.out;omega)
      try rw [hu7]
      clear hg7 hu7 e0 e1 ef hwr
      go_wp2
      go_roundw
      case rel=>exact ⟨f,j2+2,d2,0,_,A++[acc],HV.out,HG.out,HO.out,HW.out,HLA.out,Or.inl ⟨rfl,rfl,HB2.out,by rw [List.length_append,HN1.out.1];have h1:=HJ.out;have h2:=HP.out;simp;omega,by have h1:=HJ.out;have h2:=HP.out;omega,HNX.out,HOK2.out⟩⟩
      case measure =>
       rw [HPL.out,HV.out.place]
       have h1:=HJ.out
       have h2:=HP.out
       simp only [bm]
       omega
     | false =>
      have CI1:Hid (∀w,GR g b w->VS b s j2 0 d2 w->Calls Tryz.prog 36 #[.pointer (some ⟨g,0,none⟩),.string ⟨#[124,124]⟩] w fun e w'=>e=.returned (.bool (false))/\∃n,w'=w.drewN n):=fun w h1 h2=>by have:=CI.out j2 d2 w HP.out.2 h1 h2;rw [hba] at this;exact this
      have HNX:Hid (E0=0/\S0=(A++[acc]).map (·.map teOf)):=by have h:=HD1.out;rw [if_pos rfl,if_neg (by rw [hba];decide)] at h;rw [HMP.out];simp only [Prod.mk.injEq] at h;exact ⟨h.1.symm,h.2.2.symm⟩
      clear hba
      go_wp2_with (first | (go_at_call 36;refine (CI1.out _ HG.out.gr HV.out).mono ?_))
      rintro e u6 rfl n hn
      replace HV:Hid (VS b s j2 0 d2 u6):=by show VS _ _ _ _ _ u6;rw [hn];exact HV.out.drew _
      replace HG:Hid (GB g b (.slice o4 n4 c4) u6):=by show GB g b _ u6;rw [hn];exact HG.out
      replace HO:Hid (OA u6 (g+1) (.slice o4 n4 c4) (A++[acc])):=by show OA u6 _ _ _;rw [hn];exact HO.out
      replace HW:Hid (w.grownBy u6 none):=by show w.grownBy u6 none;rw [hn];exact gb_drew HW.out _
      clear hn
      go_wp2
      go_roundw
      case rel=>exact ⟨0,j2,d2,0,_,A++[acc],HV.out,HG.out,HO.out,HW.out,HLA.out,Or.inr (Or.inl ⟨rfl,rfl,HNX.out.1,HNX.out.2,HOK2.out⟩)⟩
      case measure =>
       rw [HPL.out]
       have h1:=HJ.out
       simp only [bm]
       omega
    ·have HEz:Hid (¬ E1=0):=hE1
     have HNX:Hid (E0=E1/\J0=d2):=by have h:=HD1.out;rw [if_neg hE1] at h;simp only [Prod.mk.injEq] at h;exact ⟨h.1.symm,by rw [HQ.out.2 hE1];exact h.2.1.symm⟩
     clear hE1
     have CI1:Hid (∀w,GR g b w->VS b s j2 E1 d2 w->Calls Tryz.prog 36 #[.pointer (some ⟨g,0,none⟩),.string ⟨#[124,124]⟩] w fun e w'=>e=.returned (.bool (false))/\∃n,w'=w.drewN n):=fun w h1 h2=>CIL.out j2 E1 d2 w HEz.out h1 h2
     go_wp2_with (first | (go_at_call 36;refine (CI1.out _ HG.out.gr HV.out).mono ?_))
     rintro e u6 ⟨rfl,n,hn⟩
     replace HV:Hid (VS b s j2 E1 d2 u6):=by show VS _ _ _ _ _ u6;rw [hn];exact HV.out.drew _
     replace HG:Hid (GB g b (.slice o4 n4 c4) u6):=by show GB g b _ u6;rw [hn];exact HG.out
     replace HO:Hid (OA u6 (g+1) (.slice o4 n4 c4) (A++[acc])):=by show OA u6 _ _ _;rw [hn];exact HO.out
     replace HW:Hid (w.grownBy u6 none):=by show w.grownBy u6 none;rw [hn];exact gb_drew HW.out _
     clear hn
     go_wp2
     go_roundw
     case rel=>exact ⟨0,j2,d2,E1,_,A++[acc],HV.out,HG.out,HO.out,HW.out,HLA.out,Or.inr (Or.inr ⟨rfl,HEz.out,HNX.out.1,HNX.out.2⟩)⟩
     case measure =>
      rw [HPL.out]
      have h1:=HJ.out
      simp only [bm]
      omega
   ·have HZ:Hid (rdRange l=(0,0,A.map (·.map teOf))):=by show _=_;rw [HRR.out,if_pos he0,hs0]
    have HOK:Hid (∀L ∈ A,L.length<=1000/\∀x ∈ L,TqOk x):=hok
    clear he0 hs0 hok
    have e0:wr.cell? ⟨g,0,none⟩=some (.pointer (some ⟨b,0,none⟩)):=HG.out.gr
    have e1:=HG.out.c1
    have e2:=HV.out.c2
    go_wp2
    refine bodyPost_ret (results_tmp3 (t:=2) (u:=3) (v:=4) rfl _ _ _) rfl ?_
    rw [HZ.out]
    exact ⟨o1,n1,c1,A,rfl,HW.out,fun _=>⟨OA.down HO.out (by have:=HGB.out;omega),rfl,by rw [HN1.out.1];exact HN1.out.2,HOK.out⟩⟩
   ·have HZ:Hid (rdRange l=(E,c,[])):=by show _=_;rw [HRR.out,if_neg (by rw [he0];exact hE),he0,hj0]
    have HEz:Hid (¬ E=0):=hE
    have hne:(E == 0)=false:=by simpa using hE
    clear he0 hj0 hE
    have e0:wr.cell? ⟨g,0,none⟩=some (.pointer (some ⟨b,0,none⟩)):=HG.out.gr
    have e2:=HV.out.c2
    have e3:=HV.out.c3
    go_wp2
    go_quiet (fail)
    go_wp2
    refine bodyPost_ret (results_tmp3 (t:=2) (u:=3) (v:=4) rfl _ _ _) rfl ?_
    rw [HZ.out]
    exact ⟨_,_,_,[],rfl,gb_drew HW.out _,fun h=>absurd h HEz.out⟩
end Go.Proofs.YtonfldbigenfhaaGreatDoor
