import Derived.Test.YtiinliaoojfjaaaGreatDoorF40
import Derived.Test.YtiinliaoojfjaaaGreatDoorF32
set_option linter.all false
set_option maxRecDepth 100000
set_option maxHeartbeats 0
open Go.Proofs.Tryz
namespace Go.Proofs.YtiinliaoojfjaaaGreatDoor
open Go.RowKit
theorem agM:(prog.info? 96).map (fun i=>(i.zero,i.size,i.bytes))=some (some (.slice none 0 0),1,24):=by kernel_rfl
def OA(w:World)(base:Nat)(sv:Value)(A:List (List Tq)):Prop :=
 ∃vals:List Value,w.ownsRow base 96 1 sv A.length vals/\vals.length=A.length/\∀i (hi:i<A.length),∃o n c,vals[i]?=some (.slice o n c)/\OT w base (.slice o n c) A[i]
theorem agN{w w':World}{base:Nat}{e:TypeId}{size n:Nat}{v:Value}{xs:List Value}{b:Nat}(h:w.ownsRow base e size v n xs)(hg:w.grownBy w' (some b))(hb:b<base):w'.ownsRow base e size v n xs:=by
 refine⟨h.1,?_⟩
 rcases h.2 with hn|⟨g,cap,cur,hv,hbg,hc,rest⟩
 ·exact Or.inl hn
 ·refine Or.inr ⟨g,cap,cur,hv,hbg,?_,rest⟩;rw[hg.block g ((aC hc)) (by simp;omega)];exact hc
theorem OA.growb{w w':World}{base:Nat}{sv:Value}{A:List (List Tq)}{b:Nat}(h:OA w base sv A)(hg:w.grownBy w' (some b))(hb:b<base):OA w' base sv A:=by
 obtain⟨vals,h1,h2,h3⟩:=h;refine⟨vals,agN h1 hg hb,h2,fun i hi=>?_⟩;obtain⟨o,n,c,h4,h5⟩:=h3 i hi;exact⟨o,n,c,h4,h5.growb hg hb⟩
theorem OA.grow{w w':World}{base:Nat}{sv:Value}{A:List (List Tq)}(h:OA w base sv A)(hg:w.grownBy w' none):OA w' base sv A:=by
 obtain⟨vals,h1,h2,h3⟩:=h;refine⟨vals,rM h1 hg,h2,fun i hi=>?_⟩;obtain⟨o,n,c,h4,h5⟩:=h3 i hi;exact⟨o,n,c,h4,h5.grow hg⟩
theorem Xh(w:World)(b o:Nat)(v:Value):w.grownBy (w.setCell ⟨b,o,none⟩ v) (some b):=bI (ai w _) o v
theorem agO:(96:Nat)≠107:=by decide
theorem OT.keepA{w w':World}{base:Nat}{sl sv:Value}{L:List Tq}{n:Nat}{xs:List Value}(h:OT w base sl L)(hs:w.ownsRow base 96 1 sv n xs)(hg:w.grownBy w' sv.ownBlock):OT w' base sl L:=by
 refine⟨h.1,?_⟩
 rcases h.2 with hn|⟨g,cap,cur,hv,hbg,hc,rest⟩
 ·exact Or.inl hn
 ·refine Or.inr ⟨g,cap,cur,hv,hbg,?_,rest⟩;rw[hg.block g ((aC hc)) ?_]
  ·exact hc
  ·intro e
   rcases hs.2 with⟨h1,_⟩|⟨g',cap',cur',hv',_,hc',_⟩
   ·rw[h1]at e;cases e
   ·rw[hv']at e;simp only[Value.ownBlock,Option.some.injEq]at e;rw[e,hc']at hc;simp only[Option.some.injEq,Obj.cells.injEq]at hc;exact agO hc.2.1
theorem OA.push{w w':World}{base:Nat}{sv v':Value}{A:List (List Tq)}{o:Option Addr}{n c:Nat}{L:List Tq}{vals:List Value}(h1:w.ownsRow base 96 1 sv A.length vals)(h2:vals.length=A.length)(h3:∀i (hi:i<A.length),∃o n c,vals[i]?=some (.slice o n c)/\OT w base (.slice o n c) A[i])(hL:OT w base (.slice o n c) L)
  (hg:w.grownBy w' sv.ownBlock) (hown:w'.ownsRow base 96 1 v' (A.length+1) (vals++[.slice o n c])):OA w' base v' (A++[L]):=by
 refine⟨vals++[.slice o n c],by rw[List.length_append];exact hown,by simp[h2],fun i hi=>?_⟩;rw[List.length_append]at hi
 by_cases hlt:i<A.length
 ·obtain⟨o',n',c',h4,h5⟩:=h3 i hlt;refine⟨o',n',c',by rw[List.getElem?_append_left (by omega)];exact h4,?_⟩;rw[List.getElem_append_left hlt];exact h5.keepA h1 hg
 ·have e:i=A.length:=by simp at hi;omega
  subst e;refine⟨o,n,c,by rw[<-h2];simp,?_⟩;rw[List.getElem_append_right (Nat.le_refl _)];simpa using hL.keepA h1 hg
theorem OA.far{w:World}{base:Nat}{sv:Value}{n:Nat}{xs:List Value}(h:w.ownsRow base 96 1 sv n xs):∀q,sv.ownBlock=some q->base<=q:=fun q hq=>(h.lt q hq).1
theorem OA.slice{w:World}{base:Nat}{sv:Value}{A:List (List Tq)}(h:OA w base sv A):∃o c,sv=.slice o A.length c:=by
 obtain⟨vals,h1,_⟩:=h
 rcases h1.2 with⟨e1,e2⟩|⟨g,cap,cur,hv,_⟩
 ·exact⟨_,_,by rw[e1,e2]⟩
 ·exact⟨_,_,hv⟩
def GB(g b:Nat)(sv:Value)(w:World):Prop:=w.heap[g]?=some (.cells #[.pointer (some ⟨b,0,none⟩),sv] 95 (0,0))
theorem GB.gr{g b:Nat}{sv:Value}{w:World}(h:GB g b sv w):GR g b w:=by unfold GR;rw[ah h];rfl
theorem GB.c1{g b:Nat}{sv:Value}{w:World}(h:GB g b sv w):w.cell? ⟨g,1,none⟩=some sv:=by rw[ah h];rfl
theorem GB.f{g b:Nat}{sv:Value}{w:World}(h:GB g b sv w)(o:Nat):w.frozen? ⟨g,o,none⟩=false:=Lib.frozen_of_heap h o
theorem GB.growr{g b:Nat}{sv:Value}{w w':World}{row:Option Nat}(h:GB g b sv w)(hg:w.grownBy w' row)(hn:some g≠row):GB g b sv w':=by
 unfold GB at h ⊢;rw[hg.block g ((aC h)) hn];exact h
theorem GB.set{g b:Nat}{sv:Value}{w:World}(h:GB g b sv w)(y:Value):GB g b y (w.setCell ⟨g,1,none⟩ y):=by
 unfold GB at h ⊢;simp[World.setCell,Array.getElem?_modify,h]
theorem OA.down{w:World}{base base':Nat}{sv:Value}{A:List (List Tq)}(h:OA w base sv A)(hb:base'<=base):OA w base' sv A:=by
 obtain⟨vals,h1,h2,h3⟩:=h;refine⟨vals,⟨h1.1,?_⟩,h2,fun i hi=>?_⟩
 ·rcases h1.2 with hn|⟨g,cap,cur,hv,hbg,rest⟩
  ·exact Or.inl hn
  ·exact Or.inr ⟨g,cap,cur,hv,Nat.le_trans hb hbg,rest⟩
 ·obtain⟨o,n,c,h4,h5⟩:=h3 i hi;exact⟨o,n,c,h4,h5.base hb⟩
theorem agP{w wa wb:World}{row:Option Nat}(h:w.grownBy wa none)(hg:wa.grownBy wb row)(hr:∀q,row=some q->w.heap.size<=q):w.grownBy wb none :=
 ⟨hg.os.trans h.os,hg.tape.trans h.tape,hg.output.trans h.output,Nat.le_trans h.size hg.size,fun k hk hn=>(hg.block k (Nat.lt_of_lt_of_le hk h.size) (fun e=>by have:=hr k e.symm;omega)).trans (h.block k hk hn)⟩
theorem agQ{w:World}{base:Nat}{e:TypeId}{size n:Nat}{v:Value}{xs:List Value}(h:w.ownsRow base e size v n xs):∃o n c,v=.slice o n c:=by
 rcases h.2 with⟨h1,_⟩|⟨g,cap,cur,hv,_⟩
 ·exact⟨_,_,_,h1⟩
 ·exact⟨_,_,_,hv⟩
theorem Jb{w u u':World}{b:Nat}(h:w.grownBy u none)(hg:u.grownBy u' (some b))(hb:w.heap.size<=b):w.grownBy u' none :=
 ⟨hg.os.trans h.os,hg.tape.trans h.tape,hg.output.trans h.output,Nat.le_trans h.size hg.size,fun k hk hn=>(hg.block k (Nat.lt_of_lt_of_le hk h.size) (by simp;omega)).trans (h.block k hk hn)⟩
def bm:Value->Nat
 | .bool true=>1
 | _=>0
def agR(R:Int × Nat × List (List Te))(w:World)(e:Ending)(w':World):Prop :=
 ∃(o:Option Addr) (n c:Nat) (A:List (List Tq)),e=.returned (.tuple #[.slice o n c,.int .i64 R.1,.int .i64 (R.2.1:Int)])/\w.grownBy w' none/\(R.1=0->OA w' w.heap.size (.slice o n c) A/\A.map (·.map cO)=R.2.2/\A.length<=201/\∀L∈A,L.length<=1000/\∀x∈L,jL x)
theorem Xi(l:List UInt8):∀(f i:Nat) (acc:List Te),(fC l f i acc).1=0->(fC l f i acc).2.2.length<=acc.length+f+2
 | 0,i,acc,_=>by unfold fC;simp only[];omega
 | f+1,i,acc,h=>by
  rw[fC]at h ⊢;split
  ·simp only[];omega
  ·rename_i h0;rw[if_neg h0]at h;split
   ·rename_i h1;rw[if_pos h1]at h;split
    ·rename_i h2;rw[if_pos h2]at h;split
     ·simp only[];omega
     ·split
      ·split
       ·simp
       ·simp only[];omega
      ·simp only[];omega
    ·rename_i h2;rw[if_neg h2]at h;split
     ·simp only[];omega
     ·rename_i h3;rw[if_neg h3]at h;have:=Xi l f _ _ h;simp at this;omega
   ·simp only[];omega
theorem Ou(s:ByteArray)(w:World)(hs:s.size<2 ^ 60):Calls prog 22 #[.string s] w (agR (fJ s.data.toList) w):=by
 by_cases h200:200<s.size
 ·have hR:fJ s.data.toList=(1,0,[]):=by unfold fJ;rw[if_pos (by simpa using h200)]
  rw[hR];clear hR;go_enter func22,ntmps22;go_wp2;exact bodyPost_ret (results_tmp3 (t:=2) (u:=3) (v:=4) rfl _ _ _) rfl ⟨_,_,_,[],rfl,ai _ _,fun h=>absurd h (by simp)⟩
 ·obtain⟨l,hl⟩:=zN (s.data.toList);have hll:l.length=s.size:=by rw[<-hl];simp
  have bM:Hd (l.length=s.size/\s.size<=200):=⟨hll,by omega⟩;rw[hl];obtain⟨E0,J0,S0,hP⟩:∃E0 J0 S0,sJ l (l.length+1) 0 []=(E0,J0,S0):=⟨_,_,_,rfl⟩;have HRR:Hd (fJ l=if E0=0 then(0,0,S0) else(E0,J0,[])):=by
   show fJ l=_;unfold fJ;rw[if_neg (by omega),hP]
  have HR0:=ae hP;obtain⟨b,hb⟩:=zN (w.heap.size);obtain⟨g,hgg⟩:=zN (b+1);have hgb:g≠b:=by omega
  have CB:Hd (∀i a w,i<=s.size->GR g b w->VS b s i 0 a w->Calls prog 42 #[.pointer (some ⟨g,0,none⟩)] w fun e w'=>e=.returned (.bool (decide (i<aj l i)))/\VS b s (aj l i) 0 a w'/\w.grownBy w' (some b)):=fun i a w hi h1 h2=>by rw[<-hl];exact V5 g b s i a w hi hgb h1 h2 (by omega)
  have CS:Hd (∀i a w,i<=s.size->GR g b w->VS b s i 0 a w->Calls prog 43 #[.pointer (some ⟨g,0,none⟩)] w (Om b s (fC l (l.length+1) i []) w)):=fun i a w hi h1 h2=>by rw[<-hl];exact agL g b s i a w hi hgb h1 h2 (by omega)
  have CI:Hd (∀i a w,i<=s.size->GR g b w->VS b s i 0 a w->Calls prog 44 #[.pointer (some ⟨g,0,none⟩),.string ⟨#[124,124]⟩] w fun e w'=>e=.returned (.bool (kF l i))/\∃n,w'=w.drewN n):=fun i a w hi h1 h2=>by rw[<-hl];exact V4 g b s i a w hi h1 h2 (by omega)
  have I8:Hd (∀(i:Nat) (E:Int) (a:Nat) w,¬E=0->GR g b w->VS b s i E a w->Calls prog 44 #[.pointer (some ⟨g,0,none⟩),.string ⟨#[124,124]⟩] w fun e w'=>e=.returned (.bool (false))/\∃n,w'=w.drewN n):=fun i E a w hE h1 h2=>Fv g b s _ i E a w hE h1 h2
  have jy:Hd (∀i,i<=s.size->i<=aj l i/\aj l i<=s.size):=fun i hi=>⟨sG l i,by have:=qV l i (by rw[hll];exact hi);rw[hll]at this;exact this⟩
  have HOP:Hd (∀i,i<=s.size->(kV l i).1=0->i<=(kV l i).2.1/\(kV l i).2.1<=s.size):=fun i hi h0=>by
   obtain⟨e1,e2,_⟩:=UX l i (by rw[hll];exact hi);have:=UY l i (by rw[hll];exact hi) (e1.trans h0);rw[e2,hll]at this;exact this
  have aZ:Hd (g≠b/\b<g/\w.heap.size=b/\b+1=g):=⟨hgb,by omega,hb,hgg⟩;clear hl hll hP hs hgb;go_enter func22,ntmps22;go_wp2;clear h200;obtain⟨W,hW⟩:=zN ((w.alloc (.cells #[.string s,.int .i64 0,.int .i64 0,.int .i64 0] 93)).alloc (.cells #[.pointer (some ⟨b,0,none⟩),.slice none 0 0] 95));have hgW:w.grownBy W none:=by rw[<-hW];exact ak (ak (ai w none) _) _
  have HV:Hd (VS b s 0 0 0 W):=by
   show W.heap[b]?=_;rw[<-hW,<-hb,Lib.alloc_old _ _ _ (by simp)];exact heap_alloc_new w _
  have HG:Hd (GB g b (.slice none 0 0) W):=by
   show W.heap[g]?=_;rw[<-hW,<-hgg,<-hb];exact nT w _ _
  have HW:=ae hgW
  try rw[hW]
  clear hgW hW hb hgg;go_loopw [6] (fun vm wr=>∃(f j c:Nat) (E:Int) (sv:Value) (A:List (List Tq)),VS b s j E c wr/\GB g b sv wr/\OA wr (g+1) sv A/\w.grownBy wr none/\A.length<=201 ∧
   ((vm=.bool true/\E=0/\j<=s.size/\A.length<=j/\l.length<f+j/\sJ l f j (A.map (·.map cO))=(E0,J0,S0)/\∀L∈A,L.length<=1000/\∀x∈L,jL x)\/(vm=.bool false/\E=0/\E0=0/\S0=A.map (·.map cO)/\∀L∈A,L.length<=1000/\∀x∈L,jL x)\/(vm=.bool false/\¬E=0/\E0=E/\J0=c))) (fun vm wr=>bm vm*(s.size+3-placeOf b wr))
  case atStart=>exact⟨l.length+1,0,0,0,_,[],HV.o,HG.o,⟨[],World.ownsRow_nil _ _ _ _,rfl,fun i hi=>absurd hi (Nat.not_lt_zero _)⟩,HW.o,Nat.zero_le _,Or.inl ⟨rfl,rfl,Nat.zero_le _,Nat.zero_le _,by omega,HR0.o,fun L hL=>by cases hL⟩⟩
  case round =>
   obtain⟨f,j,c,E,sv,A,hv,hgr,hoa,hgw,hal,hcase⟩:=hrel;clear HV HG HW HR0;obtain⟨o1,c1,rfl⟩:=hoa.slice;obtain⟨n1,hn1⟩:=zN (A.length);rw[hn1]at hgr hoa;have HV:=ae hv;have HG:=ae hgr;have HO:=ae hoa;have HW:=ae hgw;have dw:Hd (A.length=n1/\n1<=201):=⟨hn1,by omega⟩;clear hv hgr hoa hgw hal hn1
   rcases hcase with⟨rfl,rfl,hj,haj,hf,hds,hok⟩|⟨rfl,rfl,he0,hs0,hok⟩|⟨rfl,hE,he0,hj0⟩
   ·have HJ:Hd (j<=s.size/\n1<=j/\l.length<f+j):=⟨hj,by have:=dw.o.1;omega,hf⟩;have wO:=ae hds;have gJ:=ae hok;have iT:=ae HV.o.place;clear hj haj hf hds hok;obtain⟨f,rfl⟩:∃f',f=f'+1:=by
     cases f with
     | zero=>have:=bM.o.1;have:=HJ.o;omega
     | succ f=>exact⟨f,rfl⟩
    have l7:=ae (fun w (h1:GR g b w) (h2:VS b s j 0 c w)=>CB.o j c w HJ.o.1 h1 h2);have zS:Hd (∀w,GR g b w->VS b s (aj l j) 0 c w->Calls prog 43 #[.pointer (some ⟨g,0,none⟩)] w (Om b s (kV l j) w)):=fun w h1 h2=>CS.o (aj l j) c w (jy.o j HJ.o.1).2 h1 h2
    have Ov:=ae (HOP.o j HJ.o.1);have bW:Hd ((kV l j).1=0->(kV l j).2.2.length<=1000):=fun h=>by have h1:=Xi l (l.length+1) (aj l j) [] h;have h2:=bM.o;simp only[List.length_nil]at h1;unfold kV;omega
    have hds:=wO.o;rw[sJ]at hds;obtain⟨E1,J1,ts,hR⟩:∃E1 J1 ts,kV l j=(E1,J1,ts):=⟨_,_,_,rfl⟩;rw[hR]at hds zS Ov bW;simp only[]at hds Ov bW;have HD1:=ae hds;clear hds hR wO;obtain⟨K,hK⟩:=zN (aj l j);rw[hK]at l7 zS;obtain⟨ap,hap⟩:=zN (decide (j<K));rw[hap]at l7;clear hK hap;go_wp2_with (first|(go_at_call 42;refine(l7.o _ HG.o.gr HV.o).mono ?_));rintro e u1 ⟨rfl,hv,hg⟩;replace HV:=ae hv;replace HG:=ae (HG.o.growr hg (by have:=aZ.o.1;simpa using this));replace HO:=ae (HO.o.growb hg (by have:=aZ.o.2.1;omega));replace HW:=ae (Jb HW.o hg (by have:=aZ.o.2.2.1;omega));clear hv hg;have uh:Hd (g+1<=u1.heap.size):=(aC HG.o);go_wp2_with (go_at_call 43;refine(zS.o _ HG.o.gr HV.o).mono ?_);rintro e u2 ⟨o2,n2,c2,acc,j2,d2,rfl,hv,hot,hg,hok,herr⟩;have HT:=ae (hot.base uh.o)
    have HQ:Hd ((E1=0->acc.map cO=ts/\j2=J1/\∀x∈acc,jL x)/\(¬E1=0->d2=J1)):=⟨hok,herr⟩;clear hot hok herr;replace HV:Hd (VS b s j2 E1 d2 u2):=hv;replace HG:=ae (HG.o.growr hg (by have:=aZ.o.1;simpa using this));replace HO:=ae (HO.o.growb hg (by have:=aZ.o.2.1;omega));replace HW:=ae (Jb HW.o hg (by have:=aZ.o.2.2.1;omega));clear hv hg;obtain⟨vals,hva,hvl,wJ⟩:=HO.o;have lU:=ae hva;have Dw:Hd (vals.length=A.length/\∀i (hi:i<A.length),∃o n c,vals[i]?=some (.slice o n c)/\OT u2 (g+1) (.slice o n c) A[i]):=⟨hvl,wJ⟩;clear hva hvl wJ;have hinfo:=agM;obtain⟨i1,hj0,hjj⟩:=Option.map_eq_some_iff.1 hinfo;have hy0:i1.zero=some (.slice none 0 0):=congrArg (·.1) hjj;have hy1:i1.size=1:=congrArg (·.2.1) hjj;have hyb:i1.bytes=24:=congrArg (·.2.2) hjj;clear hjj hinfo;have g0:u2.cell? ⟨g,0,none⟩=some (.pointer (some ⟨b,0,none⟩)):=HG.o.gr;have g1:=HG.o.c1
    obtain⟨W3,hW3⟩:=zN (u2.alloc (.cells #[.slice o2 n2 c2] 96));have hga:u2.grownBy W3 none:=by rw[<-hW3];exact ak (ai _ none) _
    have HR3:Hd (W3.heap[u2.heap.size]?=some (.cells #[.slice o2 n2 c2] 96 (0,0))):=by show _=_;rw[<-hW3];exact heap_alloc_new u2 _
    have ny:=ae hga;clear hga;go_wp2_with (first|(at_builtin;refine wpList_append_own _ rfl _ _ 57 rfl (g+1) 96 i1 _ 1 24 underlying57 hj0 hy0 hy1 hyb rfl (by decide) _ _ _ rfl (rM lU.o ny.o) _ 1 1 [.slice o2 n2 c2] rfl rfl (World.news_of_block HR3.o) (by intro u hu;simp only[List.mem_cons,List.not_mem_nil,or_false]at hu;subst hu;rfl) (by unfold maxLen;have:=dw.o;omega) (by have:=dw.o;omega) (by have h1:=ny.o.size;have h2:=(aC HG.o);omega) ?_;intro v' u4 hown hgrow _;obtain⟨o4,n4,c4,rfl⟩:=agQ hown;have hG4:=(HG.o.growr ny.o (by simp)).growr hgrow (fun e=>by have:=lU.o.lt g e.symm;omega);clear g0 g1;have g0:u4.cell? ⟨g,0,none⟩=some (.pointer (some ⟨b,0,none⟩)):=hG4.gr;have g1:=hG4.c1;have gf:=hG4.f));have Xj:=ae (OA.push (w:=W3) (rM lU.o ny.o) Dw.o.1 (fun i hi=>by obtain⟨o,n,c,h1,h2⟩:=Dw.o.2 i hi;exact⟨o,n,c,h1,h2.grow ny.o⟩) (HT.o.grow ny.o) hgrow hown)
    have jS:=ae (fun q (hq:(Value.slice o1 n1 c1).ownBlock=some q)=>(lU.o.lt q hq).1);obtain⟨u5,Jc⟩:=zN (u4.setCell ⟨g,1,none⟩ (.slice o4 n4 c4));have hg5:u4.grownBy u5 (some g):=by rw[<-Jc];exact Xh u4 g 1 _
    replace HV:=ae (((HV.o.grow ny.o (by simp)).grow hgrow (fun e=>by have:=jS.o b e.symm;have:=aZ.o.2.1;omega)).grow hg5 (by have:=aZ.o.1;simpa using Ne.symm this));replace HG:Hd (GB g b (.slice o4 n4 c4) u5):=by show GB g b _ u5;rw[<-Jc];exact hG4.set _
    replace HO:=ae (Xj.o.growb hg5 (by omega));replace HW:=ae (Jb (agP (ag HW.o ny.o) hgrow (fun q hq=>by have:=jS.o q hq;have:=aZ.o;omega)) hg5 (by have:=aZ.o;omega))
    try rw[Jc]
    clear hown hgrow hG4 g0 g1 gf hg5 Jc hW3 hj0 hy0 hy1 hyb lU Dw Xj jS HR3 ny HT;have Ox:Hd ((A++[acc]).length<=201):=by show _<=_;rw[List.length_append,dw.o.1];have h1:=HJ.o;have h2:=bM.o.2;simp;omega
    by_cases hE1:E1=0
    ·subst hE1;obtain⟨q1,q2,q3⟩:=HQ.o.1 rfl;obtain⟨p1,p2⟩:=Ov.o rfl;have Xk:Hd (∀L∈A++[acc],L.length<=1000/\∀x∈L,jL x):=by
      intro L hL
      rcases List.mem_append.1 hL with h|h
      ·exact gJ.o L h
      ·rw[List.mem_singleton.1 h];exact⟨by have h1:=bW.o rfl;rw[<-q1,List.length_map]at h1;exact h1,q3⟩
     have Jd:Hd ((A++[acc]).map (·.map cO)=A.map (·.map cO)++[ts]):=by show _=_;rw[List.map_append,<-q1];rfl
     have HP:Hd (j<=J1/\J1<=s.size):=⟨p1,p2⟩;subst q2;clear q1 q3 p1 p2
     cases hba:kF l j2 with
     | true =>
      have wQ:Hd (∀w,GR g b w->VS b s j2 0 d2 w->Calls prog 44 #[.pointer (some ⟨g,0,none⟩),.string ⟨#[124,124]⟩] w fun e w'=>e=.returned (.bool (true))/\∃n,w'=w.drewN n):=fun w h1 h2=>by have:=CI.o j2 d2 w HP.o.2 h1 h2;rw[hba]at this;exact this
      have bC:Hd (sJ l f (j2+2) ((A++[acc]).map (·.map cO))=(E0,J0,S0)):=by show _=_;have h:=HD1.o;rw[if_pos rfl,if_pos hba]at h;rw[Jd.o];exact h
      have HB2:Hd (j2+2<=s.size):=by have:=IB l j2 hba;rw[bM.o.1]at this;exact this
      clear hba;go_wp2_with (go_at_call 44;refine(wQ.o _ HG.o.gr HV.o).mono ?_);rintro e u6 rfl n hn;replace HV:Hd (VS b s j2 0 d2 u6):=by show VS _ _ _ _ _ u6;rw[hn];exact HV.o.drew _
      replace HG:Hd (GB g b (.slice o4 n4 c4) u6):=by show GB g b _ u6;rw[hn];exact HG.o
      replace HO:Hd (OA u6 (g+1) (.slice o4 n4 c4) (A++[acc])):=by show OA u6 _ _ _;rw[hn];exact HO.o
      replace HW:Hd (w.grownBy u6 none):=by show w.grownBy u6 none;rw[hn];exact aH HW.o _
      clear hn;have e0:u6.cell? ⟨g,0,none⟩=some (.pointer (some ⟨b,0,none⟩)):=HG.o.gr;have e1:=HV.o.c1;have ef:=HV.o.f1;have hwr:IntKind.i64.wrap ((j2:Int)+2)=(j2:Int)+2:=by rw[IntKind.wrap_i64];have:=HB2.o;have:=bM.o.2;omega
      go_wp2_with (fail)
      go_region
      obtain⟨u7,Je⟩:=zN ((u6.setCell ⟨b,1,none⟩ (.int .i64 ((j2:Int)+2))).drew);have iw:u6.grownBy u7 (some b):=by rw[<-Je];exact Kw (Xh u6 b 1 _)
      replace HV:Hd (VS b s (j2+2) 0 d2 u7):=by show VS b s (j2+2) 0 d2 u7;rw[<-Je,show((j2:Int)+2)=((j2+2:Nat):Int) by omega];exact HV.o.set1 _
      replace HG:=ae (HG.o.growr iw (by have:=aZ.o.1;simpa using this));replace HO:=ae (HO.o.growb iw (by have:=aZ.o;omega));replace HW:=ae (Jb HW.o iw (by have:=aZ.o;omega))
      try rw[Je]
      clear iw Je e0 e1 ef hwr;go_wp2;go_roundw
      case rel=>exact⟨f,j2+2,d2,0,_,A++[acc],HV.o,HG.o,HO.o,HW.o,Ox.o,Or.inl ⟨rfl,rfl,HB2.o,by rw[List.length_append,dw.o.1];have h1:=HJ.o;have h2:=HP.o;simp;omega,by have h1:=HJ.o;have h2:=HP.o;omega,bC.o,Xk.o⟩⟩
      case measure =>
       rw[iT.o,HV.o.place];have h1:=HJ.o;have h2:=HP.o;simp only[bm];omega
     | false =>
      have wQ:Hd (∀w,GR g b w->VS b s j2 0 d2 w->Calls prog 44 #[.pointer (some ⟨g,0,none⟩),.string ⟨#[124,124]⟩] w fun e w'=>e=.returned (.bool (false))/\∃n,w'=w.drewN n):=fun w h1 h2=>by have:=CI.o j2 d2 w HP.o.2 h1 h2;rw[hba]at this;exact this
      have bC:Hd (E0=0/\S0=(A++[acc]).map (·.map cO)):=by have h:=HD1.o;rw[if_pos rfl,if_neg (by rw[hba];decide)]at h;rw[Jd.o];simp only[Prod.mk.injEq]at h;exact⟨h.1.symm,h.2.2.symm⟩
      clear hba;go_wp2_with (go_at_call 44;refine(wQ.o _ HG.o.gr HV.o).mono ?_);rintro e u6 rfl n hn;replace HV:Hd (VS b s j2 0 d2 u6):=by show VS _ _ _ _ _ u6;rw[hn];exact HV.o.drew _
      replace HG:Hd (GB g b (.slice o4 n4 c4) u6):=by show GB g b _ u6;rw[hn];exact HG.o
      replace HO:Hd (OA u6 (g+1) (.slice o4 n4 c4) (A++[acc])):=by show OA u6 _ _ _;rw[hn];exact HO.o
      replace HW:Hd (w.grownBy u6 none):=by show w.grownBy u6 none;rw[hn];exact aH HW.o _
      clear hn;go_wp2;go_roundw
      case rel=>exact⟨0,j2,d2,0,_,A++[acc],HV.o,HG.o,HO.o,HW.o,Ox.o,Or.inr (Or.inl ⟨rfl,rfl,bC.o.1,bC.o.2,Xk.o⟩)⟩
      case measure =>
       rw[iT.o];have h1:=HJ.o;simp only[bm];omega
    ·have fM:=ae hE1;have bC:Hd (E0=E1/\J0=d2):=by have h:=HD1.o;rw[if_neg hE1]at h;simp only[Prod.mk.injEq]at h;exact⟨h.1.symm,by rw[HQ.o.2 hE1];exact h.2.1.symm⟩
     clear hE1;have wQ:=ae (fun w (h1:GR g b w) (h2:VS b s j2 E1 d2 w)=>I8.o j2 E1 d2 w fM.o h1 h2);go_wp2_with (go_at_call 44;refine(wQ.o _ HG.o.gr HV.o).mono ?_);rintro e u6 ⟨rfl,n,hn⟩;replace HV:Hd (VS b s j2 E1 d2 u6):=by show VS _ _ _ _ _ u6;rw[hn];exact HV.o.drew _
     replace HG:Hd (GB g b (.slice o4 n4 c4) u6):=by show GB g b _ u6;rw[hn];exact HG.o
     replace HO:Hd (OA u6 (g+1) (.slice o4 n4 c4) (A++[acc])):=by show OA u6 _ _ _;rw[hn];exact HO.o
     replace HW:Hd (w.grownBy u6 none):=by show w.grownBy u6 none;rw[hn];exact aH HW.o _
     clear hn;go_wp2;go_roundw
     case rel=>exact⟨0,j2,d2,E1,_,A++[acc],HV.o,HG.o,HO.o,HW.o,Ox.o,Or.inr (Or.inr ⟨rfl,fM.o,bC.o.1,bC.o.2⟩)⟩
     case measure =>
      rw[iT.o];have h1:=HJ.o;simp only[bm];omega
   ·have HZ:Hd (fJ l=(0,0,A.map (·.map cO))):=by show _=_;rw[HRR.o,if_pos he0,hs0]
    have gJ:=ae hok;clear he0 hs0 hok;have e0:wr.cell? ⟨g,0,none⟩=some (.pointer (some ⟨b,0,none⟩)):=HG.o.gr;have e1:=HG.o.c1;have e2:=HV.o.c2;go_wp2;refine bodyPost_ret (results_tmp3 (t:=2) (u:=3) (v:=4) rfl _ _ _) rfl ?_;rw[HZ.o];exact⟨o1,n1,c1,A,rfl,HW.o,fun _=>⟨OA.down HO.o (by have:=aZ.o;omega),rfl,by rw[dw.o.1];exact dw.o.2,gJ.o⟩⟩
   ·have HZ:Hd (fJ l=(E,c,[])):=by show _=_;rw[HRR.o,if_neg (by rw[he0];exact hE),he0,hj0]
    have fM:=ae hE;have hne:(E == 0)=false:=by simpa using hE
    clear he0 hj0 hE;have e0:wr.cell? ⟨g,0,none⟩=some (.pointer (some ⟨b,0,none⟩)):=HG.o.gr;have e2:=HV.o.c2;have e3:=HV.o.c3;go_wp2;go_quiet (fail);go_wp2;refine bodyPost_ret (results_tmp3 (t:=2) (u:=3) (v:=4) rfl _ _ _) rfl ?_;rw[HZ.o];exact⟨_,_,_,[],rfl,aH HW.o _,fun h=>absurd h fM.o⟩
open Go.RowKit
theorem agS{p0 p1 p2 p3 p4 p5 p6 p7 p8 p9 p10 p11 p12:Addr}{c0 c1 c2 c3 c4 c5 c6 c7 c8 c9 c10 c11 c12:Value}{w w':World}(hg:w.grownBy w' none)(h:w.cell? p0=some c0/\w.cell? p1=some c1/\w.cell? p2=some c2/\w.cell? p3=some c3/\w.cell? p4=some c4/\w.cell? p5=some c5/\w.cell? p6=some c6/\w.cell? p7=some c7/\w.cell? p8=some c8/\w.cell? p9=some c9/\w.cell? p10=some c10/\w.cell? p11=some c11/\w.cell? p12=some c12):w'.cell? p0=some c0/\w'.cell? p1=some c1/\w'.cell? p2=some c2/\w'.cell? p3=some c3/\w'.cell? p4=some c4/\w'.cell? p5=some c5/\w'.cell? p6=some c6/\w'.cell? p7=some c7/\w'.cell? p8=some c8/\w'.cell? p9=some c9/\w'.cell? p10=some c10/\w'.cell? p11=some c11/\w'.cell? p12=some c12:=by
 obtain⟨h0,h1,h2,h3,h4,h5,h6,h7,h8,h9,h10,h11,h12⟩:=h;exact⟨hg.cell h0 (by simp),hg.cell h1 (by simp),hg.cell h2 (by simp),hg.cell h3 (by simp),hg.cell h4 (by simp),hg.cell h5 (by simp),hg.cell h6 (by simp),hg.cell h7 (by simp),hg.cell h8 (by simp),hg.cell h9 (by simp),hg.cell h10 (by simp),hg.cell h11 (by simp),hg.cell h12 (by simp)⟩
def TqAt(w:World)(p:Addr)(x:Tq):Prop:=w.cell? p=some (.int .i64 x.sg)/\w.cell? ⟨p.block,p.off+1,none⟩=some (.int .i64 x.m)/\w.cell? ⟨p.block,p.off+2,none⟩=some (.int .i64 x.a)/\w.cell? ⟨p.block,p.off+3,none⟩=some (.int .i64 x.b)/\w.cell? ⟨p.block,p.off+4,none⟩=some (.int .i64 x.c)/\w.cell? ⟨p.block,p.off+5,none⟩=some (.string x.p)/\w.cell? ⟨p.block,p.off+6,none⟩=some (.string x.q)
theorem TqAt.grow{w w':World}{p:Addr}{x:Tq}(h:TqAt w p x)(hg:w.grownBy w' none):TqAt w' p x:=by
 obtain⟨h0,h1,h2,h3,h4,h5,h6⟩:=h;exact⟨hg.cell h0 (by simp),hg.cell h1 (by simp),hg.cell h2 (by simp),hg.cell h3 (by simp),hg.cell h4 (by simp),hg.cell h5 (by simp),hg.cell h6 (by simp)⟩
theorem agT{w:World}{a:Addr}{n:Nat}{s:Tq}(h:∀k v,(jh s)[k]?=some v->w.cell? (a.add (n+k))=some v):TqAt w (a.add n) s :=
 ⟨by have:=h 0 _ rfl;simpa using this,by have:=h 1 _ rfl;rw[jk a n 1 (by omega)]at this;exact this,by have:=h 2 _ rfl;rw[jk a n 2 (by omega)]at this;exact this,by have:=h 3 _ rfl;rw[jk a n 3 (by omega)]at this;exact this,by have:=h 4 _ rfl;rw[jk a n 4 (by omega)]at this;exact this,by have:=h 5 _ rfl;rw[jk a n 5 (by omega)]at this;exact this,by have:=h 6 _ rfl;rw[jk a n 6 (by omega)]at this;exact this⟩
def TsAt(w:World)(sl:Value)(L:List Tq):Prop:=(sl=.slice none 0 0/\L=[])\/∃a cap,sl=.slice (some a) L.length cap/\L.length<=cap/\∀k (hk:k<L.length),TqAt w (a.add (k*7)) L[k]
theorem TsAt.grow{w w':World}{sl:Value}{L:List Tq}(h:TsAt w sl L)(hg:w.grownBy w' none):TsAt w' sl L:=by
 rcases h with h|⟨a,cap,h1,h2,h3⟩
 ·exact Or.inl h
 ·exact Or.inr ⟨a,cap,h1,h2,fun k hk=>(h3 k hk).grow hg⟩
def SsAt(w:World)(sv:Value)(A:List (List Tq)):Prop:=(sv=.slice none 0 0/\A=[])\/∃a cap,sv=.slice (some a) A.length cap/\A.length<=cap/\∀i (hi:i<A.length),∃sl,w.cell? (a.add i)=some sl/\TsAt w sl A[i]
theorem SsAt.grow{w w':World}{sv:Value}{A:List (List Tq)}(h:SsAt w sv A)(hg:w.grownBy w' none):SsAt w' sv A:=by
 rcases h with h|⟨a,cap,h1,h2,h3⟩
 ·exact Or.inl h
 ·exact Or.inr ⟨a,cap,h1,h2,fun k hk=>by obtain⟨sl,h4,h5⟩:=h3 k hk;exact⟨sl,hg.cell h4 (by simp),h5.grow hg⟩⟩
theorem agU(l:List Tq):∀(i:Nat) (hi:i<l.length) (k:Nat) (u:Value),(jh l[i])[k]?=some u->(l.flatMap jh)[i*7+k]?=some u:=by
 induction l with
 | nil=>intro i hi;simp at hi
 | cons t l ih =>
  intro i hi k u h;rw[List.flatMap_cons];have hl:(jh t).length=7:=rfl
  cases i with
  | zero =>
   simp only[List.getElem_cons_zero]at h;have hk:=(List.getElem?_eq_some_iff.1 h).1;rw[Nat.zero_mul,Nat.zero_add,List.getElem?_append_left hk];exact h
  | succ i =>
   simp only[List.getElem_cons_succ]at h;rw[List.getElem?_append_right (by rw[hl];omega),hl,show(i+1)*7+k-7=i*7+k by omega];exact ih i (by simpa using hi) k u h
theorem agV{w:World}{base:Nat}{sl:Value}{L:List Tq}(h:OT w base sl L):TsAt w sl L:=by
 rcases h.2 with⟨h1,h2⟩|⟨g,cap,cur,hv,hb,hc,h3,h4,h5,h6⟩
 ·exact Or.inl ⟨h1,List.length_eq_zero_iff.1 h2⟩
 ·refine Or.inr ⟨⟨g,0,none⟩,cap,hv,h3,fun k hk=>agT fun q v hq=>?_⟩;have h':=h;unfold OT at h';rw[hv]at h';exact Oa h' (k*7+q) v (agU L k hk q v hq)
theorem Xl{w:World}{base:Nat}{sv:Value}{A:List (List Tq)}(h:OA w base sv A):SsAt w sv A:=by
 obtain⟨vals,h1,h2,h3⟩:=h
 rcases h1.2 with⟨e1,e2⟩|⟨g,cap,cur,hv,hb,hc,e3,e4,e5,e6⟩
 ·exact Or.inl ⟨e1,List.length_eq_zero_iff.1 e2⟩
 ·refine Or.inr ⟨⟨g,0,none⟩,cap,hv,e3,fun i hi=>?_⟩;obtain⟨o,n,c,h4,h5⟩:=h3 i hi;rw[hv]at h1;exact⟨_,Oa h1 i _ h4,agV h5⟩
theorem agW(x:Tq)(hx:jL x)(v1 v2 v3:Int)(v4 v5:ByteArray)(w:World)(hv:v4.size<=1048576) :
  Calls prog 49 #[.agg #[.int .i64 x.sg,.int .i64 x.m,.int .i64 x.a,.int .i64 x.b,.int .i64 x.c,.string x.p,.string x.q],.agg #[.int .i64 v1,.int .i64 v2,.int .i64 v3,.string v4,.string v5]] w fun e w'=>e=.returned (.bool (jb (cO x) ⟨v1,v2,v3,v4.data.toList⟩))/\w.grownBy w' none:=by
 obtain⟨sg,m,a,b,c,p,q⟩:=x;have h1:=hx.s0;have h2:=hx.m0;have h3:=hx.sm;simp only at h1 h2 h3;have hm:m=0\/m=1\/m=2\/m=3:=by omega
 rcases hm with rfl|rfl|rfl|rfl
 ·exact afn sg h1 a b c v1 v2 v3 p q v4 v5 w (by omega) hv
 ·exact afo sg h1 a b c v1 v2 v3 p q v4 v5 w (by omega) hv
 ·exact afp sg h1 a b c v1 v2 v3 p q v4 v5 w (by omega) hv
 ·exact afq sg h1 a b c v1 v2 v3 p q v4 v5 w (by omega) hv
def wR(A:List (List Tq))(v:V):Bool:=A.any fun L=>L.all fun x=>jb (cO x) v
theorem Xm(A:List (List Tq))(v:V):wR A v=jr (A.map (·.map cO)) v:=by
 unfold wR jr lW;rw[List.any_map];congr 1;funext L;simp[List.all_map,Function.comp_def]
theorem Xn(sv:Value)(A:List (List Tq))(v1 v2 v3:Int)(v4 v5:ByteArray)(w:World)(h:SsAt w sv A)(hA:A.length<=201)(hok:∀L∈A,L.length<=1000/\∀x∈L,jL x)(hv:v4.size<=1048576) :
  Calls prog 24 #[sv,.agg #[.int .i64 v1,.int .i64 v2,.int .i64 v3,.string v4,.string v5]] w fun e w'=>e=.returned (.bool (wR A ⟨v1,v2,v3,v4.data.toList⟩))/\w.grownBy w' none:=by
 have CA:=ae (fun x w (hx:jL x)=>agW x hx v1 v2 v3 v4 v5 w hv);obtain⟨v,hvv⟩:∃v:V,v=⟨v1,v2,v3,v4.data.toList⟩:=⟨_,rfl⟩;rw[<-hvv]at CA ⊢;obtain⟨R,hR⟩:=zN (wR A v);have HR:=ae hR;rw[hR];have gJ:=ae hok;clear hR hvv hv hok
 rcases h with⟨rfl,rfl⟩|⟨a,cap,rfl,hcap,hcells⟩
 ·have lM:Hd (R=false):=HR.o.symm;go_enter func24,ntmps24;go_wp2;go_loopw [5] (fun vi wr=>vi=.int .i64 0/\w.grownBy wr none) (fun vi _=>0)
  case atStart=>exact⟨rfl,ak (ai _ _) _⟩
  case round =>
   obtain⟨rfl,hg⟩:=hrel;have HG:=ae hg;clear hg;go_wp2;go_ret;exact⟨bi lM.o.symm,HG.o⟩
 ·obtain⟨N,hN⟩:=zN (A.length);have HN:=ae hN;have HC:=ae hcells;rw[hN]at hcap hA ⊢;clear hcells hN;go_enter func24,ntmps24;go_wp2;obtain⟨V0,hV0⟩:=zN (w.heap.size);obtain⟨W,hW⟩:=zN (w.alloc (.cells #[.int .i64 v1,.int .i64 v2,.int .i64 v3,.string v4,.string v5] 61));have mQ:Hd (w.grownBy W none):=by show w.grownBy W none;rw[<-hW];exact ak (ai w none) _
  have STv:Hd (St V0 v1 v2 v3 v4 v5 W):=by show St _ _ _ _ _ _ W;rw[<-hW,<-hV0];exact yN (t:=61) (heap_alloc_new w _)
  try rw[hW]
  try rw[hV0]
  clear hW hV0;go_loopw [5] (fun vi wr=>∃i:Nat,vi=.int .i64 i/\i<=N/\(∀j (hj:j<A.length),j<i->(A[j].all fun x=>jb (cO x) v)=false)/\W.grownBy wr none) (fun vi _=>N-(intOf vi).toNat)
  case atStart=>exact⟨0,rfl,Nat.zero_le _,fun j hj h=>absurd h (by omega),ai _ _⟩
  case round =>
   rename World=>w0
   obtain⟨i,rfl,hi,hp,hg⟩:=hrel;have HP:=ae hp;have HG:=ae hg;clear hp hg
   by_cases hlt:i<N
   ·have hlA:i<A.length:=by rw[HN.o];exact hlt
    obtain⟨L,hL⟩:=zN (A[i]);obtain⟨sl,hsl,hts⟩:=HC.o i hlA;rw[hL]at hts;have Xo:Hd (L.length<=1000/\∀x∈L,jL x):=by have:=gJ.o A[i] (List.getElem_mem hlA);rw[hL]at this;exact this
    have Jf:=ae hL;have hcw:=(HG.o.cell (mQ.o.cell hsl (by simp)) (by simp));have Oy:=ae ((hts.grow mQ.o).grow HG.o);have NEXT:Hd (∀r:Bool,(L.all fun x=>jb (cO x) v)=r->(r=true->R=true)/\(r=false->∀j (hj:j<A.length),j<i+1->(A[j].all fun x=>jb (cO x) v)=false)):=by
     intro r hr;constructor
     ·intro h;rw[<-HR.o];unfold wR;rw[List.any_eq_true];exact⟨A[i],List.getElem_mem hlA,by rw[hL,hr];exact h⟩
     ·intro h j hj hji
      by_cases hji':j<i
      ·exact HP.o j hj hji'
      ·have e:j=i:=by omega
       subst e;rw[hL,hr];exact h
    clear hts hsl hL
    rcases Oy.o with⟨rfl,hLn⟩|⟨q,c1,rfl,hc1,hcell⟩
    ·have rJ:=ae ((NEXT.o true (by rw[hLn];rfl)).1 rfl);have bU:=ae HG.o;clear hLn Oy;go_wp2;go_loopw [6,7] (fun va vk wk=>va=.bool true/\vk=.int .i64 0/\w0.grownBy wk none) (fun _ vk _=>0)
     case atStart=>exact⟨rfl,rfl,ai _ _⟩
     case round =>
      obtain⟨rfl,rfl,hgk⟩:=hrel;have hcw2:=hgk.cell hcw (by simp);have jv:=ae hgk;clear hgk hcw;go_wp2;go_ret;exact⟨bi rJ.o.symm,ag mQ.o (ag HG.o jv.o)⟩
    ·obtain⟨n1,hn1⟩:=zN (L.length);have dw:Hd (L.length=n1/\n1<=1000):=⟨hn1,by have:=Xo.o.1;omega⟩;have hn2:=dw.o.2;have HCE:=ae hcell;rw[hn1]at hcw hc1;clear hcell hn1 Oy;go_wp2;go_loopw [6,7] (fun va vk wk=>∃k:Nat,vk=.int .i64 k/\k<=n1/\va=.bool ((L.take k).all fun x=>jb (cO x) v)/\w0.grownBy wk none) (fun _ vk _=>n1-(intOf vk).toNat)
     case atStart=>exact⟨0,rfl,Nat.zero_le _,rfl,ai _ _⟩
     case round =>
      obtain⟨k,rfl,hk,rfl,hgk⟩:=hrel;have hcw2:=hgk.cell hcw (by simp);have jv:=ae hgk;have bU:=ae hcw;clear hgk hcw
      by_cases hkl:k<n1
      ·have bK:k<L.length:=by rw[dw.o.1];exact hkl
       obtain⟨x,hx⟩:=zN (L[k]);have HE:Hd (TqAt wr (q.add (k*7)) x):=by show TqAt wr _ x;rw[<-hx];exact(HCE.o k bK).grow jv.o
       have hxo:jL x:=by rw[<-hx];exact Xo.o.2 _ (List.getElem_mem bK)
       obtain⟨r,hr⟩:=zN (jb (cO x) v);have CX:Hd (∀w,Calls prog 49 #[.agg #[.int .i64 x.sg,.int .i64 x.m,.int .i64 x.a,.int .i64 x.b,.int .i64 x.c,.string x.p,.string x.q],.agg #[.int .i64 v1,.int .i64 v2,.int .i64 v3,.string v4,.string v5]] w fun e w'=>e=.returned (.bool r)/\w.grownBy w' none):=fun w=>by rw[<-hr];exact CA.o x w hxo
       obtain⟨al,hal⟩:=zN (((L.take k).all fun x=>jb (cO x) v));have Xp:Hd (((L.take (k+1)).all fun x=>jb (cO x) v)=(al && r)):=by
        show _=_;rw[List.take_succ_eq_append_getElem bK,List.all_append,hal,hx];simp[hr]
       rw[hal];have STk:=ae ((STv.o.grow HG.o).grow jv.o);clear hx hxo hr hal;obtain⟨e0,e1,e2,e3,e4,e5,e6⟩:=HE.o;obtain⟨s1,s2,s3,s4,s5⟩:=STk.o;go_wp2
       go_region_held3 (fun w'=>w'.cell? (a.add i)=some (.slice (some q) n1 c1)/\w'.cell? (q.add (k*7))=some (.int .i64 x.sg)/\w'.cell? ⟨(q.add (k*7)).block,(q.add (k*7)).off+1,none⟩=some (.int .i64 x.m)/\w'.cell? ⟨(q.add (k*7)).block,(q.add (k*7)).off+2,none⟩=some (.int .i64 x.a)/\w'.cell? ⟨(q.add (k*7)).block,(q.add (k*7)).off+3,none⟩=some (.int .i64 x.b)/\w'.cell? ⟨(q.add (k*7)).block,(q.add (k*7)).off+4,none⟩=some (.int .i64 x.c)/\w'.cell? ⟨(q.add (k*7)).block,(q.add (k*7)).off+5,none⟩=some (.string x.p)/\w'.cell? ⟨(q.add (k*7)).block,(q.add (k*7)).off+6,none⟩=some (.string x.q)/\w'.cell? ⟨V0,0,none⟩=some (.int .i64 v1)/\w'.cell? ⟨V0,1,none⟩=some (.int .i64 v2)/\w'.cell? ⟨V0,2,none⟩=some (.int .i64 v3)/\w'.cell? ⟨V0,3,none⟩=some (.string v4)/\w'.cell? ⟨V0,4,none⟩=some (.string v5)) (first|(simp only[VM];exact⟨hcw2,e0,e1,e2,e3,e4,e5,e6,s1,s2,s3,s4,s5⟩)|exact agS (by assumption) (by assumption)) (first|(go_at_call 49;refine(CX.o _).mono ?_;rintro e w1 ⟨rfl,hg1⟩))
       have Xq:=ae (ag jv.o (dF hg1));clear hg1 e0 e1 e2 e3 e4 e5 e6 s1 s2 s3 s4 s5 hcw2
       cases al with
       | true =>
        go_wp2;go_roundw
        case rel=>exact⟨k+1,by go_num,by omega,by rw[Xp.o];rfl,Xq.o⟩
        case measure=>simp[intOf];omega
       | false =>
        go_wp2;go_roundw
        case rel=>exact⟨k+1,by go_num,by omega,by rw[Xp.o];rfl,Xq.o⟩
        case measure=>simp[intOf];omega
      ·have hkn:k=n1:=by omega
       subst hkn;have hfull:=List.take_of_length_le (by rw[dw.o.1];exact Nat.le_refl _);rw[hfull];obtain⟨r,hr⟩:=zN ((L.all fun x=>jb (cO x) v));have Bf:=NEXT.o r hr;have bC:=ae Bf;rw[hr];clear hr hfull Bf hk hkl
       cases r with
       | true =>
        go_wp2;go_ret;exact⟨bi (bC.o.1 (by first|rfl|trivial)).symm,ag mQ.o (ag HG.o jv.o)⟩
       | false =>
        go_wp2;go_roundw
        case rel=>exact⟨i+1,by go_num,by omega,bC.o.2 (by first|rfl|trivial),ag HG.o jv.o⟩
        case measure=>simp[intOf];omega
   ·have lM:Hd (R=false):=by
     show R=false;rw[<-HR.o];unfold wR;rw[List.any_eq_false];intro t ht;obtain⟨j,hj,rfl⟩:=List.getElem_of_mem ht;rw[HP.o j hj (by rw[HN.o]at hj;omega)];decide
    clear hi;go_wp2;go_ret;exact⟨bi lM.o.symm,ag mQ.o HG.o⟩
end Go.Proofs.YtiinliaoojfjaaaGreatDoor
