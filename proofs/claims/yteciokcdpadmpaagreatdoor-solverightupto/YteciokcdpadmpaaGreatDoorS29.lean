import Derived.Test.YteciokcdpadmpaaGreatDoorS28
import Derived.Test.YteciokcdpadmpaaGreatDoorS22
set_option linter.all false
set_option maxRecDepth 100000
set_option maxHeartbeats 0
open Go.Proofs.Tryz
namespace Go.Proofs.YteciokcdpadmpaaGreatDoor
open Go.RowKit
theorem adm:(prog.info? 161).map (fun i=>(i.zero,i.size,i.bytes))=some (some (.slice none 0 0),1,24):=by kernel_rfl
def OA(w:World)(base:Nat)(sv:Value)(A:List (List Tq)):Prop :=
 ∃vals:List Value,w.ownsRow base 161 1 sv A.length vals/\vals.length=A.length/\∀i (hi:i<A.length),∃o n c,vals[i]?=some (.slice o n c)/\OT w base (.slice o n c) A[i]
theorem adn{w w':World}{base:Nat}{e:TypeId}{size n:Nat}{v:Value}{xs:List Value}{b:Nat}(h:w.ownsRow base e size v n xs)(hg:w.grownBy w' (some b))(hb:b<base):w'.ownsRow base e size v n xs:=by
 refine⟨h.1,?_⟩
 rcases h.2 with hn|⟨g,cap,cur,hv,hbg,hc,rest⟩
 ·exact Or.inl hn
 ·refine Or.inr ⟨g,cap,cur,hv,hbg,?_,rest⟩;rw[hg.block g ((aB hc)) (by simp;omega)];exact hc
theorem OA.growb{w w':World}{base:Nat}{sv:Value}{A:List (List Tq)}{b:Nat}(h:OA w base sv A)(hg:w.grownBy w' (some b))(hb:b<base):OA w' base sv A:=by
 obtain⟨vals,h1,h2,h3⟩:=h;refine⟨vals,adn h1 hg hb,h2,fun i hi=>?_⟩;obtain⟨o,n,c,h4,h5⟩:=h3 i hi;exact⟨o,n,c,h4,h5.growb hg hb⟩
theorem OA.grow{w w':World}{base:Nat}{sv:Value}{A:List (List Tq)}(h:OA w base sv A)(hg:w.grownBy w' none):OA w' base sv A:=by
 obtain⟨vals,h1,h2,h3⟩:=h;refine⟨vals,jL h1 hg,h2,fun i hi=>?_⟩;obtain⟨o,n,c,h4,h5⟩:=h3 i hi;exact⟨o,n,c,h4,h5.grow hg⟩
theorem TK(w:World)(b o:Nat)(v:Value):w.grownBy (w.setCell ⟨b,o,none⟩ v) (some b):=aW (ak w _) o v
theorem ado:(161:Nat)≠168:=by decide
theorem OT.keepA{w w':World}{base:Nat}{sl sv:Value}{L:List Tq}{n:Nat}{xs:List Value}(h:OT w base sl L)(hs:w.ownsRow base 161 1 sv n xs)(hg:w.grownBy w' sv.ownBlock):OT w' base sl L:=by
 refine⟨h.1,?_⟩
 rcases h.2 with hn|⟨g,cap,cur,hv,hbg,hc,rest⟩
 ·exact Or.inl hn
 ·refine Or.inr ⟨g,cap,cur,hv,hbg,?_,rest⟩;rw[hg.block g ((aB hc)) ?_]
  ·exact hc
  ·intro e
   rcases hs.2 with⟨h1,_⟩|⟨g',cap',cur',hv',_,hc',_⟩
   ·rw[h1]at e;cases e
   ·rw[hv']at e;simp only[Value.ownBlock,Option.some.injEq]at e;rw[e,hc']at hc;simp only[Option.some.injEq,Obj.cells.injEq]at hc;exact ado hc.2.1
theorem OA.push{w w':World}{base:Nat}{sv v':Value}{A:List (List Tq)}{o:Option Addr}{n c:Nat}{L:List Tq}{vals:List Value}(h1:w.ownsRow base 161 1 sv A.length vals)(h2:vals.length=A.length)(h3:∀i (hi:i<A.length),∃o n c,vals[i]?=some (.slice o n c)/\OT w base (.slice o n c) A[i])(hL:OT w base (.slice o n c) L)
  (hg:w.grownBy w' sv.ownBlock) (hown:w'.ownsRow base 161 1 v' (A.length+1) (vals++[.slice o n c])):OA w' base v' (A++[L]):=by
 refine⟨vals++[.slice o n c],by rw[List.length_append];exact hown,by simp[h2],fun i hi=>?_⟩;rw[List.length_append]at hi
 by_cases hlt:i<A.length
 ·obtain⟨o',n',c',h4,h5⟩:=h3 i hlt;refine⟨o',n',c',by rw[List.getElem?_append_left (by omega)];exact h4,?_⟩;rw[List.getElem_append_left hlt];exact h5.keepA h1 hg
 ·have e:i=A.length:=by simp at hi;omega
  subst e;refine⟨o,n,c,by rw[<-h2];simp,?_⟩;rw[List.getElem_append_right (Nat.le_refl _)];simpa using hL.keepA h1 hg
theorem OA.far{w:World}{base:Nat}{sv:Value}{n:Nat}{xs:List Value}(h:w.ownsRow base 161 1 sv n xs):∀q,sv.ownBlock=some q->base<=q:=fun q hq=>(h.lt q hq).1
theorem OA.slice{w:World}{base:Nat}{sv:Value}{A:List (List Tq)}(h:OA w base sv A):∃o c,sv=.slice o A.length c:=by
 obtain⟨vals,h1,_⟩:=h
 rcases h1.2 with⟨e1,e2⟩|⟨g,cap,cur,hv,_⟩
 ·exact⟨_,_,by rw[e1,e2]⟩
 ·exact⟨_,_,hv⟩
def GB(g b:Nat)(sv:Value)(w:World):Prop:=w.heap[g]?=some (.cells #[.pointer (some ⟨b,0,none⟩),sv] 160 (0,0))
theorem GB.gr{g b:Nat}{sv:Value}{w:World}(h:GB g b sv w):GR g b w:=by unfold GR;rw[ah h];rfl
theorem GB.c1{g b:Nat}{sv:Value}{w:World}(h:GB g b sv w):w.cell? ⟨g,1,none⟩=some sv:=by rw[ah h];rfl
theorem GB.f{g b:Nat}{sv:Value}{w:World}(h:GB g b sv w)(o:Nat):w.frozen? ⟨g,o,none⟩=false:=Lib.frozen_of_heap h o
theorem GB.growr{g b:Nat}{sv:Value}{w w':World}{row:Option Nat}(h:GB g b sv w)(hg:w.grownBy w' row)(hn:some g≠row):GB g b sv w':=by
 unfold GB at h ⊢;rw[hg.block g ((aB h)) hn];exact h
theorem GB.set{g b:Nat}{sv:Value}{w:World}(h:GB g b sv w)(y:Value):GB g b y (w.setCell ⟨g,1,none⟩ y):=by
 unfold GB at h ⊢;simp[World.setCell,Array.getElem?_modify,h]
theorem OA.down{w:World}{base base':Nat}{sv:Value}{A:List (List Tq)}(h:OA w base sv A)(hb:base'<=base):OA w base' sv A:=by
 obtain⟨vals,h1,h2,h3⟩:=h;refine⟨vals,⟨h1.1,?_⟩,h2,fun i hi=>?_⟩
 ·rcases h1.2 with hn|⟨g,cap,cur,hv,hbg,rest⟩
  ·exact Or.inl hn
  ·exact Or.inr ⟨g,cap,cur,hv,Nat.le_trans hb hbg,rest⟩
 ·obtain⟨o,n,c,h4,h5⟩:=h3 i hi;exact⟨o,n,c,h4,h5.base hb⟩
theorem adp{w wa wb:World}{row:Option Nat}(h:w.grownBy wa none)(hg:wa.grownBy wb row)(hr:∀q,row=some q->w.heap.size<=q):w.grownBy wb none :=
 ⟨hg.os.trans h.os,hg.tape.trans h.tape,hg.output.trans h.output,Nat.le_trans h.size hg.size,fun k hk hn=>(hg.block k (Nat.lt_of_lt_of_le hk h.size) (fun e=>by have:=hr k e.symm;omega)).trans (h.block k hk hn)⟩
theorem adq{w:World}{base:Nat}{e:TypeId}{size n:Nat}{v:Value}{xs:List Value}(h:w.ownsRow base e size v n xs):∃o n c,v=.slice o n c:=by
 rcases h.2 with⟨h1,_⟩|⟨g,cap,cur,hv,_⟩
 ·exact⟨_,_,_,h1⟩
 ·exact⟨_,_,_,hv⟩
theorem Gm{w u u':World}{b:Nat}(h:w.grownBy u none)(hg:u.grownBy u' (some b))(hb:w.heap.size<=b):w.grownBy u' none :=
 ⟨hg.os.trans h.os,hg.tape.trans h.tape,hg.output.trans h.output,Nat.le_trans h.size hg.size,fun k hk hn=>(hg.block k (Nat.lt_of_lt_of_le hk h.size) (by simp;omega)).trans (h.block k hk hn)⟩
def bm:Value->Nat
 | .bool true=>1
 | _=>0
def adr(R:Int × Nat × List (List Te))(w:World)(e:Ending)(w':World):Prop :=
 ∃(o:Option Addr) (n c:Nat) (A:List (List Tq)),e=.returned (.tuple #[.slice o n c,.int .i64 R.1,.int .i64 (R.2.1:Int)])/\w.grownBy w' none/\(R.1=0->OA w' w.heap.size (.slice o n c) A/\A.map (·.map cZ)=R.2.2/\A.length<=201/\∀L∈A,L.length<=1000/\∀x∈L,jZ x)
theorem TL(l:List UInt8):∀(f i:Nat) (acc:List Te),(fE l f i acc).1=0->(fE l f i acc).2.2.length<=acc.length+f+2
 | 0,i,acc,_=>by unfold fE;simp only[];omega
 | f+1,i,acc,h=>by
  rw[fE]at h ⊢;split
  ·simp only[];omega
  ·rename_i h0;rw[if_neg h0]at h;split
   ·rename_i h1;rw[if_pos h1]at h;split
    ·rename_i h2;rw[if_pos h2]at h;split
     ·simp only[];omega
     ·split
      ·split
       ·simp
       ·simp only[];omega
      ·simp only[];omega
    ·rename_i h2;rw[if_neg h2]at h;split
     ·simp only[];omega
     ·rename_i h3;rw[if_neg h3]at h;have:=TL l f _ _ h;simp at this;omega
   ·simp only[];omega
theorem TM(s:ByteArray)(w:World)(hs:s.size<2 ^ 60):Calls prog 73 #[.string s] w (adr (fP s.data.toList) w):=by
 by_cases h200:200<s.size
 ·have hR:fP s.data.toList=(1,0,[]):=by unfold fP;rw[if_pos (by simpa using h200)]
  rw[hR];clear hR;go_enter func73,ntmps73;go_wp2;exact bodyPost_ret (results_tmp3 (t:=2) (u:=3) (v:=4) rfl _ _ _) rfl ⟨_,_,_,[],rfl,ak _ _,fun h=>absurd h (by simp)⟩
 ·obtain⟨l,hl⟩:=zN (s.data.toList);have hll:l.length=s.size:=by rw[<-hl];simp
  have bY:Hd (l.length=s.size/\s.size<=200):=⟨hll,by omega⟩;rw[hl];obtain⟨E0,J0,S0,hP⟩:∃E0 J0 S0,qJ l (l.length+1) 0 []=(E0,J0,S0):=⟨_,_,_,rfl⟩;have HRR:Hd (fP l=if E0=0 then(0,0,S0) else(E0,J0,[])):=by
   show fP l=_;unfold fP;rw[if_neg (by omega),hP]
  have HR0:=ae hP;obtain⟨b,hb⟩:=zN (w.heap.size);obtain⟨g,hgg⟩:=zN (b+1);have hgb:g≠b:=by omega
  have CB:Hd (∀i a w,i<=s.size->GR g b w->VS b s i 0 a w->Calls prog 93 #[.pointer (some ⟨g,0,none⟩)] w fun e w'=>e=.returned (.bool (decide (i<au l i)))/\VS b s (au l i) 0 a w'/\w.grownBy w' (some b)):=fun i a w hi h1 h2=>by rw[<-hl];exact SH g b s i a w hi hgb h1 h2 (by omega)
  have CS:Hd (∀i a w,i<=s.size->GR g b w->VS b s i 0 a w->Calls prog 94 #[.pointer (some ⟨g,0,none⟩)] w (KX b s (fE l (l.length+1) i []) w)):=fun i a w hi h1 h2=>by rw[<-hl];exact adl g b s i a w hi hgb h1 h2 (by omega)
  have CI:Hd (∀i a w,i<=s.size->GR g b w->VS b s i 0 a w->Calls prog 95 #[.pointer (some ⟨g,0,none⟩),.string ⟨#[124,124]⟩] w fun e w'=>e=.returned (.bool (jU l i))/\∃n,w'=w.drewN n):=fun i a w hi h1 h2=>by rw[<-hl];exact SG g b s i a w hi h1 h2 (by omega)
  have Gj:Hd (∀(i:Nat) (E:Int) (a:Nat) w,¬E=0->GR g b w->VS b s i E a w->Calls prog 95 #[.pointer (some ⟨g,0,none⟩),.string ⟨#[124,124]⟩] w fun e w'=>e=.returned (.bool (false))/\∃n,w'=w.drewN n):=fun i E a w hE h1 h2=>Dx g b s _ i E a w hE h1 h2
  have pM:Hd (∀i,i<=s.size->i<=au l i/\au l i<=s.size):=fun i hi=>⟨qy l i,by have:=pG l i (by rw[hll];exact hi);rw[hll]at this;exact this⟩
  have HOP:Hd (∀i,i<=s.size->(kS l i).1=0->i<=(kS l i).2.1/\(kS l i).2.1<=s.size):=fun i hi h0=>by
   obtain⟨e1,e2,_⟩:=QT l i (by rw[hll];exact hi);have:=QU l i (by rw[hll];exact hi) (e1.trans h0);rw[e2,hll]at this;exact this
  have bn:Hd (g≠b/\b<g/\w.heap.size=b/\b+1=g):=⟨hgb,by omega,hb,hgg⟩;clear hl hll hP hs hgb;go_enter func73,ntmps73;go_wp2;clear h200;obtain⟨W,hW⟩:=zN ((w.alloc (.cells #[.string s,.int .i64 0,.int .i64 0,.int .i64 0] 124)).alloc (.cells #[.pointer (some ⟨b,0,none⟩),.slice none 0 0] 160));have hgW:w.grownBy W none:=by rw[<-hW];exact aj (aj (ak w none) _) _
  have HV:Hd (VS b s 0 0 0 W):=by
   show W.heap[b]?=_;rw[<-hW,<-hb,Lib.alloc_old _ _ _ (by simp)];exact heap_alloc_new w _
  have HG:Hd (GB g b (.slice none 0 0) W):=by
   show W.heap[g]?=_;rw[<-hW,<-hgg,<-hb];exact mr w _ _
  have HW:=ae hgW
  try rw[hW]
  clear hgW hW hb hgg;go_loopw [6] (fun vm wr=>∃(f j c:Nat) (E:Int) (sv:Value) (A:List (List Tq)),VS b s j E c wr/\GB g b sv wr/\OA wr (g+1) sv A/\w.grownBy wr none/\A.length<=201 ∧
   ((vm=.bool true/\E=0/\j<=s.size/\A.length<=j/\l.length<f+j/\qJ l f j (A.map (·.map cZ))=(E0,J0,S0)/\∀L∈A,L.length<=1000/\∀x∈L,jZ x)\/(vm=.bool false/\E=0/\E0=0/\S0=A.map (·.map cZ)/\∀L∈A,L.length<=1000/\∀x∈L,jZ x)\/(vm=.bool false/\¬E=0/\E0=E/\J0=c))) (fun vm wr=>bm vm*(s.size+3-placeOf b wr))
  case atStart=>exact⟨l.length+1,0,0,0,_,[],HV.o,HG.o,⟨[],World.ownsRow_nil _ _ _ _,rfl,fun i hi=>absurd hi (Nat.not_lt_zero _)⟩,HW.o,Nat.zero_le _,Or.inl ⟨rfl,rfl,Nat.zero_le _,Nat.zero_le _,by omega,HR0.o,fun L hL=>by cases hL⟩⟩
  case round =>
   obtain⟨f,j,c,E,sv,A,hv,hgr,hoa,hgw,hal,hcase⟩:=hrel;clear HV HG HW HR0;obtain⟨o1,c1,rfl⟩:=hoa.slice;obtain⟨n1,hn1⟩:=zN (A.length);rw[hn1]at hgr hoa;have HV:=ae hv;have HG:=ae hgr;have HO:=ae hoa;have HW:=ae hgw;have jQ:Hd (A.length=n1/\n1<=201):=⟨hn1,by omega⟩;clear hv hgr hoa hgw hal hn1
   rcases hcase with⟨rfl,rfl,hj,haj,hf,hds,hok⟩|⟨rfl,rfl,he0,hs0,hok⟩|⟨rfl,hE,he0,hj0⟩
   ·have HJ:Hd (j<=s.size/\n1<=j/\l.length<f+j):=⟨hj,by have:=jQ.o.1;omega,hf⟩;have uJ:=ae hds;have dF:=ae hok;have jh:=ae HV.o.place;clear hj haj hf hds hok;obtain⟨f,rfl⟩:∃f',f=f'+1:=by
     cases f with
     | zero=>have:=bY.o.1;have:=HJ.o;omega
     | succ f=>exact⟨f,rfl⟩
    have lH:=ae (fun w (h1:GR g b w) (h2:VS b s j 0 c w)=>CB.o j c w HJ.o.1 h1 h2);have yB:Hd (∀w,GR g b w->VS b s (au l j) 0 c w->Calls prog 94 #[.pointer (some ⟨g,0,none⟩)] w (KX b s (kS l j) w)):=fun w h1 h2=>CS.o (au l j) c w (pM.o j HJ.o.1).2 h1 h2
    have Lc:=ae (HOP.o j HJ.o.1);have dW:Hd ((kS l j).1=0->(kS l j).2.2.length<=1000):=fun h=>by have h1:=TL l (l.length+1) (au l j) [] h;have h2:=bY.o;simp only[List.length_nil]at h1;unfold kS;omega
    have hds:=uJ.o;rw[qJ]at hds;obtain⟨E1,J1,ts,hR⟩:∃E1 J1 ts,kS l j=(E1,J1,ts):=⟨_,_,_,rfl⟩;rw[hR]at hds yB Lc dW;simp only[]at hds Lc dW;have HD1:=ae hds;clear hds hR uJ;obtain⟨K,hK⟩:=zN (au l j);rw[hK]at lH yB;obtain⟨ap,hap⟩:=zN (decide (j<K));rw[hap]at lH;clear hK hap;go_wp2_with (first|(go_at_call 93;refine(lH.o _ HG.o.gr HV.o).mono ?_));rintro e u1 ⟨rfl,hv,hg⟩;replace HV:=ae hv;replace HG:=ae (HG.o.growr hg (by have:=bn.o.1;simpa using this));replace HO:=ae (HO.o.growb hg (by have:=bn.o.2.1;omega));replace HW:=ae (Gm HW.o hg (by have:=bn.o.2.2.1;omega));clear hv hg;have rq:Hd (g+1<=u1.heap.size):=(aB HG.o);go_wp2_with (go_at_call 94;refine(yB.o _ HG.o.gr HV.o).mono ?_);rintro e u2 ⟨o2,n2,c2,acc,j2,d2,rfl,hv,hot,hg,hok,herr⟩;have HT:=ae (hot.base rq.o)
    have HQ:Hd ((E1=0->acc.map cZ=ts/\j2=J1/\∀x∈acc,jZ x)/\(¬E1=0->d2=J1)):=⟨hok,herr⟩;clear hot hok herr;replace HV:Hd (VS b s j2 E1 d2 u2):=hv;replace HG:=ae (HG.o.growr hg (by have:=bn.o.1;simpa using this));replace HO:=ae (HO.o.growb hg (by have:=bn.o.2.1;omega));replace HW:=ae (Gm HW.o hg (by have:=bn.o.2.2.1;omega));clear hv hg;obtain⟨vals,hva,hvl,Ac⟩:=HO.o;have lu:=ae hva;have Az:Hd (vals.length=A.length/\∀i (hi:i<A.length),∃o n c,vals[i]?=some (.slice o n c)/\OT u2 (g+1) (.slice o n c) A[i]):=⟨hvl,Ac⟩;clear hva hvl Ac;have hinfo:=adm;obtain⟨i1,hj0,hjj⟩:=Option.map_eq_some_iff.1 hinfo;have hy0:i1.zero=some (.slice none 0 0):=congrArg (·.1) hjj;have hy1:i1.size=1:=congrArg (·.2.1) hjj;have hyb:i1.bytes=24:=congrArg (·.2.2) hjj;clear hjj hinfo;have g0:u2.cell? ⟨g,0,none⟩=some (.pointer (some ⟨b,0,none⟩)):=HG.o.gr;have g1:=HG.o.c1
    obtain⟨W3,hW3⟩:=zN (u2.alloc (.cells #[.slice o2 n2 c2] 161));have hga:u2.grownBy W3 none:=by rw[<-hW3];exact aj (ak _ none) _
    have HR3:Hd (W3.heap[u2.heap.size]?=some (.cells #[.slice o2 n2 c2] 161 (0,0))):=by show _=_;rw[<-hW3];exact heap_alloc_new u2 _
    have kJ:=ae hga;clear hga;go_wp2_with (first|(at_builtin;refine wpList_append_own _ rfl _ _ 130 rfl (g+1) 161 i1 _ 1 24 underlying130 hj0 hy0 hy1 hyb rfl (by decide) _ _ _ rfl (jL lu.o kJ.o) _ 1 1 [.slice o2 n2 c2] rfl rfl (World.news_of_block HR3.o) (by intro u hu;simp only[List.mem_cons,List.not_mem_nil,or_false]at hu;subst hu;rfl) (by unfold maxLen;have:=jQ.o;omega) (by have:=jQ.o;omega) (by have h1:=kJ.o.size;have h2:=(aB HG.o);omega) ?_;intro v' u4 hown hgrow _;obtain⟨o4,n4,c4,rfl⟩:=adq hown;have hG4:=(HG.o.growr kJ.o (by simp)).growr hgrow (fun e=>by have:=lu.o.lt g e.symm;omega);clear g0 g1;have g0:u4.cell? ⟨g,0,none⟩=some (.pointer (some ⟨b,0,none⟩)):=hG4.gr;have g1:=hG4.c1;have gf:=hG4.f));have TP:=ae (OA.push (w:=W3) (jL lu.o kJ.o) Az.o.1 (fun i hi=>by obtain⟨o,n,c,h1,h2⟩:=Az.o.2 i hi;exact⟨o,n,c,h1,h2.grow kJ.o⟩) (HT.o.grow kJ.o) hgrow hown)
    have lW:=ae (fun q (hq:(Value.slice o1 n1 c1).ownBlock=some q)=>(lu.o.lt q hq).1);obtain⟨u5,Gn⟩:=zN (u4.setCell ⟨g,1,none⟩ (.slice o4 n4 c4));have hg5:u4.grownBy u5 (some g):=by rw[<-Gn];exact TK u4 g 1 _
    replace HV:=ae (((HV.o.grow kJ.o (by simp)).grow hgrow (fun e=>by have:=lW.o b e.symm;have:=bn.o.2.1;omega)).grow hg5 (by have:=bn.o.1;simpa using Ne.symm this));replace HG:Hd (GB g b (.slice o4 n4 c4) u5):=by show GB g b _ u5;rw[<-Gn];exact hG4.set _
    replace HO:=ae (TP.o.growb hg5 (by omega));replace HW:=ae (Gm (adp (ag HW.o kJ.o) hgrow (fun q hq=>by have:=lW.o q hq;have:=bn.o;omega)) hg5 (by have:=bn.o;omega))
    try rw[Gn]
    clear hown hgrow hG4 g0 g1 gf hg5 Gn hW3 hj0 hy0 hy1 hyb lu Az TP lW HR3 kJ HT;have Ld:Hd ((A++[acc]).length<=201):=by show _<=_;rw[List.length_append,jQ.o.1];have h1:=HJ.o;have h2:=bY.o.2;simp;omega
    by_cases hE1:E1=0
    ·subst hE1;obtain⟨q1,q2,q3⟩:=HQ.o.1 rfl;obtain⟨p1,p2⟩:=Lc.o rfl;have TQ:Hd (∀L∈A++[acc],L.length<=1000/\∀x∈L,jZ x):=by
      intro L hL
      rcases List.mem_append.1 hL with h|h
      ·exact dF.o L h
      ·rw[List.mem_singleton.1 h];exact⟨by have h1:=dW.o rfl;rw[<-q1,List.length_map]at h1;exact h1,q3⟩
     have Gp:Hd ((A++[acc]).map (·.map cZ)=A.map (·.map cZ)++[ts]):=by show _=_;rw[List.map_append,<-q1];rfl
     have HP:Hd (j<=J1/\J1<=s.size):=⟨p1,p2⟩;subst q2;clear q1 q3 p1 p2
     cases hba:jU l j2 with
     | true =>
      have uM:Hd (∀w,GR g b w->VS b s j2 0 d2 w->Calls prog 95 #[.pointer (some ⟨g,0,none⟩),.string ⟨#[124,124]⟩] w fun e w'=>e=.returned (.bool (true))/\∃n,w'=w.drewN n):=fun w h1 h2=>by have:=CI.o j2 d2 w HP.o.2 h1 h2;rw[hba]at this;exact this
      have bD:Hd (qJ l f (j2+2) ((A++[acc]).map (·.map cZ))=(E0,J0,S0)):=by show _=_;have h:=HD1.o;rw[if_pos rfl,if_pos hba]at h;rw[Gp.o];exact h
      have HB2:Hd (j2+2<=s.size):=by have:=FW l j2 hba;rw[bY.o.1]at this;exact this
      clear hba;go_wp2_with (go_at_call 95;refine(uM.o _ HG.o.gr HV.o).mono ?_);rintro e u6 rfl n hn;replace HV:Hd (VS b s j2 0 d2 u6):=by show VS _ _ _ _ _ u6;rw[hn];exact HV.o.drew _
      replace HG:Hd (GB g b (.slice o4 n4 c4) u6):=by show GB g b _ u6;rw[hn];exact HG.o
      replace HO:Hd (OA u6 (g+1) (.slice o4 n4 c4) (A++[acc])):=by show OA u6 _ _ _;rw[hn];exact HO.o
      replace HW:Hd (w.grownBy u6 none):=by show w.grownBy u6 none;rw[hn];exact aG HW.o _
      clear hn;have e0:u6.cell? ⟨g,0,none⟩=some (.pointer (some ⟨b,0,none⟩)):=HG.o.gr;have e1:=HV.o.c1;have ef:=HV.o.f1;have hwr:IntKind.i64.wrap ((j2:Int)+2)=(j2:Int)+2:=by rw[IntKind.wrap_i64];have:=HB2.o;have:=bY.o.2;omega
      go_wp2_with (fail)
      go_region
      obtain⟨u7,Gq⟩:=zN ((u6.setCell ⟨b,1,none⟩ (.int .i64 ((j2:Int)+2))).drew);have gK:u6.grownBy u7 (some b):=by rw[<-Gq];exact tu (TK u6 b 1 _)
      replace HV:Hd (VS b s (j2+2) 0 d2 u7):=by show VS b s (j2+2) 0 d2 u7;rw[<-Gq,show((j2:Int)+2)=((j2+2:Nat):Int) by omega];exact HV.o.set1 _
      replace HG:=ae (HG.o.growr gK (by have:=bn.o.1;simpa using this));replace HO:=ae (HO.o.growb gK (by have:=bn.o;omega));replace HW:=ae (Gm HW.o gK (by have:=bn.o;omega))
      try rw[Gq]
      clear gK Gq e0 e1 ef hwr;go_wp2;go_roundw
      case rel=>exact⟨f,j2+2,d2,0,_,A++[acc],HV.o,HG.o,HO.o,HW.o,Ld.o,Or.inl ⟨rfl,rfl,HB2.o,by rw[List.length_append,jQ.o.1];have h1:=HJ.o;have h2:=HP.o;simp;omega,by have h1:=HJ.o;have h2:=HP.o;omega,bD.o,TQ.o⟩⟩
      case measure =>
       rw[jh.o,HV.o.place];have h1:=HJ.o;have h2:=HP.o;simp only[bm];omega
     | false =>
      have uM:Hd (∀w,GR g b w->VS b s j2 0 d2 w->Calls prog 95 #[.pointer (some ⟨g,0,none⟩),.string ⟨#[124,124]⟩] w fun e w'=>e=.returned (.bool (false))/\∃n,w'=w.drewN n):=fun w h1 h2=>by have:=CI.o j2 d2 w HP.o.2 h1 h2;rw[hba]at this;exact this
      have bD:Hd (E0=0/\S0=(A++[acc]).map (·.map cZ)):=by have h:=HD1.o;rw[if_pos rfl,if_neg (by rw[hba];decide)]at h;rw[Gp.o];simp only[Prod.mk.injEq]at h;exact⟨h.1.symm,h.2.2.symm⟩
      clear hba;go_wp2_with (go_at_call 95;refine(uM.o _ HG.o.gr HV.o).mono ?_);rintro e u6 rfl n hn;replace HV:Hd (VS b s j2 0 d2 u6):=by show VS _ _ _ _ _ u6;rw[hn];exact HV.o.drew _
      replace HG:Hd (GB g b (.slice o4 n4 c4) u6):=by show GB g b _ u6;rw[hn];exact HG.o
      replace HO:Hd (OA u6 (g+1) (.slice o4 n4 c4) (A++[acc])):=by show OA u6 _ _ _;rw[hn];exact HO.o
      replace HW:Hd (w.grownBy u6 none):=by show w.grownBy u6 none;rw[hn];exact aG HW.o _
      clear hn;go_wp2;go_roundw
      case rel=>exact⟨0,j2,d2,0,_,A++[acc],HV.o,HG.o,HO.o,HW.o,Ld.o,Or.inr (Or.inl ⟨rfl,rfl,bD.o.1,bD.o.2,TQ.o⟩)⟩
      case measure =>
       rw[jh.o];have h1:=HJ.o;simp only[bm];omega
    ·have fH:=ae hE1;have bD:Hd (E0=E1/\J0=d2):=by have h:=HD1.o;rw[if_neg hE1]at h;simp only[Prod.mk.injEq]at h;exact⟨h.1.symm,by rw[HQ.o.2 hE1];exact h.2.1.symm⟩
     clear hE1;have uM:=ae (fun w (h1:GR g b w) (h2:VS b s j2 E1 d2 w)=>Gj.o j2 E1 d2 w fH.o h1 h2);go_wp2_with (go_at_call 95;refine(uM.o _ HG.o.gr HV.o).mono ?_);rintro e u6 ⟨rfl,n,hn⟩;replace HV:Hd (VS b s j2 E1 d2 u6):=by show VS _ _ _ _ _ u6;rw[hn];exact HV.o.drew _
     replace HG:Hd (GB g b (.slice o4 n4 c4) u6):=by show GB g b _ u6;rw[hn];exact HG.o
     replace HO:Hd (OA u6 (g+1) (.slice o4 n4 c4) (A++[acc])):=by show OA u6 _ _ _;rw[hn];exact HO.o
     replace HW:Hd (w.grownBy u6 none):=by show w.grownBy u6 none;rw[hn];exact aG HW.o _
     clear hn;go_wp2;go_roundw
     case rel=>exact⟨0,j2,d2,E1,_,A++[acc],HV.o,HG.o,HO.o,HW.o,Ld.o,Or.inr (Or.inr ⟨rfl,fH.o,bD.o.1,bD.o.2⟩)⟩
     case measure =>
      rw[jh.o];have h1:=HJ.o;simp only[bm];omega
   ·have HZ:Hd (fP l=(0,0,A.map (·.map cZ))):=by show _=_;rw[HRR.o,if_pos he0,hs0]
    have dF:=ae hok;clear he0 hs0 hok;have e0:wr.cell? ⟨g,0,none⟩=some (.pointer (some ⟨b,0,none⟩)):=HG.o.gr;have e1:=HG.o.c1;have e2:=HV.o.c2;go_wp2;refine bodyPost_ret (results_tmp3 (t:=2) (u:=3) (v:=4) rfl _ _ _) rfl ?_;rw[HZ.o];exact⟨o1,n1,c1,A,rfl,HW.o,fun _=>⟨OA.down HO.o (by have:=bn.o;omega),rfl,by rw[jQ.o.1];exact jQ.o.2,dF.o⟩⟩
   ·have HZ:Hd (fP l=(E,c,[])):=by show _=_;rw[HRR.o,if_neg (by rw[he0];exact hE),he0,hj0]
    have fH:=ae hE;have hne:(E == 0)=false:=by simpa using hE
    clear he0 hj0 hE;have e0:wr.cell? ⟨g,0,none⟩=some (.pointer (some ⟨b,0,none⟩)):=HG.o.gr;have e2:=HV.o.c2;have e3:=HV.o.c3;go_wp2;go_quiet (fail);go_wp2;refine bodyPost_ret (results_tmp3 (t:=2) (u:=3) (v:=4) rfl _ _ _) rfl ?_;rw[HZ.o];exact⟨_,_,_,[],rfl,aG HW.o _,fun h=>absurd h fH.o⟩
open Go.RowKit
theorem ads(s:ByteArray)(w:World)(hs:s.size<2 ^ 60):Calls prog 55 #[.string s] w fun e w'=>e=.returned (.bool (okR s))/\w.grownBy w' none:=by
 have CR:Hd (∀w,Calls prog 78 #[.string s] w fun e w'=>(∃(o:Option Addr) (n c:Nat) (k:Int),e=.returned (.tuple #[.slice o n c,.int .i64 (fP s.data.toList).1,.int .i64 k]))/\w.grownBy w' none):=fun w=>(S9 s w (by omega)).mono fun e w' ⟨o,n,c,h1,h2,_⟩=>⟨⟨o,n,c,_,h1⟩,h2⟩
 unfold okR;obtain⟨E,hE⟩:=zN ((fP s.data.toList).1);rw[hE]at CR ⊢;clear hE;have hd:decide (E=0)=(E == 0):=by rw[Bool.eq_iff_iff];simp
 rw[hd];clear hd;go_enter func55,ntmps55;go_wp2_with (go_at_call 78;refine(CR.o _).mono ?_);rintro e w1 ⟨⟨o,n,c,k,rfl⟩,hg⟩
 cases hz:(E == 0) with
 | true =>
  go_wp2;go_ret;exact⟨aJ hz.symm,hg⟩
 | false =>
  go_wp2;go_ret;exact⟨aJ hz.symm,hg⟩
theorem adt(s:ByteArray)(w:World)(hs:s.size<2 ^ 60):Calls prog 43 #[.string s] w fun e w'=>e=.returned (.bool (okR s))/\w.grownBy w' none:=by
 have CR:Hd (∀w,Calls prog 73 #[.string s] w fun e w'=>(∃(o:Option Addr) (n c:Nat) (k:Int),e=.returned (.tuple #[.slice o n c,.int .i64 (fP s.data.toList).1,.int .i64 k]))/\w.grownBy w' none):=fun w=>(TM s w hs).mono fun e w' ⟨o,n,c,A,h1,h2,_⟩=>⟨⟨o,n,c,_,h1⟩,h2⟩
 unfold okR;obtain⟨E,hE⟩:=zN ((fP s.data.toList).1);rw[hE]at CR ⊢;clear hE;have hd:decide (E=0)=(E == 0):=by rw[Bool.eq_iff_iff];simp
 rw[hd];clear hd;go_enter func43,ntmps43;go_wp2_with (go_at_call 73;refine(CR.o _).mono ?_);rintro e w1 ⟨⟨o,n,c,k,rfl⟩,hg⟩
 cases hz:(E == 0) with
 | true =>
  go_wp2;go_ret;exact⟨aJ hz.symm,hg⟩
 | false =>
  go_wp2;go_ret;exact⟨aJ hz.symm,hg⟩
theorem adu{s:ByteArray}(h:nameB s=true):s.size<=30:=by
 apply Classical.byContradiction;intro hn;rw[tZ (fun h=>hn h.2.1)]at h
 cases h
theorem adv{L:List Nd}(h:L.all iF=true):∀x∈L,x.n.size<=maxLen:=by
 intro x hx;have h1:=List.all_eq_true.1 h x hx;unfold iF at h1;have:=adu (Bool.and_eq_true_iff.1 h1).1;unfold maxLen;omega
theorem adw(w:World):Calls prog 56 #[.slice none 0 0] w fun e w'=>e=.returned (.bool false)/\w.grownBy w' none:=by
 have hmm:=I8 0 w;go_enter func56,ntmps56;go_wp2;go_loopw [13] (fun vi wr=>vi=.int .i64 0/\w.grownBy wr none) (fun vi _=>0)
 case atStart=>exact⟨rfl,aj (ak w none) _⟩
 case round =>
  obtain⟨rfl,hb⟩:=hrel;have HB:=ae hb;clear hb hmm;go_wp2;go_ret;exact⟨rfl,HB.o⟩
theorem adx(v:Value)(L:List Nd)(w:World)(h:NdS w v L)(hL:L.length<=1048576)(hz:L.all iF=true) :
  Calls prog 56 #[v] w fun e w'=>e=.returned (.bool (eY L L.length))/\w.grownBy w' none:=by
 rcases h with⟨rfl,rfl⟩|⟨a,cap,rfl,h2,h3⟩
 ·exact adw w
 ·exact YL a cap L w hL h2 (adv hz) h3
theorem Gs{w:World}{o:Option Addr}{c:Nat}{L:List Nd}(h:NdS w (.slice o L.length c) L){i:Nat}(hi:i<L.length):∃a,o=some a/\L.length<=c/\∀j (hj:j<L.length),NdAt w (a.add (j*2)) L[j]:=by
 rcases h with⟨h1,h2⟩|⟨a,cap,h1,h2,h3⟩
 ·rw[h2]at hi;simp at hi
 ·cases h1
  exact⟨a,rfl,h2,h3⟩
theorem TS(v:Value)(L:List Nd)(w:World)(h:NdS w v L)(hL:L.length<=1048576)(hS:∀x∈L,x.n.size<2 ^ 60/\x.r.size<2 ^ 60) :
  Calls prog 29 #[v] w fun e w'=>e=.returned (.int .i64 (dB L))/\w.grownBy w' none:=by
 have H1:=ae h;have CN:=ae (fun x (hx:x∈L) w=>name_any x.n w (by have:=(hS x hx).1;omega));have CR:=ae (fun x (hx:x∈L) w=>ads x.r w (hS x hx).2);have CT:=ae (fun w (h:NdS w v L) (hz:L.all iF=true)=>adx v L w h hL hz);obtain⟨o,c,rfl⟩:=uh h;have HT:=ae (QZ L);have H5:=ae (Q5 L);have H0:=ae (Q7 L);obtain⟨R,hR⟩:=zN (dB L);rw[hR]at HT H5 H0 ⊢;clear h hS hR;go_enter func29,ntmps29;go_wp2;go_loopw [7] (fun vi wr=>∃i:Nat,vi=.int .i64 i/\i<=L.length/\(L.take i).all iF=true/\w.grownBy wr none) (fun vi _=>L.length-(intOf vi).toNat)
 case atStart=>exact⟨0,rfl,Nat.zero_le _,rfl,ak _ _⟩
 case round =>
  obtain⟨i,rfl,hi,hall,hg⟩:=hrel;have lg:=ae hall;have HG:=ae hg
  by_cases hlt:i<L.length
  ·obtain⟨a,rfl,hcv,hat⟩:=Gs (H1.o.grow hg) hlt;obtain⟨x,hx⟩:=zN (L[i]);obtain⟨e0,e1⟩:NdAt wr (a.add (i*2)) x:=by rw[<-hx];exact hat i hlt
   have hmem:x∈L:=by rw[<-hx];exact List.getElem_mem _
   have CX:=ae (CN.o x hmem);have CY:=ae (CR.o x hmem);have HF:Hd (iF x=false->R=2):=fun h=>HT.o i hlt (by rw[hx];exact h)
   have HN:=ae (fun(h:iF x=true)=>Q4 L i hlt (by rw[hx];exact h) lg.o);have hgd:iF x=(nameB x.n && okR x.r):=rfl;rw[hgd]at HF HN;obtain⟨q1,hq1⟩:=zN (nameB x.n);obtain⟨q2,hq2⟩:=zN (okR x.r);rw[hq1]at CX HF HN;rw[hq2]at CY HF HN;obtain⟨xn,xr⟩:=x;simp only[]at CX CY e0 e1;clear hall hg hx hmem hgd hq1 hq2 hat
   cases q1 with
   | false =>
    go_wp2_with (go_at_call 54;refine(CX.o _).mono ?_;rintro e w' ⟨rfl,rfl⟩);go_ret;exact⟨bM (HF.o (by trivial)).symm,aj HG.o _⟩
   | true =>
    go_wp2_with (first|(go_at_call 54;refine(CX.o _).mono ?_;rintro e w' ⟨rfl,rfl⟩)|(go_at_call 55;refine(CY.o _).mono ?_));rintro e w3 ⟨rfl,hg3⟩;have dJ:=ae (ag HG.o (ag (aj (ak wr none) _) hg3));clear hg3
    cases q2 with
    | false =>
     go_wp2;go_ret;exact⟨bM (HF.o (by trivial)).symm,dJ.o⟩
    | true =>
     go_wp2;exact⟨⟨i+1,by go_num,by omega,HN.o (by trivial),dJ.o⟩,by simp[intOf];omega⟩
  ·have hil:i=L.length:=by omega
   have HL:Hd (L.all iF=true):=by
    show L.all iF=true;rw[hil,List.take_length]at hall;exact hall
   have yF:=ae (CT.o wr (H1.o.grow hg) HL.o);have TT:=ae (H5.o HL.o);have H0':=ae (H0.o HL.o);obtain⟨q,hq⟩:=zN (eY L L.length);rw[hq]at yF TT H0';clear hall hg hil hi hq
   cases q with
   | true =>
    go_wp2_with (go_at_call 56;refine yF.o.mono ?_;rintro e w3 ⟨rfl,hg3⟩);go_ret;exact⟨bM (TT.o (by trivial)).symm,ag HG.o hg3⟩
   | false =>
    go_wp2_with (go_at_call 56;refine yF.o.mono ?_;rintro e w3 ⟨rfl,hg3⟩);go_ret;exact⟨bM (H0'.o (by trivial)).symm,ag HG.o hg3⟩
open Go.RowKit Go.Maps
theorem ady:(prog.info? 64).map (fun i=>(i.zero,i.size,i.bytes))=some (some (.int .u64 0),1,8):=by kernel_rfl
theorem adz(n:Nat):madeCells #[Value.int .u64 0] n=iM (List.replicate n 0):=by
 unfold madeCells iM;apply Array.ext';simp;apply List.ext_getElem?;intro i;simp
 by_cases h:i<n
 ·simp[h,Nat.mod_one]
 ·simp[h]
theorem adA(n:Nat)(hn:n<=1048576)(W:World):(Instr.makeSlice 67 (.int .i64 (n:Int)) (.int .i64 (n:Int))).run prog W=.ok (.slice (some ⟨W.heap.size,0,none⟩) n n) (W.alloc (.cells (iM (List.replicate n 0)) 64)):=by
 obtain⟨i0,hi0,hii⟩:=Option.map_eq_some_iff.1 ady;simp only[Prod.mk.injEq]at hii;obtain⟨hz0,hz1,hzb⟩:=hii;have:=run_make W 67 64 i0 (.int .u64 0) underlying67 hi0 hz0 .i64 .i64 (n:Int) (n:Int) (by omega) (Int.le_refl _) (by rw[hzb];omega) (by omega);rw[this,hz1];have e:((n:Int)).toNat=n:=by omega
 rw[e,Nat.mul_one];have e2:(Value.int .u64 0).cells=#[.int .u64 0]:=rfl;rw[e2,adz]
structure dO(N:List Nd)(L:List Re)(x:Pl):Prop where
 ok:Fj x
 ln:x.mt.length=N.length
 nam:∀q,x.nam.testBit q=qM N L q
 mt:∀j (hj:j<x.mt.length) q,x.mt[j].testBit q=lG N L j q
 br:∀q,x.bar.testBit q=false->q<L.length->∀y∈N,y.n=aZ L q->jd y.r (jr L q)=true
structure kY(N:List Nd)(L:List Re)(i k nam bar:Nat)(M:List Nat):Prop where
 n1:nam<18446744073709551616
 n2:bar<18446744073709551616
 n3:∀m∈M,m<18446744073709551616
 b1:∀q,nam.testBit q=qN N L i k q
 b2:∀j (hj:j<M.length) q,M[j].testBit q=qO N L i k j q
 b3:∀q,bar.testBit q=false->q<L.length->∀j (hj:j<N.length),(j<i\/(j=i/\q<k))->N[j].n=aZ L q->jd N[j].r (jr L q)=true
theorem adB(N:List Nd)(L:List Re)(n:Nat):kY N L 0 0 0 0 (List.replicate n 0) :=
 ⟨by decide,by decide,fun m hm=>by rw[List.eq_of_mem_replicate hm];decide,fun q=>by rw[acO,Nat.zero_testBit],fun j hj q=>by rw[List.getElem_replicate,acP,Nat.zero_testBit],fun q _ _ j hj h=>by omega⟩
theorem adC{N:List Nd}{L:List Re}{i nam bar:Nat}{M:List Nat}(h:kY N L i L.length nam bar M)(hi:i<N.length):kY N L (i+1) 0 nam bar M :=
 ⟨h.n1,h.n2,h.n3,fun q=>by rw[h.b1,acQ N L i q hi],fun j hj q=>by rw[h.b2 j hj,acR],fun q hb hq j hj hh e=>h.b3 q hb hq j hj (by omega) e⟩
theorem adD{N:List Nd}{L:List Re}{i k nam bar:Nat}{M:List Nat}(h:kY N L i k nam bar M)(hi:i<N.length)(hk:k<L.length)(hn:¬N[i].n=aZ L k):kY N L i (k+1) nam bar M:=by
 have h1:yw N L i k=false:=by rw[Gh N L i k hi];simpa using hn
 have h2:lG N L i k=false:=by rw[Ap N L i k hi hk];simp[hn]
 exact⟨h.n1,h.n2,h.n3,fun q=>by rw[h.b1,KT N L i k q hk,h1];simp,fun j hj q=>by rw[h.b2 j hj,KU,h2];simp,fun q hb hq j hj hh e=>by
  by_cases hx:j=i/\q=k
  ·obtain⟨rfl,rfl⟩:=hx;exact absurd e hn
  ·exact h.b3 q hb hq j hj (by omega) e⟩
theorem adE{N:List Nd}{L:List Re}{i k nam bar:Nat}{M:List Nat}(h:kY N L i k nam bar M)(hi:i<N.length)(hk:k<L.length)(hk64:k<64)(hn:N[i].n=aZ L k)(ha:jd N[i].r (jr L k)=true)(hiM:i<M.length):kY N L i (k+1) (nam ||| 2 ^ k) bar (M.set i (M[i] ||| 2 ^ k)):=by
 have h1:yw N L i k=true:=by rw[Gh N L i k hi];simpa using hn
 have h2:lG N L i k=true:=by rw[Ap N L i k hi hk,ha];simp[hn]
 refine⟨ug h.n1 (og hk64),h.n2,fun m hm=>?_,fun q=>by rw[BU,h.b1,KT N L i k q hk,h1];simp,fun j hj q=>?_,fun q hb hq j hj hh e=>?_⟩
 ·rcases List.mem_or_eq_of_mem_set hm with hm|rfl
  ·exact h.n3 m hm
  ·exact ug (h.n3 _ (List.getElem_mem _)) (og hk64)
 ·rw[KU,h2]
  by_cases hj':j=i
  ·subst hj';rw[List.getElem_set_self,BU,h.b2 j hiM];simp
  ·rw[List.getElem_set_ne (fun e=>hj' e.symm),h.b2 j (by simpa using hj)];simp[hj']
 ·by_cases hx:j=i/\q=k
  ·obtain⟨rfl,rfl⟩:=hx;exact ha
  ·exact h.b3 q hb hq j hj (by omega) e
theorem adF{N:List Nd}{L:List Re}{i k nam bar:Nat}{M:List Nat}(h:kY N L i k nam bar M)(hi:i<N.length)(hk:k<L.length)(hk64:k<64)(hn:N[i].n=aZ L k)(ha:jd N[i].r (jr L k)=false):kY N L i (k+1) (nam ||| 2 ^ k) (bar ||| 2 ^ k) M:=by
 have h1:yw N L i k=true:=by rw[Gh N L i k hi];simpa using hn
 have h2:lG N L i k=false:=by rw[Ap N L i k hi hk,ha];simp
 exact⟨ug h.n1 (og hk64),ug h.n2 (og hk64),h.n3,fun q=>by rw[BU,h.b1,KT N L i k q hk,h1];simp,fun j hj q=>by rw[h.b2 j hj,KU,h2];simp,fun q hb hq j hj hh e=>by
  rw[BU,Bool.or_eq_false_iff]at hb;have hqk:¬k=q:=by simpa using hb.2
  exact h.b3 q hb.1 hq j hj (by omega) e⟩
theorem adG{N:List Nd}{L:List Re}{nam bar:Nat}{M:List Nat}(h:kY N L N.length 0 nam bar M)(hl:M.length=N.length)(hN:N.length<=1048576):dO N L ⟨nam,bar,M⟩ :=
 ⟨⟨h.n1,h.n2,h.n3,by show M.length<=_;omega⟩,hl,fun q=>by rw[<-acS];exact h.b1 q,fun j hj q=>by rw[<-acT N L j q (by have:j<M.length:=hj;omega)];exact h.b2 j hj q,fun q hb hq y hy e=>by
  obtain⟨j,hj,rfl⟩:=List.getElem_of_mem hy;exact h.b3 q hb hq j hj (Or.inl hj) e⟩
open Go.RowKit Go.Maps Go.Joins
theorem Le(b n:Nat):(⟨b,0,none⟩:Addr).add n=⟨b,n,none⟩:=by
 unfold Addr.add;split
 ·rename_i h0;rw[h0]
 ·simp
theorem TU{w:World}{g n:Nat}{M:List Nat}(h:w.heap[g]?=some (.cells (iM M) 64 (0,0)))(hn:M.length=n):SnS w (.slice (some ⟨g,0,none⟩) n n) M:=by
 subst hn;refine Or.inr ⟨⟨g,0,none⟩,_,rfl,Nat.le_refl _,fun j hj=>?_⟩;rw[Le,ah h];unfold iM;simp[hj]
theorem adH:(prog.info? 108).map (fun i=>(i.zero,i.size,i.bytes))=some (some (.agg #[.int .i64 0,.int .i64 0,.int .i64 0,.string ⟨#[]⟩,.string ⟨#[]⟩]),5,56):=by kernel_rfl
theorem adI:(prog.info? 69).map (fun i=>(i.zero,i.size,i.bytes))=some (some (.agg #[.int .u64 0,.int .u64 0,.slice none 0 0]),3,40):=by kernel_rfl
theorem adJ(n:Nat)(hn:n<=1048576)(W:World):(Instr.makeSlice 107 (.int .i64 (n:Int)) (.int .i64 (n:Int))).run prog W=.ok (.slice (some ⟨W.heap.size,0,none⟩) n n) (W.alloc (.cells (madeCells #[.int .i64 0,.int .i64 0,.int .i64 0,.string ⟨#[]⟩,.string ⟨#[]⟩] (n*5)) 108)):=by
 obtain⟨i0,hi0,hii⟩:=Option.map_eq_some_iff.1 adH;simp only[Prod.mk.injEq]at hii;obtain⟨hz0,hz1,hzb⟩:=hii;have:=run_make W 107 108 i0 _ underlying107 hi0 hz0 .i64 .i64 (n:Int) (n:Int) (by omega) (Int.le_refl _) (by rw[hzb];omega) (by omega);rw[this,hz1];have e:((n:Int)).toNat=n:=by omega
 rw[e];rfl
theorem adK(n:Nat)(hn:n<=1048576)(W:World):(Instr.makeSlice 70 (.int .i64 (n:Int)) (.int .i64 (n:Int))).run prog W=.ok (.slice (some ⟨W.heap.size,0,none⟩) n n) (W.alloc (.cells (madeCells #[.int .u64 0,.int .u64 0,.slice none 0 0] (n*3)) 69)):=by
 obtain⟨i0,hi0,hii⟩:=Option.map_eq_some_iff.1 adI;simp only[Prod.mk.injEq]at hii;obtain⟨hz0,hz1,hzb⟩:=hii;have:=run_make W 70 69 i0 _ underlying70 hi0 hz0 .i64 .i64 (n:Int) (n:Int) (by omega) (Int.le_refl _) (by rw[hzb];omega) (by omega);rw[this,hz1];have e:((n:Int)).toNat=n:=by omega
 rw[e];rfl
theorem setAt(cur:Array Value)(p k:Nat)(v:Value):(cur.setIfInBounds p v)[k]?=if p=k then(if p<cur.size then some v else none) else cur[k]?:=by
 rw[Array.getElem?_setIfInBounds]
def RowV(w:World)(V n i:Nat)(L:List Re):Prop:=∃cur:Array Value,w.heap[V]?=some (.cells cur 108 (0,0))/\cur.size=n*5/\∀j (hj:j<L.length),j<i->cur[j*5]?=some (.int .i64 (bi L[j].ve).major)/\cur[j*5+1]?=some (.int .i64 (bi L[j].ve).minor)/\cur[j*5+2]?=some (.int .i64 (bi L[j].ve).patch)/\cur[j*5+3]?=some (.string ⟨(bi L[j].ve).pre.toArray⟩)/\cur[j*5+4]?=some (.string ⟨(bi L[j].ve).build.toArray⟩)
theorem RowV.grow{w w':World}{V n i:Nat}{L:List Re}(h:RowV w V n i L)(hg:w.grownBy w' none):RowV w' V n i L:=by
 obtain⟨cur,h1,h2,h3⟩:=h;exact⟨cur,(hg.block V (aB h1) (by simp)).trans h1,h2,h3⟩
theorem RowV.lt{w:World}{V n i:Nat}{L:List Re}(h:RowV w V n i L):V<w.heap.size:=by
 obtain⟨cur,h1,-⟩:=h;exact(aB h1)
theorem RowV.room{w:World}{V n i:Nat}{L:List Re}(h:RowV w V n i L)(q:Nat)(hq:q<n*5):(∃v,w.cell? ⟨V,q,none⟩=some v)/\w.frozen? ⟨V,q,none⟩=false:=by
 obtain⟨cur,h1,h2,-⟩:=h;refine⟨?_,Lib.frozen_of_heap h1 q⟩;rw[ah h1];exact⟨cur[q]'(by omega),Array.getElem?_eq_getElem (by omega)⟩
theorem RowV.set{w:World}{V n i:Nat}{L:List Re}(h:RowV w V n i L)(hi:i<L.length)(hn:L.length=n)(v1 v2 v3:Int)(v4 v5:ByteArray)(e1:(bi L[i].ve).major=v1)(e2:(bi L[i].ve).minor=v2)(e3:(bi L[i].ve).patch=v3)(e4:(⟨(bi L[i].ve).pre.toArray⟩:ByteArray)=v4)(e5:(⟨(bi L[i].ve).build.toArray⟩:ByteArray)=v5) :
  RowV (((((w.setCell ⟨V,i*5,none⟩ (.int .i64 v1)).setCell ⟨V,i*5+1,none⟩ (.int .i64 v2)).setCell ⟨V,i*5+2,none⟩ (.int .i64 v3)).setCell ⟨V,i*5+3,none⟩ (.string v4)).setCell ⟨V,i*5+4,none⟩ (.string v5)) V n (i+1) L:=by
 obtain⟨cur,h1,h2,h3⟩:=h;refine⟨_,block_setCell (block_setCell (block_setCell (block_setCell (block_setCell h1 _) _) _) _) _,by simpa using h2,fun j hj hji=>?_⟩;have hs:i*5+4<cur.size:=by omega
 by_cases he:j=i
 ·subst he;rw[e1,e2,e3,e4,e5];simp only[setAt,Array.size_setIfInBounds];refine⟨?_,?_,?_,?_,?_⟩
  ·rw[if_neg (by omega),if_neg (by omega),if_neg (by omega),if_neg (by omega),if_pos trivial,if_pos (by omega)]
  ·rw[if_neg (by omega),if_neg (by omega),if_neg (by omega),if_pos trivial,if_pos (by omega)]
  ·rw[if_neg (by omega),if_neg (by omega),if_pos trivial,if_pos (by omega)]
  ·rw[if_neg (by omega),if_pos trivial,if_pos (by omega)]
  ·rw[if_pos trivial,if_pos (by omega)]
 ·have hlt:j<i:=by omega
  obtain⟨c1,c2,c3,c4,c5⟩:=h3 j hj hlt;simp only[setAt,Array.size_setIfInBounds];refine⟨?_,?_,?_,?_,?_⟩
  ·rw[if_neg (by omega),if_neg (by omega),if_neg (by omega),if_neg (by omega),if_neg (by omega)];exact c1
  ·rw[if_neg (by omega),if_neg (by omega),if_neg (by omega),if_neg (by omega),if_neg (by omega)];exact c2
  ·rw[if_neg (by omega),if_neg (by omega),if_neg (by omega),if_neg (by omega),if_neg (by omega)];exact c3
  ·rw[if_neg (by omega),if_neg (by omega),if_neg (by omega),if_neg (by omega),if_neg (by omega)];exact c4
  ·rw[if_neg (by omega),if_neg (by omega),if_neg (by omega),if_neg (by omega),if_neg (by omega)];exact c5
theorem RowV.vrs{w:World}{V n:Nat}{L:List Re}(h:RowV w V n L.length L):VrS w ⟨V,0,none⟩ L:=fun j hj=>by
 obtain⟨cur,h1,h2,h3⟩:=h;obtain⟨c1,c2,c3,c4,c5⟩:=h3 j hj hj;rw[Le];simp only[ah h1];exact⟨c1,c2,c3,c4,c5⟩
def RowP(w:World)(P n:Nat)(Q:List Pl):Prop:=∃cur:Array Value,w.heap[P]?=some (.cells cur 69 (0,0))/\cur.size=n*3/\∀j (hj:j<Q.length),∃g,cur[j*3]?=some (.int .u64 (Q[j].nam:Nat))/\cur[j*3+1]?=some (.int .u64 (Q[j].bar:Nat))/\cur[j*3+2]?=some (.slice (some ⟨g,0,none⟩) Q[j].mt.length Q[j].mt.length)/\w.heap[g]?=some (.cells (iM Q[j].mt) 64 (0,0))
theorem RowP.grow{w w':World}{P n:Nat}{Q:List Pl}(h:RowP w P n Q)(hg:w.grownBy w' none):RowP w' P n Q:=by
 obtain⟨cur,h1,h2,h3⟩:=h;refine⟨cur,(hg.block P (aB h1) (by simp)).trans h1,h2,fun j hj=>?_⟩;obtain⟨g,c1,c2,c3,c4⟩:=h3 j hj;exact⟨g,c1,c2,c3,(hg.block g (aB c4) (by simp)).trans c4⟩
theorem RowP.room{w:World}{P n:Nat}{Q:List Pl}(h:RowP w P n Q)(q:Nat)(hq:q<n*3):(∃v,w.cell? ⟨P,q,none⟩=some v)/\w.frozen? ⟨P,q,none⟩=false:=by
 obtain⟨cur,h1,h2,-⟩:=h;refine⟨?_,Lib.frozen_of_heap h1 q⟩;rw[ah h1];exact⟨cur[q]'(by omega),Array.getElem?_eq_getElem (by omega)⟩
theorem RowP.push{w:World}{P n i:Nat}{Q:List Pl}(h:RowP w P n Q)(hi:Q.length=i)(hin:i<n)(x:Pl)(g:Nat)(hg:w.heap[g]?=some (.cells (iM x.mt) 64 (0,0)))(m:Nat)(hm:x.mt.length=m) :
  RowP (((w.setCell ⟨P,i*3,none⟩ (.int .u64 (x.nam:Nat))).setCell ⟨P,i*3+1,none⟩ (.int .u64 (x.bar:Nat))).setCell ⟨P,i*3+2,none⟩ (.slice (some ⟨g,0,none⟩) m m)) P n (Q++[x]):=by
 subst hm hi;obtain⟨cur,h1,h2,h3⟩:=h;have hne:∀(k:Nat) (cs:Array Value),w.heap[k]?=some (.cells cs 64 (0,0))->¬k=P:=fun k cs hk e=>by
  subst e;rw[h1]at hk;injection hk with hk
  injection hk with _ e2 _
  exact absurd e2 (by decide)
 have hkeep:∀(k:Nat) (cs:Array Value),w.heap[k]?=some (.cells cs 64 (0,0))->(((w.setCell ⟨P,Q.length*3,none⟩ (.int .u64 (x.nam:Nat))).setCell ⟨P,Q.length*3+1,none⟩ (.int .u64 (x.bar:Nat))).setCell ⟨P,Q.length*3+2,none⟩ (.slice (some ⟨g,0,none⟩) x.mt.length x.mt.length)).heap[k]?=some (.cells cs 64 (0,0)):=fun k cs hk=>by
  rw[heap_setCell_other _ _ k _ (hne k cs hk),heap_setCell_other _ _ k _ (hne k cs hk),heap_setCell_other _ _ k _ (hne k cs hk)];exact hk
 refine⟨_,block_setCell (block_setCell (block_setCell h1 _) _) _,by simpa using h2,fun j hj=>?_⟩;rw[List.length_append,List.length_singleton]at hj
 by_cases he:j=Q.length
 ·subst he;rw[List.getElem_append_right (Nat.le_refl _)];simp only[Nat.sub_self,List.getElem_cons_zero];refine⟨g,?_,?_,?_,hkeep g _ hg⟩
  ·simp only[setAt,Array.size_setIfInBounds];rw[if_neg (by omega),if_neg (by omega),if_pos trivial,if_pos (by omega)]
  ·simp only[setAt,Array.size_setIfInBounds];rw[if_neg (by omega),if_pos trivial,if_pos (by omega)]
  ·simp only[setAt,Array.size_setIfInBounds];rw[if_pos trivial,if_pos (by omega)]
 ·have hlt:j<Q.length:=by omega
  rw[List.getElem_append_left hlt];obtain⟨g',c1,c2,c3,c4⟩:=h3 j hlt;refine⟨g',?_,?_,?_,hkeep g' _ c4⟩
  ·simp only[setAt,Array.size_setIfInBounds];rw[if_neg (by omega),if_neg (by omega),if_neg (by omega)];exact c1
  ·simp only[setAt,Array.size_setIfInBounds];rw[if_neg (by omega),if_neg (by omega),if_neg (by omega)];exact c2
  ·simp only[setAt,Array.size_setIfInBounds];rw[if_neg (by omega),if_neg (by omega),if_neg (by omega)];exact c3
theorem RowP.pls{w:World}{P n:Nat}{Q:List Pl}(h:RowP w P n Q)(hn:Q.length=n):PlS w (.slice (some ⟨P,0,none⟩) n n) Q:=by
 subst hn;obtain⟨cur,h1,h2,h3⟩:=h;refine Or.inr ⟨⟨P,0,none⟩,_,rfl,Nat.le_refl _,fun j hj=>?_⟩;obtain⟨g,c1,c2,c3,c4⟩:=h3 j hj;rw[Le];unfold PlAt;simp only[ah h1];exact⟨c1,c2,_,c3,TU c4 rfl⟩
open Go.RowKit
def oM(b:Bool):Int:=if b=true then 5 else 0
theorem adL(L:List Nd)(n:ByteArray)(k:Nat)(hk:k<L.length):(L.take (k+1)).any (fun y=>decide (y.n=n))=((L.take k).any (fun y=>decide (y.n=n)) || decide (L[k].n=n)):=by
 rw[List.take_succ_eq_append_getElem hk,List.any_append];simp
theorem adM(a:Addr)(cap:Nat)(L:List Nd)(w:World)(hcap:L.length<=cap)(h:∀i (hi:i<L.length),NdAt w (a.add (i*2)) L[i])(hL:L.length<=1048576)(hS:∀x∈L,x.n.size<2 ^ 60/\x.r.size<2 ^ 60) :
  Calls prog 19 #[.slice (some a) L.length cap] w fun e w'=>e=.returned (.int .i64 (dB L))/\w.grownBy w' none:=by
 have HA:=ae h;have CN:=ae (fun x (hx:x∈L) w=>Pj x.n w (by have:=(hS x hx).1;omega));have CR:=ae (fun x (hx:x∈L) w=>adt x.r w (hS x hx).2);have HT:=ae (QZ L);have HE:Hd (L.all iF=true->oM (eY L L.length)=dB L):=fun h=>by
  unfold oM
  cases ht:eY L L.length with
  | true=>rw[if_pos rfl,Q5 L h ht]
  | false=>rw[if_neg (by simp),Q7 L h ht]
 obtain⟨R,hR⟩:=zN (dB L);rw[hR]at HT HE ⊢;clear h hS hR;go_enter func19,ntmps19;go_wp2;go_loopw [3,4] (fun ve vi wr=>∃i:Nat,vi=.int .i64 i/\ve=.int .i64 (oM (eY L i))/\i<=L.length/\(L.take i).all iF=true/\w.grownBy wr none) (fun _ vi _=>L.length-(intOf vi).toNat)
 case atStart=>exact⟨0,rfl,rfl,Nat.zero_le _,rfl,ak _ _⟩
 case round =>
  obtain⟨i,rfl,rfl,hi,hall,hg⟩:=hrel;have lg:=ae hall;have HG:=ae hg
  by_cases hlt:i<L.length
  ·obtain⟨x,hx⟩:=zN (L[i]);obtain⟨e0,e1⟩:NdAt wr (a.add (i*2)) x:=by rw[<-hx];exact(HA.o i hlt).grow hg
   have hmem:x∈L:=by rw[<-hx];exact List.getElem_mem _
   have CX:=ae (CN.o x hmem);have CY:=ae (CR.o x hmem);have HF:Hd (iF x=false->R=2):=fun h=>HT.o i hlt (by rw[hx];exact h)
   have HN:=ae (fun(h:iF x=true)=>Q4 L i hlt (by rw[hx];exact h) lg.o);have Lh:Hd (eY L (i+1)=(eY L i || (L.take i).any (fun y=>decide (y.n=x.n)))):=by
    show _=_;rw[BV L i hlt,hx];rfl
   have HX:=ae hx;have hgd:iF x=(nameB x.n && okR x.r):=rfl;rw[hgd]at HF HN;obtain⟨t0,ht0⟩:=zN (eY L i);rw[ht0]at Lh ⊢;obtain⟨q1,hq1⟩:=zN (nameB x.n);obtain⟨q2,hq2⟩:=zN (okR x.r);rw[hq1]at CX HF HN;rw[hq2]at CY HF HN;obtain⟨xn,xr⟩:=x;simp only[]at CX CY e0 e1 Lh;clear hall hg hx hmem hgd hq1 hq2 ht0;go_wp2_with (first|(go_at_call 17;refine(CX.o _).mono ?_;rintro e w' ⟨rfl,rfl⟩)|(go_at_call 43;refine(CY.o _).mono ?_));rintro e w3 ⟨rfl,hg3⟩;have dJ:=ae (ag HG.o hg3);clear hg3 e0 e1
   cases q1 with
   | false =>
    go_wp2;go_ret;exact⟨bM (HF.o (by trivial)).symm,dJ.o⟩
   | true =>
    cases q2 with
    | false =>
     go_wp2;go_ret;exact⟨bM (HF.o (by trivial)).symm,dJ.o⟩
    | true =>
     go_wp2;go_loopw [3,7] (fun ve vk wk=>∃k:Nat,vk=.int .i64 k/\ve=.int .i64 (oM (t0 || (L.take k).any (fun y=>decide (y.n=xn))))/\k<=i/\w.grownBy wk none) (fun _ vk _=>i-(intOf vk).toNat)
     case atStart=>exact⟨0,rfl,by simp,Nat.zero_le _,dJ.o⟩
     case round =>
      obtain⟨k,rfl,rfl,hk,hgk⟩:=hrel;have jY:=ae hgk
      by_cases hki:k<i
      ·have hkl:k<L.length:=by omega
       obtain⟨y,hy⟩:=zN (L[k]);have f0:wr.cell? (a.add (k*2))=some (.string y.n):=by rw[<-hy];exact((HA.o k hkl).grow hgk).1
       have f1:wr.cell? (a.add (i*2))=some (.string xn):=by
        have:=((HA.o i hlt).grow hgk).1;rw[HX.o]at this;exact this
       have wL:Hd ((L.take (k+1)).any (fun y=>decide (y.n=xn))=((L.take k).any (fun y=>decide (y.n=xn)) || decide (y.n=xn))):=by
        show _=_;rw[adL L xn k hkl,hy]
       obtain⟨q0,hq0⟩:=zN ((t0 || (L.take k).any (fun y=>decide (y.n=xn))));have bD:Hd ((t0 || (L.take (k+1)).any (fun y=>decide (y.n=xn)))=(q0 || decide (y.n=xn))):=by
        show _=_;rw[wL.o,<-Bool.or_assoc,hq0]
       try rw[hq0]
       clear hgk hy hq0
       by_cases hxy:y.n=xn
       ·have q:=JC hxy;have HV:Hd ((5:Int)=oM (t0 || (L.take (k+1)).any (fun y=>decide (y.n=xn)))):=by
         show _=_;rw[bD.o];simp[hxy,oM]
        go_wp2;go_quiet (fail);go_wp2;go_roundw
        case rel=>exact⟨k+1,by go_num,by rw[<-HV.o],by omega,aG jY.o _⟩
        case measure=>simp[intOf];omega
       ·have q:=zO hxy;have HV:Hd (oM q0=oM (t0 || (L.take (k+1)).any (fun y=>decide (y.n=xn)))):=by
         show _=_;rw[bD.o];simp[hxy]
        go_wp2;go_quiet (fail);go_wp2;go_roundw
        case rel=>exact⟨k+1,by go_num,by rw[<-HV.o],by omega,aG jY.o _⟩
        case measure=>simp[intOf];omega
      ·have hke:k=i:=by omega
       subst hke;clear hgk hk;have HV:Hd (oM (t0 || (L.take k).any (fun y=>decide (y.n=xn)))=oM (eY L (k+1))):=by
        show _=_;rw[Lh.o]
       obtain⟨E1,hE1⟩:=zN (oM (t0 || (L.take k).any (fun y=>decide (y.n=xn))));rw[hE1]at HV
       try rw[hE1]
       clear hE1;go_wp2;go_roundw
       case rel=>exact⟨k+1,by go_num,by rw[HV.o],by omega,HN.o (by trivial),jY.o⟩
       case measure=>simp[intOf];omega
  ·have hil:i=L.length:=by omega
   have HL:Hd (oM (eY L i)=R):=by
    show _=R;rw[hil,List.take_length]at hall;rw[hil];exact HE.o hall
   obtain⟨E1,hE1⟩:=zN (oM (eY L i));rw[hE1]at HL
   try rw[hE1]
   clear hall hg hil hi hE1;go_wp2;go_ret;exact⟨bM HL.o,HG.o⟩
theorem adN(w:World):Calls prog 19 #[.slice none 0 0] w fun e w'=>e=.returned (.int .i64 (dB []))/\w.grownBy w' none:=by
 have e0:dB []=0:=by simp[dB,eY]
 rw[e0];clear e0;go_enter func19,ntmps19;go_wp2;go_loopw [3,4] (fun ve vi wr=>vi=.int .i64 0/\ve=.int .i64 0/\w.grownBy wr none) (fun _ vi _=>0)
 case atStart=>exact⟨rfl,rfl,ak _ _⟩
 case round =>
  obtain⟨rfl,rfl,hb⟩:=hrel;have HB:=ae hb;clear hb;go_wp2;go_ret;exact⟨rfl,HB.o⟩
theorem TV(v:Value)(L:List Nd)(w:World)(h:NdS w v L)(hL:L.length<=1048576)(hS:∀x∈L,x.n.size<2 ^ 60/\x.r.size<2 ^ 60) :
  Calls prog 19 #[v] w fun e w'=>e=.returned (.int .i64 (dB L))/\w.grownBy w' none:=by
 rcases h with⟨rfl,rfl⟩|⟨a,cap,rfl,h2,h3⟩
 ·exact adN w
 ·exact adM a cap L w h2 h3 hL hS
open Go.RowKit
theorem yG{i:Nat}{P:List Re}{x:Re}(h:50<=i\/20<x.nd.length):nG i P x=4:=by unfold nG;rw[if_pos h]
theorem Lj{i:Nat}{P:List Re}{x:Re}(h:¬(50<=i\/20<x.nd.length))(h2:nameB x.nm=false\/okV x.ve=false\/dB x.nd=2):nG i P x=2:=by unfold nG;rw[if_neg h,if_pos h2]
theorem Ll{i:Nat}{P:List Re}{x:Re}(h:¬(50<=i\/20<x.nd.length))(h2:¬(nameB x.nm=false\/okV x.ve=false\/dB x.nd=2)):nG i P x=if dB x.nd=5\/P.any (iE x.nm x.ve)=true then 5 else 0:=by unfold nG;rw[if_neg h,if_neg h2]
theorem Gt{w:World}{N:Nat}{n v d:ByteArray}{sv:Value}{t:TypeId}(h:w.heap[N]?=some (.cells #[.string n,.string v,sv,.string d] t (0,0))):w.cell? ⟨N,0,none⟩=some (.string n)/\w.cell? ⟨N,1,none⟩=some (.string v)/\w.cell? ⟨N,2,none⟩=some sv/\w.cell? ⟨N,3,none⟩=some (.string d) :=
 ⟨by rw[ah h];rfl,by rw[ah h];rfl,by rw[ah h];rfl,by rw[ah h];rfl⟩
theorem adO{w:World}{a:Addr}{cap:Nat}{L:List Re}(i:Nat)(hi:i<=L.length)(hc:L.length<=cap)(h:∀j (hj:j<L.length),ReAt w (a.add (j*4)) L[j]):ReS w (.slice (some a) i cap) (L.take i):=by
 have hl:(L.take i).length=i:=by simp;omega
 refine Or.inr ⟨a,cap,by rw[hl],by omega,fun j hj=>?_⟩;rw[List.getElem_take];exact h j (by omega)
theorem adP(a:Addr)(cap:Nat)(L:List Re)(i:Nat)(w:World)(hi:i<L.length)(hcap:L.length<=cap)(h:∀j (hj:j<L.length),ReAt w (a.add (j*4)) L[j])(hL:L.length<=1048576)(hV:∀x∈L,x.nm.size<2 ^ 60/\x.ve.size<2 ^ 60)(hN:∀x∈L,x.nd.length<=1048576)(hS:∀x∈L,∀y∈x.nd,y.n.size<2 ^ 60/\y.r.size<2 ^ 60) :
  Calls prog 53 #[.slice (some a) L.length cap,.int .i64 i] w fun e w'=>e=.returned (.int .i64 (lC L i))/\w.grownBy w' none:=by
 rw[JZ L i hi];have HA:=ae h;obtain⟨x,hx⟩:=zN (L[i]);have hmem:x∈L:=by rw[<-hx];exact List.getElem_mem _
 obtain⟨e0,e1,⟨sv,e2,hsv⟩,e3⟩:ReAt w (a.add (i*4)) x:=by rw[<-hx];exact h i hi
 rw[hx];have HP:=ae (fun w' (hg:w.grownBy w' none)=>adO i (by omega) hcap fun j hj=>(HA.o j hj).grow hg);have uN:=ae hsv;obtain⟨so,sc,rfl⟩:=uh hsv;have CP:Hd (∀w,Calls prog 49 #[.string x.ve] w fun e w'=>(∃(x1 x2 x3:Int) (x4 x5:ByteArray) (k:Int),e=.returned (.tuple #[.agg #[.int .i64 x1,.int .i64 x2,.int .i64 x3,.string x4,.string x5],.int .i64 (gV x.ve.data.toList).1,.int .i64 k]))/\w.grownBy w' none):=fun w=>(parse_any x.ve w (by have:=(hV x hmem).2;omega)).mono fun e w' ⟨h1,h2⟩=>⟨⟨_,_,_,_,_,_,h1⟩,h2⟩
 have CN:=ae (fun w=>name_any x.nm w (by have:=(hV x hmem).1;omega));have CF:=ae (fun w (h:NdS w (.slice so x.nd.length sc) x.nd)=>TS _ x.nd w h (hN x hmem) (hS x hmem));have CI:=ae (fun w (h:ReS w (.slice (some a) i cap) (L.take i))=>RI _ (L.take i) x.nm x.ve w h (by simp;omega) (fun y hy=>by have:=(hV y (List.mem_of_mem_take hy)).2;omega) (by have:=(hV x hmem).2;omega));have mG:Hd (0<=oC x.nm x.ve (L.take i) 0↔(L.take i).any (iE x.nm x.ve)=true):=Q9 _ _ _ _;have hil:i<=1048576:=by omega
 have hiL:(i:Int)<(L.length:Int):=by omega
 have hic:i<=cap:=by omega
 clear h hV hN hS hmem hx hsv;obtain⟨R,hR⟩:=zN (nG i (L.take i) x);rw[hR]
 by_cases hm:50<=i
 ·have HR:=ae (hR.symm.trans (yG (Or.inl hm)));clear hR;go_enter func53,ntmps53;go_wp2;go_ret;exact⟨bM HR.o.symm,aj (ak w none) _⟩
 ·by_cases hn:20<x.nd.length
  ·have HR:=ae (hR.symm.trans (yG (Or.inr hn)));clear hR;go_enter func53,ntmps53;go_wp2;go_ret;exact⟨bM HR.o.symm,aj (ak w none) _⟩
  ·have yH:¬(50<=i\/20<x.nd.length):=by omega
   have HT:Hd (nameB x.nm=false\/okV x.ve=false\/dB x.nd=2->R=2):=fun h=>hR.symm.trans (Lj yH h)
   have HQ:Hd (¬(nameB x.nm=false\/okV x.ve=false\/dB x.nd=2)->R=if dB x.nd=5\/(L.take i).any (iE x.nm x.ve)=true then 5 else 0):=fun h=>hR.symm.trans (Ll yH h)
   have hok:okV x.ve=decide ((gV x.ve.data.toList).1=0):=rfl;rw[hok]at HT HQ;obtain⟨E,hE⟩:=zN ((gV x.ve.data.toList).1);rw[hE]at HT HQ CP;obtain⟨q,hq⟩:=zN (nameB x.nm);rw[hq]at HT HQ CN;obtain⟨W,hW⟩:=zN (dB x.nd);rw[hW]at HT HQ CF;obtain⟨F,hF⟩:=zN (oC x.nm x.ve (L.take i) 0);rw[hF]at mG CI;obtain⟨nn,hnn⟩:=zN (x.nd.length);rw[hnn]at uN CF e2 hn;obtain⟨xn,xv,xd,xa⟩:=x;simp only[]at CP CN CI e0 e1 e3 uN CF HQ mG;clear hR yH hok hE hq hW hF hnn;obtain⟨A,hA⟩:=zN (w.heap.size);go_enter func53,ntmps53;go_wp2_with (first|(go_at_call 49;refine(CP.o _).mono ?_));rintro e w1 ⟨⟨x1,x2,x3,x4,x5,k,rfl⟩,hg1⟩;obtain⟨c0,c1,c2,c3⟩:=Gt ((hg1.block w.heap.size (by simp) (by simp)).trans (heap_alloc_new w _));have bJ:=ae (ag (aj (ak w none) _) hg1);have TW:Hd (A<w1.heap.size):=by
    have:=hg1.size;simp at this;show A < _;omega
   try rw[hA]
   rw[hA]at c0 c1 c2 c3;have hal:=TW.o;clear hg1 e0 e1 e2 e3;have g1:=aj (ak w1 none) (.cells #[.int .i64 x1,.int .i64 x2,.int .i64 x3,.string x4,.string x5] 108);have d0:=g1.cell c0 (by simp);have d1:=g1.cell c1 (by simp);have d2:=g1.cell c2 (by simp);clear c0 c1 c2 c3;go_wp2_with (first|(go_at_call 29;refine(CF.o _ (uN.o.grow (ag bJ.o g1))).mono ?_));rintro e w2 ⟨rfl,hg2⟩;have f0:=hg2.cell d0 (by simp);have f1:=hg2.cell d1 (by simp);have HG2:=ae (ag bJ.o (ag g1 hg2));clear d0 d1 d2 g1 hg2 uN hal hA;have Ai:=ae (fun w' (hg:w2.grownBy w' none)=>HP.o w' (ag HG2.o hg))
   cases q with
   | false =>
    go_wp2_with (go_at_call 54;refine(CN.o _).mono ?_;rintro e w' ⟨rfl,rfl⟩);go_ret;exact⟨bM (HT.o (Or.inl (by trivial))).symm,HG2.o⟩
   | true =>
    by_cases hE:E=0
    ·subst hE
     by_cases hW2:W=2
     ·subst hW2;go_wp2_with (go_at_call 54;refine(CN.o _).mono ?_;rintro e w' ⟨rfl,rfl⟩);go_ret;exact⟨bM (HT.o (Or.inr (Or.inr (by trivial)))).symm,HG2.o⟩
     ·have hw2:(W == 2)=false:=by simp[hW2]
      have yI:Hd (R=if W=5\/(L.take i).any (iE xn xv)=true then 5 else 0):=HQ.o (by simp[hW2]);clear hW2
      by_cases hW5:W=5
      ·subst hW5;have HR:=ae (yI.o.trans (if_pos (Or.inl rfl)));have h55:((5:Int) == 5)=true:=rfl;go_wp2_with (go_at_call 54;refine(CN.o _).mono ?_;rintro e w' ⟨rfl,rfl⟩);go_quiet (fail);go_wp2;go_ret;exact⟨bM HR.o.symm,aG HG2.o _⟩
      ·have hw5:(W == 5)=false:=by simp[hW5]
       have tX:Hd (0<=F->R=5):=fun h=>yI.o.trans (if_pos (Or.inr (mG.o.1 h)))
       have HR0:Hd (¬0<=F->R=0):=fun h=>yI.o.trans (if_neg (fun h2=>h2.elim hW5 (fun h3=>h (mG.o.2 h3))))
       have CII:Hd (Calls prog 61 #[.slice (some a) i cap,.string xn,.string xv] w2.drew fun e w'=>e=.returned (.int .i64 F)/\w2.drew.grownBy w' none):=CI.o _ (Ai.o _ ⟨rfl,rfl,rfl,Nat.le_refl _,fun _ _ _=>rfl⟩);clear hW5;go_wp2_with (go_at_call 54;refine(CN.o _).mono ?_;rintro e w' ⟨rfl,rfl⟩)
       go_region_held3 (fun w'=>w'.cell? ⟨A,0,none⟩=some (.string xn)/\w'.cell? ⟨A,1,none⟩=some (.string xv)) ((first|exact⟨World.grownBy.cell (by assumption) (And.left (by assumption)) (by simp),World.grownBy.cell (by assumption) (And.right (by assumption)) (by simp)⟩|go_keep)) (first|(go_at_call 61;refine CII.o.mono ?_;rintro e w3 ⟨rfl,hg3⟩))
       have dJ:=ae (ag HG2.o (bZ hg3));clear hg3
       by_cases hF:0<=F
       ·go_wp2;go_ret;exact⟨bM (tX.o hF).symm,dJ.o⟩
       ·go_wp2;go_ret;exact⟨bM (HR0.o hF).symm,dJ.o⟩
    ·have hE1:(E != 0)=true:=by simp[hE]
     have HR:=ae (HT.o (Or.inr (Or.inl (by simp[hE]))));clear hE;go_wp2_with (go_at_call 54;refine(CN.o _).mono ?_;rintro e w' ⟨rfl,rfl⟩);go_ret;exact⟨bM HR.o.symm,HG2.o⟩
theorem check_any(v:Value)(L:List Re)(w:World)(h:ReS w v L)(hL:L.length<=1048576)(hV:∀x∈L,x.nm.size<2 ^ 60/\x.ve.size<2 ^ 60)(hN:∀x∈L,x.nd.length<=1048576)(hS:∀x∈L,∀y∈x.nd,y.n.size<2 ^ 60/\y.r.size<2 ^ 60) :
  Calls prog 28 #[v] w fun e w'=>e=.returned (.tuple #[.int .i64 (dV L L.length).1,.int .i64 ((dV L L.length).2:Int)])/\w.grownBy w' none:=by
 have H1:=ae h;have CF:=ae (fun(a:Addr) (cap:Nat) (i:Nat) (w:World) (h1:i<L.length) (h2:L.length<=cap) (h3:(∀j (hj:j<L.length),ReAt w (a.add (j*4)) L[j]))=>adP a cap L i w h1 h2 h3 hL hV hN hS);obtain⟨o,c,rfl⟩:∃o c,v=.slice o L.length c:=by
  rcases h with⟨rfl,rfl⟩|⟨a,cap,rfl,-⟩
  ·exact⟨_,_,rfl⟩
  ·exact⟨_,_,rfl⟩
 have HH:=ae (Rf L);have HM:=ae (Rh L);obtain⟨R,hR⟩:=zN (dV L L.length);have Lm:Hd (dV L (L.length-0)=R):=hR;rw[hR];clear h hV hN hS hR;go_enter func28,ntmps28;go_wp2;go_loopw [8] (fun vi wr=>∃i:Nat,vi=.int .i64 i/\i<=L.length/\dV L (L.length-i)=R/\w.grownBy wr none) (fun vi _=>L.length-(intOf vi).toNat)
 case atStart=>exact⟨0,rfl,Nat.zero_le _,Lm.o,ak _ _⟩
 case round =>
  obtain⟨i,rfl,hi,hc,hg⟩:=hrel;have HG:=ae hg;have HC:=ae hc
  by_cases hlt:i<L.length
  ·have Lp:Hd (Calls prog 53 #[.slice o L.length c,.int .i64 i] wr fun e w'=>e=.returned (.int .i64 (lC L i))/\wr.grownBy w' none):=by
    rcases H1.o.grow hg with⟨h1,h2⟩|⟨a,cap,h1,h2,h3⟩
    ·rw[h2]at hlt;simp at hlt
    ·cases h1
     exact CF.o a c i wr hlt h2 h3
   have yJ:Hd (¬lC L i=0->R=(lC L i,i)):=fun h=>HC.o.symm.trans (HH.o i hlt h)
   have Gu:=ae (fun(h:lC L i=0)=>(HM.o i hlt h).symm.trans HC.o);obtain⟨F,hF⟩:=zN (lC L i);rw[hF]at Lp yJ Gu;clear hF hc hg
   by_cases hz:F=0
   ·subst hz;go_wp2_with (go_at_call 53;refine Lp.o.mono ?_;rintro e w3 ⟨rfl,hg3⟩);exact⟨⟨i+1,by go_num,by omega,Gu.o (by trivial),ag HG.o hg3⟩,by simp[intOf];omega⟩
   ·have hz1:(F != 0)=true:=by simp[hz]
    have HR:=ae (yJ.o hz);clear hz;go_wp2_with (go_at_call 53;refine Lp.o.mono ?_;rintro e w3 ⟨rfl,hg3⟩);refine bodyPost_ret (results_tmp2 (t:=2) (u:=3) rfl _ _ _) rfl ⟨?_,ag HG.o hg3⟩;rw[HR.o];rfl
  ·have hil:i=L.length:=by omega
   have HR:Hd (R=(0,0)):=by
    show R=_;rw[<-hc,hil,Nat.sub_self];rfl
   clear hc hg hil hi;go_wp2;refine bodyPost_ret (results_tmp2 (t:=2) (u:=3) rfl _ _ _) rfl ⟨?_,HG.o⟩;rw[HR.o];rfl
open Go.RowKit Go.Maps
def jf(C:List Int)(k:Nat):Bool:=C.any fun c=>decide (c.toNat=k)
inductive Wt(N:List Nd)(L:List Re)(C:List Int):Nat->Prop
 | base (k:Nat):jf C k=true->qM N L k=true->Wt N L C k
 | step (k j:Nat) (hj:j<L.length):Wt N L C j->jf C k=true->qM L[j].nd L k=true->Wt N L C k
noncomputable def fU(N:List Nd)(L:List Re):Int:=if(dV L L.length).1=0 then dB N else 7
structure iO(N:List Nd)(L:List Re)(C:List Int):Prop where
 f:fU N L=0
 ok:kN L C C.length=true
 m0:∀j,j<N.length->∃q,jf C q=true/\lG N L j q=true
 m1:∀k (hk:k<L.length),jf C k=true->∀j,j<L[k].nd.length->∃q,jf C q=true/\lG L[k].nd L j q=true
 wt:∀k,jf C k=true->Wt N L C k
theorem TZ{N:List Nd}{L:List Re}{C:List Int}{k:Nat}(h:Wt N L C k):jf C k=true:=by cases h<;>assumption
theorem qP(C:List Int)(k:Nat):(dC C C.length).testBit k=jf C k:=by
 rw[PH C k C.length (Nat.le_refl _),List.take_length];rfl
theorem DV{N:List Nd}{L:List Re}{C:List Int}{x:Pl}(h:dO N L x):gY x.mt (dC C C.length)=true↔∀j,j<N.length->∃q,jf C q=true/\lG N L j q=true:=by
 unfold gY;rw[List.all_eq_true];constructor
 ·intro hm j hj;have hj':j<x.mt.length:=by rw[h.ln];exact hj
  have h1:=of_decide_eq_true (hm x.mt[j] (List.getElem_mem _));apply Classical.byContradiction;intro hn;refine h1 ((E8 _ _).2 fun q ⟨h2,h3⟩=>hn ⟨q,?_,?_⟩)
  ·rw[qP]at h3;exact h3
  ·rw[h.mt j hj']at h2;exact h2
 ·intro hm m hm2;obtain⟨j,hj,rfl⟩:=List.getElem_of_mem hm2;obtain⟨q,h1,h2⟩:=hm j (by rw[<-h.ln];exact hj);refine decide_eq_true fun h0=>(E8 _ _).1 h0 q ⟨?_,?_⟩
  ·rw[h.mt j hj];exact h2
  ·rw[qP];exact h1
theorem Lr(P:List Pl)(A:Nat):∀i,i<=P.length->(ja P A i=true↔∀k (hk:k<P.length),k<i->A.testBit k=true->gY P[k].mt A=true)
 | 0,_=>⟨fun _ k hk h=>by omega,fun _=>rfl⟩
 | i+1,h=>by
  rw[Jf P A i (by omega),Bool.and_eq_true,Lr P A i (by omega)];constructor
  ·rintro⟨h1,h2⟩ k hk hki hb
   by_cases he:k=i
   ·subst he;rw[hb]at h2;simpa using h2
   ·exact h1 k hk (by omega) hb
  ·intro h1;refine⟨fun k hk hki hb=>h1 k hk (by omega) hb,?_⟩
   cases hb:A.testBit i with
   | false=>rfl
   | true=>rw[h1 i (by omega) (by omega) hb];rfl
theorem Gw(P:List Pl)(A F k:Nat):∀i,i<=P.length->((jF P A F i).testBit k=true↔F.testBit k=true\/∃j,∃hj:j<P.length,j<i/\F.testBit j=true/\P[j].nam.testBit k=true/\A.testBit k=true)
 | 0,_=>⟨fun h=>Or.inl h,fun h=>by
  rcases h with h|⟨j,hj,h1,-⟩
  ·exact h
  ·omega⟩
 | i+1,h=>by
  have ih:=Gw P A F k i (by omega)
  cases hb:F.testBit i with
  | false =>
   rw[FQ P A F i hb,ih];constructor
   ·rintro(h1|⟨j,hj,h1,h2⟩)
    ·exact Or.inl h1
    ·exact Or.inr ⟨j,hj,by omega,h2⟩
   ·rintro(h1|⟨j,hj,h1,h2,h3⟩)
    ·exact Or.inl h1
    ·by_cases he:j=i
     ·subst he;rw[hb]at h2;cases h2
     ·exact Or.inr ⟨j,hj,by omega,h2,h3⟩
  | true =>
   rw[FP P A F i (by omega) hb,Nat.testBit_or,Nat.testBit_and,Bool.or_eq_true,ih,Bool.and_eq_true];constructor
   ·rintro((h1|⟨j,hj,h1,h2⟩)|⟨h1,h2⟩)
    ·exact Or.inl h1
    ·exact Or.inr ⟨j,hj,by omega,h2⟩
    ·exact Or.inr ⟨i,by omega,by omega,hb,h1,h2⟩
   ·rintro(h1|⟨j,hj,h1,h2,h3,h4⟩)
    ·exact Or.inl (Or.inl h1)
    ·by_cases he:j=i
     ·subst he;exact Or.inr ⟨h3,h4⟩
     ·exact Or.inl (Or.inr ⟨j,hj,by omega,h2,h3,h4⟩)
section
variable {N:List Nd} {L:List Re} {C:List Int} {x:Pl} {Q:List Pl}
theorem Gx(hx:dO N L x)(hl:Q.length=L.length)(hQ:∀j (h1:j<L.length) (h2:j<Q.length),dO L[j].nd L Q[j]):∀n k,(wN Q x.nam (dC C C.length) n).testBit k=true->Wt N L C k
 | 0,k,h=>by
  rw[wN,Nat.testBit_and,Bool.and_eq_true,hx.nam,qP]at h;exact .base k h.2 h.1
 | n+1,k,h=>by
  rw[wN,Gw _ _ _ _ _ (Nat.le_refl _)]at h
  rcases h with h|⟨j,hj,-,h2,h3,h4⟩
  ·exact Gx hx hl hQ n k h
  ·have hjl:j<L.length:=by omega
   rw[(hQ j hjl hj).nam]at h3;rw[qP]at h4;exact .step k j hjl (Gx hx hl hQ n j h2) h4 h3
theorem Ua(k:Nat):∀n,(wN Q x.nam (dC C C.length) 0).testBit k=true->(wN Q x.nam (dC C C.length) n).testBit k=true
 | 0,h=>h
 | n+1,h=>by
  rw[wN,Gw _ _ _ _ _ (Nat.le_refl _)];exact Or.inl (Ua k n h)
theorem adQ(hx:dO N L x)(hl:Q.length=L.length)(hQ:∀j (h1:j<L.length) (h2:j<Q.length),dO L[j].nd L Q[j])(n:Nat)(hf:wN Q x.nam (dC C C.length) (n+1)=wN Q x.nam (dC C C.length) n){k:Nat}(h:Wt N L C k):(wN Q x.nam (dC C C.length) n).testBit k=true:=by
 induction h with
 | base k h1 h2 =>
  refine Ua k n ?_;rw[wN,Nat.testBit_and,hx.nam,qP,h1,h2];rfl
 | step k j hj _ h1 h2 ih =>
  rw[<-hf,wN,Gw _ _ _ _ _ (Nat.le_refl _)];refine Or.inr ⟨j,by omega,by omega,ih,?_,?_⟩
  ·rw[(hQ j hj (by omega)).nam];exact h2
  ·rw[qP];exact h1
theorem adR(hx:dO N L x)(hl:Q.length=L.length)(hQ:∀j (h1:j<L.length) (h2:j<Q.length),dO L[j].nd L Q[j])(n:Nat)(hf:wN Q x.nam (dC C C.length) (n+1)=wN Q x.nam (dC C C.length) n):wN Q x.nam (dC C C.length) n=dC C C.length↔∀k,jf C k=true->Wt N L C k:=by
 constructor
 ·intro h k hk;refine Gx hx hl hQ n k ?_;rw[h,qP];exact hk
 ·intro h;refine Nat.eq_of_testBit_eq fun k=>?_
  rw[qP]
  cases hc:jf C k with
  | true=>exact adQ hx hl hQ n hf (h k hc)
  | false =>
   cases hb:(wN Q x.nam (dC C C.length) n).testBit k with
   | false=>rfl
   | true =>
    have:=TZ (Gx hx hl hQ n k hb);rw[hc]at this;cases this
theorem adS(hf:fU N L=0)(hok:kN L C C.length=true)(hx:dO N L x)(hl:Q.length=L.length)(hQ:∀j (h1:j<L.length) (h2:j<Q.length),dO L[j].nd L Q[j])(n:Nat)(hfx:wN Q x.nam (dC C C.length) (n+1)=wN Q x.nam (dC C C.length) n) :
  iO N L C↔(ja Q (dC C C.length) Q.length && gY x.mt (dC C C.length))=true/\wN Q x.nam (dC C C.length) n=dC C C.length:=by
 rw[Bool.and_eq_true,DV hx,Lr _ _ _ (Nat.le_refl _),adR hx hl hQ n hfx];constructor
 ·intro h;refine⟨⟨fun k hk _ hb=>?_,h.m0⟩,h.wt⟩;rw[qP]at hb;have hkl:k<L.length:=by omega
  exact(DV (hQ k hkl hk)).2 (h.m1 k hkl hb)
 ·rintro⟨⟨h1,h2⟩,h3⟩;refine⟨hf,hok,h2,fun k hk hc=>?_,h3⟩;have hkq:k<Q.length:=by omega
  exact(DV (hQ k hk hkq)).1 (h1 k hkq hkq (by rw[qP];exact hc))
end
theorem adT(L:List Re)(h:(dV L L.length).1=0):∀i,i<L.length->lC L i=0:=by
 have key:∀n,n<=L.length->(dV L n).1=0->∀i,L.length-n<=i->i<L.length->lC L i=0:=by
  intro n
  induction n with
  | zero=>intro _ _ i h1 h2;omega
  | succ n ih =>
   intro hn h0 i h1 h2
   by_cases he:lC L (L.length-(n+1))=0
   ·rw[dV,if_pos he]at h0
    by_cases hi:i=L.length-(n+1)
    ·rw[hi];exact he
    ·exact ih (by omega) h0 i (by omega) h2
   ·rw[dV,if_neg he]at h0;exact absurd h0 he
 intro i hi;exact key L.length (Nat.le_refl _) h i (by omega) hi
theorem Gy{N:List Nd}(h:dB N=0):∀y∈N,iF y=true:=by
 unfold dB at h;split at h
 ·rename_i ha;exact List.all_eq_true.1 ha
 ·exact absurd h (by decide)
theorem AA(L:List Re)(h:(dV L L.length).1=0):L.length<=50/\∀x∈L,x.nd.length<=20/\okV x.ve=true/\∀y∈x.nd,okR y.r=true:=by
 have h0:=adT L h;have h1:∀i (hi:i<L.length),i<50/\L[i].nd.length<=20/\okV L[i].ve=true/\dB L[i].nd=0:=fun i hi=>by
  have:=h0 i hi;rw[JZ L i hi]at this
  by_cases c1:50<=i\/20<L[i].nd.length
  ·rw[yG c1]at this;exact absurd this (by decide)
  ·by_cases c2:nameB L[i].nm=false\/okV L[i].ve=false\/dB L[i].nd=2
   ·rw[Lj c1 c2]at this;exact absurd this (by decide)
   ·rw[Ll c1 c2]at this;have c3:¬dB L[i].nd=5:=fun e=>by rw[if_pos (Or.inl e)]at this;exact absurd this (by decide)
    have c4:okV L[i].ve=true:=by
     cases hv:okV L[i].ve with
     | true=>rfl
     | false=>exact absurd (Or.inr (Or.inl hv)) c2
    refine⟨by omega,by omega,c4,?_⟩
    rcases Q8 L[i].nd with e|e|e
    ·exact e
    ·exact absurd (Or.inr (Or.inr e)) c2
    ·exact absurd e c3
 refine⟨?_,fun x hx=>?_⟩
 ·apply Classical.byContradiction;intro hn;have:=(h1 50 (by omega)).1;omega
 ·obtain⟨i,hi,rfl⟩:=List.getElem_of_mem hx;obtain⟨-,a1,a2,a3⟩:=h1 i hi;refine⟨a1,a2,fun y hy=>?_⟩;have:=Gy a3 y hy;unfold iF at this;rw[Bool.and_eq_true]at this;exact this.2
open Go.RowKit Go.Maps Go.Joins
theorem pO(w:World):w.grownBy w.drew none:=⟨rfl,rfl,rfl,Nat.le_refl _,fun _ _ _=>rfl⟩
theorem lI{w W:World}{q:Nat}(h:w.grownBy W none)(hq:w.heap.size<=q)(o:Nat)(v:Value):w.grownBy (W.setCell ⟨q,o,none⟩ v) none :=
 ⟨h.os,h.tape,h.output,by simpa [World.setCell] using h.size,fun k hk hn=>(heap_setCell_other W _ k _ (by show ¬k=q;omega)).trans (h.block k hk hn)⟩
theorem PSt.other{w:World}{b g n nam bar:Nat}{M:List Nat}(h:PSt w b g n nam bar M){q:Nat}(h1:¬q=b)(h2:¬q=g)(o:Nat)(v:Value):PSt (w.setCell ⟨q,o,none⟩ v) b g n nam bar M :=
 ⟨(heap_setCell_other w _ b _ (by show ¬b=q;exact fun e=>h1 e.symm)).trans h.1,(heap_setCell_other w _ g _ (by show ¬g=q;exact fun e=>h2 e.symm)).trans h.2.1,h.2.2⟩
theorem adU(s:ByteArray)(w:World)(hs:s.size<2 ^ 60)(ho:okR s=true):Calls prog 78 #[.string s] w fun e w'=>∃(o:Option Addr) (n c:Nat) (E K:Int) (S:List Sp),e=.returned (.tuple #[.slice o n c,.int .i64 E,.int .i64 K])/\(OS w' w.heap.size (.slice o n c) S/\LOk S 70000/\Has S (jq (fP s.data.toList).2.2))/\w.grownBy w' none:=by
 have h0:(fP s.data.toList).1=0:=of_decide_eq_true ho;refine(S9 s w (by omega)).mono ?_;rintro e w' ⟨o,n,c,rfl,hg,-,hok⟩;obtain⟨T,h1,h2,h3,h4⟩:=hok h0;exact⟨o,n,c,_,_,_,rfl,⟨h1,h2,h4⟩,hg⟩
theorem adV(sl:Value)(S:List Sp)(f:V->Bool)(s:ByteArray)(w:World)(h:SpS w sl S)(hk:LOk S 70000)(hh:Has S f)(hv:okV s=true):Calls prog 79 #[sl,jP (bi s)] w fun e w'=>e=.returned (.bool (f (cutV (bi s))))/\w.grownBy w' none:=by
 have:=zM s;refine(XK sl S _ _ _ _ _ w h (by have:=hk.ln;omega) hk.sm (by show(bi s).pre.toArray.size<=_;simp;omega)).mono ?_;rintro e w' ⟨rfl,hg⟩;refine⟨aJ ?_,hg⟩;rw[<-hh _ (acU hv)];simp[cutV]
theorem Ub(o o':Option Addr)(c c':Nat)(a:Addr)(N:List Nd)(L:List Re)(w:World)(h:NdS w (.slice o N.length c) N)(h':ReS w (.slice o' L.length c') L)(hv:VrS w a L)(hvo:∀x∈L,okV x.ve=true)(hr:∀y∈N,okR y.r=true)(hN:N.length<=1048576)(hL:L.length<=64)(hS:∀y∈N,y.n.size<2 ^ 60/\y.r.size<2 ^ 60) :
  Calls prog 50 #[.slice o N.length c,.slice o' L.length c',.slice (some a) L.length L.length] w fun e w'=>∃(x:Pl) (g:Nat),e=.returned (.agg #[.int .u64 (x.nam:Nat),.int .u64 (x.bar:Nat),.slice (some ⟨g,0,none⟩) N.length N.length])/\w'.heap[g]?=some (.cells (iM x.mt) 64 (0,0))/\dO N L x/\w.grownBy w' none:=by
 have xQ:Hd (∀w',w.grownBy w' none->∀i,i<N.length->∃a,o=some a/\N.length<=c/\∀j (hj:j<N.length),NdAt w' (a.add (j*2)) N[j]):=fun w' hg i hi=>Gs (h.grow hg) hi
 have kH:Hd (∀w',w.grownBy w' none->∀i,i<L.length->∃a,o'=some a/\L.length<=c'/\∀j (hj:j<L.length),ReAt w' (a.add (j*4)) L[j]):=fun w' hg i hi=>rG (h'.grow hg) hi
 have HEV:Hd (∀w',w.grownBy w' none->VrS w' a L):=fun w' hg=>hv.grow hg
 have CP:Hd (∀y∈N,∀w,Calls prog 78 #[.string y.r] w fun e w'=>∃(o:Option Addr) (n c:Nat) (E K:Int) (S:List Sp),e=.returned (.tuple #[.slice o n c,.int .i64 E,.int .i64 K])/\(OS w' w.heap.size (.slice o n c) S/\LOk S 70000/\Has S (jq (fP y.r.data.toList).2.2))/\w.grownBy w' none):=fun y hy w=>adU y.r w (hS y hy).2 (hr y hy)
 have HVO:Hd (∀x∈L,okV x.ve=true):=hvo;have CO:Hd (∀k w,k<64->Calls prog 48 #[.int .i64 (k:Nat)] w fun e w'=>e=.returned (.int .u64 ((2 ^ k:Nat):Int))/\w'=w):=fun k w hk=>Fa k hk w
 obtain⟨R0,hR0⟩:=zN w.heap.size;have HR0:Hd (w.heap.size=R0):=hR0;have hmk:=adA N.length hN (w.alloc (.cells #[.int .u64 0,.int .u64 0,.slice none 0 0] 69));rw[World.size_alloc,hR0]at hmk;clear h h' hv hvo hr hS;go_enter func50,ntmps50;go_wp2;obtain⟨G,hG⟩:=zN (R0+1);obtain⟨B,hB⟩:=zN (G+1);rw[hG,hB];have bn:Hd (R0+1=G/\G+1=B):=⟨hG,hB⟩;have Uc:Hd (PSt (((w.alloc (.cells #[.int .u64 0,.int .u64 0,.slice none 0 0] 69)).alloc (.cells (iM (List.replicate N.length 0)) 64)).alloc (.cells #[.int .u64 0,.int .u64 0,.slice (some ⟨G,0,none⟩) N.length N.length] 69)) B G N.length 0 0 (List.replicate N.length 0)):=by
  have s1:(w.alloc (.cells #[.int .u64 0,.int .u64 0,.slice none 0 0] 69)).heap.size=G:=by rw[World.size_alloc,HR0.o,hG]
  have s2:((w.alloc (.cells #[.int .u64 0,.int .u64 0,.slice none 0 0] 69)).alloc (.cells (iM (List.replicate N.length 0)) 64)).heap.size=B:=by rw[World.size_alloc,s1,hB]
  refine⟨?_,?_,by simp⟩
  ·have:=heap_alloc_new ((w.alloc (.cells #[.int .u64 0,.int .u64 0,.slice none 0 0] 69)).alloc (.cells (iM (List.replicate N.length 0)) 64)) (.cells #[.int .u64 0,.int .u64 0,.slice (some ⟨G,0,none⟩) N.length N.length] 69);rw[s2]at this;exact this
  ·have:=heap_alloc_new (w.alloc (.cells #[.int .u64 0,.int .u64 0,.slice none 0 0] 69)) (.cells (iM (List.replicate N.length 0)) 64);rw[s1]at this;exact((aj (ak _ none) _).block G (by rw[s2];omega) (by simp)).trans this
 have jk:Hd (w.grownBy (((w.alloc (.cells #[.int .u64 0,.int .u64 0,.slice none 0 0] 69)).alloc (.cells (iM (List.replicate N.length 0)) 64)).alloc (.cells #[.int .u64 0,.int .u64 0,.slice (some ⟨G,0,none⟩) N.length N.length] 69)) none):=aj (aj (aj (ak w none) _) _) _;have iP:Hd ((((w.alloc (.cells #[.int .u64 0,.int .u64 0,.slice none 0 0] 69)).alloc (.cells (iM (List.replicate N.length 0)) 64)).alloc (.cells #[.int .u64 0,.int .u64 0,.slice (some ⟨G,0,none⟩) N.length N.length] 69)).heap[R0]?=some (.cells #[.int .u64 0,.int .u64 0,.slice none 0 0] 69 (0,0))/\B<(((w.alloc (.cells #[.int .u64 0,.int .u64 0,.slice none 0 0] 69)).alloc (.cells (iM (List.replicate N.length 0)) 64)).alloc (.cells #[.int .u64 0,.int .u64 0,.slice (some ⟨G,0,none⟩) N.length N.length] 69)).heap.size):=by
  have:=heap_alloc_new w (.cells #[.int .u64 0,.int .u64 0,.slice none 0 0] 69);rw[HR0.o]at this;refine⟨((aj (aj (ak _ none) _) _).block R0 (by rw[World.size_alloc,HR0.o];omega) (by simp)).trans this,?_⟩;rw[World.size_alloc,World.size_alloc,World.size_alloc,HR0.o];omega
 generalize (((w.alloc (.cells #[.int .u64 0,.int .u64 0,.slice none 0 0] 69)).alloc (.cells (iM (List.replicate N.length 0)) 64)).alloc (.cells #[.int .u64 0,.int .u64 0,.slice (some ⟨G,0,none⟩) N.length N.length] 69))=W0 at Uc jk iP ⊢;clear hmk hR0 hG hB;go_loopw [21] (fun vi wr=>∃(i nam bar:Nat) (M:List Nat),vi=.int .i64 i/\i<=N.length/\PSt wr B G N.length nam bar M/\kY N L i 0 nam bar M/\E2 B G W0 wr) (fun vi _=>N.length-(intOf vi).toNat)
 case atStart=>exact⟨0,0,0,_,rfl,Nat.zero_le _,Uc.o,adB N L _,E2.refl _ _ _⟩
 case round =>
  obtain⟨i,nam,bar,M,rfl,hi,hst,hpb,he⟩:=hrel;have bT:Hd (w.grownBy wr none):=he.gb jk.o (by have:=bn.o;have:=HR0.o;omega) (by have:=bn.o;have:=HR0.o;omega);have jC:Hd (E2 B G W0 wr):=he;obtain⟨wo,hwo⟩:∃wo,wo=wr:=⟨_,rfl⟩;subst hwo
  by_cases hlt:i<N.length
  ·obtain⟨a1,ho,hcp,hat⟩:=xQ.o wo bT.o i hlt;obtain⟨e0,e1⟩:=hat i hlt;have Au:=CP.o N[i] (List.getElem_mem hlt);have adW:Hd (∀k,jd N[i].r (jr L k)=jq (fP N[i].r.data.toList).2.2 (cutV (bi (jr L k)))):=fun k=>rfl
   obtain⟨y,hy⟩:=zN (N[i]);have HY:Hd (N[i]=y):=hy;rw[hy]at e0 e1 Au adW;have Lt:Hd (∀w,Calls prog 78 #[.string y.r] w fun e w'=>∃(o:Option Addr) (n c:Nat) (E K:Int) (S:List Sp),e=.returned (.tuple #[.slice o n c,.int .i64 E,.int .i64 K])/\(OS w' w.heap.size (.slice o n c) S/\LOk S 70000/\Has S (jq (fP y.r.data.toList).2.2))/\w.grownBy w' none):=Au;have hic:i<c:=by omega
   have HST:Hd (PSt wo B G N.length nam bar M):=hst;have HPB:Hd (kY N L i 0 nam bar M):=hpb;obtain⟨Y0,hY0⟩:=zN wo.heap.size;have Ud:Hd (wo.heap.size=Y0):=hY0;have Ue:Hd ((wo.alloc (.cells #[.string y.n,.string y.r] 50)).heap[Y0]?=some (.cells #[.string y.n,.string y.r] 50 (0,0))):=by rw[<-hY0];exact heap_alloc_new wo _
   have bJ:Hd (wo.grownBy (wo.alloc (.cells #[.string y.n,.string y.r] 50)) none):=aj (ak wo none) _;subst ho;clear hat hcp hst hpb he Au hy;go_wp2_with (go_at_call 78;refine(Lt.o _).mono ?_);rintro e w2 ⟨oS,nS,cS,E,K,S,rfl,⟨hos,hlk,hhas⟩,hg2⟩;have cu:Hd (OS w2 (Y0+1) (.slice oS nS cS) S/\LOk S 70000/\Has S (jq (fP y.r.data.toList).2.2)):=by
    refine⟨?_,hlk,hhas⟩;rw[World.size_alloc,Ud.o]at hos;exact hos
   have Uf:Hd (w2.heap[Y0]?=some (.cells #[.string y.n,.string y.r] 50 (0,0))):=(hg2.block Y0 (aB Ue.o) (by simp)).trans Ue.o;have HG2:Hd (wo.grownBy w2 none):=ag bJ.o hg2;have Lu:Hd (PSt w2 B G N.length nam bar M):=HST.o.grow HG2.o;have HE2:Hd (E2 B G W0 w2):=jC.o.then HG2.o;have ji:Hd (B<Y0):=by
    have:=iP.o.2;have:=jC.o.size;have:=Ud.o;show B<Y0;omega
   try rw[hY0]
   clear hos hlk hhas hg2 hY0 e0 e1;go_wp2;go_loopw [35] (fun vk wr=>∃(k nam bar:Nat) (M:List Nat),vk=.int .i64 k/\k<=L.length/\PSt wr B G N.length nam bar M/\kY N L i k nam bar M/\E2 B G w2 wr) (fun vk _=>L.length-(intOf vk).toNat)
   case atStart=>exact⟨0,nam,bar,M,rfl,Nat.zero_le _,Lu.o,HPB.o,E2.refl _ _ _⟩
   case round =>
    obtain⟨k,nam,bar,M,rfl,hk,hst,hpb,he⟩:=hrel;have HW2:Hd (w.grownBy w2 none):=HE2.o.gb jk.o (by have:=bn.o;have:=HR0.o;omega) (by have:=bn.o;have:=HR0.o;omega);have adX:Hd (w.grownBy wr none):=he.gb HW2.o (by have:=bn.o;have:=HR0.o;omega) (by have:=bn.o;have:=HR0.o;omega);have HEk:Hd (E2 B G w2 wr):=he;have Ug:Hd (PSt wr B G N.length nam bar M):=hst;have AB:Hd (kY N L i k nam bar M):=hpb
    by_cases hkl:k<L.length
    ·obtain⟨a2,ho2,hcp2,kC⟩:=kH.o wr adX.o k hkl;obtain⟨f0,f1,⟨sv,f2,f2'⟩,f3⟩:=kC k hkl;have hvk:=HVO.o _ (List.getElem_mem hkl);have Gz:Hd (aZ L k=L[k].nm/\jr L k=L[k].ve):=⟨qp L k hkl,Tc L k hkl⟩;obtain⟨x,hx⟩:=zN (L[k]);have HX:Hd (L[k]=x):=hx;rw[hx]at f0 f1 f2' f3 hvk Gz;obtain⟨so,sn,sc,rfl⟩:∃o n c,sv=.slice o n c:=by
      rcases f2' with⟨rfl,-⟩|⟨_,_,rfl,-⟩<;>exact⟨_,_,_,rfl⟩
     have hyb:wr.heap[Y0]?=some (.cells #[.string y.n,.string y.r] 50 (0,0)):=(he.block Y0 (aB Uf.o) (by have:=ji.o;omega) (by have:=ji.o;have:=bn.o;omega)).trans Uf.o;have yc:=(aj (ak wr none) (.cells #[.string x.nm,.string x.ve,.slice so sn sc,.string x.da] 52)).cell (show wr.cell? ⟨Y0,0,none⟩=some (.string y.n) by rw[ah hyb];rfl) (by simp);have hkc:k<c':=by omega
     obtain⟨W3,hW3⟩:=zN (wr.alloc (.cells #[.string x.nm,.string x.ve,.slice so sn sc,.string x.da] 52));have hx0:W3.cell? ⟨wr.heap.size,0,none⟩=some (.string x.nm):=by
      rw[<-hW3,ah (heap_alloc_new wr _)];rfl
     rw[hW3]at yc;have dJ:Hd (wr.grownBy W3 none):=by rw[<-hW3];exact aj (ak wr none) _
     have LC:Hd (PSt W3 B G N.length nam bar M):=Ug.o.grow dJ.o;have EQ:Hd (E2 B G w2 W3):=HEk.o.then dJ.o;subst ho2;clear kC hcp2 hst hpb he hx f2' hyb
     by_cases hn:x.nm=y.n
     ·have hnn:(x.nm.toList == y.n.toList)=true:=by rw[hn];simp
      have mX:Hd (N[i].n=aZ L k):=by show _=_;rw[HY.o,Gz.o.1];exact hn.symm
      obtain⟨p0,p1,p2,pf⟩:=LC.o.cells;have pf0:=pf 0;have hnl:=AB.o.n1;have sG:=bits_or_u64_nat nam (2 ^ k) hnl (og (by omega));have C1:Hd (∀w,Calls prog 48 #[.int .i64 (k:Nat)] w fun e w'=>e=.returned (.int .u64 ((2 ^ k:Nat):Int))/\w'=w):=fun w=>CO.o k w (by omega)
      obtain⟨X,hX⟩:=zN (nam ||| 2 ^ k)
      obtain⟨Z,hZ⟩:∃Z:Nat,2 ^ k=Z:=⟨_,rfl⟩;have Uh:Hd (nam ||| 2 ^ k=X):=hX;rw[hX]at sG;rw[hZ]at C1 sG;have Ui:Hd (2 ^ k=Z):=hZ;clear hn pf hX hZ hnl p1 p2;go_upto_region 10 with fail
      go_region_with (first|(go_at_call 48;refine(C1.o _).mono ?_;rintro e w' ⟨rfl,rfl⟩))
      all_goals (
       obtain⟨W4,gp⟩:=zN ((W3.setCell ⟨B,0,none⟩ (.int .u64 (X:Nat))).drew);have tN:Hd (¬G=B):=by have:=bn.o;show ¬G=B;omega
       have Uj:Hd (PSt W4 B G N.length X bar M):=by rw[<-gp];exact(LC.o.nam tN.o X).grow (pO _)
       have GG:Hd (E2 B G w2 W4):=by rw[<-gp];exact(EQ.o.set (Or.inl rfl) 0 _).then (pO _)
       have adY:Hd (w.grownBy W4 none):=GG.o.gb HW2.o (by have:=bn.o;have:=HR0.o;omega) (by have:=bn.o;have:=HR0.o;omega);obtain⟨g0,g1,g2,g3,g4⟩:=HEV.o W4 adY.o k hkl;rw[HX.o]at g0 g1 g2 g3 g4;have CH:Hd (Calls prog 79 #[.slice oS nS cS,jP (bi x.ve)] W4 fun e w'=>e=.returned (.bool (jq (fP y.r.data.toList).2.2 (cutV (bi x.ve))))/\W4.grownBy w' none):=adV _ S _ x.ve W4 (GG.o.own cu.o.1 (by have:=ji.o;omega) (by have:=ji.o;have:=bn.o;omega)).sps cu.o.2.1 cu.o.2.2 hvk;unfold jP at CH;obtain⟨v1,hv1⟩:=zN ((bi x.ve).major);obtain⟨v2,hv2⟩:=zN ((bi x.ve).minor);obtain⟨v3,hv3⟩:=zN ((bi x.ve).patch);obtain⟨v4,hv4⟩:∃v:ByteArray,⟨(bi x.ve).pre.toArray⟩=v:=⟨_,rfl⟩;obtain⟨v5,hv5⟩:∃v:ByteArray,⟨(bi x.ve).build.toArray⟩=v:=⟨_,rfl⟩;rw[hv1]at CH g0;rw[hv2]at CH g1;rw[hv3]at CH g2;rw[hv4]at CH g3
       rw[hv5]at CH g4;have HQ:Hd (jd N[i].r (jr L k)=jq (fP y.r.data.toList).2.2 (cutV (bi x.ve))):=by show _=_;rw[HY.o,Gz.o.2];rfl
       obtain⟨q,hq⟩:=zN (jq (fP y.r.data.toList).2.2 (cutV (bi x.ve)));rw[hq]at CH HQ;rw[gp];clear gp hW3 hv1 hv2 hv3 hv4 hv5 hq hx0 yc p0 pf0 f0 f1 f2 f3 hnn sG
       cases q with
       | true =>
        go_wp2_with (go_at_call 79;refine CH.o.mono ?_);rintro e w5 ⟨rfl,hg5⟩;have yK:Hd (PSt w5 B G N.length X bar M):=Uj.o.grow hg5;have LD:Hd (E2 B G w2 w5):=GG.o.then hg5;have hiM:i<M.length:=by rw[yK.o.2.2];exact hlt
        obtain⟨r0,r1⟩:=yK.o.cell i hiM;obtain⟨-,-,p2,-⟩:=yK.o.cells;have sG:=bits_or_u64_nat M[i] (2 ^ k) (AB.o.n3 _ (List.getElem_mem _)) (og (by omega));have wM:Hd (kY N L i (k+1) (nam ||| 2 ^ k) bar (M.set i (M[i] ||| 2 ^ k))):=adE AB.o hlt hkl (by omega) mX.o HQ.o hiM;obtain⟨m,hm⟩:=zN (M[i]);obtain⟨m',hm'⟩:=zN (m ||| 2 ^ k)
        rw[hm]at r0 sG wM;rw[hm']at sG wM;rw[Ui.o]at sG;rw[Uh.o]at wM;clear hm hm' hg5 g0 g1 g2 g3 g4;go_upto_region 12 with fail
        go_region_with (first|(go_at_call 48;refine(C1.o _).mono ?_;rintro e w' ⟨rfl,rfl⟩))
        all_goals (
         have LG:Hd (PSt ((w5.setCell ⟨G,i,none⟩ (.int .u64 (m':Nat))).drew) B G N.length X bar (M.set i m')):=(yK.o.met tN.o i m').grow (pO _);have LH:Hd (E2 B G w2 ((w5.setCell ⟨G,i,none⟩ (.int .u64 (m':Nat))).drew)):=(LD.o.set (Or.inr rfl) i _).then (pO _);go_wp2;go_roundw
         case rel=>exact⟨k+1,X,bar,M.set i m',by go_num,by omega,LG.o,wM.o,LH.o⟩
         case measure=>simp[intOf];omega)
       | false =>
        go_wp2_with (first|(go_at_call 79;refine CH.o.mono ?_));rintro e w5 ⟨rfl,hg5⟩;have yK:Hd (PSt w5 B G N.length X bar M):=Uj.o.grow hg5;have LD:Hd (E2 B G w2 w5):=GG.o.then hg5;obtain⟨-,p1,-,pf⟩:=yK.o.cells;have pf1:=pf 1;have sG:=bits_or_u64_nat bar (2 ^ k) AB.o.n2 (og (by omega));have wM:Hd (kY N L i (k+1) (nam ||| 2 ^ k) (bar ||| 2 ^ k) M):=adF AB.o hlt hkl (by omega) mX.o HQ.o;obtain⟨m',hm'⟩:=zN (bar ||| 2 ^ k)
        rw[hm']at sG wM;rw[Ui.o]at sG;rw[Uh.o]at wM;clear hm' hg5 g0 g1 g2 g3 g4 pf;go_upto_region 13 with fail
        go_region_with (first|(go_at_call 48;refine(C1.o _).mono ?_;rintro e w' ⟨rfl,rfl⟩))
        all_goals (
         have LG:Hd (PSt ((w5.setCell ⟨B,1,none⟩ (.int .u64 (m':Nat))).drew) B G N.length X m' M):=(yK.o.bar tN.o m').grow (pO _);have LH:Hd (E2 B G w2 ((w5.setCell ⟨B,1,none⟩ (.int .u64 (m':Nat))).drew)):=(LD.o.set (Or.inl rfl) 1 _).then (pO _);go_wp2;go_roundw
         case rel=>exact⟨k+1,X,m',M,by go_num,by omega,LG.o,wM.o,LH.o⟩
         case measure=>simp[intOf];omega))
     ·have hnn:(x.nm.toList == y.n.toList)=false:=zO hn;have LJ:Hd (kY N L i (k+1) nam bar M):=adD AB.o hlt hkl (by rw[HY.o,Gz.o.1];exact fun e=>hn e.symm);clear hn;go_wp2;go_roundw
      case rel=>exact⟨k+1,nam,bar,M,by go_num,by omega,LC.o,LJ.o,EQ.o⟩
      case measure=>simp[intOf];omega
    ·have hke:k=L.length:=by omega
     have LJ:Hd (kY N L (i+1) 0 nam bar M):=by
      rw[hke]at hpb;exact adC hpb hlt
     have adZ:Hd (E2 B G W0 wr):=by
      refine⟨he.os.trans HE2.o.os,he.tape.trans HE2.o.tape,he.output.trans HE2.o.output,Nat.le_trans HE2.o.size he.size,fun q hq h1 h2=>(he.block q (Nat.lt_of_lt_of_le hq HE2.o.size) h1 h2).trans (HE2.o.block q hq h1 h2)⟩
     clear hst hpb he hke hk;go_wp2;go_roundw
     case rel=>exact⟨i+1,nam,bar,M,by go_num,by omega,Ug.o,LJ.o,adZ.o⟩
     case measure=>simp[intOf];omega
  ·have hil:i=N.length:=by omega
   have DW:Hd (dO N L ⟨nam,bar,M⟩):=by
    rw[hil]at hpb;exact adG hpb hst.2.2 hN
   have HST:Hd (PSt wo B G N.length nam bar M):=hst;obtain⟨p0,p1,p2,-⟩:=hst.cells;have hrb:wo.heap[R0]?=some (.cells #[.int .u64 0,.int .u64 0,.slice none 0 0] 69 (0,0)):=(he.block R0 (by have:=iP.o.2;have:=bn.o;omega) (by have:=bn.o;omega) (by have:=bn.o;omega)).trans iP.o.1;have ad1:Hd (wo.heap[R0]?=some (.cells #[.int .u64 0,.int .u64 0,.slice none 0 0] 69 (0,0))):=hrb;have q0:wo.cell? ⟨R0,0,none⟩=some (.int .u64 0):=by rw[ah hrb];rfl
   have q1:wo.cell? ⟨R0,1,none⟩=some (.int .u64 0):=by rw[ah hrb];rfl
   have q2:wo.cell? ⟨R0,2,none⟩=some (.slice none 0 0):=by rw[ah hrb];rfl
   have qf0:=Lib.frozen_of_heap hrb 0;have qf1:=Lib.frozen_of_heap hrb 1;have qf2:=Lib.frozen_of_heap hrb 2;clear hst hpb he hil hi hrb;go_wp2;have hb1:=block_setCell (i:=0) ad1.o (.int .u64 (nam:Nat));have hb2:=block_setCell (i:=1) hb1 (.int .u64 (bar:Nat));have hb3:=block_setCell (i:=2) hb2 (.slice (some ⟨G,0,none⟩) N.length N.length);have hneq:¬R0=B/\¬R0=G:=by have:=bn.o;omega
   have ad2:=((HST.o.other (q:=R0) hneq.1 hneq.2 0 (.int .u64 (nam:Nat))).other (q:=R0) hneq.1 hneq.2 1 (.int .u64 (bar:Nat))).other (q:=R0) hneq.1 hneq.2 2 (.slice (some ⟨G,0,none⟩) N.length N.length);have nI:w.grownBy (((wo.setCell ⟨R0,0,none⟩ (.int .u64 (nam:Nat))).setCell ⟨R0,1,none⟩ (.int .u64 (bar:Nat))).setCell ⟨R0,2,none⟩ (.slice (some ⟨G,0,none⟩) N.length N.length)) none:=lI (lI (lI bT.o (Nat.le_of_eq HR0.o) _ _) (Nat.le_of_eq HR0.o) _ _) (Nat.le_of_eq HR0.o) _ _;refine bodyPost_ret (results_cell_row rfl _ _ R0 69 #[.int .u64 (nam:Nat),.int .u64 (bar:Nat),.slice (some ⟨G,0,none⟩) N.length N.length] (0,0) _ rfl ?_ underlying69 rfl (by kernel_rfl)) rfl ⟨⟨nam,bar,M⟩,G,rfl,ad2.2.1,DW.o,nI⟩;exact hb3
end Go.Proofs.YteciokcdpadmpaaGreatDoor
