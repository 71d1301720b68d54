import Derived.Test.YtapodndfpecglaaGreatDoorK30
import Derived.Test.YtapodndfpecglaaGreatDoorK25
import Derived.Test.YtapodndfpecglaaGreatDoorK22
set_option linter.all false
set_option maxRecDepth 100000
set_option maxHeartbeats 0
open Go.Proofs.Tryz
namespace Go.Proofs.YtapodndfpecglaaGreatDoor
open Go.RowKit
theorem ac4:(prog.info? 135).map (fun i=>(i.zero,i.size,i.bytes))=some (some (.slice none 0 0),1,24):=by kernel_rfl
def OA(w:World)(base:Nat)(sv:Value)(A:List (List Tq)):Prop :=
 ∃vals:List Value,w.ownsRow base 135 1 sv A.length vals/\vals.length=A.length/\∀i (hi:i<A.length),∃o n c,vals[i]?=some (.slice o n c)/\OT w base (.slice o n c) A[i]
theorem ac5{w w':World}{base:Nat}{e:TypeId}{size n:Nat}{v:Value}{xs:List Value}{b:Nat}(h:w.ownsRow base e size v n xs)(hg:w.grownBy w' (some b))(hb:b<base):w'.ownsRow base e size v n xs:=by
 refine⟨h.1,?_⟩
 rcases h.2 with hn|⟨g,cap,cur,hv,hbg,hc,rest⟩
 ·exact Or.inl hn
 ·refine Or.inr ⟨g,cap,cur,hv,hbg,?_,rest⟩;rw[hg.block g ((aA hc)) (by simp;omega)];exact hc
theorem OA.growb{w w':World}{base:Nat}{sv:Value}{A:List (List Tq)}{b:Nat}(h:OA w base sv A)(hg:w.grownBy w' (some b))(hb:b<base):OA w' base sv A:=by
 obtain⟨vals,h1,h2,h3⟩:=h;refine⟨vals,ac5 h1 hg hb,h2,fun i hi=>?_⟩;obtain⟨o,n,c,h4,h5⟩:=h3 i hi;exact⟨o,n,c,h4,h5.growb hg hb⟩
theorem OA.grow{w w':World}{base:Nat}{sv:Value}{A:List (List Tq)}(h:OA w base sv A)(hg:w.grownBy w' none):OA w' base sv A:=by
 obtain⟨vals,h1,h2,h3⟩:=h;refine⟨vals,oN h1 hg,h2,fun i hi=>?_⟩;obtain⟨o,n,c,h4,h5⟩:=h3 i hi;exact⟨o,n,c,h4,h5.grow hg⟩
theorem RY(w:World)(b o:Nat)(v:Value):w.grownBy (w.setCell ⟨b,o,none⟩ v) (some b):=bF (ak w _) o v
theorem ac6:(135:Nat)≠141:=by decide
theorem OT.keepA{w w':World}{base:Nat}{sl sv:Value}{L:List Tq}{n:Nat}{xs:List Value}(h:OT w base sl L)(hs:w.ownsRow base 135 1 sv n xs)(hg:w.grownBy w' sv.ownBlock):OT w' base sl L:=by
 refine⟨h.1,?_⟩
 rcases h.2 with hn|⟨g,cap,cur,hv,hbg,hc,rest⟩
 ·exact Or.inl hn
 ·refine Or.inr ⟨g,cap,cur,hv,hbg,?_,rest⟩;rw[hg.block g ((aA hc)) ?_]
  ·exact hc
  ·intro e
   rcases hs.2 with⟨h1,_⟩|⟨g',cap',cur',hv',_,hc',_⟩
   ·rw[h1]at e;cases e
   ·rw[hv']at e;simp only[Value.ownBlock,Option.some.injEq]at e;rw[e,hc']at hc;simp only[Option.some.injEq,Obj.cells.injEq]at hc;exact ac6 hc.2.1
theorem OA.push{w w':World}{base:Nat}{sv v':Value}{A:List (List Tq)}{o:Option Addr}{n c:Nat}{L:List Tq}{vals:List Value}(h1:w.ownsRow base 135 1 sv A.length vals)(h2:vals.length=A.length)(h3:∀i (hi:i<A.length),∃o n c,vals[i]?=some (.slice o n c)/\OT w base (.slice o n c) A[i])(hL:OT w base (.slice o n c) L)
  (hg:w.grownBy w' sv.ownBlock) (hown:w'.ownsRow base 135 1 v' (A.length+1) (vals++[.slice o n c])):OA w' base v' (A++[L]):=by
 refine⟨vals++[.slice o n c],by rw[List.length_append];exact hown,by simp[h2],fun i hi=>?_⟩;rw[List.length_append]at hi
 by_cases hlt:i<A.length
 ·obtain⟨o',n',c',h4,h5⟩:=h3 i hlt;refine⟨o',n',c',by rw[List.getElem?_append_left (by omega)];exact h4,?_⟩;rw[List.getElem_append_left hlt];exact h5.keepA h1 hg
 ·have e:i=A.length:=by simp at hi;omega
  subst e;refine⟨o,n,c,by rw[<-h2];simp,?_⟩;rw[List.getElem_append_right (Nat.le_refl _)];simpa using hL.keepA h1 hg
theorem OA.far{w:World}{base:Nat}{sv:Value}{n:Nat}{xs:List Value}(h:w.ownsRow base 135 1 sv n xs):∀q,sv.ownBlock=some q->base<=q:=fun q hq=>(h.lt q hq).1
theorem OA.slice{w:World}{base:Nat}{sv:Value}{A:List (List Tq)}(h:OA w base sv A):∃o c,sv=.slice o A.length c:=by
 obtain⟨vals,h1,_⟩:=h
 rcases h1.2 with⟨e1,e2⟩|⟨g,cap,cur,hv,_⟩
 ·exact⟨_,_,by rw[e1,e2]⟩
 ·exact⟨_,_,hv⟩
def GB(g b:Nat)(sv:Value)(w:World):Prop:=w.heap[g]?=some (.cells #[.pointer (some ⟨b,0,none⟩),sv] 134 (0,0))
theorem GB.gr{g b:Nat}{sv:Value}{w:World}(h:GB g b sv w):GR g b w:=by unfold GR;rw[ag h];rfl
theorem GB.c1{g b:Nat}{sv:Value}{w:World}(h:GB g b sv w):w.cell? ⟨g,1,none⟩=some sv:=by rw[ag h];rfl
theorem GB.f{g b:Nat}{sv:Value}{w:World}(h:GB g b sv w)(o:Nat):w.frozen? ⟨g,o,none⟩=false:=Lib.frozen_of_heap h o
theorem GB.growr{g b:Nat}{sv:Value}{w w':World}{row:Option Nat}(h:GB g b sv w)(hg:w.grownBy w' row)(hn:some g≠row):GB g b sv w':=by
 unfold GB at h ⊢;rw[hg.block g ((aA h)) hn];exact h
theorem GB.set{g b:Nat}{sv:Value}{w:World}(h:GB g b sv w)(y:Value):GB g b y (w.setCell ⟨g,1,none⟩ y):=by
 unfold GB at h ⊢;simp[World.setCell,Array.getElem?_modify,h]
theorem OA.down{w:World}{base base':Nat}{sv:Value}{A:List (List Tq)}(h:OA w base sv A)(hb:base'<=base):OA w base' sv A:=by
 obtain⟨vals,h1,h2,h3⟩:=h;refine⟨vals,⟨h1.1,?_⟩,h2,fun i hi=>?_⟩
 ·rcases h1.2 with hn|⟨g,cap,cur,hv,hbg,rest⟩
  ·exact Or.inl hn
  ·exact Or.inr ⟨g,cap,cur,hv,Nat.le_trans hb hbg,rest⟩
 ·obtain⟨o,n,c,h4,h5⟩:=h3 i hi;exact⟨o,n,c,h4,h5.base hb⟩
theorem ac7{w wa wb:World}{row:Option Nat}(h:w.grownBy wa none)(hg:wa.grownBy wb row)(hr:∀q,row=some q->w.heap.size<=q):w.grownBy wb none :=
 ⟨hg.os.trans h.os,hg.tape.trans h.tape,hg.output.trans h.output,Nat.le_trans h.size hg.size,fun k hk hn=>(hg.block k (Nat.lt_of_lt_of_le hk h.size) (fun e=>by have:=hr k e.symm;omega)).trans (h.block k hk hn)⟩
theorem ac8{w:World}{base:Nat}{e:TypeId}{size n:Nat}{v:Value}{xs:List Value}(h:w.ownsRow base e size v n xs):∃o n c,v=.slice o n c:=by
 rcases h.2 with⟨h1,_⟩|⟨g,cap,cur,hv,_⟩
 ·exact⟨_,_,_,h1⟩
 ·exact⟨_,_,_,hv⟩
theorem EX{w u u':World}{b:Nat}(h:w.grownBy u none)(hg:u.grownBy u' (some b))(hb:w.heap.size<=b):w.grownBy u' none :=
 ⟨hg.os.trans h.os,hg.tape.trans h.tape,hg.output.trans h.output,Nat.le_trans h.size hg.size,fun k hk hn=>(hg.block k (Nat.lt_of_lt_of_le hk h.size) (by simp;omega)).trans (h.block k hk hn)⟩
def bm:Value->Nat
 | .bool true=>1
 | _=>0
def ac9(R:Int × Nat × List (List Te))(w:World)(e:Ending)(w':World):Prop :=
 ∃(o:Option Addr) (n c:Nat) (A:List (List Tq)),e=.returned (.tuple #[.slice o n c,.int .i64 R.1,.int .i64 (R.2.1:Int)])/\w.grownBy w' none/\(R.1=0->OA w' w.heap.size (.slice o n c) A/\A.map (·.map bU)=R.2.2/\A.length<=201/\∀L∈A,L.length<=1000/\∀x∈L,jH x)
theorem RZ(l:List UInt8):∀(f i:Nat) (acc:List Te),(eF l f i acc).1=0->(eF l f i acc).2.2.length<=acc.length+f+2
 | 0,i,acc,_=>by unfold eF;simp only[];omega
 | f+1,i,acc,h=>by
  rw[eF]at h ⊢;split
  ·simp only[];omega
  ·rename_i h0;rw[if_neg h0]at h;split
   ·rename_i h1;rw[if_pos h1]at h;split
    ·rename_i h2;rw[if_pos h2]at h;split
     ·simp only[];omega
     ·split
      ·split
       ·simp
       ·simp only[];omega
      ·simp only[];omega
    ·rename_i h2;rw[if_neg h2]at h;split
     ·simp only[];omega
     ·rename_i h3;rw[if_neg h3]at h;have:=RZ l f _ _ h;simp at this;omega
   ·simp only[];omega
theorem Si(s:ByteArray)(w:World)(hs:s.size<2 ^ 60):Calls prog 47 #[.string s] w (ac9 (fF s.data.toList) w):=by
 by_cases h200:200<s.size
 ·have hR:fF s.data.toList=(1,0,[]):=by unfold fF;rw[if_pos (by simpa using h200)]
  rw[hR];clear hR;go_enter func47,ntmps47;go_wp2;exact bodyPost_ret (results_tmp3 (t:=2) (u:=3) (v:=4) rfl _ _ _) rfl ⟨_,_,_,[],rfl,ak _ _,fun h=>absurd h (by simp)⟩
 ·obtain⟨l,hl⟩:=zN (s.data.toList);have hll:l.length=s.size:=by rw[<-hl];simp
  have bP:Hd (l.length=s.size/\s.size<=200):=⟨hll,by omega⟩;rw[hl];obtain⟨E0,J0,S0,hP⟩:∃E0 J0 S0,pI l (l.length+1) 0 []=(E0,J0,S0):=⟨_,_,_,rfl⟩;have HRR:Hd (fF l=if E0=0 then(0,0,S0) else(E0,J0,[])):=by
   show fF l=_;unfold fF;rw[if_neg (by omega),hP]
  have HR0:=ae hP;obtain⟨b,hb⟩:=zN (w.heap.size);obtain⟨g,hgg⟩:=zN (b+1);have hgb:g≠b:=by omega
  have CB:Hd (∀i a w,i<=s.size->GR g b w->VS b s i 0 a w->Calls prog 75 #[.pointer (some ⟨g,0,none⟩)] w fun e w'=>e=.returned (.bool (decide (i<aj l i)))/\VS b s (aj l i) 0 a w'/\w.grownBy w' (some b)):=fun i a w hi h1 h2=>by rw[<-hl];exact Rf g b s i a w hi hgb h1 h2 (by omega)
  have CS:Hd (∀i a w,i<=s.size->GR g b w->VS b s i 0 a w->Calls prog 76 #[.pointer (some ⟨g,0,none⟩)] w (JF b s (eF l (l.length+1) i []) w)):=fun i a w hi h1 h2=>by rw[<-hl];exact ac3 g b s i a w hi hgb h1 h2 (by omega)
  have CI:Hd (∀i a w,i<=s.size->GR g b w->VS b s i 0 a w->Calls prog 77 #[.pointer (some ⟨g,0,none⟩),.string ⟨#[124,124]⟩] w fun e w'=>e=.returned (.bool (jC l i))/\∃n,w'=w.drewN n):=fun i a w hi h1 h2=>by rw[<-hl];exact Q9 g b s i a w hi h1 h2 (by omega)
  have EU:Hd (∀(i:Nat) (E:Int) (a:Nat) w,¬E=0->GR g b w->VS b s i E a w->Calls prog 77 #[.pointer (some ⟨g,0,none⟩),.string ⟨#[124,124]⟩] w fun e w'=>e=.returned (.bool (false))/\∃n,w'=w.drewN n):=fun i E a w hE h1 h2=>BM g b s _ i E a w hE h1 h2
  have oG:Hd (∀i,i<=s.size->i<=aj l i/\aj l i<=s.size):=fun i hi=>⟨pz l i,by have:=oC l i (by rw[hll];exact hi);rw[hll]at this;exact this⟩
  have HOP:Hd (∀i,i<=s.size->(jU l i).1=0->i<=(jU l i).2.1/\(jU l i).2.1<=s.size):=fun i hi h0=>by
   obtain⟨e1,e2,_⟩:=Px l i (by rw[hll];exact hi);have:=Py l i (by rw[hll];exact hi) (e1.trans h0);rw[e2,hll]at this;exact this
  have bg:Hd (g≠b/\b<g/\w.heap.size=b/\b+1=g):=⟨hgb,by omega,hb,hgg⟩;clear hl hll hP hs hgb;go_enter func47,ntmps47;go_wp2;clear h200;obtain⟨W,hW⟩:=zN ((w.alloc (.cells #[.string s,.int .i64 0,.int .i64 0,.int .i64 0] 126)).alloc (.cells #[.pointer (some ⟨b,0,none⟩),.slice none 0 0] 134));have hgW:w.grownBy W none:=by rw[<-hW];exact au (au (ak w none) _) _
  have HV:Hd (VS b s 0 0 0 W):=by
   show W.heap[b]?=_;rw[<-hW,<-hb,Lib.alloc_old _ _ _ (by simp)];exact heap_alloc_new w _
  have HG:Hd (GB g b (.slice none 0 0) W):=by
   show W.heap[g]?=_;rw[<-hW,<-hgg,<-hb];exact lL w _ _
  have HW:=ae hgW
  try rw[hW]
  clear hgW hW hb hgg;go_loopw [6] (fun vm wr=>∃(f j c:Nat) (E:Int) (sv:Value) (A:List (List Tq)),VS b s j E c wr/\GB g b sv wr/\OA wr (g+1) sv A/\w.grownBy wr none/\A.length<=201 ∧
   ((vm=.bool true/\E=0/\j<=s.size/\A.length<=j/\l.length<f+j/\pI l f j (A.map (·.map bU))=(E0,J0,S0)/\∀L∈A,L.length<=1000/\∀x∈L,jH x)\/(vm=.bool false/\E=0/\E0=0/\S0=A.map (·.map bU)/\∀L∈A,L.length<=1000/\∀x∈L,jH x)\/(vm=.bool false/\¬E=0/\E0=E/\J0=c))) (fun vm wr=>bm vm*(s.size+3-placeOf b wr))
  case atStart=>exact⟨l.length+1,0,0,0,_,[],HV.o,HG.o,⟨[],World.ownsRow_nil _ _ _ _,rfl,fun i hi=>absurd hi (Nat.not_lt_zero _)⟩,HW.o,Nat.zero_le _,Or.inl ⟨rfl,rfl,Nat.zero_le _,Nat.zero_le _,by omega,HR0.o,fun L hL=>by cases hL⟩⟩
  case round =>
   obtain⟨f,j,c,E,sv,A,hv,hgr,hoa,hgw,hal,hcase⟩:=hrel;clear HV HG HW HR0;obtain⟨o1,c1,rfl⟩:=hoa.slice;obtain⟨n1,hn1⟩:=zN (A.length);rw[hn1]at hgr hoa;have HV:=ae hv;have HG:=ae hgr;have HO:=ae hoa;have HW:=ae hgw;have jw:Hd (A.length=n1/\n1<=201):=⟨hn1,by omega⟩;clear hv hgr hoa hgw hal hn1
   rcases hcase with⟨rfl,rfl,hj,haj,hf,hds,hok⟩|⟨rfl,rfl,he0,hs0,hok⟩|⟨rfl,hE,he0,hj0⟩
   ·have HJ:Hd (j<=s.size/\n1<=j/\l.length<f+j):=⟨hj,by have:=jw.o.1;omega,hf⟩;have tY:=ae hds;have dH:=ae hok;have iW:=ae HV.o.place;clear hj haj hf hds hok;obtain⟨f,rfl⟩:∃f',f=f'+1:=by
     cases f with
     | zero=>have:=bP.o.1;have:=HJ.o;omega
     | succ f=>exact⟨f,rfl⟩
    have kP:=ae (fun w (h1:GR g b w) (h2:VS b s j 0 c w)=>CB.o j c w HJ.o.1 h1 h2);have xy:Hd (∀w,GR g b w->VS b s (aj l j) 0 c w->Calls prog 76 #[.pointer (some ⟨g,0,none⟩)] w (JF b s (jU l j) w)):=fun w h1 h2=>CS.o (aj l j) c w (oG.o j HJ.o.1).2 h1 h2
    have JJ:=ae (HOP.o j HJ.o.1);have dA:Hd ((jU l j).1=0->(jU l j).2.2.length<=1000):=fun h=>by have h1:=RZ l (l.length+1) (aj l j) [] h;have h2:=bP.o;simp only[List.length_nil]at h1;unfold jU;omega
    have hds:=tY.o;rw[pI]at hds;obtain⟨E1,J1,ts,hR⟩:∃E1 J1 ts,jU l j=(E1,J1,ts):=⟨_,_,_,rfl⟩;rw[hR]at hds xy JJ dA;simp only[]at hds JJ dA;have HD1:=ae hds;clear hds hR tY;obtain⟨K,hK⟩:=zN (aj l j);rw[hK]at kP xy;obtain⟨ap,hap⟩:=zN (decide (j<K));rw[hap]at kP;clear hK hap;go_wp2_with (first|(go_at_call 75;refine(kP.o _ HG.o.gr HV.o).mono ?_));rintro e u1 ⟨rfl,hv,hg⟩;replace HV:=ae hv;replace HG:=ae (HG.o.growr hg (by have:=bg.o.1;simpa using this));replace HO:=ae (HO.o.growb hg (by have:=bg.o.2.1;omega));replace HW:=ae (EX HW.o hg (by have:=bg.o.2.2.1;omega));clear hv hg;have qi:Hd (g+1<=u1.heap.size):=(aA HG.o);go_wp2_with (go_at_call 76;refine(xy.o _ HG.o.gr HV.o).mono ?_);rintro e u2 ⟨o2,n2,c2,acc,j2,d2,rfl,hv,hot,hg,hok,herr⟩;have HT:=ae (hot.base qi.o)
    have HQ:Hd ((E1=0->acc.map bU=ts/\j2=J1/\∀x∈acc,jH x)/\(¬E1=0->d2=J1)):=⟨hok,herr⟩;clear hot hok herr;replace HV:Hd (VS b s j2 E1 d2 u2):=hv;replace HG:=ae (HG.o.growr hg (by have:=bg.o.1;simpa using this));replace HO:=ae (HO.o.growb hg (by have:=bg.o.2.1;omega));replace HW:=ae (EX HW.o hg (by have:=bg.o.2.2.1;omega));clear hv hg;obtain⟨vals,hva,hvl,tH⟩:=HO.o;have kH:=ae hva;have zO:Hd (vals.length=A.length/\∀i (hi:i<A.length),∃o n c,vals[i]?=some (.slice o n c)/\OT u2 (g+1) (.slice o n c) A[i]):=⟨hvl,tH⟩;clear hva hvl tH;have hinfo:=ac4;obtain⟨i1,hj0,hjj⟩:=Option.map_eq_some_iff.1 hinfo;have hy0:i1.zero=some (.slice none 0 0):=congrArg (·.1) hjj;have hy1:i1.size=1:=congrArg (·.2.1) hjj;have hyb:i1.bytes=24:=congrArg (·.2.2) hjj;clear hjj hinfo;have g0:u2.cell? ⟨g,0,none⟩=some (.pointer (some ⟨b,0,none⟩)):=HG.o.gr;have g1:=HG.o.c1
    obtain⟨W3,hW3⟩:=zN (u2.alloc (.cells #[.slice o2 n2 c2] 135));have hga:u2.grownBy W3 none:=by rw[<-hW3];exact au (ak _ none) _
    have HR3:Hd (W3.heap[u2.heap.size]?=some (.cells #[.slice o2 n2 c2] 135 (0,0))):=by show _=_;rw[<-hW3];exact heap_alloc_new u2 _
    have kZ:=ae hga;clear hga;go_wp2_with (first|(at_builtin;refine wpList_append_own _ rfl _ _ 102 rfl (g+1) 135 i1 _ 1 24 underlying102 hj0 hy0 hy1 hyb rfl (by decide) _ _ _ rfl (oN kH.o kZ.o) _ 1 1 [.slice o2 n2 c2] rfl rfl (World.news_of_block HR3.o) (by intro u hu;simp only[List.mem_cons,List.not_mem_nil,or_false]at hu;subst hu;rfl) (by unfold maxLen;have:=jw.o;omega) (by have:=jw.o;omega) (by have h1:=kZ.o.size;have h2:=(aA HG.o);omega) ?_;intro v' u4 hown hgrow _;obtain⟨o4,n4,c4,rfl⟩:=ac8 hown;have hG4:=(HG.o.growr kZ.o (by simp)).growr hgrow (fun e=>by have:=kH.o.lt g e.symm;omega);clear g0 g1;have g0:u4.cell? ⟨g,0,none⟩=some (.pointer (some ⟨b,0,none⟩)):=hG4.gr;have g1:=hG4.c1;have gf:=hG4.f));have Sj:=ae (OA.push (w:=W3) (oN kH.o kZ.o) zO.o.1 (fun i hi=>by obtain⟨o,n,c,h1,h2⟩:=zO.o.2 i hi;exact⟨o,n,c,h1,h2.grow kZ.o⟩) (HT.o.grow kZ.o) hgrow hown)
    have lu:=ae (fun q (hq:(Value.slice o1 n1 c1).ownBlock=some q)=>(kH.o.lt q hq).1);obtain⟨u5,EY⟩:=zN (u4.setCell ⟨g,1,none⟩ (.slice o4 n4 c4));have hg5:u4.grownBy u5 (some g):=by rw[<-EY];exact RY u4 g 1 _
    replace HV:=ae (((HV.o.grow kZ.o (by simp)).grow hgrow (fun e=>by have:=lu.o b e.symm;have:=bg.o.2.1;omega)).grow hg5 (by have:=bg.o.1;simpa using Ne.symm this));replace HG:Hd (GB g b (.slice o4 n4 c4) u5):=by show GB g b _ u5;rw[<-EY];exact hG4.set _
    replace HO:=ae (Sj.o.growb hg5 (by omega));replace HW:=ae (EX (ac7 (ah HW.o kZ.o) hgrow (fun q hq=>by have:=lu.o q hq;have:=bg.o;omega)) hg5 (by have:=bg.o;omega))
    try rw[EY]
    clear hown hgrow hG4 g0 g1 gf hg5 EY hW3 hj0 hy0 hy1 hyb kH zO Sj lu HR3 kZ HT;have JK:Hd ((A++[acc]).length<=201):=by show _<=_;rw[List.length_append,jw.o.1];have h1:=HJ.o;have h2:=bP.o.2;simp;omega
    by_cases hE1:E1=0
    ·subst hE1;obtain⟨q1,q2,q3⟩:=HQ.o.1 rfl;obtain⟨p1,p2⟩:=JJ.o rfl;have Sl:Hd (∀L∈A++[acc],L.length<=1000/\∀x∈L,jH x):=by
      intro L hL
      rcases List.mem_append.1 hL with h|h
      ·exact dH.o L h
      ·rw[List.mem_singleton.1 h];exact⟨by have h1:=dA.o rfl;rw[<-q1,List.length_map]at h1;exact h1,q3⟩
     have EZ:Hd ((A++[acc]).map (·.map bU)=A.map (·.map bU)++[ts]):=by show _=_;rw[List.map_append,<-q1];rfl
     have HP:Hd (j<=J1/\J1<=s.size):=⟨p1,p2⟩;subst q2;clear q1 q3 p1 p2
     cases hba:jC l j2 with
     | true =>
      have ug:Hd (∀w,GR g b w->VS b s j2 0 d2 w->Calls prog 77 #[.pointer (some ⟨g,0,none⟩),.string ⟨#[124,124]⟩] w fun e w'=>e=.returned (.bool (true))/\∃n,w'=w.drewN n):=fun w h1 h2=>by have:=CI.o j2 d2 w HP.o.2 h1 h2;rw[hba]at this;exact this
      have bK:Hd (pI l f (j2+2) ((A++[acc]).map (·.map bU))=(E0,J0,S0)):=by show _=_;have h:=HD1.o;rw[if_pos rfl,if_pos hba]at h;rw[EZ.o];exact h
      have HB2:Hd (j2+2<=s.size):=by have:=Eu l j2 hba;rw[bP.o.1]at this;exact this
      clear hba;go_wp2_with (go_at_call 77;refine(ug.o _ HG.o.gr HV.o).mono ?_);rintro e u6 rfl n hn;replace HV:Hd (VS b s j2 0 d2 u6):=by show VS _ _ _ _ _ u6;rw[hn];exact HV.o.drew _
      replace HG:Hd (GB g b (.slice o4 n4 c4) u6):=by show GB g b _ u6;rw[hn];exact HG.o
      replace HO:Hd (OA u6 (g+1) (.slice o4 n4 c4) (A++[acc])):=by show OA u6 _ _ _;rw[hn];exact HO.o
      replace HW:Hd (w.grownBy u6 none):=by show w.grownBy u6 none;rw[hn];exact aF HW.o _
      clear hn;have e0:u6.cell? ⟨g,0,none⟩=some (.pointer (some ⟨b,0,none⟩)):=HG.o.gr;have e1:=HV.o.c1;have ef:=HV.o.f1;have hwr:IntKind.i64.wrap ((j2:Int)+2)=(j2:Int)+2:=by rw[IntKind.wrap_i64];have:=HB2.o;have:=bP.o.2;omega
      go_wp2_with (fail)
      go_region
      obtain⟨u7,E8⟩:=zN ((u6.setCell ⟨b,1,none⟩ (.int .i64 ((j2:Int)+2))).drew);have lg:u6.grownBy u7 (some b):=by rw[<-E8];exact rP (RY u6 b 1 _)
      replace HV:Hd (VS b s (j2+2) 0 d2 u7):=by show VS b s (j2+2) 0 d2 u7;rw[<-E8,show((j2:Int)+2)=((j2+2:Nat):Int) by omega];exact HV.o.set1 _
      replace HG:=ae (HG.o.growr lg (by have:=bg.o.1;simpa using this));replace HO:=ae (HO.o.growb lg (by have:=bg.o;omega));replace HW:=ae (EX HW.o lg (by have:=bg.o;omega))
      try rw[E8]
      clear lg E8 e0 e1 ef hwr;go_wp2;go_roundw
      case rel=>exact⟨f,j2+2,d2,0,_,A++[acc],HV.o,HG.o,HO.o,HW.o,JK.o,Or.inl ⟨rfl,rfl,HB2.o,by rw[List.length_append,jw.o.1];have h1:=HJ.o;have h2:=HP.o;simp;omega,by have h1:=HJ.o;have h2:=HP.o;omega,bK.o,Sl.o⟩⟩
      case measure =>
       rw[iW.o,HV.o.place];have h1:=HJ.o;have h2:=HP.o;simp only[bm];omega
     | false =>
      have ug:Hd (∀w,GR g b w->VS b s j2 0 d2 w->Calls prog 77 #[.pointer (some ⟨g,0,none⟩),.string ⟨#[124,124]⟩] w fun e w'=>e=.returned (.bool (false))/\∃n,w'=w.drewN n):=fun w h1 h2=>by have:=CI.o j2 d2 w HP.o.2 h1 h2;rw[hba]at this;exact this
      have bK:Hd (E0=0/\S0=(A++[acc]).map (·.map bU)):=by have h:=HD1.o;rw[if_pos rfl,if_neg (by rw[hba];decide)]at h;rw[EZ.o];simp only[Prod.mk.injEq]at h;exact⟨h.1.symm,h.2.2.symm⟩
      clear hba;go_wp2_with (go_at_call 77;refine(ug.o _ HG.o.gr HV.o).mono ?_);rintro e u6 rfl n hn;replace HV:Hd (VS b s j2 0 d2 u6):=by show VS _ _ _ _ _ u6;rw[hn];exact HV.o.drew _
      replace HG:Hd (GB g b (.slice o4 n4 c4) u6):=by show GB g b _ u6;rw[hn];exact HG.o
      replace HO:Hd (OA u6 (g+1) (.slice o4 n4 c4) (A++[acc])):=by show OA u6 _ _ _;rw[hn];exact HO.o
      replace HW:Hd (w.grownBy u6 none):=by show w.grownBy u6 none;rw[hn];exact aF HW.o _
      clear hn;go_wp2;go_roundw
      case rel=>exact⟨0,j2,d2,0,_,A++[acc],HV.o,HG.o,HO.o,HW.o,JK.o,Or.inr (Or.inl ⟨rfl,rfl,bK.o.1,bK.o.2,Sl.o⟩)⟩
      case measure =>
       rw[iW.o];have h1:=HJ.o;simp only[bm];omega
    ·have eX:=ae hE1;have bK:Hd (E0=E1/\J0=d2):=by have h:=HD1.o;rw[if_neg hE1]at h;simp only[Prod.mk.injEq]at h;exact⟨h.1.symm,by rw[HQ.o.2 hE1];exact h.2.1.symm⟩
     clear hE1;have ug:=ae (fun w (h1:GR g b w) (h2:VS b s j2 E1 d2 w)=>EU.o j2 E1 d2 w eX.o h1 h2);go_wp2_with (go_at_call 77;refine(ug.o _ HG.o.gr HV.o).mono ?_);rintro e u6 ⟨rfl,n,hn⟩;replace HV:Hd (VS b s j2 E1 d2 u6):=by show VS _ _ _ _ _ u6;rw[hn];exact HV.o.drew _
     replace HG:Hd (GB g b (.slice o4 n4 c4) u6):=by show GB g b _ u6;rw[hn];exact HG.o
     replace HO:Hd (OA u6 (g+1) (.slice o4 n4 c4) (A++[acc])):=by show OA u6 _ _ _;rw[hn];exact HO.o
     replace HW:Hd (w.grownBy u6 none):=by show w.grownBy u6 none;rw[hn];exact aF HW.o _
     clear hn;go_wp2;go_roundw
     case rel=>exact⟨0,j2,d2,E1,_,A++[acc],HV.o,HG.o,HO.o,HW.o,JK.o,Or.inr (Or.inr ⟨rfl,eX.o,bK.o.1,bK.o.2⟩)⟩
     case measure =>
      rw[iW.o];have h1:=HJ.o;simp only[bm];omega
   ·have HZ:Hd (fF l=(0,0,A.map (·.map bU))):=by show _=_;rw[HRR.o,if_pos he0,hs0]
    have dH:=ae hok;clear he0 hs0 hok;have e0:wr.cell? ⟨g,0,none⟩=some (.pointer (some ⟨b,0,none⟩)):=HG.o.gr;have e1:=HG.o.c1;have e2:=HV.o.c2;go_wp2;refine bodyPost_ret (results_tmp3 (t:=2) (u:=3) (v:=4) rfl _ _ _) rfl ?_;rw[HZ.o];exact⟨o1,n1,c1,A,rfl,HW.o,fun _=>⟨OA.down HO.o (by have:=bg.o;omega),rfl,by rw[jw.o.1];exact jw.o.2,dH.o⟩⟩
   ·have HZ:Hd (fF l=(E,c,[])):=by show _=_;rw[HRR.o,if_neg (by rw[he0];exact hE),he0,hj0]
    have eX:=ae hE;have hne:(E == 0)=false:=by simpa using hE
    clear he0 hj0 hE;have e0:wr.cell? ⟨g,0,none⟩=some (.pointer (some ⟨b,0,none⟩)):=HG.o.gr;have e2:=HV.o.c2;have e3:=HV.o.c3;go_wp2;go_quiet (fail);go_wp2;refine bodyPost_ret (results_tmp3 (t:=2) (u:=3) (v:=4) rfl _ _ _) rfl ?_;rw[HZ.o];exact⟨_,_,_,[],rfl,aF HW.o _,fun h=>absurd h eX.o⟩
open Go.RowKit
theorem ada{p0 p1 p2 p3 p4 p5 p6 p7 p8 p9 p10 p11 p12:Addr}{c0 c1 c2 c3 c4 c5 c6 c7 c8 c9 c10 c11 c12:Value}{w w':World}(hg:w.grownBy w' none)(h:w.cell? p0=some c0/\w.cell? p1=some c1/\w.cell? p2=some c2/\w.cell? p3=some c3/\w.cell? p4=some c4/\w.cell? p5=some c5/\w.cell? p6=some c6/\w.cell? p7=some c7/\w.cell? p8=some c8/\w.cell? p9=some c9/\w.cell? p10=some c10/\w.cell? p11=some c11/\w.cell? p12=some c12):w'.cell? p0=some c0/\w'.cell? p1=some c1/\w'.cell? p2=some c2/\w'.cell? p3=some c3/\w'.cell? p4=some c4/\w'.cell? p5=some c5/\w'.cell? p6=some c6/\w'.cell? p7=some c7/\w'.cell? p8=some c8/\w'.cell? p9=some c9/\w'.cell? p10=some c10/\w'.cell? p11=some c11/\w'.cell? p12=some c12:=by
 obtain⟨h0,h1,h2,h3,h4,h5,h6,h7,h8,h9,h10,h11,h12⟩:=h;exact⟨hg.cell h0 (by simp),hg.cell h1 (by simp),hg.cell h2 (by simp),hg.cell h3 (by simp),hg.cell h4 (by simp),hg.cell h5 (by simp),hg.cell h6 (by simp),hg.cell h7 (by simp),hg.cell h8 (by simp),hg.cell h9 (by simp),hg.cell h10 (by simp),hg.cell h11 (by simp),hg.cell h12 (by simp)⟩
def TqAt(w:World)(p:Addr)(x:Tq):Prop:=w.cell? p=some (.int .i64 x.sg)/\w.cell? ⟨p.block,p.off+1,none⟩=some (.int .i64 x.m)/\w.cell? ⟨p.block,p.off+2,none⟩=some (.int .i64 x.a)/\w.cell? ⟨p.block,p.off+3,none⟩=some (.int .i64 x.b)/\w.cell? ⟨p.block,p.off+4,none⟩=some (.int .i64 x.c)/\w.cell? ⟨p.block,p.off+5,none⟩=some (.string x.p)/\w.cell? ⟨p.block,p.off+6,none⟩=some (.string x.q)
theorem TqAt.grow{w w':World}{p:Addr}{x:Tq}(h:TqAt w p x)(hg:w.grownBy w' none):TqAt w' p x:=by
 obtain⟨h0,h1,h2,h3,h4,h5,h6⟩:=h;exact⟨hg.cell h0 (by simp),hg.cell h1 (by simp),hg.cell h2 (by simp),hg.cell h3 (by simp),hg.cell h4 (by simp),hg.cell h5 (by simp),hg.cell h6 (by simp)⟩
theorem adb{w:World}{a:Addr}{n:Nat}{s:Tq}(h:∀k v,(iT s)[k]?=some v->w.cell? (a.add (n+k))=some v):TqAt w (a.add n) s :=
 ⟨by have:=h 0 _ rfl;simpa using this,by have:=h 1 _ rfl;rw[iV a n 1 (by omega)]at this;exact this,by have:=h 2 _ rfl;rw[iV a n 2 (by omega)]at this;exact this,by have:=h 3 _ rfl;rw[iV a n 3 (by omega)]at this;exact this,by have:=h 4 _ rfl;rw[iV a n 4 (by omega)]at this;exact this,by have:=h 5 _ rfl;rw[iV a n 5 (by omega)]at this;exact this,by have:=h 6 _ rfl;rw[iV a n 6 (by omega)]at this;exact this⟩
def TsAt(w:World)(sl:Value)(L:List Tq):Prop:=(sl=.slice none 0 0/\L=[])\/∃a cap,sl=.slice (some a) L.length cap/\L.length<=cap/\∀k (hk:k<L.length),TqAt w (a.add (k*7)) L[k]
theorem TsAt.grow{w w':World}{sl:Value}{L:List Tq}(h:TsAt w sl L)(hg:w.grownBy w' none):TsAt w' sl L:=by
 rcases h with h|⟨a,cap,h1,h2,h3⟩
 ·exact Or.inl h
 ·exact Or.inr ⟨a,cap,h1,h2,fun k hk=>(h3 k hk).grow hg⟩
def SsAt(w:World)(sv:Value)(A:List (List Tq)):Prop:=(sv=.slice none 0 0/\A=[])\/∃a cap,sv=.slice (some a) A.length cap/\A.length<=cap/\∀i (hi:i<A.length),∃sl,w.cell? (a.add i)=some sl/\TsAt w sl A[i]
theorem SsAt.grow{w w':World}{sv:Value}{A:List (List Tq)}(h:SsAt w sv A)(hg:w.grownBy w' none):SsAt w' sv A:=by
 rcases h with h|⟨a,cap,h1,h2,h3⟩
 ·exact Or.inl h
 ·exact Or.inr ⟨a,cap,h1,h2,fun k hk=>by obtain⟨sl,h4,h5⟩:=h3 k hk;exact⟨sl,hg.cell h4 (by simp),h5.grow hg⟩⟩
theorem adc(l:List Tq):∀(i:Nat) (hi:i<l.length) (k:Nat) (u:Value),(iT l[i])[k]?=some u->(l.flatMap iT)[i*7+k]?=some u:=by
 induction l with
 | nil=>intro i hi;simp at hi
 | cons t l ih =>
  intro i hi k u h;rw[List.flatMap_cons];have hl:(iT t).length=7:=rfl
  cases i with
  | zero =>
   simp only[List.getElem_cons_zero]at h;have hk:=(List.getElem?_eq_some_iff.1 h).1;rw[Nat.zero_mul,Nat.zero_add,List.getElem?_append_left hk];exact h
  | succ i =>
   simp only[List.getElem_cons_succ]at h;rw[List.getElem?_append_right (by rw[hl];omega),hl,show(i+1)*7+k-7=i*7+k by omega];exact ih i (by simpa using hi) k u h
theorem ade{w:World}{base:Nat}{sl:Value}{L:List Tq}(h:OT w base sl L):TsAt w sl L:=by
 rcases h.2 with⟨h1,h2⟩|⟨g,cap,cur,hv,hb,hc,h3,h4,h5,h6⟩
 ·exact Or.inl ⟨h1,List.length_eq_zero_iff.1 h2⟩
 ·refine Or.inr ⟨⟨g,0,none⟩,cap,hv,h3,fun k hk=>adb fun q v hq=>?_⟩;have h':=h;unfold OT at h';rw[hv]at h';exact Jz h' (k*7+q) v (adc L k hk q v hq)
theorem adf{w:World}{base:Nat}{sv:Value}{A:List (List Tq)}(h:OA w base sv A):SsAt w sv A:=by
 obtain⟨vals,h1,h2,h3⟩:=h
 rcases h1.2 with⟨e1,e2⟩|⟨g,cap,cur,hv,hb,hc,e3,e4,e5,e6⟩
 ·exact Or.inl ⟨e1,List.length_eq_zero_iff.1 e2⟩
 ·refine Or.inr ⟨⟨g,0,none⟩,cap,hv,e3,fun i hi=>?_⟩;obtain⟨o,n,c,h4,h5⟩:=h3 i hi;rw[hv]at h1;exact⟨_,Jz h1 i _ h4,ade h5⟩
theorem adg(x:Tq)(hx:jH x)(v1 v2 v3:Int)(v4 v5:ByteArray)(w:World)(hv:v4.size<=1048576) :
  Calls prog 78 #[.agg #[.int .i64 x.sg,.int .i64 x.m,.int .i64 x.a,.int .i64 x.b,.int .i64 x.c,.string x.p,.string x.q],.agg #[.int .i64 v1,.int .i64 v2,.int .i64 v3,.string v4,.string v5]] w fun e w'=>e=.returned (.bool (iK (bU x) ⟨v1,v2,v3,v4.data.toList⟩))/\w.grownBy w' none:=by
 obtain⟨sg,m,a,b,c,p,q⟩:=x;have h1:=hx.s0;have h2:=hx.m0;have h3:=hx.sm;simp only at h1 h2 h3;have hm:m=0\/m=1\/m=2\/m=3:=by omega
 rcases hm with rfl|rfl|rfl|rfl
 ·exact abv sg h1 a b c v1 v2 v3 p q v4 v5 w (by omega) hv
 ·exact abw sg h1 a b c v1 v2 v3 p q v4 v5 w (by omega) hv
 ·exact abx sg h1 a b c v1 v2 v3 p q v4 v5 w (by omega) hv
 ·exact aby sg h1 a b c v1 v2 v3 p q v4 v5 w (by omega) hv
def vJ(A:List (List Tq))(v:V):Bool:=A.any fun L=>L.all fun x=>iK (bU x) v
theorem adh(A:List (List Tq))(v:V):vJ A v=iZ (A.map (·.map bU)) v:=by
 unfold vJ iZ kJ;rw[List.any_map];congr 1;funext L;simp[List.all_map,Function.comp_def]
theorem adi(sv:Value)(A:List (List Tq))(v1 v2 v3:Int)(v4 v5:ByteArray)(w:World)(h:SsAt w sv A)(hA:A.length<=201)(hok:∀L∈A,L.length<=1000/\∀x∈L,jH x)(hv:v4.size<=1048576) :
  Calls prog 48 #[sv,.agg #[.int .i64 v1,.int .i64 v2,.int .i64 v3,.string v4,.string v5]] w fun e w'=>e=.returned (.bool (vJ A ⟨v1,v2,v3,v4.data.toList⟩))/\w.grownBy w' none:=by
 have CA:=ae (fun x w (hx:jH x)=>adg x hx v1 v2 v3 v4 v5 w hv);obtain⟨v,hvv⟩:∃v:V,v=⟨v1,v2,v3,v4.data.toList⟩:=⟨_,rfl⟩;rw[<-hvv]at CA ⊢;obtain⟨R,hR⟩:=zN (vJ A v);have HR:=ae hR;rw[hR];have dH:=ae hok;clear hR hvv hv hok
 rcases h with⟨rfl,rfl⟩|⟨a,cap,rfl,hcap,hcells⟩
 ·have mX:Hd (R=false):=HR.o.symm;go_enter func48,ntmps48;go_wp2;go_loopw [5] (fun vi wr=>vi=.int .i64 0/\w.grownBy wr none) (fun vi _=>0)
  case atStart=>exact⟨rfl,au (ak _ _) _⟩
  case round =>
   obtain⟨rfl,hg⟩:=hrel;have HG:=ae hg;clear hg;go_wp2;go_ret;exact⟨bn mX.o.symm,HG.o⟩
 ·obtain⟨N,hN⟩:=zN (A.length);have HN:=ae hN;have HC:=ae hcells;rw[hN]at hcap hA ⊢;clear hcells hN;go_enter func48,ntmps48;go_wp2;obtain⟨V0,hV0⟩:=zN (w.heap.size);obtain⟨W,hW⟩:=zN (w.alloc (.cells #[.int .i64 v1,.int .i64 v2,.int .i64 v3,.string v4,.string v5] 97));have lZ:Hd (w.grownBy W none):=by show w.grownBy W none;rw[<-hW];exact au (ak w none) _
  have STv:Hd (St V0 v1 v2 v3 v4 v5 W):=by show St _ _ _ _ _ _ W;rw[<-hW,<-hV0];exact vX (t:=97) (heap_alloc_new w _)
  try rw[hW]
  try rw[hV0]
  clear hW hV0;go_loopw [5] (fun vi wr=>∃i:Nat,vi=.int .i64 i/\i<=N/\(∀j (hj:j<A.length),j<i->(A[j].all fun x=>iK (bU x) v)=false)/\W.grownBy wr none) (fun vi _=>N-(intOf vi).toNat)
  case atStart=>exact⟨0,rfl,Nat.zero_le _,fun j hj h=>absurd h (by omega),ak _ _⟩
  case round =>
   rename World=>w0
   obtain⟨i,rfl,hi,hp,hg⟩:=hrel;have HP:=ae hp;have HG:=ae hg;clear hp hg
   by_cases hlt:i<N
   ·have hlA:i<A.length:=by rw[HN.o];exact hlt
    obtain⟨L,hL⟩:=zN (A[i]);obtain⟨sl,hsl,hts⟩:=HC.o i hlA;rw[hL]at hts;have Sm:Hd (L.length<=1000/\∀x∈L,jH x):=by have:=dH.o A[i] (List.getElem_mem hlA);rw[hL]at this;exact this
    have Sr:=ae hL;have hcw:=(HG.o.cell (lZ.o.cell hsl (by simp)) (by simp));have JL:=ae ((hts.grow lZ.o).grow HG.o);have NEXT:Hd (∀r:Bool,(L.all fun x=>iK (bU x) v)=r->(r=true->R=true)/\(r=false->∀j (hj:j<A.length),j<i+1->(A[j].all fun x=>iK (bU x) v)=false)):=by
     intro r hr;constructor
     ·intro h;rw[<-HR.o];unfold vJ;rw[List.any_eq_true];exact⟨A[i],List.getElem_mem hlA,by rw[hL,hr];exact h⟩
     ·intro h j hj hji
      by_cases hji':j<i
      ·exact HP.o j hj hji'
      ·have e:j=i:=by omega
       subst e;rw[hL,hr];exact h
    clear hts hsl hL
    rcases JL.o with⟨rfl,hLn⟩|⟨q,c1,rfl,hc1,hcell⟩
    ·have rU:=ae ((NEXT.o true (by rw[hLn];rfl)).1 rfl);have bT:=ae HG.o;clear hLn JL;go_wp2;go_loopw [6,7] (fun va vk wk=>va=.bool true/\vk=.int .i64 0/\w0.grownBy wk none) (fun _ vk _=>0)
     case atStart=>exact⟨rfl,rfl,ak _ _⟩
     case round =>
      obtain⟨rfl,rfl,hgk⟩:=hrel;have hcw2:=hgk.cell hcw (by simp);have jG:=ae hgk;clear hgk hcw;go_wp2;go_ret;exact⟨bn rU.o.symm,ah lZ.o (ah HG.o jG.o)⟩
    ·obtain⟨n1,hn1⟩:=zN (L.length);have jw:Hd (L.length=n1/\n1<=1000):=⟨hn1,by have:=Sm.o.1;omega⟩;have hn2:=jw.o.2;have HCE:=ae hcell;rw[hn1]at hcw hc1;clear hcell hn1 JL;go_wp2;go_loopw [6,7] (fun va vk wk=>∃k:Nat,vk=.int .i64 k/\k<=n1/\va=.bool ((L.take k).all fun x=>iK (bU x) v)/\w0.grownBy wk none) (fun _ vk _=>n1-(intOf vk).toNat)
     case atStart=>exact⟨0,rfl,Nat.zero_le _,rfl,ak _ _⟩
     case round =>
      obtain⟨k,rfl,hk,rfl,hgk⟩:=hrel;have hcw2:=hgk.cell hcw (by simp);have jG:=ae hgk;have bT:=ae hcw;clear hgk hcw
      by_cases hkl:k<n1
      ·have gy:k<L.length:=by rw[jw.o.1];exact hkl
       obtain⟨x,hx⟩:=zN (L[k]);have HE:Hd (TqAt wr (q.add (k*7)) x):=by show TqAt wr _ x;rw[<-hx];exact(HCE.o k gy).grow jG.o
       have hxo:jH x:=by rw[<-hx];exact Sm.o.2 _ (List.getElem_mem gy)
       obtain⟨r,hr⟩:=zN (iK (bU x) v);have CX:Hd (∀w,Calls prog 78 #[.agg #[.int .i64 x.sg,.int .i64 x.m,.int .i64 x.a,.int .i64 x.b,.int .i64 x.c,.string x.p,.string x.q],.agg #[.int .i64 v1,.int .i64 v2,.int .i64 v3,.string v4,.string v5]] w fun e w'=>e=.returned (.bool r)/\w.grownBy w' none):=fun w=>by rw[<-hr];exact CA.o x w hxo
       obtain⟨al,hal⟩:=zN (((L.take k).all fun x=>iK (bU x) v));have Su:Hd (((L.take (k+1)).all fun x=>iK (bU x) v)=(al && r)):=by
        show _=_;rw[List.take_succ_eq_append_getElem gy,List.all_append,hal,hx];simp[hr]
       rw[hal];have STk:=ae ((STv.o.grow HG.o).grow jG.o);clear hx hxo hr hal;obtain⟨e0,e1,e2,e3,e4,e5,e6⟩:=HE.o;obtain⟨s1,s2,s3,s4,s5⟩:=STk.o;go_wp2
       go_region_held3 (fun w'=>w'.cell? (a.add i)=some (.slice (some q) n1 c1)/\w'.cell? (q.add (k*7))=some (.int .i64 x.sg)/\w'.cell? ⟨(q.add (k*7)).block,(q.add (k*7)).off+1,none⟩=some (.int .i64 x.m)/\w'.cell? ⟨(q.add (k*7)).block,(q.add (k*7)).off+2,none⟩=some (.int .i64 x.a)/\w'.cell? ⟨(q.add (k*7)).block,(q.add (k*7)).off+3,none⟩=some (.int .i64 x.b)/\w'.cell? ⟨(q.add (k*7)).block,(q.add (k*7)).off+4,none⟩=some (.int .i64 x.c)/\w'.cell? ⟨(q.add (k*7)).block,(q.add (k*7)).off+5,none⟩=some (.string x.p)/\w'.cell? ⟨(q.add (k*7)).block,(q.add (k*7)).off+6,none⟩=some (.string x.q)/\w'.cell? ⟨V0,0,none⟩=some (.int .i64 v1)/\w'.cell? ⟨V0,1,none⟩=some (.int .i64 v2)/\w'.cell? ⟨V0,2,none⟩=some (.int .i64 v3)/\w'.cell? ⟨V0,3,none⟩=some (.string v4)/\w'.cell? ⟨V0,4,none⟩=some (.string v5)) (first|(simp only[QG];exact⟨hcw2,e0,e1,e2,e3,e4,e5,e6,s1,s2,s3,s4,s5⟩)|exact ada (by assumption) (by assumption)) (first|(go_at_call 78;refine(CX.o _).mono ?_;rintro e w1 ⟨rfl,hg1⟩))
       have Sv:=ae (ah jG.o (cZ hg1));clear hg1 e0 e1 e2 e3 e4 e5 e6 s1 s2 s3 s4 s5 hcw2
       cases al with
       | true =>
        go_wp2;go_roundw
        case rel=>exact⟨k+1,by go_num,by omega,by rw[Su.o];rfl,Sv.o⟩
        case measure=>simp[intOf];omega
       | false =>
        go_wp2;go_roundw
        case rel=>exact⟨k+1,by go_num,by omega,by rw[Su.o];rfl,Sv.o⟩
        case measure=>simp[intOf];omega
      ·have hkn:k=n1:=by omega
       subst hkn;have hfull:=List.take_of_length_le (by rw[jw.o.1];exact Nat.le_refl _);rw[hfull];obtain⟨r,hr⟩:=zN ((L.all fun x=>iK (bU x) v));have yN:=NEXT.o r hr;have bK:=ae yN;rw[hr];clear hr hfull yN hk hkl
       cases r with
       | true =>
        go_wp2;go_ret;exact⟨bn (bK.o.1 (by first|rfl|trivial)).symm,ah lZ.o (ah HG.o jG.o)⟩
       | false =>
        go_wp2;go_roundw
        case rel=>exact⟨i+1,by go_num,by omega,bK.o.2 (by first|rfl|trivial),ah HG.o jG.o⟩
        case measure=>simp[intOf];omega
   ·have mX:Hd (R=false):=by
     show R=false;rw[<-HR.o];unfold vJ;rw[List.any_eq_false];intro t ht;obtain⟨j,hj,rfl⟩:=List.getElem_of_mem ht;rw[HP.o j hj (by rw[HN.o]at hj;omega)];decide
    clear hi;go_wp2;go_ret;exact⟨bn mX.o.symm,ah lZ.o HG.o⟩
open Go.RowKit
theorem adk(s:ByteArray)(w:World)(hs:s.size<2 ^ 60):Calls prog 51 #[.string s] w fun e w'=>e=.returned (.bool (okR s))/\w.grownBy w' none:=by
 have CR:Hd (∀w,Calls prog 81 #[.string s] w fun e w'=>(∃(o:Option Addr) (n c:Nat) (k:Int),e=.returned (.tuple #[.slice o n c,.int .i64 (fF s.data.toList).1,.int .i64 k]))/\w.grownBy w' none):=fun w=>(Rq s w (by omega)).mono fun e w' ⟨o,n,c,h1,h2,_⟩=>⟨⟨o,n,c,_,h1⟩,h2⟩
 unfold okR;obtain⟨E,hE⟩:=zN ((fF s.data.toList).1);rw[hE]at CR ⊢;clear hE;have hd:decide (E=0)=(E == 0):=by rw[Bool.eq_iff_iff];simp
 rw[hd];clear hd;go_enter func51,ntmps51;go_wp2_with (go_at_call 81;refine(CR.o _).mono ?_);rintro e w1 ⟨⟨o,n,c,k,rfl⟩,hg⟩
 cases hz:(E == 0) with
 | true =>
  go_wp2;go_ret;exact⟨bn hz.symm,hg⟩
 | false =>
  go_wp2;go_ret;exact⟨bn hz.symm,hg⟩
theorem adl(s:ByteArray)(w:World)(hs:s.size<2 ^ 60):Calls prog 26 #[.string s] w fun e w'=>e=.returned (.bool (okR s))/\w.grownBy w' none:=by
 have CR:Hd (∀w,Calls prog 47 #[.string s] w fun e w'=>(∃(o:Option Addr) (n c:Nat) (k:Int),e=.returned (.tuple #[.slice o n c,.int .i64 (fF s.data.toList).1,.int .i64 k]))/\w.grownBy w' none):=fun w=>(Si s w hs).mono fun e w' ⟨o,n,c,A,h1,h2,_⟩=>⟨⟨o,n,c,_,h1⟩,h2⟩
 unfold okR;obtain⟨E,hE⟩:=zN ((fF s.data.toList).1);rw[hE]at CR ⊢;clear hE;have hd:decide (E=0)=(E == 0):=by rw[Bool.eq_iff_iff];simp
 rw[hd];clear hd;go_enter func26,ntmps26;go_wp2_with (go_at_call 47;refine(CR.o _).mono ?_);rintro e w1 ⟨⟨o,n,c,k,rfl⟩,hg⟩
 cases hz:(E == 0) with
 | true =>
  go_wp2;go_ret;exact⟨bn hz.symm,hg⟩
 | false =>
  go_wp2;go_ret;exact⟨bn hz.symm,hg⟩
theorem adm{s:ByteArray}(h:nameB s=true):s.size<=30:=by
 apply Classical.byContradiction;intro hn;rw[sF (fun h=>hn h.2.1)]at h
 cases h
theorem adn{L:List Nd}(h:L.all iC=true):∀x∈L,x.n.size<=maxLen:=by
 intro x hx;have h1:=List.all_eq_true.1 h x hx;unfold iC at h1;have:=adm (Bool.and_eq_true_iff.1 h1).1;unfold maxLen;omega
theorem ado(w:World):Calls prog 52 #[.slice none 0 0] w fun e w'=>e=.returned (.bool false)/\w.grownBy w' none:=by
 have hmm:=Ov 0 w;go_enter func52,ntmps52;go_wp2;go_loopw [13] (fun vi wr=>vi=.int .i64 0/\w.grownBy wr none) (fun vi _=>0)
 case atStart=>exact⟨rfl,au (ak w none) _⟩
 case round =>
  obtain⟨rfl,hb⟩:=hrel;have HB:=ae hb;clear hb hmm;go_wp2;go_ret;exact⟨rfl,HB.o⟩
theorem adp(v:Value)(L:List Nd)(w:World)(h:NdS w v L)(hL:L.length<=1048576)(hz:L.all iC=true) :
  Calls prog 52 #[v] w fun e w'=>e=.returned (.bool (fE L L.length))/\w.grownBy w' none:=by
 rcases h with⟨rfl,rfl⟩|⟨a,cap,rfl,h2,h3⟩
 ·exact ado w
 ·exact YA a cap L w hL h2 (adn hz) h3
theorem Fa{w:World}{o:Option Addr}{c:Nat}{L:List Nd}(h:NdS w (.slice o L.length c) L){i:Nat}(hi:i<L.length):∃a,o=some a/\L.length<=c/\∀j (hj:j<L.length),NdAt w (a.add (j*2)) L[j]:=by
 rcases h with⟨h1,h2⟩|⟨a,cap,h1,h2,h3⟩
 ·rw[h2]at hi;simp at hi
 ·cases h1
  exact⟨a,rfl,h2,h3⟩
theorem Sz(v:Value)(L:List Nd)(w:World)(h:NdS w v L)(hL:L.length<=1048576)(hS:∀x∈L,x.n.size<2 ^ 60/\x.r.size<2 ^ 60) :
  Calls prog 30 #[v] w fun e w'=>e=.returned (.int .i64 (dm L))/\w.grownBy w' none:=by
 have H1:=ae h;have CN:=ae (fun x (hx:x∈L) w=>name_any x.n w (by have:=(hS x hx).1;omega));have CR:=ae (fun x (hx:x∈L) w=>adk x.r w (hS x hx).2);have CT:=ae (fun w (h:NdS w v L) (hz:L.all iC=true)=>adp v L w h hL hz);obtain⟨o,c,rfl⟩:=rY h;have HT:=ae (QM L);have H5:=ae (QO L);have H0:=ae (QP L);obtain⟨R,hR⟩:=zN (dm L);rw[hR]at HT H5 H0 ⊢;clear h hS hR;go_enter func30,ntmps30;go_wp2;go_loopw [7] (fun vi wr=>∃i:Nat,vi=.int .i64 i/\i<=L.length/\(L.take i).all iC=true/\w.grownBy wr none) (fun vi _=>L.length-(intOf vi).toNat)
 case atStart=>exact⟨0,rfl,Nat.zero_le _,rfl,ak _ _⟩
 case round =>
  obtain⟨i,rfl,hi,hall,hg⟩:=hrel;have kY:=ae hall;have HG:=ae hg
  by_cases hlt:i<L.length
  ·obtain⟨a,rfl,hcv,hat⟩:=Fa (H1.o.grow hg) hlt;obtain⟨x,hx⟩:=zN (L[i]);obtain⟨e0,e1⟩:NdAt wr (a.add (i*2)) x:=by rw[<-hx];exact hat i hlt
   have hmem:x∈L:=by rw[<-hx];exact List.getElem_mem _
   have CX:=ae (CN.o x hmem);have CY:=ae (CR.o x hmem);have HF:Hd (iC x=false->R=2):=fun h=>HT.o i hlt (by rw[hx];exact h)
   have HN:=ae (fun(h:iC x=true)=>QN L i hlt (by rw[hx];exact h) kY.o);have hgd:iC x=(nameB x.n && okR x.r):=rfl;rw[hgd]at HF HN;obtain⟨q1,hq1⟩:=zN (nameB x.n);obtain⟨q2,hq2⟩:=zN (okR x.r);rw[hq1]at CX HF HN;rw[hq2]at CY HF HN;obtain⟨xn,xr⟩:=x;simp only[]at CX CY e0 e1;clear hall hg hx hmem hgd hq1 hq2 hat
   cases q1 with
   | false =>
    go_wp2_with (go_at_call 50;refine(CX.o _).mono ?_;rintro e w' ⟨rfl,rfl⟩);go_ret;exact⟨bD (HF.o (by trivial)).symm,au HG.o _⟩
   | true =>
    go_wp2_with (first|(go_at_call 50;refine(CX.o _).mono ?_;rintro e w' ⟨rfl,rfl⟩)|(go_at_call 51;refine(CY.o _).mono ?_));rintro e w3 ⟨rfl,hg3⟩;have dJ:=ae (ah HG.o (ah (au (ak wr none) _) hg3));clear hg3
    cases q2 with
    | false =>
     go_wp2;go_ret;exact⟨bD (HF.o (by trivial)).symm,dJ.o⟩
    | true =>
     go_wp2;exact⟨⟨i+1,by go_num,by omega,HN.o (by trivial),dJ.o⟩,by simp[intOf];omega⟩
  ·have hil:i=L.length:=by omega
   have HL:Hd (L.all iC=true):=by
    show L.all iC=true;rw[hil,List.take_length]at hall;exact hall
   have xE:=ae (CT.o wr (H1.o.grow hg) HL.o);have SC:=ae (H5.o HL.o);have H0':=ae (H0.o HL.o);obtain⟨q,hq⟩:=zN (fE L L.length);rw[hq]at xE SC H0';clear hall hg hil hi hq
   cases q with
   | true =>
    go_wp2_with (go_at_call 52;refine xE.o.mono ?_;rintro e w3 ⟨rfl,hg3⟩);go_ret;exact⟨bD (SC.o (by trivial)).symm,ah HG.o hg3⟩
   | false =>
    go_wp2_with (go_at_call 52;refine xE.o.mono ?_;rintro e w3 ⟨rfl,hg3⟩);go_ret;exact⟨bD (H0'.o (by trivial)).symm,ah HG.o hg3⟩
open Go.RowKit Go.Maps
theorem adq:(prog.info? 70).map (fun i=>(i.zero,i.size,i.bytes))=some (some (.int .u64 0),1,8):=by kernel_rfl
theorem adr(n:Nat):madeCells #[Value.int .u64 0] n=iG (List.replicate n 0):=by
 unfold madeCells iG;apply Array.ext';simp;apply List.ext_getElem?;intro i;simp
 by_cases h:i<n
 ·simp[h,Nat.mod_one]
 ·simp[h]
theorem ads(n:Nat)(hn:n<=1048576)(W:World):(Instr.makeSlice 71 (.int .i64 (n:Int)) (.int .i64 (n:Int))).run prog W=.ok (.slice (some ⟨W.heap.size,0,none⟩) n n) (W.alloc (.cells (iG (List.replicate n 0)) 70)):=by
 obtain⟨i0,hi0,hii⟩:=Option.map_eq_some_iff.1 adq;simp only[Prod.mk.injEq]at hii;obtain⟨hz0,hz1,hzb⟩:=hii;have:=run_make W 71 70 i0 (.int .u64 0) underlying71 hi0 hz0 .i64 .i64 (n:Int) (n:Int) (by omega) (Int.le_refl _) (by rw[hzb];omega) (by omega);rw[this,hz1];have e:((n:Int)).toNat=n:=by omega
 rw[e,Nat.mul_one];have e2:(Value.int .u64 0).cells=#[.int .u64 0]:=rfl;rw[e2,adr]
structure gz(N:List Nd)(L:List Re)(x:Pl):Prop where
 ok:YS x
 ln:x.mt.length=N.length
 nam:∀q,x.nam.testBit q=nK N L q
 mt:∀j (hj:j<x.mt.length) q,x.mt[j].testBit q=jV N L j q
 br:∀q,x.bar.testBit q=false->q<L.length->∀y∈N,y.n=aQ L q->gu y.r (gV L q)=true
 bx:∀q,x.bar.testBit q=true->∃y∈N,y.n=aQ L q/\gu y.r (gV L q)=false
structure kz(N:List Nd)(L:List Re)(i k nam bar:Nat)(M:List Nat):Prop where
 n1:nam<18446744073709551616
 n2:bar<18446744073709551616
 n3:∀m∈M,m<18446744073709551616
 b1:∀q,nam.testBit q=pU N L i k q
 b2:∀j (hj:j<M.length) q,M[j].testBit q=pV N L i k j q
 b3:∀q,bar.testBit q=false->q<L.length->∀j (hj:j<N.length),(j<i\/(j=i/\q<k))->N[j].n=aQ L q->gu N[j].r (gV L q)=true
 b4:∀q,bar.testBit q=true->∃y∈N,y.n=aQ L q/\gu y.r (gV L q)=false
theorem adt(N:List Nd)(L:List Re)(n:Nat):kz N L 0 0 0 0 (List.replicate n 0) :=
 ⟨by decide,by decide,fun m hm=>by rw[List.eq_of_mem_replicate hm];decide,fun q=>by rw[acE,Nat.zero_testBit],fun j hj q=>by rw[List.getElem_replicate,acF,Nat.zero_testBit],fun q _ _ j hj h=>by omega,fun q h=>by rw[Nat.zero_testBit]at h;cases h⟩
theorem adu{N:List Nd}{L:List Re}{i nam bar:Nat}{M:List Nat}(h:kz N L i L.length nam bar M)(hi:i<N.length):kz N L (i+1) 0 nam bar M :=
 ⟨h.n1,h.n2,h.n3,fun q=>by rw[h.b1,acG N L i q hi],fun j hj q=>by rw[h.b2 j hj,acH],fun q hb hq j hj hh e=>h.b3 q hb hq j hj (by omega) e,h.b4⟩
theorem adv{N:List Nd}{L:List Re}{i k nam bar:Nat}{M:List Nat}(h:kz N L i k nam bar M)(hi:i<N.length)(hk:k<L.length)(hn:¬N[i].n=aQ L k):kz N L i (k+1) nam bar M:=by
 have h1:xq N L i k=false:=by rw[ES N L i k hi];simpa using hn
 have h2:jV N L i k=false:=by rw[xm N L i k hi hk];simp[hn]
 exact⟨h.n1,h.n2,h.n3,fun q=>by rw[h.b1,JC N L i k q hk,h1];simp,fun j hj q=>by rw[h.b2 j hj,JD,h2];simp,fun q hb hq j hj hh e=>by
  by_cases hx:j=i/\q=k
  ·obtain⟨rfl,rfl⟩:=hx;exact absurd e hn
  ·exact h.b3 q hb hq j hj (by omega) e,h.b4⟩
theorem adw{N:List Nd}{L:List Re}{i k nam bar:Nat}{M:List Nat}(h:kz N L i k nam bar M)(hi:i<N.length)(hk:k<L.length)(hk64:k<64)(hn:N[i].n=aQ L k)(ha:gu N[i].r (gV L k)=true)(hiM:i<M.length):kz N L i (k+1) (nam ||| 2 ^ k) bar (M.set i (M[i] ||| 2 ^ k)):=by
 have h1:xq N L i k=true:=by rw[ES N L i k hi];simpa using hn
 have h2:jV N L i k=true:=by rw[xm N L i k hi hk,ha];simp[hn]
 refine⟨wM h.n1 (oV hk64),h.n2,fun m hm=>?_,fun q=>by rw[Bc,h.b1,JC N L i k q hk,h1];simp,fun j hj q=>?_,fun q hb hq j hj hh e=>?_,h.b4⟩
 ·rcases List.mem_or_eq_of_mem_set hm with hm|rfl
  ·exact h.n3 m hm
  ·exact wM (h.n3 _ (List.getElem_mem _)) (oV hk64)
 ·rw[JD,h2]
  by_cases hj':j=i
  ·subst hj';rw[List.getElem_set_self,Bc,h.b2 j hiM];simp
  ·rw[List.getElem_set_ne (fun e=>hj' e.symm),h.b2 j (by simpa using hj)];simp[hj']
 ·by_cases hx:j=i/\q=k
  ·obtain⟨rfl,rfl⟩:=hx;exact ha
  ·exact h.b3 q hb hq j hj (by omega) e
theorem adx{N:List Nd}{L:List Re}{i k nam bar:Nat}{M:List Nat}(h:kz N L i k nam bar M)(hi:i<N.length)(hk:k<L.length)(hk64:k<64)(hn:N[i].n=aQ L k)(ha:gu N[i].r (gV L k)=false):kz N L i (k+1) (nam ||| 2 ^ k) (bar ||| 2 ^ k) M:=by
 have h1:xq N L i k=true:=by rw[ES N L i k hi];simpa using hn
 have h2:jV N L i k=false:=by rw[xm N L i k hi hk,ha];simp
 exact⟨wM h.n1 (oV hk64),wM h.n2 (oV hk64),h.n3,fun q=>by rw[Bc,h.b1,JC N L i k q hk,h1];simp,fun j hj q=>by rw[h.b2 j hj,JD,h2];simp,fun q hb hq j hj hh e=>by
  rw[Bc,Bool.or_eq_false_iff]at hb;have hqk:¬k=q:=by simpa using hb.2
  exact h.b3 q hb.1 hq j hj (by omega) e,fun q hb=>by
  rw[Bc,Bool.or_eq_true]at hb
  rcases hb with hb|hb
  ·exact h.b4 q hb
  ·obtain rfl:k=q:=by simpa using hb
   exact⟨N[i],List.getElem_mem _,hn,ha⟩⟩
theorem ady{N:List Nd}{L:List Re}{nam bar:Nat}{M:List Nat}(h:kz N L N.length 0 nam bar M)(hl:M.length=N.length)(hN:N.length<=1048576):gz N L ⟨nam,bar,M⟩ :=
 ⟨⟨h.n1,h.n2,h.n3,by show M.length<=_;omega⟩,hl,fun q=>by rw[<-acI];exact h.b1 q,fun j hj q=>by rw[<-acJ N L j q (by have:j<M.length:=hj;omega)];exact h.b2 j hj q,fun q hb hq y hy e=>by
  obtain⟨j,hj,rfl⟩:=List.getElem_of_mem hy;exact h.b3 q hb hq j hj (Or.inl hj) e,h.b4⟩
open Go.RowKit Go.Maps Go.Joins
theorem JM(b n:Nat):(⟨b,0,none⟩:Addr).add n=⟨b,n,none⟩:=by
 unfold Addr.add;split
 ·rename_i h0;rw[h0]
 ·simp
theorem SE{w:World}{g n:Nat}{M:List Nat}(h:w.heap[g]?=some (.cells (iG M) 70 (0,0)))(hn:M.length=n):SnS w (.slice (some ⟨g,0,none⟩) n n) M:=by
 subst hn;refine Or.inr ⟨⟨g,0,none⟩,_,rfl,Nat.le_refl _,fun j hj=>?_⟩;rw[JM,ag h];unfold iG;simp[hj]
theorem adz:(prog.info? 109).map (fun i=>(i.zero,i.size,i.bytes))=some (some (.agg #[.int .i64 0,.int .i64 0,.int .i64 0,.string ⟨#[]⟩,.string ⟨#[]⟩]),5,56):=by kernel_rfl
theorem adA:(prog.info? 73).map (fun i=>(i.zero,i.size,i.bytes))=some (some (.agg #[.int .u64 0,.int .u64 0,.slice none 0 0]),3,40):=by kernel_rfl
theorem adB(n:Nat)(hn:n<=1048576)(W:World):(Instr.makeSlice 108 (.int .i64 (n:Int)) (.int .i64 (n:Int))).run prog W=.ok (.slice (some ⟨W.heap.size,0,none⟩) n n) (W.alloc (.cells (madeCells #[.int .i64 0,.int .i64 0,.int .i64 0,.string ⟨#[]⟩,.string ⟨#[]⟩] (n*5)) 109)):=by
 obtain⟨i0,hi0,hii⟩:=Option.map_eq_some_iff.1 adz;simp only[Prod.mk.injEq]at hii;obtain⟨hz0,hz1,hzb⟩:=hii;have:=run_make W 108 109 i0 _ underlying108 hi0 hz0 .i64 .i64 (n:Int) (n:Int) (by omega) (Int.le_refl _) (by rw[hzb];omega) (by omega);rw[this,hz1];have e:((n:Int)).toNat=n:=by omega
 rw[e];rfl
theorem adC(n:Nat)(hn:n<=1048576)(W:World):(Instr.makeSlice 74 (.int .i64 (n:Int)) (.int .i64 (n:Int))).run prog W=.ok (.slice (some ⟨W.heap.size,0,none⟩) n n) (W.alloc (.cells (madeCells #[.int .u64 0,.int .u64 0,.slice none 0 0] (n*3)) 73)):=by
 obtain⟨i0,hi0,hii⟩:=Option.map_eq_some_iff.1 adA;simp only[Prod.mk.injEq]at hii;obtain⟨hz0,hz1,hzb⟩:=hii;have:=run_make W 74 73 i0 _ underlying74 hi0 hz0 .i64 .i64 (n:Int) (n:Int) (by omega) (Int.le_refl _) (by rw[hzb];omega) (by omega);rw[this,hz1];have e:((n:Int)).toNat=n:=by omega
 rw[e];rfl
theorem setAt(cur:Array Value)(p k:Nat)(v:Value):(cur.setIfInBounds p v)[k]?=if p=k then(if p<cur.size then some v else none) else cur[k]?:=by
 rw[Array.getElem?_setIfInBounds]
def RowV(w:World)(V n i:Nat)(L:List Re):Prop:=∃cur:Array Value,w.heap[V]?=some (.cells cur 109 (0,0))/\cur.size=n*5/\∀j (hj:j<L.length),j<i->cur[j*5]?=some (.int .i64 (aZ L[j].ve).major)/\cur[j*5+1]?=some (.int .i64 (aZ L[j].ve).minor)/\cur[j*5+2]?=some (.int .i64 (aZ L[j].ve).patch)/\cur[j*5+3]?=some (.string ⟨(aZ L[j].ve).pre.toArray⟩)/\cur[j*5+4]?=some (.string ⟨(aZ L[j].ve).build.toArray⟩)
theorem RowV.grow{w w':World}{V n i:Nat}{L:List Re}(h:RowV w V n i L)(hg:w.grownBy w' none):RowV w' V n i L:=by
 obtain⟨cur,h1,h2,h3⟩:=h;exact⟨cur,(hg.block V (aA h1) (by simp)).trans h1,h2,h3⟩
theorem RowV.lt{w:World}{V n i:Nat}{L:List Re}(h:RowV w V n i L):V<w.heap.size:=by
 obtain⟨cur,h1,-⟩:=h;exact(aA h1)
theorem RowV.room{w:World}{V n i:Nat}{L:List Re}(h:RowV w V n i L)(q:Nat)(hq:q<n*5):(∃v,w.cell? ⟨V,q,none⟩=some v)/\w.frozen? ⟨V,q,none⟩=false:=by
 obtain⟨cur,h1,h2,-⟩:=h;refine⟨?_,Lib.frozen_of_heap h1 q⟩;rw[ag h1];exact⟨cur[q]'(by omega),Array.getElem?_eq_getElem (by omega)⟩
theorem RowV.set{w:World}{V n i:Nat}{L:List Re}(h:RowV w V n i L)(hi:i<L.length)(hn:L.length=n)(v1 v2 v3:Int)(v4 v5:ByteArray)(e1:(aZ L[i].ve).major=v1)(e2:(aZ L[i].ve).minor=v2)(e3:(aZ L[i].ve).patch=v3)(e4:(⟨(aZ L[i].ve).pre.toArray⟩:ByteArray)=v4)(e5:(⟨(aZ L[i].ve).build.toArray⟩:ByteArray)=v5) :
  RowV (((((w.setCell ⟨V,i*5,none⟩ (.int .i64 v1)).setCell ⟨V,i*5+1,none⟩ (.int .i64 v2)).setCell ⟨V,i*5+2,none⟩ (.int .i64 v3)).setCell ⟨V,i*5+3,none⟩ (.string v4)).setCell ⟨V,i*5+4,none⟩ (.string v5)) V n (i+1) L:=by
 obtain⟨cur,h1,h2,h3⟩:=h;refine⟨_,block_setCell (block_setCell (block_setCell (block_setCell (block_setCell h1 _) _) _) _) _,by simpa using h2,fun j hj hji=>?_⟩;have hs:i*5+4<cur.size:=by omega
 by_cases he:j=i
 ·subst he;rw[e1,e2,e3,e4,e5];simp only[setAt,Array.size_setIfInBounds];refine⟨?_,?_,?_,?_,?_⟩
  ·rw[if_neg (by omega),if_neg (by omega),if_neg (by omega),if_neg (by omega),if_pos trivial,if_pos (by omega)]
  ·rw[if_neg (by omega),if_neg (by omega),if_neg (by omega),if_pos trivial,if_pos (by omega)]
  ·rw[if_neg (by omega),if_neg (by omega),if_pos trivial,if_pos (by omega)]
  ·rw[if_neg (by omega),if_pos trivial,if_pos (by omega)]
  ·rw[if_pos trivial,if_pos (by omega)]
 ·have hlt:j<i:=by omega
  obtain⟨c1,c2,c3,c4,c5⟩:=h3 j hj hlt;simp only[setAt,Array.size_setIfInBounds];refine⟨?_,?_,?_,?_,?_⟩
  ·rw[if_neg (by omega),if_neg (by omega),if_neg (by omega),if_neg (by omega),if_neg (by omega)];exact c1
  ·rw[if_neg (by omega),if_neg (by omega),if_neg (by omega),if_neg (by omega),if_neg (by omega)];exact c2
  ·rw[if_neg (by omega),if_neg (by omega),if_neg (by omega),if_neg (by omega),if_neg (by omega)];exact c3
  ·rw[if_neg (by omega),if_neg (by omega),if_neg (by omega),if_neg (by omega),if_neg (by omega)];exact c4
  ·rw[if_neg (by omega),if_neg (by omega),if_neg (by omega),if_neg (by omega),if_neg (by omega)];exact c5
theorem RowV.vrs{w:World}{V n:Nat}{L:List Re}(h:RowV w V n L.length L):VrS w ⟨V,0,none⟩ L:=fun j hj=>by
 obtain⟨cur,h1,h2,h3⟩:=h;obtain⟨c1,c2,c3,c4,c5⟩:=h3 j hj hj;rw[JM];simp only[ag h1];exact⟨c1,c2,c3,c4,c5⟩
def RowP(w:World)(P n:Nat)(Q:List Pl):Prop:=∃cur:Array Value,w.heap[P]?=some (.cells cur 73 (0,0))/\cur.size=n*3/\∀j (hj:j<Q.length),∃g,cur[j*3]?=some (.int .u64 (Q[j].nam:Nat))/\cur[j*3+1]?=some (.int .u64 (Q[j].bar:Nat))/\cur[j*3+2]?=some (.slice (some ⟨g,0,none⟩) Q[j].mt.length Q[j].mt.length)/\w.heap[g]?=some (.cells (iG Q[j].mt) 70 (0,0))
theorem RowP.grow{w w':World}{P n:Nat}{Q:List Pl}(h:RowP w P n Q)(hg:w.grownBy w' none):RowP w' P n Q:=by
 obtain⟨cur,h1,h2,h3⟩:=h;refine⟨cur,(hg.block P (aA h1) (by simp)).trans h1,h2,fun j hj=>?_⟩;obtain⟨g,c1,c2,c3,c4⟩:=h3 j hj;exact⟨g,c1,c2,c3,(hg.block g (aA c4) (by simp)).trans c4⟩
theorem RowP.room{w:World}{P n:Nat}{Q:List Pl}(h:RowP w P n Q)(q:Nat)(hq:q<n*3):(∃v,w.cell? ⟨P,q,none⟩=some v)/\w.frozen? ⟨P,q,none⟩=false:=by
 obtain⟨cur,h1,h2,-⟩:=h;refine⟨?_,Lib.frozen_of_heap h1 q⟩;rw[ag h1];exact⟨cur[q]'(by omega),Array.getElem?_eq_getElem (by omega)⟩
theorem RowP.push{w:World}{P n i:Nat}{Q:List Pl}(h:RowP w P n Q)(hi:Q.length=i)(hin:i<n)(x:Pl)(g:Nat)(hg:w.heap[g]?=some (.cells (iG x.mt) 70 (0,0)))(m:Nat)(hm:x.mt.length=m) :
  RowP (((w.setCell ⟨P,i*3,none⟩ (.int .u64 (x.nam:Nat))).setCell ⟨P,i*3+1,none⟩ (.int .u64 (x.bar:Nat))).setCell ⟨P,i*3+2,none⟩ (.slice (some ⟨g,0,none⟩) m m)) P n (Q++[x]):=by
 subst hm hi;obtain⟨cur,h1,h2,h3⟩:=h;have hne:∀(k:Nat) (cs:Array Value),w.heap[k]?=some (.cells cs 70 (0,0))->¬k=P:=fun k cs hk e=>by
  subst e;rw[h1]at hk;injection hk with hk
  injection hk with _ e2 _
  exact absurd e2 (by decide)
 have hkeep:∀(k:Nat) (cs:Array Value),w.heap[k]?=some (.cells cs 70 (0,0))->(((w.setCell ⟨P,Q.length*3,none⟩ (.int .u64 (x.nam:Nat))).setCell ⟨P,Q.length*3+1,none⟩ (.int .u64 (x.bar:Nat))).setCell ⟨P,Q.length*3+2,none⟩ (.slice (some ⟨g,0,none⟩) x.mt.length x.mt.length)).heap[k]?=some (.cells cs 70 (0,0)):=fun k cs hk=>by
  rw[heap_setCell_other _ _ k _ (hne k cs hk),heap_setCell_other _ _ k _ (hne k cs hk),heap_setCell_other _ _ k _ (hne k cs hk)];exact hk
 refine⟨_,block_setCell (block_setCell (block_setCell h1 _) _) _,by simpa using h2,fun j hj=>?_⟩;rw[List.length_append,List.length_singleton]at hj
 by_cases he:j=Q.length
 ·subst he;rw[List.getElem_append_right (Nat.le_refl _)];simp only[Nat.sub_self,List.getElem_cons_zero];refine⟨g,?_,?_,?_,hkeep g _ hg⟩
  ·simp only[setAt,Array.size_setIfInBounds];rw[if_neg (by omega),if_neg (by omega),if_pos trivial,if_pos (by omega)]
  ·simp only[setAt,Array.size_setIfInBounds];rw[if_neg (by omega),if_pos trivial,if_pos (by omega)]
  ·simp only[setAt,Array.size_setIfInBounds];rw[if_pos trivial,if_pos (by omega)]
 ·have hlt:j<Q.length:=by omega
  rw[List.getElem_append_left hlt];obtain⟨g',c1,c2,c3,c4⟩:=h3 j hlt;refine⟨g',?_,?_,?_,hkeep g' _ c4⟩
  ·simp only[setAt,Array.size_setIfInBounds];rw[if_neg (by omega),if_neg (by omega),if_neg (by omega)];exact c1
  ·simp only[setAt,Array.size_setIfInBounds];rw[if_neg (by omega),if_neg (by omega),if_neg (by omega)];exact c2
  ·simp only[setAt,Array.size_setIfInBounds];rw[if_neg (by omega),if_neg (by omega),if_neg (by omega)];exact c3
theorem RowP.pls{w:World}{P n:Nat}{Q:List Pl}(h:RowP w P n Q)(hn:Q.length=n):PlS w (.slice (some ⟨P,0,none⟩) n n) Q:=by
 subst hn;obtain⟨cur,h1,h2,h3⟩:=h;refine Or.inr ⟨⟨P,0,none⟩,_,rfl,Nat.le_refl _,fun j hj=>?_⟩;obtain⟨g,c1,c2,c3,c4⟩:=h3 j hj;rw[JM];unfold PlAt;simp only[ag h1];exact⟨c1,c2,_,c3,SE c4 rfl⟩
open Go.RowKit
def nP(b:Bool):Int:=if b=true then 5 else 0
theorem adD(L:List Nd)(n:ByteArray)(k:Nat)(hk:k<L.length):(L.take (k+1)).any (fun y=>decide (y.n=n))=((L.take k).any (fun y=>decide (y.n=n)) || decide (L[k].n=n)):=by
 rw[List.take_succ_eq_append_getElem hk,List.any_append];simp
theorem adE(a:Addr)(cap:Nat)(L:List Nd)(w:World)(hcap:L.length<=cap)(h:∀i (hi:i<L.length),NdAt w (a.add (i*2)) L[i])(hL:L.length<=1048576)(hS:∀x∈L,x.n.size<2 ^ 60/\x.r.size<2 ^ 60) :
  Calls prog 12 #[.slice (some a) L.length cap] w fun e w'=>e=.returned (.int .i64 (dm L))/\w.grownBy w' none:=by
 have HA:=ae h;have CN:=ae (fun x (hx:x∈L) w=>OE x.n w (by have:=(hS x hx).1;omega));have CR:=ae (fun x (hx:x∈L) w=>adl x.r w (hS x hx).2);have HT:=ae (QM L);have HE:Hd (L.all iC=true->nP (fE L L.length)=dm L):=fun h=>by
  unfold nP
  cases ht:fE L L.length with
  | true=>rw[if_pos rfl,QO L h ht]
  | false=>rw[if_neg (by simp),QP L h ht]
 obtain⟨R,hR⟩:=zN (dm L);rw[hR]at HT HE ⊢;clear h hS hR;go_enter func12,ntmps12;go_wp2;go_loopw [3,4] (fun ve vi wr=>∃i:Nat,vi=.int .i64 i/\ve=.int .i64 (nP (fE L i))/\i<=L.length/\(L.take i).all iC=true/\w.grownBy wr none) (fun _ vi _=>L.length-(intOf vi).toNat)
 case atStart=>exact⟨0,rfl,rfl,Nat.zero_le _,rfl,ak _ _⟩
 case round =>
  obtain⟨i,rfl,rfl,hi,hall,hg⟩:=hrel;have kY:=ae hall;have HG:=ae hg
  by_cases hlt:i<L.length
  ·obtain⟨x,hx⟩:=zN (L[i]);obtain⟨e0,e1⟩:NdAt wr (a.add (i*2)) x:=by rw[<-hx];exact(HA.o i hlt).grow hg
   have hmem:x∈L:=by rw[<-hx];exact List.getElem_mem _
   have CX:=ae (CN.o x hmem);have CY:=ae (CR.o x hmem);have HF:Hd (iC x=false->R=2):=fun h=>HT.o i hlt (by rw[hx];exact h)
   have HN:=ae (fun(h:iC x=true)=>QN L i hlt (by rw[hx];exact h) kY.o);have JO:Hd (fE L (i+1)=(fE L i || (L.take i).any (fun y=>decide (y.n=x.n)))):=by
    show _=_;rw[Bd L i hlt,hx];rfl
   have HX:=ae hx;have hgd:iC x=(nameB x.n && okR x.r):=rfl;rw[hgd]at HF HN;obtain⟨t0,ht0⟩:=zN (fE L i);rw[ht0]at JO ⊢;obtain⟨q1,hq1⟩:=zN (nameB x.n);obtain⟨q2,hq2⟩:=zN (okR x.r);rw[hq1]at CX HF HN;rw[hq2]at CY HF HN;obtain⟨xn,xr⟩:=x;simp only[]at CX CY e0 e1 JO;clear hall hg hx hmem hgd hq1 hq2 ht0;go_wp2_with (first|(go_at_call 23;refine(CX.o _).mono ?_;rintro e w' ⟨rfl,rfl⟩)|(go_at_call 26;refine(CY.o _).mono ?_));rintro e w3 ⟨rfl,hg3⟩;have dJ:=ae (ah HG.o hg3);clear hg3 e0 e1
   cases q1 with
   | false =>
    go_wp2;go_ret;exact⟨bD (HF.o (by trivial)).symm,dJ.o⟩
   | true =>
    cases q2 with
    | false =>
     go_wp2;go_ret;exact⟨bD (HF.o (by trivial)).symm,dJ.o⟩
    | true =>
     go_wp2;go_loopw [3,7] (fun ve vk wk=>∃k:Nat,vk=.int .i64 k/\ve=.int .i64 (nP (t0 || (L.take k).any (fun y=>decide (y.n=xn))))/\k<=i/\w.grownBy wk none) (fun _ vk _=>i-(intOf vk).toNat)
     case atStart=>exact⟨0,rfl,by simp,Nat.zero_le _,dJ.o⟩
     case round =>
      obtain⟨k,rfl,rfl,hk,hgk⟩:=hrel;have jG:=ae hgk
      by_cases hki:k<i
      ·have hkl:k<L.length:=by omega
       obtain⟨y,hy⟩:=zN (L[k]);have f0:wr.cell? (a.add (k*2))=some (.string y.n):=by rw[<-hy];exact((HA.o k hkl).grow hgk).1
       have f1:wr.cell? (a.add (i*2))=some (.string xn):=by
        have:=((HA.o i hlt).grow hgk).1;rw[HX.o]at this;exact this
       have qZ:Hd ((L.take (k+1)).any (fun y=>decide (y.n=xn))=((L.take k).any (fun y=>decide (y.n=xn)) || decide (y.n=xn))):=by
        show _=_;rw[adD L xn k hkl,hy]
       obtain⟨q0,hq0⟩:=zN ((t0 || (L.take k).any (fun y=>decide (y.n=xn))));have bK:Hd ((t0 || (L.take (k+1)).any (fun y=>decide (y.n=xn)))=(q0 || decide (y.n=xn))):=by
        show _=_;rw[qZ.o,<-Bool.or_assoc,hq0]
       try rw[hq0]
       clear hgk hy hq0
       by_cases hxy:y.n=xn
       ·have q:=BK hxy;have HV:Hd ((5:Int)=nP (t0 || (L.take (k+1)).any (fun y=>decide (y.n=xn)))):=by
         show _=_;rw[bK.o];simp[hxy,nP]
        go_wp2;go_quiet (fail);go_wp2;go_roundw
        case rel=>exact⟨k+1,by go_num,by rw[<-HV.o],by omega,aF jG.o _⟩
        case measure=>simp[intOf];omega
       ·have q:=uY hxy;have HV:Hd (nP q0=nP (t0 || (L.take (k+1)).any (fun y=>decide (y.n=xn)))):=by
         show _=_;rw[bK.o];simp[hxy]
        go_wp2;go_quiet (fail);go_wp2;go_roundw
        case rel=>exact⟨k+1,by go_num,by rw[<-HV.o],by omega,aF jG.o _⟩
        case measure=>simp[intOf];omega
      ·have hke:k=i:=by omega
       subst hke;clear hgk hk;have HV:Hd (nP (t0 || (L.take k).any (fun y=>decide (y.n=xn)))=nP (fE L (k+1))):=by
        show _=_;rw[JO.o]
       obtain⟨E1,hE1⟩:=zN (nP (t0 || (L.take k).any (fun y=>decide (y.n=xn))));rw[hE1]at HV
       try rw[hE1]
       clear hE1;go_wp2;go_roundw
       case rel=>exact⟨k+1,by go_num,by rw[HV.o],by omega,HN.o (by trivial),jG.o⟩
       case measure=>simp[intOf];omega
  ·have hil:i=L.length:=by omega
   have HL:Hd (nP (fE L i)=R):=by
    show _=R;rw[hil,List.take_length]at hall;rw[hil];exact HE.o hall
   obtain⟨E1,hE1⟩:=zN (nP (fE L i));rw[hE1]at HL
   try rw[hE1]
   clear hall hg hil hi hE1;go_wp2;go_ret;exact⟨bD HL.o,HG.o⟩
theorem adF(w:World):Calls prog 12 #[.slice none 0 0] w fun e w'=>e=.returned (.int .i64 (dm []))/\w.grownBy w' none:=by
 have e0:dm []=0:=by simp[dm,fE]
 rw[e0];clear e0;go_enter func12,ntmps12;go_wp2;go_loopw [3,4] (fun ve vi wr=>vi=.int .i64 0/\ve=.int .i64 0/\w.grownBy wr none) (fun _ vi _=>0)
 case atStart=>exact⟨rfl,rfl,ak _ _⟩
 case round =>
  obtain⟨rfl,rfl,hb⟩:=hrel;have HB:=ae hb;clear hb;go_wp2;go_ret;exact⟨rfl,HB.o⟩
theorem SG(v:Value)(L:List Nd)(w:World)(h:NdS w v L)(hL:L.length<=1048576)(hS:∀x∈L,x.n.size<2 ^ 60/\x.r.size<2 ^ 60) :
  Calls prog 12 #[v] w fun e w'=>e=.returned (.int .i64 (dm L))/\w.grownBy w' none:=by
 rcases h with⟨rfl,rfl⟩|⟨a,cap,rfl,h2,h3⟩
 ·exact adF w
 ·exact adE a cap L w h2 h3 hL hS
open Go.RowKit
theorem xG{i:Nat}{P:List Re}{x:Re}(h:50<=i\/20<x.nd.length):mJ i P x=4:=by unfold mJ;rw[if_pos h]
theorem JP{i:Nat}{P:List Re}{x:Re}(h:¬(50<=i\/20<x.nd.length))(h2:nameB x.nm=false\/okV x.ve=false\/dm x.nd=2):mJ i P x=2:=by unfold mJ;rw[if_neg h,if_pos h2]
theorem JQ{i:Nat}{P:List Re}{x:Re}(h:¬(50<=i\/20<x.nd.length))(h2:¬(nameB x.nm=false\/okV x.ve=false\/dm x.nd=2)):mJ i P x=if dm x.nd=5\/P.any (fG x.nm x.ve)=true then 5 else 0:=by unfold mJ;rw[if_neg h,if_neg h2]
theorem zQ{w:World}{N:Nat}{n v d:ByteArray}{sv:Value}{t:TypeId}(h:w.heap[N]?=some (.cells #[.string n,.string v,sv,.string d] t (0,0))):w.cell? ⟨N,0,none⟩=some (.string n)/\w.cell? ⟨N,1,none⟩=some (.string v)/\w.cell? ⟨N,2,none⟩=some sv/\w.cell? ⟨N,3,none⟩=some (.string d) :=
 ⟨by rw[ag h];rfl,by rw[ag h];rfl,by rw[ag h];rfl,by rw[ag h];rfl⟩
theorem adG{w:World}{a:Addr}{cap:Nat}{L:List Re}(i:Nat)(hi:i<=L.length)(hc:L.length<=cap)(h:∀j (hj:j<L.length),ReAt w (a.add (j*4)) L[j]):ReS w (.slice (some a) i cap) (L.take i):=by
 have hl:(L.take i).length=i:=by simp;omega
 refine Or.inr ⟨a,cap,by rw[hl],by omega,fun j hj=>?_⟩;rw[List.getElem_take];exact h j (by omega)
theorem adH(a:Addr)(cap:Nat)(L:List Re)(i:Nat)(w:World)(hi:i<L.length)(hcap:L.length<=cap)(h:∀j (hj:j<L.length),ReAt w (a.add (j*4)) L[j])(hL:L.length<=1048576)(hV:∀x∈L,x.nm.size<2 ^ 60/\x.ve.size<2 ^ 60)(hN:∀x∈L,x.nd.length<=1048576)(hS:∀x∈L,∀y∈x.nd,y.n.size<2 ^ 60/\y.r.size<2 ^ 60) :
  Calls prog 49 #[.slice (some a) L.length cap,.int .i64 i] w fun e w'=>e=.returned (.int .i64 (kM L i))/\w.grownBy w' none:=by
 rw[Jr L i hi];have HA:=ae h;obtain⟨x,hx⟩:=zN (L[i]);have hmem:x∈L:=by rw[<-hx];exact List.getElem_mem _
 obtain⟨e0,e1,⟨sv,e2,hsv⟩,e3⟩:ReAt w (a.add (i*4)) x:=by rw[<-hx];exact h i hi
 rw[hx];have HP:=ae (fun w' (hg:w.grownBy w' none)=>adG i (by omega) hcap fun j hj=>(HA.o j hj).grow hg);have uh:=ae hsv;obtain⟨so,sc,rfl⟩:=rY hsv;have CP:Hd (∀w,Calls prog 53 #[.string x.ve] w fun e w'=>(∃(x1 x2 x3:Int) (x4 x5:ByteArray) (k:Int),e=.returned (.tuple #[.agg #[.int .i64 x1,.int .i64 x2,.int .i64 x3,.string x4,.string x5],.int .i64 (gG x.ve.data.toList).1,.int .i64 k]))/\w.grownBy w' none):=fun w=>(parse_any x.ve w (by have:=(hV x hmem).2;omega)).mono fun e w' ⟨h1,h2⟩=>⟨⟨_,_,_,_,_,_,h1⟩,h2⟩
 have CN:=ae (fun w=>name_any x.nm w (by have:=(hV x hmem).1;omega));have CF:=ae (fun w (h:NdS w (.slice so x.nd.length sc) x.nd)=>Sz _ x.nd w h (hN x hmem) (hS x hmem));have CI:=ae (fun w (h:ReS w (.slice (some a) i cap) (L.take i))=>Qw _ (L.take i) x.nm x.ve w h (by simp;omega) (fun y hy=>by have:=(hV y (List.mem_of_mem_take hy)).2;omega) (by have:=(hV x hmem).2;omega));have qQ:Hd (0<=gU x.nm x.ve (L.take i) 0↔(L.take i).any (fG x.nm x.ve)=true):=QR _ _ _ _;have hil:i<=1048576:=by omega
 have hiL:(i:Int)<(L.length:Int):=by omega
 have hic:i<=cap:=by omega
 clear h hV hN hS hmem hx hsv;obtain⟨R,hR⟩:=zN (mJ i (L.take i) x);rw[hR]
 by_cases hm:50<=i
 ·have HR:=ae (hR.symm.trans (xG (Or.inl hm)));clear hR;go_enter func49,ntmps49;go_wp2;go_ret;exact⟨bD HR.o.symm,au (ak w none) _⟩
 ·by_cases hn:20<x.nd.length
  ·have HR:=ae (hR.symm.trans (xG (Or.inr hn)));clear hR;go_enter func49,ntmps49;go_wp2;go_ret;exact⟨bD HR.o.symm,au (ak w none) _⟩
  ·have xH:¬(50<=i\/20<x.nd.length):=by omega
   have HT:Hd (nameB x.nm=false\/okV x.ve=false\/dm x.nd=2->R=2):=fun h=>hR.symm.trans (JP xH h)
   have HQ:Hd (¬(nameB x.nm=false\/okV x.ve=false\/dm x.nd=2)->R=if dm x.nd=5\/(L.take i).any (fG x.nm x.ve)=true then 5 else 0):=fun h=>hR.symm.trans (JQ xH h)
   have hok:okV x.ve=decide ((gG x.ve.data.toList).1=0):=rfl;rw[hok]at HT HQ;obtain⟨E,hE⟩:=zN ((gG x.ve.data.toList).1);rw[hE]at HT HQ CP;obtain⟨q,hq⟩:=zN (nameB x.nm);rw[hq]at HT HQ CN;obtain⟨W,hW⟩:=zN (dm x.nd);rw[hW]at HT HQ CF;obtain⟨F,hF⟩:=zN (gU x.nm x.ve (L.take i) 0);rw[hF]at qQ CI;obtain⟨nn,hnn⟩:=zN (x.nd.length);rw[hnn]at uh CF e2 hn;obtain⟨xn,xv,xd,xa⟩:=x;simp only[]at CP CN CI e0 e1 e3 uh CF HQ qQ;clear hR xH hok hE hq hW hF hnn;obtain⟨A,hA⟩:=zN (w.heap.size);go_enter func49,ntmps49;go_wp2_with (first|(go_at_call 53;refine(CP.o _).mono ?_));rintro e w1 ⟨⟨x1,x2,x3,x4,x5,k,rfl⟩,hg1⟩;obtain⟨c0,c1,c2,c3⟩:=zQ ((hg1.block w.heap.size (by simp) (by simp)).trans (heap_alloc_new w _));have bI:=ae (ah (au (ak w none) _) hg1);have Sr:Hd (A<w1.heap.size):=by
    have:=hg1.size;simp at this;show A < _;omega
   try rw[hA]
   rw[hA]at c0 c1 c2 c3;have hal:=Sr.o;clear hg1 e0 e1 e2 e3;have g1:=au (ak w1 none) (.cells #[.int .i64 x1,.int .i64 x2,.int .i64 x3,.string x4,.string x5] 109);have d0:=g1.cell c0 (by simp);have d1:=g1.cell c1 (by simp);have d2:=g1.cell c2 (by simp);clear c0 c1 c2 c3;go_wp2_with (first|(go_at_call 30;refine(CF.o _ (uh.o.grow (ah bI.o g1))).mono ?_));rintro e w2 ⟨rfl,hg2⟩;have f0:=hg2.cell d0 (by simp);have f1:=hg2.cell d1 (by simp);have HG2:=ae (ah bI.o (ah g1 hg2));clear d0 d1 d2 g1 hg2 uh hal hA;have zF:=ae (fun w' (hg:w2.grownBy w' none)=>HP.o w' (ah HG2.o hg))
   cases q with
   | false =>
    go_wp2_with (go_at_call 50;refine(CN.o _).mono ?_;rintro e w' ⟨rfl,rfl⟩);go_ret;exact⟨bD (HT.o (Or.inl (by trivial))).symm,HG2.o⟩
   | true =>
    by_cases hE:E=0
    ·subst hE
     by_cases hW2:W=2
     ·subst hW2;go_wp2_with (go_at_call 50;refine(CN.o _).mono ?_;rintro e w' ⟨rfl,rfl⟩);go_ret;exact⟨bD (HT.o (Or.inr (Or.inr (by trivial)))).symm,HG2.o⟩
     ·have hw2:(W == 2)=false:=by simp[hW2]
      have xI:Hd (R=if W=5\/(L.take i).any (fG xn xv)=true then 5 else 0):=HQ.o (by simp[hW2]);clear hW2
      by_cases hW5:W=5
      ·subst hW5;have HR:=ae (xI.o.trans (if_pos (Or.inl rfl)));have h55:((5:Int) == 5)=true:=rfl;go_wp2_with (go_at_call 50;refine(CN.o _).mono ?_;rintro e w' ⟨rfl,rfl⟩);go_quiet (fail);go_wp2;go_ret;exact⟨bD HR.o.symm,aF HG2.o _⟩
      ·have hw5:(W == 5)=false:=by simp[hW5]
       have D6:Hd (0<=F->R=5):=fun h=>xI.o.trans (if_pos (Or.inr (qQ.o.1 h)))
       have HR0:Hd (¬0<=F->R=0):=fun h=>xI.o.trans (if_neg (fun h2=>h2.elim hW5 (fun h3=>h (qQ.o.2 h3))))
       have CII:Hd (Calls prog 59 #[.slice (some a) i cap,.string xn,.string xv] w2.drew fun e w'=>e=.returned (.int .i64 F)/\w2.drew.grownBy w' none):=CI.o _ (zF.o _ ⟨rfl,rfl,rfl,Nat.le_refl _,fun _ _ _=>rfl⟩);clear hW5;go_wp2_with (go_at_call 50;refine(CN.o _).mono ?_;rintro e w' ⟨rfl,rfl⟩)
       go_region_held3 (fun w'=>w'.cell? ⟨A,0,none⟩=some (.string xn)/\w'.cell? ⟨A,1,none⟩=some (.string xv)) ((first|exact⟨World.grownBy.cell (by assumption) (And.left (by assumption)) (by simp),World.grownBy.cell (by assumption) (And.right (by assumption)) (by simp)⟩|go_keep)) (first|(go_at_call 59;refine CII.o.mono ?_;rintro e w3 ⟨rfl,hg3⟩))
       have dJ:=ae (ah HG2.o (cZ hg3));clear hg3
       by_cases hF:0<=F
       ·go_wp2;go_ret;exact⟨bD (D6.o hF).symm,dJ.o⟩
       ·go_wp2;go_ret;exact⟨bD (HR0.o hF).symm,dJ.o⟩
    ·have hE1:(E != 0)=true:=by simp[hE]
     have HR:=ae (HT.o (Or.inr (Or.inl (by simp[hE]))));clear hE;go_wp2_with (go_at_call 50;refine(CN.o _).mono ?_;rintro e w' ⟨rfl,rfl⟩);go_ret;exact⟨bD HR.o.symm,HG2.o⟩
theorem check_any(v:Value)(L:List Re)(w:World)(h:ReS w v L)(hL:L.length<=1048576)(hV:∀x∈L,x.nm.size<2 ^ 60/\x.ve.size<2 ^ 60)(hN:∀x∈L,x.nd.length<=1048576)(hS:∀x∈L,∀y∈x.nd,y.n.size<2 ^ 60/\y.r.size<2 ^ 60) :
  Calls prog 29 #[v] w fun e w'=>e=.returned (.tuple #[.int .i64 (dV L L.length).1,.int .i64 ((dV L L.length).2:Int)])/\w.grownBy w' none:=by
 have H1:=ae h;have CF:=ae (fun(a:Addr) (cap:Nat) (i:Nat) (w:World) (h1:i<L.length) (h2:L.length<=cap) (h3:(∀j (hj:j<L.length),ReAt w (a.add (j*4)) L[j]))=>adH a cap L i w h1 h2 h3 hL hV hN hS);obtain⟨o,c,rfl⟩:∃o c,v=.slice o L.length c:=by
  rcases h with⟨rfl,rfl⟩|⟨a,cap,rfl,-⟩
  ·exact⟨_,_,rfl⟩
  ·exact⟨_,_,rfl⟩
 have HH:=ae (QS L);have HM:=ae (QT L);obtain⟨R,hR⟩:=zN (dV L L.length);have JR:Hd (dV L (L.length-0)=R):=hR;rw[hR];clear h hV hN hS hR;go_enter func29,ntmps29;go_wp2;go_loopw [8] (fun vi wr=>∃i:Nat,vi=.int .i64 i/\i<=L.length/\dV L (L.length-i)=R/\w.grownBy wr none) (fun vi _=>L.length-(intOf vi).toNat)
 case atStart=>exact⟨0,rfl,Nat.zero_le _,JR.o,ak _ _⟩
 case round =>
  obtain⟨i,rfl,hi,hc,hg⟩:=hrel;have HG:=ae hg;have HC:=ae hc
  by_cases hlt:i<L.length
  ·have JS:Hd (Calls prog 49 #[.slice o L.length c,.int .i64 i] wr fun e w'=>e=.returned (.int .i64 (kM L i))/\wr.grownBy w' none):=by
    rcases H1.o.grow hg with⟨h1,h2⟩|⟨a,cap,h1,h2,h3⟩
    ·rw[h2]at hlt;simp at hlt
    ·cases h1
     exact CF.o a c i wr hlt h2 h3
   have xJ:Hd (¬kM L i=0->R=(kM L i,i)):=fun h=>HC.o.symm.trans (HH.o i hlt h)
   have Fb:=ae (fun(h:kM L i=0)=>(HM.o i hlt h).symm.trans HC.o);obtain⟨F,hF⟩:=zN (kM L i);rw[hF]at JS xJ Fb;clear hF hc hg
   by_cases hz:F=0
   ·subst hz;go_wp2_with (go_at_call 49;refine JS.o.mono ?_;rintro e w3 ⟨rfl,hg3⟩);exact⟨⟨i+1,by go_num,by omega,Fb.o (by trivial),ah HG.o hg3⟩,by simp[intOf];omega⟩
   ·have hz1:(F != 0)=true:=by simp[hz]
    have HR:=ae (xJ.o hz);clear hz;go_wp2_with (go_at_call 49;refine JS.o.mono ?_;rintro e w3 ⟨rfl,hg3⟩);refine bodyPost_ret (results_tmp2 (t:=2) (u:=3) rfl _ _ _) rfl ⟨?_,ah HG.o hg3⟩;rw[HR.o];rfl
  ·have hil:i=L.length:=by omega
   have HR:Hd (R=(0,0)):=by
    show R=_;rw[<-hc,hil,Nat.sub_self];rfl
   clear hc hg hil hi;go_wp2;refine bodyPost_ret (results_tmp2 (t:=2) (u:=3) rfl _ _ _) rfl ⟨?_,HG.o⟩;rw[HR.o];rfl
open Go.RowKit Go.Maps
def dS(C:List Int)(k:Nat):Bool:=C.any fun c=>decide (c.toNat=k)
inductive Wt(N:List Nd)(L:List Re)(C:List Int):Nat->Prop
 | base (k:Nat):dS C k=true->nK N L k=true->Wt N L C k
 | step (k j:Nat) (hj:j<L.length):Wt N L C j->dS C k=true->nK L[j].nd L k=true->Wt N L C k
noncomputable def jK(N:List Nd)(L:List Re):Int:=if(dV L L.length).1=0 then dm N else 7
structure jW(N:List Nd)(L:List Re)(C:List Int):Prop where
 f:jK N L=0
 ok:sH L C C.length=true
 m0:∀j,j<N.length->∃q,dS C q=true/\jV N L j q=true
 m1:∀k (hk:k<L.length),dS C k=true->∀j,j<L[k].nd.length->∃q,dS C q=true/\jV L[k].nd L j q=true
 wt:∀k,dS C k=true->Wt N L C k
theorem adI{N:List Nd}{L:List Re}{C:List Int}{k:Nat}(h:Wt N L C k):dS C k=true:=by cases h<;>assumption
section
variable {N:List Nd} {L:List Re} {C:List Int} {x:Pl} {Q:List Pl}
theorem in_lt{k:Nat}(hr:sH L C C.length=true)(h:dS C k=true):k<L.length:=by
 unfold sH nz at hr;rw[Bool.and_eq_true,List.take_length,List.all_eq_true]at hr;unfold dS at h;rw[List.any_eq_true]at h;obtain⟨c,hc,he⟩:=h;have h1:=of_decide_eq_true (hr.1 c hc);have h2:=of_decide_eq_true he;omega
end
theorem adJ(L:List Re)(h:(dV L L.length).1=0):∀i,i<L.length->kM L i=0:=by
 have key:∀n,n<=L.length->(dV L n).1=0->∀i,L.length-n<=i->i<L.length->kM L i=0:=by
  intro n
  induction n with
  | zero=>intro _ _ i h1 h2;omega
  | succ n ih =>
   intro hn h0 i h1 h2
   by_cases he:kM L (L.length-(n+1))=0
   ·rw[dV,if_pos he]at h0
    by_cases hi:i=L.length-(n+1)
    ·rw[hi];exact he
    ·exact ih (by omega) h0 i (by omega) h2
   ·rw[dV,if_neg he]at h0;exact absurd h0 he
 intro i hi;exact key L.length (Nat.le_refl _) h i (by omega) hi
theorem JU{N:List Nd}(h:dm N=0):∀y∈N,iC y=true:=by
 unfold dm at h;split at h
 ·rename_i ha;exact List.all_eq_true.1 ha
 ·exact absurd h (by decide)
theorem Fe(L:List Re)(h:(dV L L.length).1=0):L.length<=50/\∀x∈L,x.nd.length<=20/\okV x.ve=true/\∀y∈x.nd,okR y.r=true:=by
 have h0:=adJ L h;have h1:∀i (hi:i<L.length),i<50/\L[i].nd.length<=20/\okV L[i].ve=true/\dm L[i].nd=0:=fun i hi=>by
  have:=h0 i hi;rw[Jr L i hi]at this
  by_cases c1:50<=i\/20<L[i].nd.length
  ·rw[xG c1]at this;exact absurd this (by decide)
  ·by_cases c2:nameB L[i].nm=false\/okV L[i].ve=false\/dm L[i].nd=2
   ·rw[JP c1 c2]at this;exact absurd this (by decide)
   ·rw[JQ c1 c2]at this;have c3:¬dm L[i].nd=5:=fun e=>by rw[if_pos (Or.inl e)]at this;exact absurd this (by decide)
    have c4:okV L[i].ve=true:=by
     cases hv:okV L[i].ve with
     | true=>rfl
     | false=>exact absurd (Or.inr (Or.inl hv)) c2
    refine⟨by omega,by omega,c4,?_⟩
    rcases QQ L[i].nd with e|e|e
    ·exact e
    ·exact absurd (Or.inr (Or.inr e)) c2
    ·exact absurd e c3
 refine⟨?_,fun x hx=>?_⟩
 ·apply Classical.byContradiction;intro hn;have:=(h1 50 (by omega)).1;omega
 ·obtain⟨i,hi,rfl⟩:=List.getElem_of_mem hx;obtain⟨-,a1,a2,a3⟩:=h1 i hi;refine⟨a1,a2,fun y hy=>?_⟩;have:=JU a3 y hy;unfold iC at this;rw[Bool.and_eq_true]at this;exact this.2
end Go.Proofs.YtapodndfpecglaaGreatDoor
