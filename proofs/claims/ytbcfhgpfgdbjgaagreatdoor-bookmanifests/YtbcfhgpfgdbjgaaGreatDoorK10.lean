import Derived.Test.YtbcfhgpfgdbjgaaGreatDoorK06
import Derived.Test.YtbcfhgpfgdbjgaaGreatDoorK08
set_option linter.all false
set_option maxRecDepth 100000
set_option maxHeartbeats 0
open Go.Proofs.Tryz
namespace Go.Proofs.YtbcfhgpfgdbjgaaGreatDoor
open Go.RowKit
variable{B P:ByteArray}{x1 x2 x3:Int}{ns ns':List Tn}{k:List UInt8}{A b i j n p t t' v:Nat}{w w' w1:World}
theorem Vd{o:Obj}(h:(w.alloc o).grownBy w1 (some w.heap.size)):w.grownBy w1 none :=
 ⟨h.os,h.tape,h.output,by have:=h.size;simp at this;omega,fun k hk _=>by rw[h.block k (by simp;omega) (by simp;omega)];exact Lib.alloc_old w o k hk⟩
theorem Ve(s:ByteArray)(kind:Int)(st:Bool)(w:World)(h0:s.size≠0)(hs:s.size<2 ^ 62)
  (hk:∀b w,RS b s 0 w->Calls prog 144 #[.pointer (some ⟨b,0,none⟩),.int .i64 kind] w fun e w'=>e=.returned (.int .i64 (aX st s.data.toList 0).1)/\RS b s (aX st s.data.toList 0).2 w'/\w.grownBy w' (some b)) :
  Calls prog 190 #[.string s,.int .i64 kind] w fun e w'=>e=.returned (.bool (iq st s.data.toList))/\w.grownBy w' none:=by
 obtain⟨R,hR⟩:∃R,R=iq st s.data.toList:=⟨_,rfl⟩;obtain⟨E,Q,jK⟩:∃E Q,aX st s.data.toList 0=(E,Q):=⟨_,_,rfl⟩;have HR:Hd (R=(decide (E=0) && decide (Q=s.size))):=by
  show R=_;have hne:s.data.toList≠[]:=fun e=>h0 (by show s.data.size=0;rw[<-Array.length_toList,e];rfl)
  rw[hR,<-aa0 st _ hne,jK,Bool.eq_iff_iff];simp[Prod.ext_iff]
 have HK:Hd (∀b w,RS b s 0 w->Calls prog 144 #[.pointer (some ⟨b,0,none⟩),.int .i64 kind] w fun e w'=>e=.returned (.int .i64 E)/\RS b s Q w'/\w.grownBy w' (some b)):=by
  intro b w hb;have:=hk b w hb;rw[jK]at this;exact this
 rw[<-hR];clear hR jK hk h0;go_enter func190,ntmps190;go_wp2_with (go_at_call 144;refine(HK.o _ _ ⟨_,heap_alloc_new w _⟩).mono ?_);rintro e w1 ⟨rfl,hr1,hg1⟩;have HG:=ae (Vd hg1);have CE:=ae (IL _ s Q w1 hr1);clear hg1 hr1
 cases hE:(E==0) with
 |false=>
  have HZ:Hd (R=false):=by show R=false;rw[HR.o,decide_eq_false (by simpa using hE)];rfl
  go_wp2;go_ret;exact⟨bu HZ.o.symm,HG.o⟩
 |true=>
  have HZ:Hd (R=decide (Q=s.size)):=by
   show R=_;have h1:E=0:=by simpa using hE
   rw[HR.o,decide_eq_true h1,Bool.true_and]
  obtain⟨q,hq⟩:=zN (decide (Q=s.size));rw[hq]at CE HZ;clear hq;go_wp2_with (go_at_call 83;refine CE.o.mono ?_);rintro e w2 ⟨rfl,n,hn⟩;have HG2:Hd (w.grownBy w2 none):=by show w.grownBy w2 none;rw[hn];exact az HG.o n
  clear hn;go_wp2;go_ret;exact⟨bu HZ.o.symm,HG2.o⟩
theorem ac4(s:ByteArray)(w:World)(h0:s.size≠0)(hs:s.size<2 ^ 62):Calls prog 190 #[.string s,.int .i64 0] w fun e w'=>e=.returned (.bool (iq true s.data.toList))/\w.grownBy w' none :=
 Ve s 0 true w h0 hs (fun b w h=>TW b s 0 w (Nat.zero_le _) h hs)
theorem ac5(s:ByteArray)(w:World)(h0:s.size≠0)(hs:s.size<2 ^ 62):Calls prog 190 #[.string s,.int .i64 1] w fun e w'=>e=.returned (.bool (iq false s.data.toList))/\w.grownBy w' none :=
 Ve s 1 false w h0 hs (fun b w h=>Ua b s 0 w (Nat.zero_le _) h hs)
theorem Vf(b:Bool)(s:ByteArray)(h:s.size=0):iq b s.data.toList=true:=by
 have:s.data.toList=[]:=List.length_eq_zero_iff.1 (by simpa using h);rw[this];rfl
theorem ix0(a1 a2 a3:Int)(w:World):(Instr.index 278 (.agg #[.int .i64 a1,.int .i64 a2,.int .i64 a3]) (.int .i64 0)).run prog w=.ok (.int .i64 a1) w:=by kernel_rfl
theorem ix1(a1 a2 a3:Int)(w:World):(Instr.index 278 (.agg #[.int .i64 a1,.int .i64 a2,.int .i64 a3]) (.int .i64 1)).run prog w=.ok (.int .i64 a2) w:=by kernel_rfl
theorem ix2(a1 a2 a3:Int)(w:World):(Instr.index 278 (.agg #[.int .i64 a1,.int .i64 a2,.int .i64 a3]) (.int .i64 2)).run prog w=.ok (.int .i64 a3) w:=by kernel_rfl
theorem Vg(a1 a2 a3:Int)(a4 a5:ByteArray)(w:World)(h4:a4.size<2 ^ 62)(h5:a5.size<2 ^ 62) :
  Calls prog 163 #[.agg #[.int .i64 a1,.int .i64 a2,.int .i64 a3,.string a4,.string a5]] w fun e w'=>e=.returned (.bool (nM ⟨a1,a2,a3,a4.data.toList,a5.data.toList⟩))/\w.grownBy w' none:=by
 obtain⟨R,hR⟩:∃R,R=nM ⟨a1,a2,a3,a4.data.toList,a5.data.toList⟩:=⟨_,rfl⟩;obtain⟨x4,hx4⟩:∃x,x=iq true a4.data.toList:=⟨_,rfl⟩;obtain⟨x5,hx5⟩:∃x,x=iq false a5.data.toList:=⟨_,rfl⟩;have HR:Hd (R=(bound a1 && (bound a2 && (bound a3 && (x4 && x5))))):=by show R=_;rw[hR,hx4,hx5];rfl
 have C4:Hd (a4.size≠0->∀w,Calls prog 190 #[.string a4,.int .i64 0] w fun e w'=>e=.returned (.bool x4)/\w.grownBy w' none):=fun h w=>by rw[hx4];exact ac4 a4 w h h4
 have C5:Hd (a5.size≠0->∀w,Calls prog 190 #[.string a5,.int .i64 1] w fun e w'=>e=.returned (.bool x5)/\w.grownBy w' none):=fun h w=>by rw[hx5];exact ac5 a5 w h h5
 have E4:Hd (a4.size=0->x4=true):=fun h=>by rw[hx4];exact Vf true a4 h
 have E5:Hd (a5.size=0->x5=true):=fun h=>by rw[hx5];exact Vf false a5 h
 have GA:=ae (aH (ax w none));rw[<-hR];clear hR hx4 hx5 h4 h5;go_enter func163,ntmps163;go_wp2;obtain⟨W,hW⟩:=zN (w.alloc (.cells #[.int .i64 a1,.int .i64 a2,.int .i64 a3,.string a4,.string a5] 84));have HG:Hd (w.grownBy W none):=by show w.grownBy W none;rw[<-hW];exact GA.o _
 obtain⟨A,hA⟩:=zN (w.heap.size);have STa:Hd (St A a1 a2 a3 a4 a5 W):=by
  show St A a1 a2 a3 a4 a5 W;rw[<-hW,<-hA];exact abP (t:=84) (heap_alloc_new w _)
 rw[hW,hA];clear hW hA GA
 go_loop [12] (fun i=>∃k:Nat,k<=3/\i=.int .i64 k/\(1<=k->bound a1=true)/\(2<=k->bound a2=true)/\(3<=k->bound a3=true)) (fun i=>3-(intOf i).toNat)
 case atStart=>exact⟨0,by omega,rfl,by omega,by omega,by omega⟩
 case round=>
  obtain⟨k,hk,rfl,k1,k2,k3⟩:=hrel;have K1:=ae k1;have K2:=ae k2;have K3:=ae k3;clear k1 k2 k3
  rcases(show k=0\/k=1\/k=2\/k=3 by omega) with rfl|rfl|rfl|rfl
  ·clear hk;have ix:=ix0 a1 a2 a3 W
   by_cases b0:0<=a1
   ·have n0:decide (a1<0)=false:=decide_eq_false (by omega)
    by_cases b1:a1<=1000000000
    ·have n1:decide (1000000000<a1)=false:=decide_eq_false (by omega);have BB:Hd (0<=a1/\a1<=1000000000):=⟨b0,b1⟩;clear b0 b1;go_wp2
     go_round
     case rel=>exact⟨1,by omega,rfl,fun _=>ug.2 BB.o,by omega,by omega⟩
     case measure=>simp[intOf]
    ·have n1:decide (1000000000<a1)=true:=decide_eq_true (by omega);have HZ:Hd (R=false):=by show R=false;rw[HR.o,show bound a1=false by cases hb:bound a1 with|true=>exact absurd (ug.1 hb) (by omega)|false=>rfl];simp
     clear b0 b1;go_wp2;go_ret;exact⟨bu HZ.o.symm,HG.o⟩
   ·have HZ:Hd (R=false):=by show R=false;rw[HR.o,show bound a1=false by cases hb:bound a1 with|true=>exact absurd (ug.1 hb) (by omega)|false=>rfl];simp
    go_wp2;go_ret;exact⟨bu HZ.o.symm,HG.o⟩
  ·clear hk;have ix:=ix1 a1 a2 a3 W
   by_cases b0:0<=a2
   ·have n0:decide (a2<0)=false:=decide_eq_false (by omega)
    by_cases b1:a2<=1000000000
    ·have n1:decide (1000000000<a2)=false:=decide_eq_false (by omega);have BB:Hd (0<=a2/\a2<=1000000000):=⟨b0,b1⟩;clear b0 b1;go_wp2
     go_round
     case rel=>exact⟨2,by omega,rfl,fun _=>K1.o (by omega),fun _=>ug.2 BB.o,by omega⟩
     case measure=>simp[intOf]
    ·have n1:decide (1000000000<a2)=true:=decide_eq_true (by omega);have HZ:Hd (R=false):=by show R=false;rw[HR.o,show bound a2=false by cases hb:bound a2 with|true=>exact absurd (ug.1 hb) (by omega)|false=>rfl];simp
     clear b0 b1;go_wp2;go_ret;exact⟨bu HZ.o.symm,HG.o⟩
   ·have HZ:Hd (R=false):=by show R=false;rw[HR.o,show bound a2=false by cases hb:bound a2 with|true=>exact absurd (ug.1 hb) (by omega)|false=>rfl];simp
    go_wp2;go_ret;exact⟨bu HZ.o.symm,HG.o⟩
  ·clear hk;have ix:=ix2 a1 a2 a3 W
   by_cases b0:0<=a3
   ·have n0:decide (a3<0)=false:=decide_eq_false (by omega)
    by_cases b1:a3<=1000000000
    ·have n1:decide (1000000000<a3)=false:=decide_eq_false (by omega);have BB:Hd (0<=a3/\a3<=1000000000):=⟨b0,b1⟩;clear b0 b1;go_wp2
     go_round
     case rel=>exact⟨3,by omega,rfl,fun _=>K1.o (by omega),fun _=>K2.o (by omega),fun _=>ug.2 BB.o⟩
     case measure=>simp[intOf]
    ·have n1:decide (1000000000<a3)=true:=decide_eq_true (by omega);have HZ:Hd (R=false):=by show R=false;rw[HR.o,show bound a3=false by cases hb:bound a3 with|true=>exact absurd (ug.1 hb) (by omega)|false=>rfl];simp
     clear b0 b1;go_wp2;go_ret;exact⟨bu HZ.o.symm,HG.o⟩
   ·have HZ:Hd (R=false):=by show R=false;rw[HR.o,show bound a3=false by cases hb:bound a3 with|true=>exact absurd (ug.1 hb) (by omega)|false=>rfl];simp
    go_wp2;go_ret;exact⟨bu HZ.o.symm,HG.o⟩
  ·have HB:Hd (R=(x4 && x5)):=by show R=_;rw[HR.o,K1.o (by omega),K2.o (by omega),K3.o (by omega)];rfl
   obtain⟨s1,s2,s3,s4,s5⟩:=STa.o;clear hk
   by_cases z4:a4.size=0
   ·have e4:=vT z4;have hx4:=ae (E4.o z4);clear z4
    by_cases z5:a5.size=0
    ·have e5:=vT z5;have HZ:Hd (R=true):=by show R=true;rw[HB.o,hx4.o,E5.o z5];rfl
     clear z5;go_wp2;go_ret;exact⟨bu HZ.o.symm,HG.o⟩
    ·have e5:=nR z5;have C:=C5.o z5;have HC:=ae C;have HZ:Hd (R=x5):=by show R=x5;rw[HB.o,hx4.o];rfl
     clear z5 C;go_wp2_with (go_at_call 190;refine(HC.o _).mono ?_;rintro e w5 ⟨rfl,hg5⟩);go_ret;exact⟨bu HZ.o.symm,ak HG.o hg5⟩
   ·have e4:=nR z4;have HC4:=ae (C4.o z4);clear z4;go_wp2_with (go_at_call 190;refine(HC4.o _).mono ?_);rintro e w4 rfl hg4;have c5:=hg4.cell s5 (by simp);have dn:=ae (ak HG.o hg4);clear hg4
    cases x4 with
    |false=>
     have HZ:Hd (R=false):=by show R=false;rw[HB.o];rfl
     go_wp2;go_ret;exact⟨bu HZ.o.symm,dn.o⟩
    |true=>
     have Vh:Hd (R=x5):=by show R=x5;rw[HB.o];rfl
     by_cases z5:a5.size=0
     ·have e5:=vT z5;have HZ:Hd (R=true):=by show R=true;rw[Vh.o,E5.o z5]
      clear z5;go_wp2;go_ret;exact⟨bu HZ.o.symm,dn.o⟩
     ·have e5:=nR z5;have HC:=ae (C5.o z5);clear z5;go_wp2_with (go_at_call 190;refine(HC.o _).mono ?_;rintro e w5 ⟨rfl,hg5⟩);go_ret;exact⟨bu Vh.o.symm,ak dn.o hg5⟩
structure Jt(ns:List Tn)(own:List Nat)(t:Nat):Prop where
 wf:WF ns own
 wt:WT ns
 lt:t<ns.length
 kd:ay ns t=0
theorem oO{z:Int}(h:ay ns t=z)(hz:0<=z):t<ns.length:=by
 apply Classical.byContradiction;intro hn;unfold ay at h;rw[List.getElem?_eq_none (by omega)]at h;simp only[]at h;omega
theorem EM{q:Nat}(h:q∈aA ns t):t<ns.length:=by
 apply Classical.byContradiction;intro hn;rw[Ba ns t (by omega)]at h;simp at h
theorem ND(ns:List Tn)(own:List Nat)(W:WF ns own)(up:Nat)(n:Tn)(hu:up<ns.length)(h:WT ns)(h1:¬n.kd=2)(h2:¬ay ns up=2\/n.kd=0):WT (addN ns up n):=by
 intro q hq;rw[eX ns up n hu]at hq
 by_cases hn:q=ns.length
 ·rw[if_pos hn]at hq;exact absurd hq h1
 ·rw[if_neg hn]at hq;obtain⟨a,b⟩:=h q hq;rw[jR ns up n hu,if_neg hn]
  by_cases hqu:q=up
  ·subst hqu;rw[if_pos rfl];refine⟨by simp,fun x hx=>?_⟩;rw[eX ns q n hu]
   rcases List.mem_append.1 hx with hx|hx
   ·have:=W.lt _ _ hx;rw[if_neg (by omega)];exact b x hx
   ·rw[if_pos (by simpa using hx)]
    rcases h2 with h2|h2
    ·exact absurd hq h2
    ·exact h2
  ·rw[if_neg hqu];refine⟨a,fun x hx=>?_⟩;have:=W.lt _ _ hx;rw[eX ns up n hu,if_neg (by omega)];exact b x hx
theorem Vj{own:List Nat}(J:Jt ns own t)(n:Tn)(hn:n.ks=[])(h0:n.kd=0):Jt (addN ns t n) own ns.length:=by
 refine⟨rU ns own t n hn J.lt J.wf,ND ns own J.wf t n J.lt J.wt (by rw[h0];decide) (Or.inr h0),by rw[bW];omega,?_⟩;rw[eX ns t n J.lt,if_pos rfl];exact h0
theorem EN{own:List Nat}(J:Jt ns own t)(h:gm ns t k p=.ok (t',ns')):Jt ns' own t'/\ns.length<=ns'.length/\ns'.length<=ns.length+1:=by
 unfold gm at h
 cases hq:aK ns t k with
 |none=>
  rw[hq]at h
  cases h
  exact⟨Vj J _ rfl rfl,by rw[bW];omega,by rw[bW];omega⟩
 |some q=>
  rw[hq]at h;simp only[]at h
  by_cases h0:ay ns q=0
  ·rw[if_pos h0]at h
   cases h
   exact⟨⟨J.wf,J.wt,oO h0 (by omega),h0⟩,by omega,by omega⟩
  ·rw[if_neg h0]at h
   by_cases h2:ay ns q=2
   ·have hl:=oO h2 (by omega);rw[if_pos h2,List.getElem?_eq_getElem hl]at h;simp only[]at h;obtain⟨a,b⟩:=J.wt q h2;have hks:aA ns q=ns[q].ks:=by unfold aA;rw[List.getElem?_eq_getElem hl]
    rw[hks]at a b;have hm:ns[q].ks.getLastD 0∈ns[q].ks:=by
     rw[List.getLastD_eq_getLast?,List.getLast?_eq_some_getLast a];exact List.getLast_mem a
    have hkd:=b _ hm
    cases h
    exact⟨⟨J.wf,J.wt,oO hkd (by omega),hkd⟩,by omega,by omega⟩
   ·rw[if_neg h2]at h;cases h
theorem Vk{own:List Nat}(J:Jt ns own t)(h:gy ns own t k p=.ok (t',ns')):Jt ns' (t' :: own) t'/\ns.length<=ns'.length/\ns'.length<=ns.length+2:=by
 unfold gy at h;have fin:∀{n:List Tn} {q:Nat},Jt n own q->Jt n (q :: own) q:=fun j=>⟨TQ _ _ j.wf _ j.lt,j.wt,j.lt,j.kd⟩
 cases hq:aK ns t k with
 |none=>
  rw[hq]at h
  cases h
  exact⟨fin (Vj J _ rfl rfl),by rw[bW];omega,by rw[bW];omega⟩
 |some q=>
  rw[hq]at h;simp only[]at h
  by_cases h0:ay ns q=0/\¬q∈own
  ·rw[if_pos h0]at h
   cases h
   exact⟨fin ⟨J.wf,J.wt,oO h0.1 (by omega),h0.1⟩,by omega,by omega⟩
  ·rw[if_neg h0]at h;cases h
theorem Vl{own:List Nat}(J:Jt ns own t)(h:gz ns t k p=.ok (t',ns')):Jt ns' (t' :: own) t'/\ns.length<=ns'.length/\ns'.length<=ns.length+2:=by
 unfold gz at h;have fin:∀{n:List Tn} {q:Nat},Jt n own q->Jt n (q :: own) q:=fun j=>⟨TQ _ _ j.wf _ j.lt,j.wt,j.lt,j.kd⟩
 cases hq:aK ns t k with
 |none=>
  rw[hq]at h
  cases h
  have hu:ns.length<(addN ns t ⟨2,k,[],0,[],p⟩).length:=by rw[bW];omega
  have w1:=rU ns own t ⟨2,k,[],0,[],p⟩ rfl J.lt J.wf;have w2:=rU _ own ns.length ⟨0,[],[],0,[],p⟩ rfl hu w1;have hl:(addN ns t ⟨2,k,[],0,[],p⟩).length=ns.length+1:=bW _ _ _;refine⟨fin ⟨w2,?_,by rw[bW,bW];omega,?_⟩,by rw[bW,bW];omega,by rw[bW,bW];omega⟩
  ·intro q h2;rw[eX _ _ _ hu,hl]at h2
   by_cases e1:q=ns.length+1
   ·rw[if_pos e1]at h2;exact absurd (show(0:Int)=2 from h2) (by decide)
   ·rw[if_neg e1,eX _ _ _ J.lt]at h2;rw[jR _ _ _ hu,hl,if_neg e1]
    by_cases e2:q=ns.length
    ·rw[if_pos e2];refine⟨by simp,fun x hx=>?_⟩;rw[jR _ _ _ J.lt,if_pos rfl]at hx;simp only[List.nil_append,List.mem_singleton]at hx;rw[eX _ _ _ hu,hl,if_pos hx]
    ·rw[if_neg e2]at h2;rw[if_neg e2];obtain⟨a,b⟩:=J.wt q h2;have hqt:¬q=t:=fun e=>by rw[e,J.kd]at h2;exact absurd h2 (by decide)
     rw[jR _ _ _ J.lt,if_neg e2,if_neg hqt];refine⟨a,fun x hx=>?_⟩;have:=J.wf.lt _ _ hx;rw[eX _ _ _ hu,hl,if_neg (by omega),eX _ _ _ J.lt,if_neg (by omega)];exact b x hx
  ·rw[eX _ _ _ hu,hl,if_pos rfl]
 |some q=>
  rw[hq]at h;simp only[]at h
  by_cases h2:ay ns q=2
  ·rw[if_pos h2]at h
   cases h
   have hu:=oO h2 (by omega);refine⟨fin ⟨rU ns own q _ rfl hu J.wf,ND ns own J.wf q _ hu J.wt (fun e=>absurd (show(0:Int)=2 from e) (by decide)) (Or.inr rfl),by rw[bW];omega,?_⟩,by rw[bW];omega,by rw[bW];omega⟩;rw[eX _ _ _ hu,if_pos rfl]
  ·rw[if_neg h2]at h;cases h
theorem EO(many:Bool)(own:List Nat)(k:List UInt8)(p t:Nat)(ns:List Tn):way many own [(k,p)] t ns=if many=true then gz ns t k p else gy ns own t k p:=rfl
theorem EP(many:Bool)(own:List Nat)(k:List UInt8)(p:Nat)(b:List UInt8 × Nat)(r:List (List UInt8 × Nat))(t:Nat)(ns:List Tn):way many own ((k,p) :: b :: r) t ns=match gm ns t k p with | .error e=>.error e | .ok (t1,ns1)=>way many own (b :: r) t1 ns1:=rfl
theorem Vm(many:Bool)(own:List Nat):∀(l:List (List UInt8 × Nat)) (t:Nat) (ns ns':List Tn) (t':Nat),l≠[]->Jt ns own t->way many own l t ns=.ok (t',ns')->Jt ns' (t' :: own) t'/\ns.length<=ns'.length/\ns'.length<=ns.length+l.length+1
 | [],_,_,_,_,hl,_,_=>absurd rfl hl
 | [(k,p)],t,ns,ns',t',_,J,h=>by
  rw[EO]at h;split at h
  ·obtain⟨a,b,c⟩:=Vl J h;exact⟨a,b,by simp;omega⟩
  ·obtain⟨a,b,c⟩:=Vk J h;exact⟨a,b,by simp;omega⟩
 | (k,p) :: b :: r,t,ns,ns',t',_,J,h=>by
  rw[EP]at h
  cases hs:gm ns t k p with
  |error e=>rw[hs]at h;cases h
  |ok q=>
   obtain⟨t1,ns1⟩:=q;rw[hs]at h;obtain⟨a,b',c⟩:=EN J hs;obtain⟨a2,b2,c2⟩:=Vm many own (b :: r) t1 ns1 ns' t' (by simp) a h;refine⟨a2,by omega,?_⟩;simp only[List.length_cons]at c2 ⊢;omega
theorem Vo(T:List UInt8)(m:Nat)(hm:m<T.length):bK (T.take (m+1))=10*bK (T.take m)+((T[m].toNat:Int)-48):=by
 rw[List.take_succ_eq_append_getElem hm,Tz];rfl
theorem Vp(b:Nat)(s:ByteArray)(i:Nat)(w:World)(hi:i<=s.size)(h:RS b s i w)(hs:s.size<2 ^ 62) :
  Calls prog 112 #[.pointer (some ⟨b,0,none⟩)] w fun e w'=>e=.returned (.tuple #[.int .i64 (rdNum s.data.toList i).2.1,.int .i64 (rdNum s.data.toList i).1])/\RS b s (rdNum s.data.toList i).2.2 w'/\w.grownBy w' (some b):=by
 obtain⟨E,V,Q,jK⟩:∃E V Q,rdNum s.data.toList i=(E,V,Q):=⟨_,_,_,rfl⟩;rw[jK];have hsl:s.data.toList.length=s.size:=by simp
 have CR:=ae (abO b s i w hi h hs);have d1:=h.c1;have hle:i+runN aY s.data.toList i<=s.size:=by have:=pF aY s.data.toList i (by rw[hsl];exact hi);rw[hsl]at this;exact this
 have hln:=tZ s.data.toList i (runN aY s.data.toList i) (by rw[hsl];exact hle);have hall:=AY aY s.data.toList i;have hT0:∀k,0<k->i+k<=s.data.toList.length->(au s.data.toList i k)[0]?=s.data.toList[i]?:=by
  intro k hk hik;unfold au;rw[List.getElem?_take_of_lt hk,List.getElem?_drop];rfl
 unfold rdNum at jK;obtain⟨k,hk⟩:=zN (runN aY s.data.toList i);rw[hk]at CR jK hle hln hall;have NE:=hT0 k;obtain⟨T,hT⟩:=zN (au s.data.toList i k);rw[hT]at CR jK hln hall NE;obtain⟨X,hX⟩:∃X:ByteArray,X=⟨T.toArray⟩:=⟨_,rfl⟩;rw[<-hX]at CR;have Bh:Hd (X.data.toList=T):=by show X.data.toList=T;rw[hX]
 have iD:X.size=k:=by rw[hX];show T.toArray.size=k;simpa using hln
 have zl:=ae jK;have vV:Hd (T.all aY=true/\T.length=k/\(0<k->T[0]?=s.data.toList[i]?)):=⟨hall,hln,fun h=>NE h (by rw[hsl];exact hle)⟩;clear hk hT hX jK hln hall hT0 NE h hsl hi
 by_cases hk0:k=0
 ·have e1:=vT (iD.trans hk0);have HZ:Hd (E=2/\V=0/\Q=i+k):=by
   have:=zl.o;rw[if_pos hk0]at this;exact⟨(congrArg Prod.fst this).symm,(congrArg (·.2.1) this).symm,by rw[hk0];exact(congrArg (·.2.2) this).symm⟩
  clear hk0 iD hle;go_enter func112,ntmps112;go_wp2_with (go_at_call 135;refine CR.o.mono ?_);rintro e w1 ⟨rfl,hr1,hg1⟩;have HF:Hd (RS b s Q w1/\w.grownBy w1 (some b)):=⟨by rw[HZ.o.2.2];exact hr1,hg1⟩;clear hr1 hg1;go_wp2;refine bodyPost_ret (results_tmp2 rfl _ _ _) rfl ⟨?_,HF.o.1,HF.o.2⟩;rw[HZ.o.1,HZ.o.2.1];rfl
 ·have e1:=nR (fun h=>hk0 (iD.symm.trans h));obtain⟨z,hz⟩:=zN ((decide (1<X.data.toList.length) && decide (X.data.toList[0]?=some 48)));have CZ:Hd (∀w,Calls prog 143 #[.string X] w fun e w'=>e=.returned (.bool z)/\w'=w):=fun w=>by rw[<-hz];exact TV X w
  have Vq:Hd (z=decide (1<k/\s.data.toList[i]?=some 48)):=by
   show z=_;rw[<-hz,Bh.o,vV.o.2.1,vV.o.2.2 (by omega)];rw[Bool.eq_iff_iff];simp
  have HK:=ae hk0;clear hz hk0;go_enter func112,ntmps112;go_wp2_with (go_at_call 135;refine CR.o.mono ?_);rintro e w1 ⟨rfl,hr1,hg1⟩;have HR1:=ae hr1;have aC:=ae hg1;have f1:=hr1.c1;have f2:=hr1.f1;clear hr1 hg1
  cases z with
  |true=>
   have HZ:Hd (E=2/\V=0/\Q=i):=by
    have:=zl.o;rw[if_neg HK.o,if_pos (of_decide_eq_true Vq.o.symm)]at this;exact⟨(congrArg Prod.fst this).symm,(congrArg (·.2.1) this).symm,(congrArg (·.2.2) this).symm⟩
   go_wp2_with (go_at_call 143;refine(CZ.o _).mono ?_;rintro e w' ⟨rfl,rfl⟩);refine bodyPost_ret (results_tmp2 rfl _ _ _) rfl ⟨?_,by rw[HZ.o.2.2];exact HR1.o.set i,aT aC.o _ _⟩;rw[HZ.o.1,HZ.o.2.1];rfl
  |false=>
   have HV:Hd ((if bK T > 999999999 then(3,0,i) else(0,bK T,i+k))=(E,V,Q)):=by
    have:=zl.o;rw[if_neg HK.o,if_neg (of_decide_eq_false Vq.o.symm)]at this;exact this
   have kw:=Lib.run_convert_string_bytes (P:=prog) w1 9 245 5 X underlying9 underlying245 underlying5;obtain⟨W,hW⟩:=zN (Lib.bytesWorld w1 5 X);have HC:Hd (∀j,(hj:j<X.size)->W.cell? ⟨w1.heap.size,j,none⟩=some (.int .u8 (X[j].toNat:Int))):=by
    show ∀j,(hj:j<X.size)->W.cell? ⟨w1.heap.size,j,none⟩=some (.int .u8 (X[j].toNat:Int));intro j hj;rw[<-hW,Lib.bytesWorld_cell w1 _ X j hj];have:X.data.toList.getD j 0=X[j]:=by
     rw[List.getD_eq_getElem?_getD,lZ X j hj];rfl
    rw[this]
   have hgW:w1.grownBy W none:=by rw[<-hW];exact MP w1 _ X
   rw[hW]at kw;have HRW:=ae (HR1.o.grow hgW);have dR:=ae (ak aC.o (iy hgW _));have g1:=HRW.o.c1;have g2:=HRW.o.f1;clear hW hgW f1 f2;go_wp2_with (go_at_call 143;refine(CZ.o _).mono ?_;rintro e w' ⟨rfl,rfl⟩);have HXk:=ae iD;have hks:k<2 ^ 62:=by omega
   clear iD hle
   go_loop [6,26] (fun vn vi=>∃m:Nat,m<=k/\vi=.int .i64 m/\vn=.int .i64 (bK (T.take m))/\bK (T.take m)<=999999999) (fun _ vi=>k-(intOf vi).toNat)
   case atStart=>exact⟨0,Nat.zero_le _,rfl,rfl,by show(0:Int)<=_;omega⟩
   case round=>
    obtain⟨m,hm,rfl,rfl,hvm⟩:=hrel
    by_cases hlt:m<k
    ·have I8:m<T.length:=by rw[vV.o.2.1];exact hlt
     have NG:m<X.size:=by rw[HXk.o];exact hlt
     have Vr:X[m]=T[m]:=by
      have:=lZ X m NG;rw[Bh.o,List.getElem?_eq_getElem I8]at this;exact(Option.some.inj this).symm
     have cm:=HC.o m NG;have hdg:=AV (List.all_eq_true.1 vV.o.1 T[m] (List.getElem_mem I8));have hvt:=Vo T m I8;have hv0:0<=bK (T.take m):=Ei _ (List.all_eq_true.2 (fun c hc=>List.all_eq_true.1 vV.o.1 c (List.mem_of_mem_take hc)));have hpre:bK (T.take (m+1))<=bK T:=by
      have:=TA (T.take (m+1)) (T.drop (m+1)) (by rw[List.take_append_drop];exact vV.o.1);rw[List.take_append_drop]at this;exact this
     rw[Vr]at cm;obtain⟨c,hc⟩:∃c:Int,c=(T[m].toNat:Int):=⟨_,rfl⟩;rw[<-hc]at cm hvt;obtain⟨v,hv⟩:∃v,v=bK (T.take m):=⟨_,rfl⟩;rw[<-hv]at hvt hv0 hvm;rw[<-hv];have hc0:48<=c/\c<=57:=by omega
     have r1:IntKind.i64.wrap (10*v)=10*v:=by rw[IntKind.wrap_i64];omega
     have r2:IntKind.u8.wrap (c-48)=c-48:=by rw[IntKind.wrap_u8];omega
     have r3:IntKind.i64.wrap (c-48)=c-48:=by rw[IntKind.wrap_i64];omega
     have r4:IntKind.i64.wrap (10*v+(c-48))=10*v+(c-48):=by rw[IntKind.wrap_i64];omega
     have NH:Hd (bK (T.take (m+1))=10*v+(c-48)/\bK (T.take (m+1))<=bK T):=⟨hvt,hpre⟩;clear hc hv Vr hdg hvt hpre I8 NG
     by_cases hbig:999999999<10*v+(c-48)
     ·have HZ:Hd (E=3/\V=0/\Q=i):=by
       have h1:=NH.o;have:=HV.o;rw[if_pos (by omega)]at this;exact⟨(congrArg Prod.fst this).symm,(congrArg (·.2.1) this).symm,(congrArg (·.2.2) this).symm⟩
      go_wp2;refine bodyPost_ret (results_tmp2 rfl _ _ _) rfl ⟨?_,by rw[HZ.o.2.2];exact HRW.o.set i,aT dR.o _ _⟩;rw[HZ.o.1,HZ.o.2.1];rfl
     ·go_wp2
      go_round
      case rel=>exact⟨m+1,by omega,by go_num,by rw[NH.o.1],by rw[NH.o.1];omega⟩
      case measure=>simp[intOf];omega
    ·have hmk:m=k:=by omega
     have HTk:Hd (T.take m=T):=by show T.take m=T;rw[hmk];exact List.take_of_length_le (by rw[vV.o.2.1];exact Nat.le_refl _)
     have HZ:Hd (E=0/\V=bK (T.take m)/\Q=i+k):=by
      have:=HV.o;rw[HTk.o]at hvm ⊢;rw[if_neg (by omega)]at this;exact⟨(congrArg Prod.fst this).symm,(congrArg (·.2.1) this).symm,(congrArg (·.2.2) this).symm⟩
     clear hmk hm hvm;go_wp2;refine bodyPost_ret (results_tmp2 rfl _ _ _) rfl ⟨?_,by rw[HZ.o.2.2];exact HRW.o,dR.o⟩;rw[HZ.o.1,HZ.o.2.1];rfl
theorem EQ{wa wb:World}{B:Nat}(h:w.grownBy wa none)(hg:wa.grownBy wb (some B))(hB:w.heap.size<=B):w.grownBy wb none :=
 ⟨hg.os.trans h.os,hg.tape.trans h.tape,hg.output.trans h.output,Nat.le_trans h.size hg.size,fun k hk hn=>(hg.block k (Nat.lt_of_lt_of_le hk h.size) (fun e=>by have:=Option.some.inj e;omega)).trans (h.block k hk hn)⟩
theorem NI{r:Option Nat}(h:w.grownBy w' r):w.grownBy w'.drew r:=⟨h.os,h.tape,h.output,h.size,h.block⟩
theorem NJ(A:Nat)(w:World)(h:A<w.heap.size) :
  Calls prog 188 #[.pointer (some ⟨A,0,none⟩)] w fun e w'=>e=.returned (.agg #[.pointer (some ⟨A,0,none⟩),.pointer (some ⟨A,1,none⟩),.pointer (some ⟨A,2,none⟩)])/\w.grownBy w' none:=by
 go_enter func188,ntmps188;go_wp2;obtain⟨B,hB⟩:=zN (w.heap.size);obtain⟨W,hW⟩:=zN (w.alloc (.cells #[.pointer none,.pointer none,.pointer none] 197));have hrow:W.heap[B]?=some (.cells #[.pointer none,.pointer none,.pointer none] 197 (0,0)):=by rw[<-hW,<-hB];exact heap_alloc_new w _
 have HG:Hd (w.grownBy W none):=by show w.grownBy W none;rw[<-hW];exact aH (ax w none) _
 have HR:=ae hrow;have c0:W.cell? ⟨B,0,none⟩=some (.pointer none):=by rw[aj hrow];rfl
 have c1:W.cell? ⟨B,1,none⟩=some (.pointer none):=by rw[aj hrow];rfl
 have c2:W.cell? ⟨B,2,none⟩=some (.pointer none):=by rw[aj hrow];rfl
 have ff:=Lib.frozen_of_heap hrow;have HB:Hd (w.heap.size<=B):=by show _<=_;omega
 try rw[hW]
 try rw[hB]
 clear hrow hW hB h
 go_region_held3 (fun w'=>True) (trivial) (fail)
 have IG:Hd (w.grownBy (((W.setCell ⟨B,0,none⟩ (.pointer (some ⟨A,0,none⟩))).setCell ⟨B,1,none⟩ (.pointer (some ⟨A,1,none⟩))).setCell ⟨B,2,none⟩ (.pointer (some ⟨A,2,none⟩))).drew none):=EQ HG.o (NI (aT (aT (aT (ax W (some B)) _ _) _ _) _ _)) HB.o;clear c0 c1 c2 ff;go_wp2;refine bodyPost_ret (results_cell_row rfl _ _ B 197 #[.pointer (some ⟨A,0,none⟩),.pointer (some ⟨A,1,none⟩),.pointer (some ⟨A,2,none⟩)] (0,0) _ rfl ?_ underlying197 rfl (by kernel_rfl)) rfl ⟨rfl,IG.o⟩;have h3:(((W.setCell ⟨B,0,none⟩ (.pointer (some ⟨A,0,none⟩))).setCell ⟨B,1,none⟩ (.pointer (some ⟨A,1,none⟩))).setCell ⟨B,2,none⟩ (.pointer (some ⟨A,2,none⟩))).heap[B]?=some (.cells #[.pointer (some ⟨A,0,none⟩),.pointer (some ⟨A,1,none⟩),.pointer (some ⟨A,2,none⟩)] 197 (0,0)):=by
  have hr:=HR.o;simp[World.setCell,Array.getElem?_modify,hr]
 exact h3
theorem ac6(a b c n:Int)(P:ByteArray)(w:World) :
  Calls prog 179 #[.agg #[.int .i64 a,.int .i64 b,.int .i64 c,.string P,.string ⟨#[]⟩,.int .i64 n]] w fun e w'=>e=.returned (.agg #[.int .i64 a,.int .i64 b,.int .i64 c,.string P,.string ⟨#[]⟩,.int .i64 0,.int .i64 0,.int .i64 0,.string ⟨#[]⟩,.string ⟨#[]⟩,.bool true])/\w.grownBy w' none:=by
 go_enter func179,ntmps179;go_wp2;refine bodyPost_ret (results_cell_row rfl _ _ (w.heap.size+1) 221 #[.int .i64 a,.int .i64 b,.int .i64 c,.string P,.string ⟨#[]⟩,.int .i64 0,.int .i64 0,.int .i64 0,.string ⟨#[]⟩,.string ⟨#[]⟩,.bool true] (0,0) _ rfl ?_ underlying221 rfl (by kernel_rfl)) rfl ⟨rfl,aH (aH (ax w none) _) _⟩;have:=heap_alloc_new (w.alloc (.cells #[.int .i64 a,.int .i64 b,.int .i64 c,.string P,.string ⟨#[]⟩,.int .i64 n] 226)) (.cells #[.int .i64 a,.int .i64 b,.int .i64 c,.string P,.string ⟨#[]⟩,.int .i64 0,.int .i64 0,.int .i64 0,.string ⟨#[]⟩,.string ⟨#[]⟩,.bool true] 221);rw[show(w.alloc (.cells #[.int .i64 a,.int .i64 b,.int .i64 c,.string P,.string ⟨#[]⟩,.int .i64 n] 226)).heap.size=w.heap.size+1 by simp]at this;exact this
def VA(A:Nat)(x1 x2 x3:Int)(P B:ByteArray)(w:World):Prop:=w.heap[A]?=some (.cells #[.int .i64 x1,.int .i64 x2,.int .i64 x3,.string P,.string B] 84 (0,0))
theorem VA.c0(h:VA A x1 x2 x3 P B w):w.cell? ⟨A,0,none⟩=some (.int .i64 x1):=by rw[aj h];rfl
theorem VA.c1(h:VA A x1 x2 x3 P B w):w.cell? ⟨A,1,none⟩=some (.int .i64 x2):=by rw[aj h];rfl
theorem VA.c2(h:VA A x1 x2 x3 P B w):w.cell? ⟨A,2,none⟩=some (.int .i64 x3):=by rw[aj h];rfl
theorem VA.c3(h:VA A x1 x2 x3 P B w):w.cell? ⟨A,3,none⟩=some (.string P):=by rw[aj h];rfl
theorem VA.c4(h:VA A x1 x2 x3 P B w):w.cell? ⟨A,4,none⟩=some (.string B):=by rw[aj h];rfl
theorem VA.other{V:Nat}(h:VA A x1 x2 x3 P B w)(hn:A≠V)(o:Nat)(x:Value):VA A x1 x2 x3 P B (w.setCell ⟨V,o,none⟩ x):=by
 unfold VA at h ⊢;rw[heap_setCell_other w _ A x (by simpa using hn)];exact h
theorem VA.f(h:VA A x1 x2 x3 P B w)(o:Nat):w.frozen? ⟨A,o,none⟩=false:=Lib.frozen_of_heap h o
theorem VA.grow(h:VA A x1 x2 x3 P B w)(hg:w.grownBy w' none):VA A x1 x2 x3 P B w':=by
 unfold VA at h ⊢;rw[hg.block A ((bJ h)) (by simp)];exact h
theorem VA.set0(h:VA A x1 x2 x3 P B w)(y:Int):VA A y x2 x3 P B (w.setCell ⟨A,0,none⟩ (.int .i64 y)):=by
 unfold VA at h ⊢;simp[World.setCell,Array.getElem?_modify,h]
theorem VA.set1(h:VA A x1 x2 x3 P B w)(y:Int):VA A x1 y x3 P B (w.setCell ⟨A,1,none⟩ (.int .i64 y)):=by
 unfold VA at h ⊢;simp[World.setCell,Array.getElem?_modify,h]
theorem VA.set2(h:VA A x1 x2 x3 P B w)(y:Int):VA A x1 x2 y P B (w.setCell ⟨A,2,none⟩ (.int .i64 y)):=by
 unfold VA at h ⊢;simp[World.setCell,Array.getElem?_modify,h]
theorem VA.set3(h:VA A x1 x2 x3 P B w)(y:ByteArray):VA A x1 x2 x3 y B (w.setCell ⟨A,3,none⟩ (.string y)):=by
 unfold VA at h ⊢;simp[World.setCell,Array.getElem?_modify,h]
theorem NK(v:Nat)(w:World):(Instr.index 197 (.agg #[.pointer (some ⟨v,0,none⟩),.pointer (some ⟨v,1,none⟩),.pointer (some ⟨v,2,none⟩)]) (.int .i64 0)).run prog w=.ok (.pointer (some ⟨v,0,none⟩)) w:=by kernel_rfl
theorem NL(v:Nat)(w:World):(Instr.index 197 (.agg #[.pointer (some ⟨v,0,none⟩),.pointer (some ⟨v,1,none⟩),.pointer (some ⟨v,2,none⟩)]) (.int .i64 1)).run prog w=.ok (.pointer (some ⟨v,1,none⟩)) w:=by kernel_rfl
theorem NM(v:Nat)(w:World):(Instr.index 197 (.agg #[.pointer (some ⟨v,0,none⟩),.pointer (some ⟨v,1,none⟩),.pointer (some ⟨v,2,none⟩)]) (.int .i64 2)).run prog w=.ok (.pointer (some ⟨v,2,none⟩)) w:=by kernel_rfl
theorem ac7(a b c k x y z:Int)(P:ByteArray)(w:World)(ha:0<=a/\a<=999999999)(hb:0<=b/\b<=999999999)(hc:0<=c/\c<=999999999)(hk:(k=1/\x=a+1/\y=0/\z=0)\/(k=2/\x=a/\y=b+1/\z=0)\/(k=3/\x=a/\y=b/\z=c+1)) :
  Calls prog 207 #[.agg #[.int .i64 a,.int .i64 b,.int .i64 c,.string P,.string ⟨#[]⟩],.int .i64 k] w fun e w'=>e=.returned (.agg #[.int .i64 x,.int .i64 y,.int .i64 z,.string ⟨#[48]⟩,.string ⟨#[]⟩])/\w.grownBy w' none:=by
 have HK:=ae hk;clear hk;go_enter func207,ntmps207;go_wp2_with (go_at_call 188;refine(NJ _ _ (by simp;omega)).mono ?_);rintro e w1 ⟨rfl,hg⟩;obtain⟨A,hA⟩:=zN (w.heap.size);have HV:Hd (VA A a b c ⟨#[48]⟩ ⟨#[]⟩ w1):=by
  refine VA.grow (w:=(w.alloc (.cells #[.int .i64 a,.int .i64 b,.int .i64 c,.string ⟨#[48]⟩,.string ⟨#[]⟩] 84)).alloc (.cells #[.int .i64 0,.int .i64 0,.int .i64 0,.string ⟨#[]⟩,.string ⟨#[]⟩] 84)) ?_ hg;unfold VA;rw[<-hA,Lib.alloc_old _ _ _ (by simp)];exact heap_alloc_new w _
 have HR:Hd (VA (A+1) 0 0 0 ⟨#[]⟩ ⟨#[]⟩ w1):=by
  refine VA.grow (w:=(w.alloc (.cells #[.int .i64 a,.int .i64 b,.int .i64 c,.string ⟨#[48]⟩,.string ⟨#[]⟩] 84)).alloc (.cells #[.int .i64 0,.int .i64 0,.int .i64 0,.string ⟨#[]⟩,.string ⟨#[]⟩] 84)) ?_ hg;have:=heap_alloc_new (w.alloc (.cells #[.int .i64 a,.int .i64 b,.int .i64 c,.string ⟨#[48]⟩,.string ⟨#[]⟩] 84)) (.cells #[.int .i64 0,.int .i64 0,.int .i64 0,.string ⟨#[]⟩,.string ⟨#[]⟩] 84);unfold VA;rw[<-hA];simpa using this
 have HG:=ae (ak (aH (aH (ax w none) _) _) hg);have HA:Hd (w.heap.size<=A):=by show _<=_;omega
 try rw[hA]
 clear hA hg;go_wp2;go_loopw [9] (fun vi wr=>((vi=.int .i64 0/\VA A a b c ⟨#[48]⟩ ⟨#[]⟩ wr)\/(vi=.int .i64 1/\VA A x b c ⟨#[48]⟩ ⟨#[]⟩ wr)\/(vi=.int .i64 2/\VA A x y c ⟨#[48]⟩ ⟨#[]⟩ wr)\/(vi=.int .i64 3/\VA A x y z ⟨#[48]⟩ ⟨#[]⟩ wr))/\VA (A+1) 0 0 0 ⟨#[]⟩ ⟨#[]⟩ wr/\w.grownBy wr none) (fun vi _=>3-(intOf vi).toNat)
 case atStart=>exact⟨Or.inl ⟨rfl,HV.o⟩,HR.o,HG.o⟩
 case round=>
  obtain⟨hs,hr,hg⟩:=hrel;clear HV HR HG;have HR:=ae hr;have HG:=ae hg;clear hr hg
  rcases hs with⟨rfl,hv⟩|⟨rfl,hv⟩|⟨rfl,hv⟩|⟨rfl,hv⟩
  ·have HV:=ae hv;have ix:=NK A wr;have cc:=HV.o.c0;have ff:=HV.o.f 0;clear hv
   rcases HK.o with⟨rfl,rfl,rfl,rfl⟩|⟨rfl,rfl,rfl,rfl⟩|⟨rfl,rfl,rfl,rfl⟩
   all_goals (
    go_wp2
    first
     | exact⟨⟨Or.inr (Or.inl ⟨rfl,HV.o.set0 _⟩),HR.o.other (by omega) _ _,EQ HG.o (aT (ax wr (some A)) _ _) HA.o⟩,by simp[intOf]⟩
     | exact⟨⟨Or.inr (Or.inl ⟨rfl,HV.o⟩),HR.o,HG.o⟩,by simp[intOf]⟩)
  ·have HV:=ae hv;have ix:=NL A wr;have cc:=HV.o.c1;have ff:=HV.o.f 1;clear hv
   rcases HK.o with⟨rfl,rfl,rfl,rfl⟩|⟨rfl,rfl,rfl,rfl⟩|⟨rfl,rfl,rfl,rfl⟩
   all_goals (
    go_wp2
    first
     | exact⟨⟨Or.inr (Or.inr (Or.inl ⟨rfl,HV.o.set1 _⟩)),HR.o.other (by omega) _ _,EQ HG.o (aT (ax wr (some A)) _ _) HA.o⟩,by simp[intOf]⟩
     | exact⟨⟨Or.inr (Or.inr (Or.inl ⟨rfl,HV.o⟩)),HR.o,HG.o⟩,by simp[intOf]⟩)
  ·have HV:=ae hv;have ix:=NM A wr;have cc:=HV.o.c2;have ff:=HV.o.f 2;clear hv
   rcases HK.o with⟨rfl,rfl,rfl,rfl⟩|⟨rfl,rfl,rfl,rfl⟩|⟨rfl,rfl,rfl,rfl⟩
   all_goals (
    go_wp2
    first
     | exact⟨⟨Or.inr (Or.inr (Or.inr (⟨rfl,HV.o.set2 _⟩))),HR.o.other (by omega) _ _,EQ HG.o (aT (ax wr (some A)) _ _) HA.o⟩,by simp[intOf]⟩
     | exact⟨⟨Or.inr (Or.inr (Or.inr ⟨rfl,HV.o⟩)),HR.o,HG.o⟩,by simp[intOf]⟩)
  ·have HV:=ae hv;have e0:=HV.o.c0;have e1:=HV.o.c1;have e2:=HV.o.c2;have e3:=HV.o.c3;have e4:=HV.o.c4;have r0:=HR.o.c0;have r1:=HR.o.c1;have r2:=HR.o.c2;have r3:=HR.o.c3;have r4:=HR.o.c4;have ff:=HR.o.f;clear hv;go_wp2;have hr:=HR.o;unfold VA at hr;refine bodyPost_ret (results_cell_row rfl _ _ (A+1) 84 #[.int .i64 x,.int .i64 y,.int .i64 z,.string ⟨#[48]⟩,.string ⟨#[]⟩] (0,0) _ rfl ?_ underlying84 rfl (by kernel_rfl)) rfl ⟨rfl,EQ HG.o (aT (aT (aT (aT (aT (ax wr (some (A+1))) _ _) _ _) _ _) _ _) _ _) (by have:=HA.o;omega)⟩;simp[World.setCell,Array.getElem?_modify,hr]
open Go.Joins
theorem xO(l:List UInt8):∀(f i j:Nat),i<=l.length->gap l f i=.ok j->i<=j/\j<=l.length:=by
 intro f
 induction f with
 |zero=>intro i j hi h;cases h
 |succ f ih=>
  intro i j hi h;rw[vN]at h;have h1:=jQ l i hi;have h2:=Eu l (bl l i) h1.2;split at h
  ·cases h
  ·split at h
   ·rename_i hx;have h3:=bD (l:=l) (i:=(bH l (bl l i)).2) (by rw[hx];decide);have:=ih _ j (by omega) h;omega
   ·cases h
    omega
theorem Vs(l:List UInt8)(i:Nat)(n:Int)(j:Nat)(hi:i<l.length)(h:ji l i=.ok (n,j)):i<j/\j<=l.length:=by
 unfold ji at h;simp only[]at h;have ha:i<=(if aI (nx l i)=true then i else i+1)/\(if aI (nx l i)=true then i else i+1)<=l.length:=by split<;>omega
 generalize (if aI (nx l i)=true then i else i+1)=a at h ha;have hj:=qH aI l a ha.2;split at h
 ·cases h
 ·rename_i hn;split at h
  ·cases h
  ·have hne:¬toR aI l a=a:=fun e=>hn (Or.inl e)
   cases h
   omega
theorem Vt(l:List UInt8)(i:Nat)(n:Int)(j:Nat)(hi:i<=l.length)(h:l7 l i=.ok (n,j)):i<j/\j<=l.length:=by
 rw[IE]at h;have hj:=qH dN l i hi;have key:∀t:List UInt8,au l i (toR dN l i-i)=t->t≠[]->i<toR dN l i:=fun t e ht=>by
  apply Classical.byContradiction;intro hn;apply ht;rw[<-e];unfold au;rw[show toR dN l i-i=0 by omega];simp
 split at h
 ·rename_i e;have:=key _ e (by simp)
  cases h
  omega
 ·split at h
  ·rename_i e;have:=key _ e (by simp)
   cases h
   omega
  ·cases h
structure Ad(ns ns':List Tn)(own:List Nat)(i j n:Nat):Prop where
 wf:WF ns' own
 wt:WT ns'
 lo:ns.length<=ns'.length
 hi:ns'.length+i<=ns.length+j
 kd:∀q,q<ns.length->ay ns' q=ay ns q
 fw:i<j
 en:j<=n
theorem Bv{own:List Nat}{up:Nat}{x:Tn}(W:WF ns own)(V:WT ns)(hu:up<ns.length)(h2:¬ay ns up=2)(hx:x.ks=[])(hk:¬x.kd=2)(hij:i<j)(hjn:j<=n):Ad ns (addN ns up x) own i j n :=
 ⟨rU ns own up x hx hu W,ND ns own W up x hu V hk (Or.inl h2),by rw[bW];omega,by rw[bW];omega,fun q hq=>by rw[eX ns up x hu,if_neg (by omega)],hij,hjn⟩
theorem Ad.trans{a b c:List Tn}{own:List Nat}{k:Nat}(h:Ad a b own i j n)(h':Ad b c own j k n):Ad a c own i k n :=
 ⟨h'.wf,h'.wt,Nat.le_trans h.lo h'.lo,by have:=h.hi;have:=h'.hi;omega,fun q hq=>(h'.kd q (Nat.lt_of_lt_of_le hq h.lo)).trans (h.kd q hq),Nat.lt_trans h.fw h'.fw,h'.en⟩
theorem ut(l:List UInt8)(f i up:Nat)(k:List UInt8)(p d:Nat)(ns:List Tn):val l (f+1) i up k p d ns =
  if nx l i=34 then(match str l (l.length+1) (i+1) [] with | .error e=>.error e | .ok (t,j)=>.ok (j,addN ns up ⟨3,k,t,0,[],p⟩))
  else if nx l i=43\/nx l i=45\/aI (nx l i)=true then(match ji l i with | .error e=>.error e | .ok (n,j)=>.ok (j,addN ns up ⟨4,k,[],n,[],p⟩))
  else if nx l i=116\/nx l i=102 then(match l7 l i with | .error e=>.error e | .ok (n,j)=>.ok (j,addN ns up ⟨5,k,[],n,[],p⟩))
  else if nx l i=91 then(if d=8 then .error (4,i) else lst l f (i+1) ns.length (d+1) (addN ns up ⟨1,k,[],0,[],p⟩))
  else .error (2,i):=by
 rw[val];rfl
theorem ER(l:List UInt8)(f i up d:Nat)(ns:List Tn):lst l (f+1) i up d ns =
  match gap l (l.length+1) i with
  | .error e=>.error e
  | .ok j =>
   if nx l j=93 then .ok (j+1,ns)
   else match val l f j up [] j d ns with
    | .error e=>.error e
    | .ok (j1,ns1)=>match gap l (l.length+1) j1 with
     | .error e=>.error e
     | .ok j2=>if nx l j2=44 then lst l f (j2+1) up d ns1 else if nx l j2=93 then .ok (j2+1,ns1) else .error (2,j2):=by
 rw[lst];rfl
theorem I9(l:List UInt8)(own:List Nat):∀f:Nat,(∀i up k p d ns j ns',i<=l.length->WF ns own->WT ns->up<ns.length->¬ay ns up=2->val l f i up k p d ns=.ok (j,ns')->Ad ns ns' own i j l.length)/\(∀i up d ns j ns',i<=l.length->WF ns own->WT ns->up<ns.length->¬ay ns up=2->lst l f i up d ns=.ok (j,ns')->WF ns' own/\WT ns'/\ns.length<=ns'.length/\ns'.length+i<=ns.length+j/\(∀q,q<ns.length->ay ns' q=ay ns q)/\i<j/\j<=l.length):=by
 intro f
 induction f with
 |zero=>
  refine⟨fun i up k p d ns j ns' _ _ _ _ _ h=>?_,fun i up d ns j ns' _ _ _ _ _ h=>?_⟩
  ·rw[val]at h;cases h
  ·rw[lst]at h;cases h
 |succ f ih=>
  refine⟨fun i up k p d ns j ns' hi W V hu h2 h=>?_,fun i up d ns j ns' hi W V hu h2 h=>?_⟩
  ·rw[ut]at h;split at h
   ·rename_i hx;have hlt:=bD (l:=l) (i:=i) (by rw[hx];decide)
    cases hs:str l (l.length+1) (i+1) [] with
    |error e=>rw[hs]at h;cases h
    |ok q=>
     obtain⟨t,j'⟩:=q;rw[hs]at h;obtain⟨a,b,-⟩:=I4 l _ (i+1) [] t j' (by omega) hs
     cases h
     exact Bv W V hu h2 rfl (fun e=>absurd (show(3:Int)=2 from e) (by decide)) (by omega) b
   ·split at h
    ·rename_i hx;have hlt:i<l.length:=by
      apply bD
      rcases hx with hx|hx|hx
      ·rw[hx];decide
      ·rw[hx];decide
      ·have:=of_decide_eq_true hx;omega
     cases hs:ji l i with
     |error e=>rw[hs]at h;cases h
     |ok q=>
      obtain⟨t,j'⟩:=q;rw[hs]at h;obtain⟨a,b⟩:=Vs l i t j' hlt hs
      cases h
      exact Bv W V hu h2 rfl (fun e=>absurd (show(4:Int)=2 from e) (by decide)) a b
    ·split at h
     ·cases hs:l7 l i with
      |error e=>rw[hs]at h;cases h
      |ok q=>
       obtain⟨t,j'⟩:=q;rw[hs]at h;obtain⟨a,b⟩:=Vt l i t j' hi hs
       cases h
       exact Bv W V hu h2 rfl (fun e=>absurd (show(5:Int)=2 from e) (by decide)) a b
     ·split at h
      ·rename_i hx;have hlt:=bD (l:=l) (i:=i) (by rw[hx];decide);split at h
       ·cases h
       ·have A:=Bv (i:=i) (j:=i+1) (n:=l.length) (x:=⟨1,k,[],0,[],p⟩) W V hu h2 rfl (fun e=>absurd (show(1:Int)=2 from e) (by decide)) (by omega) (by omega);obtain⟨a1,a2,a3,a4,a5,a6,a7⟩:=ih.2 (i+1) ns.length (d+1) _ j ns' (by omega) A.wf A.wt (by rw[bW];omega) (by rw[eX ns up _ hu,if_pos rfl];exact fun e=>absurd (show(1:Int)=2 from e) (by decide)) h;have e1:=A.hi;have e2:=A.lo;exact⟨a1,a2,by omega,by omega,fun q hq=>(a5 q (by omega)).trans (A.kd q hq),by omega,a7⟩
      ·cases h
  ·rw[ER]at h
   cases hg:gap l (l.length+1) i with
   |error e=>rw[hg]at h;cases h
   |ok j0=>
    rw[hg]at h;simp only[]at h;obtain⟨g1,g2⟩:=xO l _ i j0 hi hg;split at h
    ·rename_i hx;have hlt:=bD (l:=l) (i:=j0) (by rw[hx];decide)
     cases h
     exact⟨W,V,Nat.le_refl _,by omega,fun _ _=>rfl,by omega,by omega⟩
    ·cases hv:val l f j0 up [] j0 d ns with
     |error e=>rw[hv]at h;cases h
     |ok q=>
      obtain⟨j1,ns1⟩:=q;rw[hv]at h;simp only[]at h;have A:=ih.1 j0 up [] j0 d ns j1 ns1 g2 W V hu h2 hv;have e1:=A.hi;have e2:=A.lo;have e3:=A.fw;have e4:=A.en
      cases hg2:gap l (l.length+1) j1 with
      |error e=>rw[hg2]at h;cases h
      |ok j2=>
       rw[hg2]at h;simp only[]at h;obtain⟨g3,g4⟩:=xO l _ j1 j2 A.en hg2;split at h
       ·rename_i hx;have hlt:=bD (l:=l) (i:=j2) (by rw[hx];decide);obtain⟨a1,a2,a3,a4,a5,a6,a7⟩:=ih.2 (j2+1) up d ns1 j ns' (by omega) A.wf A.wt (by omega) (by rw[A.kd up hu];exact h2) h;exact⟨a1,a2,by omega,by omega,fun q hq=>(a5 q (by omega)).trans (A.kd q hq),by omega,a7⟩
       ·split at h
        ·rename_i hx;have hlt:=bD (l:=l) (i:=j2) (by rw[hx];decide)
         cases h
         exact⟨A.wf,A.wt,A.lo,by omega,A.kd,by omega,by omega⟩
        ·cases h
structure G2(b v:Nat)(w w':World):Prop where
 os:w'.os=w.os
 tape:w'.tape=w.tape
 output:w'.output=w.output
 size:w.heap.size<=w'.heap.size
 block:∀k,k<w.heap.size->k≠b->k≠v->w'.heap[k]?=w.heap[k]?
theorem G2.refl(b v:Nat)(w:World):G2 b v w w:=⟨rfl,rfl,rfl,Nat.le_refl _,fun _ _ _ _=>rfl⟩
theorem G2.step{w2:World}(h:G2 b v w w1)(hg:w1.grownBy w2 (some b)):G2 b v w w2 :=
 ⟨hg.os.trans h.os,hg.tape.trans h.tape,hg.output.trans h.output,Nat.le_trans h.size hg.size,fun k hk h1 h2=>(hg.block k (Nat.lt_of_lt_of_le hk h.size) (by simpa using h1)).trans (h.block k hk h1 h2)⟩
theorem G2.drew(h:G2 b v w w1)(n:Nat):G2 b v w (w1.drewN n):=⟨h.os,h.tape,h.output,h.size,h.block⟩
theorem G2.set(h:G2 b v w w1)(o:Nat)(x:Value):G2 b v w (w1.setCell ⟨v,o,none⟩ x) :=
 ⟨h.os,h.tape,h.output,by simpa [World.setCell] using h.size,fun k hk h1 h2=>by rw[<-h.block k hk h1 h2];exact heap_setCell_other w1 _ k x (fun e=>h2 e)⟩
def VB(v:Nat)(x1 x2 x3:Int)(w:World):Prop:=w.heap[v]?=some (.cells #[.int .i64 x1,.int .i64 x2,.int .i64 x3,.string ⟨#[]⟩,.string ⟨#[]⟩] 84 (0,0))
theorem VB.cell(h:VB v x1 x2 x3 w):w.cell? ⟨v,0,none⟩=some (.int .i64 x1)/\w.cell? ⟨v,1,none⟩=some (.int .i64 x2)/\w.cell? ⟨v,2,none⟩=some (.int .i64 x3) :=
 ⟨by rw[aj h];rfl,by rw[aj h];rfl,by rw[aj h];rfl⟩
theorem VB.f(h:VB v x1 x2 x3 w)(o:Nat):w.frozen? ⟨v,o,none⟩=false:=Lib.frozen_of_heap h o
theorem VB.grow(h:VB v x1 x2 x3 w)(hg:w.grownBy w' (some b))(hn:v≠b):VB v x1 x2 x3 w':=by
 unfold VB at h ⊢;rw[hg.block v ((bJ h)) (by simpa using hn)];exact h
theorem VB.drew(h:VB v x1 x2 x3 w)(n:Nat):VB v x1 x2 x3 (w.drewN n):=h
theorem VB.set0(h:VB v x1 x2 x3 w)(y:Int):VB v y x2 x3 (w.setCell ⟨v,0,none⟩ (.int .i64 y)):=by
 unfold VB at h ⊢;simp[World.setCell,Array.getElem?_modify,h]
theorem VB.set1(h:VB v x1 x2 x3 w)(y:Int):VB v x1 y x3 (w.setCell ⟨v,1,none⟩ (.int .i64 y)):=by
 unfold VB at h ⊢;simp[World.setCell,Array.getElem?_modify,h]
theorem VB.set2(h:VB v x1 x2 x3 w)(y:Int):VB v x1 x2 y (w.setCell ⟨v,2,none⟩ (.int .i64 y)):=by
 unfold VB at h ⊢;simp[World.setCell,Array.getElem?_modify,h]
theorem RS.other{s:ByteArray}(h:RS b s i w)(hn:b≠v)(o:Nat)(x:Value):RS b s i (w.setCell ⟨v,o,none⟩ x):=by
 obtain⟨t,h⟩:=h;exact⟨t,by rw[<-h];exact heap_setCell_other w _ b x hn⟩
def zu(l:List UInt8)(j:Nat)(x1 x2 x3:Int):Int × Nat × Int × Int × Int:=(0,j,x1,x2,x3)
def uu(l:List UInt8)(j:Nat)(x1 x2:Int):Int × Nat × Int × Int × Int :=
 if l[j]?=some 46 then(if(rdNum l (j+1)).1=0 then zu l (rdNum l (j+1)).2.2 x1 x2 (rdNum l (j+1)).2.1 else((rdNum l (j+1)).1,(rdNum l (j+1)).2.2,0,0,0)) else(2,j,0,0,0)
def xP(l:List UInt8)(j:Nat)(x1:Int):Int × Nat × Int × Int × Int :=
 if l[j]?=some 46 then(if(rdNum l (j+1)).1=0 then uu l (rdNum l (j+1)).2.2 x1 (rdNum l (j+1)).2.1 else((rdNum l (j+1)).1,(rdNum l (j+1)).2.2,0,0,0)) else(2,j,0,0,0)
theorem Vu(l:List UInt8):bZ l=if(rdNum l 0).1=0 then xP l (rdNum l 0).2.2 (rdNum l 0).2.1 else((rdNum l 0).1,(rdNum l 0).2.2,0,0,0):=rfl
theorem Vw(l:List UInt8)(i:Nat)(hi:i<=l.length):(rdNum l i).2.2<=l.length:=by
 have:=pF aY l i hi;unfold rdNum
 repeat' split
 all_goals first|exact hi|(simp only;omega)
theorem ip0(v:Nat)(w:World):(Instr.index 197 (.agg #[.pointer (some ⟨v,0,none⟩),.pointer (some ⟨v,1,none⟩),.pointer (some ⟨v,2,none⟩)]) (.int .i64 0)).run prog w=.ok (.pointer (some ⟨v,0,none⟩)) w:=by kernel_rfl
theorem ip1(v:Nat)(w:World):(Instr.index 197 (.agg #[.pointer (some ⟨v,0,none⟩),.pointer (some ⟨v,1,none⟩),.pointer (some ⟨v,2,none⟩)]) (.int .i64 1)).run prog w=.ok (.pointer (some ⟨v,1,none⟩)) w:=by kernel_rfl
theorem ip2(v:Nat)(w:World):(Instr.index 197 (.agg #[.pointer (some ⟨v,0,none⟩),.pointer (some ⟨v,1,none⟩),.pointer (some ⟨v,2,none⟩)]) (.int .i64 2)).run prog w=.ok (.pointer (some ⟨v,2,none⟩)) w:=by kernel_rfl
theorem ac8(b v:Nat)(s:ByteArray)(w:World)(h:RS b s 0 w)(hv:VB v 0 0 0 w)(hbv:b≠v)(hs:s.size<2 ^ 62) :
  Calls prog 81 #[.pointer (some ⟨b,0,none⟩),.pointer (some ⟨v,0,none⟩)] w fun e w'=>e=.returned (.int .i64 (bZ s.data.toList).1)/\RS b s (bZ s.data.toList).2.1 w'/\(∃y1 y2 y3,VB v y1 y2 y3 w'/\((bZ s.data.toList).1=0->(y1,y2,y3)=(bZ s.data.toList).2.2))/\G2 b v w w':=by
 obtain⟨l,hl⟩:∃l,l=s.data.toList:=⟨_,rfl⟩;have hll:l.length=s.size:=by rw[hl];simp
 have dG:=ae hll;obtain⟨R,hR⟩:=zN (bZ l);rw[<-hl,hR];have NP:=Vu l;rw[hR]at NP;have HR:=ae NP;have CN:Hd (∀i w,i<=s.size->RS b s i w->Calls prog 112 #[.pointer (some ⟨b,0,none⟩)] w fun e w'=>e=.returned (.tuple #[.int .i64 (rdNum l i).2.1,.int .i64 (rdNum l i).1])/\RS b s (rdNum l i).2.2 w'/\w.grownBy w' (some b)):=fun i w hi h=>by rw[hl];exact Vp b s i w hi h hs
 have TY:=ae (fun i w (hc:l[i]?=some 46) (h:RS b s i w)=>uj b s i 46 w (by rw[<-hl];exact hc) h hs);have TN:Hd (∀i w,i<=s.size->¬l[i]?=some 46->RS b s i w->Calls prog 109 #[.pointer (some ⟨b,0,none⟩),.string ⟨#[46]⟩] w fun e w'=>e=.returned (.bool false)/\RS b s i w'/\w.grownBy w' (some b)):=fun i w hi hc h=>pJ b s i 46 w hi (by rw[<-hl];exact hc) h hs
 have HI:Hd (RS b s 0 w/\VB v 0 0 0 w):=⟨h,hv⟩;have ng:=ae hbv;have ES:Hd (∀i,i<=s.size->(rdNum l i).2.2<=s.size):=fun i hi=>by have:=Vw l i (by rw[hll];exact hi);rw[hll]at this;exact this
 clear hl hll hR NP h hv hbv hs;go_enter func81,ntmps81;go_wp2;go_quiet (fail);go_wp2;go_loopw [18] (fun vi wr=>∃(k j:Nat) (x1 x2 x3:Int),vi=.int .i64 k/\j<=s.size/\RS b s j wr/\VB v x1 x2 x3 wr/\G2 b v w wr/\((k=0/\j=0/\x2=0/\x3=0)\/(k=1/\R=xP l j x1/\x3=0)\/(k=2/\R=uu l j x1 x2)\/(k=3/\R=zu l j x1 x2 x3))) (fun vi _=>3-(intOf vi).toNat)
 case atStart=>exact⟨0,0,0,0,0,rfl,Nat.zero_le _,HI.o.1.drew _,HI.o.2.drew _,(G2.refl b v w).drew _,Or.inl ⟨rfl,rfl,rfl,rfl⟩⟩
 case round=>
  obtain⟨k,j,x1,x2,x3,rfl,hj,hrs,hvb,hg2,hcase⟩:=hrel;have HJ:=ae hj;have aN:=ae hrs;have Bz:=ae hvb;have HG:=ae hg2;clear hj hrs hvb hg2
  rcases hcase with⟨rfl,rfl,hx2,hx3⟩|⟨rfl,hrk,hx3⟩|⟨rfl,hrk⟩|⟨rfl,hrk⟩
  ·have ix:=ip0 v wr;have Vx:=ae hx3;have HRk:=ae HR.o;have kY:=ae HJ.o;have ET:=ae aN.o;have EU:=ae Bz.o;have xQ:=ae HG.o;clear hx2 hx3 HR;have rX:=ae (CN.o (0) wr kY.o ET.o);have pM:=ae (ES.o (0) kY.o);obtain⟨E,hE⟩:=zN ((rdNum l (0)).1);obtain⟨V,hV⟩:=zN ((rdNum l (0)).2.1);obtain⟨Q,hQ⟩:=zN ((rdNum l (0)).2.2);rw[hE,hV,hQ]at rX;rw[hQ]at pM;rw[hE,hV,hQ]at HRk;clear hE hV hQ;go_wp2_with (go_at_call 112;refine rX.o.mono ?_);rintro e wq ⟨rfl,hrq,hgq⟩;have oP:=ae (EU.o.grow hgq (Ne.symm ng.o));have xR:=ae (xQ.o.step hgq);have xU:=ae hrq;clear hrq hgq;have cc:=oP.o.cell.1;have ff:=oP.o.f 0
   cases hz:(E==0) with
   |false=>
    have HZ:Hd (R=(E,Q,0,0,0)):=by show R=_;rw[HRk.o,if_neg (by simpa using hz)]
    go_wp2;go_ret;refine⟨dm (by rw[HZ.o]),by rw[HZ.o];exact xU.o.other ng.o _ _,⟨_,_,_,oP.o.set0 _,fun hh=>?_⟩,xR.o.set _ _⟩;rw[HZ.o]at hh;exact absurd hh (by simpa using hz)
   |true=>
    have HZ:Hd (R=xP l Q V):=by show R=_;rw[HRk.o,if_pos (by simpa using hz)]
    go_wp2;go_roundw
    case rel=>exact⟨1,Q,V,x2,x3,rfl,pM.o,xU.o.other ng.o _ _,oP.o.set0 _,xR.o.set _ _,Or.inr (Or.inl ⟨rfl,HZ.o,Vx.o⟩)⟩
    case measure=>simp[intOf]
  ·have ix:=ip1 v wr;have Vx:=ae hx3;have EW:=ae hrk;clear hrk hx3
   cases hc:decide (l[j]?=some 46) with
   |false=>
    have hc':=of_decide_eq_false hc;have HZ:Hd (R=(2,j,0,0,0)):=by show R=_;rw[EW.o];unfold xP;rw[if_neg hc']
    have CT:=ae (TN.o j wr HJ.o hc' aN.o);clear hc hc';go_wp2_with (go_at_call 109;refine CT.o.mono ?_);rintro e wt ⟨rfl,hrt,hgt⟩;have HF:Hd (RS b s j wt/\G2 b v w wt):=⟨hrt,HG.o.step hgt⟩;have NQ:=ae (Bz.o.grow hgt (Ne.symm ng.o));clear hrt hgt;go_wp2;go_ret;refine⟨dm (by rw[HZ.o]),by rw[HZ.o];exact HF.o.1,⟨_,_,_,NQ.o,fun hh=>?_⟩,HF.o.2⟩;rw[HZ.o]at hh;exact absurd hh (by show ¬(2:Int)=0;decide)
   |true=>
    have hc':=of_decide_eq_true hc;have HRk:Hd (R=if(rdNum l (j+1)).1=0 then uu l (rdNum l (j+1)).2.2 x1 (rdNum l (j+1)).2.1 else((rdNum l (j+1)).1,(rdNum l (j+1)).2.2,0,0,0)):=by show R=_;rw[EW.o];unfold xP;rw[if_pos hc']
    have CT:=ae (TY.o j wr hc' aN.o);have kY:Hd (j+1<=s.size):=by have:=(List.getElem?_eq_some_iff.1 hc').1;rw[dG.o]at this;exact this
    clear hc hc';go_wp2_with (go_at_call 109;refine CT.o.mono ?_);rintro e wt ⟨rfl,hrt,hgt⟩;have ET:=ae hrt;have EU:=ae (Bz.o.grow hgt (Ne.symm ng.o));have xQ:=ae (HG.o.step hgt);clear hrt hgt;have rX:=ae (CN.o (j+1) wt kY.o ET.o);have pM:=ae (ES.o (j+1) kY.o);obtain⟨E,hE⟩:=zN ((rdNum l (j+1)).1);obtain⟨V,hV⟩:=zN ((rdNum l (j+1)).2.1);obtain⟨Q,hQ⟩:=zN ((rdNum l (j+1)).2.2);rw[hE,hV,hQ]at rX;rw[hQ]at pM;rw[hE,hV,hQ]at HRk;clear hE hV hQ;go_wp2_with (go_at_call 112;refine rX.o.mono ?_);rintro e wq ⟨rfl,hrq,hgq⟩;have oP:=ae (EU.o.grow hgq (Ne.symm ng.o));have xR:=ae (xQ.o.step hgq);have xU:=ae hrq;clear hrq hgq;have cc:=oP.o.cell.2.1;have ff:=oP.o.f 1
    cases hz:(E==0) with
    |false=>
     have HZ:Hd (R=(E,Q,0,0,0)):=by show R=_;rw[HRk.o,if_neg (by simpa using hz)]
     go_wp2;go_ret;refine⟨dm (by rw[HZ.o]),by rw[HZ.o];exact xU.o.other ng.o _ _,⟨_,_,_,oP.o.set1 _,fun hh=>?_⟩,xR.o.set _ _⟩;rw[HZ.o]at hh;exact absurd hh (by simpa using hz)
    |true=>
     have HZ:Hd (R=uu l Q x1 V):=by show R=_;rw[HRk.o,if_pos (by simpa using hz)]
     go_wp2;go_roundw
     case rel=>exact⟨2,Q,x1,V,x3,rfl,pM.o,xU.o.other ng.o _ _,oP.o.set1 _,xR.o.set _ _,Or.inr (Or.inr (Or.inl ⟨rfl,HZ.o⟩))⟩
     case measure=>simp[intOf]
  ·have ix:=ip2 v wr;have EW:=ae hrk;clear hrk
   cases hc:decide (l[j]?=some 46) with
   |false=>
    have hc':=of_decide_eq_false hc;have HZ:Hd (R=(2,j,0,0,0)):=by show R=_;rw[EW.o];unfold uu;rw[if_neg hc']
    have CT:=ae (TN.o j wr HJ.o hc' aN.o);clear hc hc';go_wp2_with (go_at_call 109;refine CT.o.mono ?_);rintro e wt ⟨rfl,hrt,hgt⟩;have HF:Hd (RS b s j wt/\G2 b v w wt):=⟨hrt,HG.o.step hgt⟩;have NQ:=ae (Bz.o.grow hgt (Ne.symm ng.o));clear hrt hgt;go_wp2;go_ret;refine⟨dm (by rw[HZ.o]),by rw[HZ.o];exact HF.o.1,⟨_,_,_,NQ.o,fun hh=>?_⟩,HF.o.2⟩;rw[HZ.o]at hh;exact absurd hh (by show ¬(2:Int)=0;decide)
   |true=>
    have hc':=of_decide_eq_true hc;have HRk:Hd (R=if(rdNum l (j+1)).1=0 then zu l (rdNum l (j+1)).2.2 x1 x2 (rdNum l (j+1)).2.1 else((rdNum l (j+1)).1,(rdNum l (j+1)).2.2,0,0,0)):=by show R=_;rw[EW.o];unfold uu;rw[if_pos hc']
    have CT:=ae (TY.o j wr hc' aN.o);have kY:Hd (j+1<=s.size):=by have:=(List.getElem?_eq_some_iff.1 hc').1;rw[dG.o]at this;exact this
    clear hc hc';go_wp2_with (go_at_call 109;refine CT.o.mono ?_);rintro e wt ⟨rfl,hrt,hgt⟩;have ET:=ae hrt;have EU:=ae (Bz.o.grow hgt (Ne.symm ng.o));have xQ:=ae (HG.o.step hgt);clear hrt hgt;have rX:=ae (CN.o (j+1) wt kY.o ET.o);have pM:=ae (ES.o (j+1) kY.o);obtain⟨E,hE⟩:=zN ((rdNum l (j+1)).1);obtain⟨V,hV⟩:=zN ((rdNum l (j+1)).2.1);obtain⟨Q,hQ⟩:=zN ((rdNum l (j+1)).2.2);rw[hE,hV,hQ]at rX;rw[hQ]at pM;rw[hE,hV,hQ]at HRk;clear hE hV hQ;go_wp2_with (go_at_call 112;refine rX.o.mono ?_);rintro e wq ⟨rfl,hrq,hgq⟩;have oP:=ae (EU.o.grow hgq (Ne.symm ng.o));have xR:=ae (xQ.o.step hgq);have xU:=ae hrq;clear hrq hgq;have cc:=oP.o.cell.2.2;have ff:=oP.o.f 2
    cases hz:(E==0) with
    |false=>
     have HZ:Hd (R=(E,Q,0,0,0)):=by show R=_;rw[HRk.o,if_neg (by simpa using hz)]
     go_wp2;go_ret;refine⟨dm (by rw[HZ.o]),by rw[HZ.o];exact xU.o.other ng.o _ _,⟨_,_,_,oP.o.set2 _,fun hh=>?_⟩,xR.o.set _ _⟩;rw[HZ.o]at hh;exact absurd hh (by simpa using hz)
    |true=>
     have HZ:Hd (R=zu l Q x1 x2 V):=by show R=_;rw[HRk.o,if_pos (by simpa using hz)]
     go_wp2;go_roundw
     case rel=>exact⟨3,Q,x1,x2,V,rfl,pM.o,xU.o.other ng.o _ _,oP.o.set2 _,xR.o.set _ _,Or.inr (Or.inr (Or.inr ⟨rfl,HZ.o⟩))⟩
     case measure=>simp[intOf]
  ·have HZ:Hd (R=(0,j,x1,x2,x3)):=hrk;clear hrk;go_wp2;go_ret;refine⟨dm (by rw[HZ.o]),by rw[HZ.o];exact aN.o,⟨_,_,_,Bz.o,fun _=>by rw[HZ.o]⟩,HG.o⟩
end Go.Proofs.YtbcfhgpfgdbjgaaGreatDoor
