import Derived.Test.YtnnbgjaphfhibaaGreatDoorE24
set_option linter.all false
set_option maxRecDepth 100000
set_option maxHeartbeats 0
open Go.Proofs.Tryz
namespace Go.Proofs.YtnnbgjaphfhibaaGreatDoor
open Go.RowKit Go.Maps Go.WideMaps Go.Joins
theorem Dt.parts{w:World}{B P R:Nat}{s:ByteArray}{now de j:Nat}{ns:List Tn}{own:List Nat}(h:Dt w B P R s now de (.ok j) ns own):∃N c O oc,w.cell? ⟨R,2,none⟩=some (.slice (some ⟨N,0,none⟩) ns.length c)/\w.cell? ⟨R,3,none⟩=some (.slice (some ⟨O,0,none⟩) ns.length oc)/\(∀q (hq:q<ns.length),w.cell? ⟨N,q*6,none⟩=some (.int .i64 ns[q].kd))/\(∀q,q<ns.length->w.cell? ⟨O,q,none⟩=some (.bool (decide (q∈own))))/\∀t k,WF ns own->t<ns.length->ns.length<=1000000->Calls prog 14 #[.slice (some ⟨N,0,none⟩) ns.length c,.int .i64 (t:Nat),.string ⟨k.toArray⟩] w fun e w'=>e=.returned (.int .i64 (gI ns t k))/\w'=w:=by
 obtain⟨h1,h2,N,c,O,oc,xs,ks,h3,h4,h5,h6⟩:=h;obtain⟨-,-,c2,c3,-,-,-,-,-⟩:=h6.2.cells;exact⟨N,c,O,oc,c2,c3,fun q hq=>(h5.node q hq).1,fun q hq=>(h5.flagAt q hq).1,fun t k W ht hs=>IE w B P ns _ own N c _ xs ks t k h5 W ht hs⟩
theorem Pm(ns:List Tn)(t:Nat)(x:Tn)(ht:t<ns.length)(hq:ns.length<(addN ns t x).length):((addN ns t x)[ns.length]'hq).kd=x.kd:=by
 have:=fF ns t x ht ns.length;rw[if_pos rfl]at this;unfold ak at this;rw[List.getElem?_eq_getElem hq]at this;exact this
theorem afI(B P R:Nat)(s:ByteArray)(now de j:Nat)(ns:List Tn)(own:List Nat)(t:Nat)(k:List UInt8)(p:Nat)(w:World)(h:Dt w B P R s now de (.ok j) ns own)(W:WF ns own)(ht:t<ns.length)(hsz:ns.length<=900000) :
  Calls prog 81 #[.pointer (some ⟨R,0,none⟩),.int .i64 (t:Nat),.string ⟨k.toArray⟩,.int .i64 (p:Nat),.bool true] w (I5 B P R s now de (.ok j) ns own (fO ns t k p) w):=by
 have HD:=ae h;obtain⟨N,c,O,oc,c2,c3,hkd,hfl,hck⟩:=h.parts;have CK:=ae (hck t k W ht (by omega))
 cases hk:ah ns t k with
 | none =>
  rw[I7 hk]at CK;have HST:Hd (fO ns t k p=.ok (ns.length+1,addN (addN ns t ⟨2,k,[],0,[],p⟩) ns.length ⟨0,[],[],0,[],p⟩)):=by show _=_;unfold fO;rw[hk]
  rw[HST.o];have W1:=ru ns own t ⟨2,k,[],0,[],p⟩ rfl ht W;have hl1:(addN ns t ⟨2,k,[],0,[],p⟩).length=ns.length+1:=bY _ _ _;have hkl:=Pm ns t ⟨2,k,[],0,[],p⟩ ht (by omega);obtain⟨L,hL⟩:=zN (ns.length);obtain⟨M,hM⟩:=zN (addN ns t ⟨2,k,[],0,[],p⟩);have CA:Hd (Calls prog 29 #[.pointer (some ⟨R,0,none⟩),.int .i64 (t:Nat),.agg #[.int .i64 2,.string ⟨k.toArray⟩,.string ⟨#[]⟩,.int .i64 0,.slice none 0 0,.int .i64 (p:Nat)]] w fun e w'=>e=.returned (.int .i64 (L:Nat))/\Dt w' B P R s now de (.ok j) M own/\DFr B P w w'):=by
   rw[<-hM,<-hL];exact vO B P R s now de (.ok j) ns own t 2 0 k [] p w h W ht (by omega)
  rw[hM]at W1 hl1;have sJ:∀(hq:L<M.length),(M[L]'hq).kd=2:=fun hq=>by
   have:=Pm ns t ⟨2,k,[],0,[],p⟩ ht (by omega);subst hM hL;exact this
  have CB:Hd (∀w,Dt w B P R s now de (.ok j) M own->Calls prog 29 #[.pointer (some ⟨R,0,none⟩),.int .i64 (L:Nat),.agg #[.int .i64 0,.string ⟨#[]⟩,.string ⟨#[]⟩,.int .i64 0,.slice none 0 0,.int .i64 (p:Nat)]] w fun e w'=>e=.returned (.int .i64 ((L:Int)+1))/\Dt w' B P R s now de (.ok j) (addN M L ⟨0,[],[],0,[],p⟩) own/\DFr B P w w'):=fun w h=>by
   have:=vO B P R s now de (.ok j) M own L 0 0 [] [] p w h W1 (by omega) (by omega);refine this.mono ?_;rintro e w' ⟨rfl,a,b⟩;refine⟨?_,a,b⟩;rw[hl1,hL];rfl
  rw[hM];rw[hL]at c2 CK hl1 ⊢;have yS:=ae sJ;have Jo:=hl1;have Pn:L<=900000:=by omega
  have nz:Hd (∀w',Dt w' B P R s now de (.ok j) M own->∃N1 c1,w'.cell? ⟨R,2,none⟩=some (.slice (some ⟨N1,0,none⟩) (L+1) c1)/\w'.cell? ⟨N1,L*6,none⟩=some (.int .i64 2)):=fun w' hd=>by
   obtain⟨N1,c1,O1,oc1,x1,x2,x3,-,-⟩:=hd.parts;have hq:L<M.length:=by omega
   have x5:=x3 L hq;rw[yS.o hq]at x5;rw[Jo]at x1;exact⟨N1,c1,x1,x5⟩
  clear h W hk HST hkl sJ hck hfl hkd hL hM W1 hl1 Jo ht hsz;go_enter func81,ntmps81;go_wp2_with (first|(go_at_call 14;refine CK.o.mono ?_;rintro e w' ⟨rfl,rfl⟩)|(go_at_call 29;refine CA.o.mono ?_));rintro e w2 ⟨rfl,hd2,hf2⟩;obtain⟨N1,c1,x1,x5⟩:=nz.o w2 hd2;have HD2:=ae hd2;have HF2:=ae hf2;clear hd2 hf2 c2 c3;go_wp2_with (go_at_call 29;refine(CB.o _ HD2.o).mono ?_;rintro e w3 ⟨rfl,hd3,hf3⟩);refine bodyPost_ret (results_tmp (t:=10) rfl _ _ _) rfl ?_;exact⟨fun n ns' hh=>(by cases hh;exact⟨rfl,hd3⟩),fun c hh=>(by cases hh),HF2.o.two hf3⟩
 | some q =>
  rw[I8 hk]at CK;obtain⟨hm,-⟩:=rq hk;have hq:=W.lt t q hm;have n0:=hkd q hq;have hkq:ak ns q=ns[q].kd:=by unfold ak;rw[List.getElem?_eq_getElem hq]
  have Xn:¬(q:Int)<0:=by omega
  have HST:Hd (fO ns t k p=if ns[q].kd=2 then .ok (ns.length,addN ns q ⟨0,[],[],0,[],p⟩) else .error (5,p)):=by
   show _=_;unfold fO;rw[hk];simp only[hkq]
  rw[HST.o];obtain⟨L,hL⟩:=zN (ns.length);have dO:q<L:=by omega
  have Pn:L<=900000:=by omega
  have CB:Hd (Calls prog 29 #[.pointer (some ⟨R,0,none⟩),.int .i64 (q:Nat),.agg #[.int .i64 0,.string ⟨#[]⟩,.string ⟨#[]⟩,.int .i64 0,.slice none 0 0,.int .i64 (p:Nat)]] w fun e w'=>e=.returned (.int .i64 (L:Nat))/\Dt w' B P R s now de (.ok j) (addN ns q ⟨0,[],[],0,[],p⟩) own/\DFr B P w w'):=by
   rw[<-hL];exact vO B P R s now de (.ok j) ns own q 0 0 [] [] p w h W hq (by omega)
  obtain⟨v,hv⟩:=zN (ns[q].kd);rw[hv]at n0 ⊢;rw[hL]at c2 CK ⊢;clear h W hk HST hck hfl hkd hL hm hkq hv hq ht hsz
  by_cases h2:v=2
  ·have hb:(v != 2)=false:=by simpa using h2
   rw[if_pos h2];clear h2;go_enter func81,ntmps81;go_wp2_with (first|(go_at_call 14;refine CK.o.mono ?_;rintro e w' ⟨rfl,rfl⟩)|(go_at_call 29;refine CB.o.mono ?_;rintro e w3 ⟨rfl,hd3,hf3⟩));refine bodyPost_ret (results_tmp (t:=10) rfl _ _ _) rfl ?_;exact⟨fun n ns' hh=>(by cases hh;exact⟨rfl,hd3⟩),fun c hh=>(by cases hh),hf3⟩
  ·have hb:(v != 2)=true:=by simpa using h2
   rw[if_neg h2];clear h2;go_enter func81,ntmps81;go_wp2_with (go_at_call 14;refine CK.o.mono ?_;rintro e w' ⟨rfl,rfl⟩);refine bodyPost_ret (results_tmp (t:=10) rfl _ _ _) rfl ?_;exact⟨fun n ns' hh=>(by cases hh),fun c hh=>⟨rfl,ns,HD.o⟩,DFr.refl _⟩
theorem afJ(B P R:Nat)(s:ByteArray)(now de j:Nat)(ns:List Tn)(own:List Nat)(t:Nat)(k:List UInt8)(p:Nat)(w:World)(h:Dt w B P R s now de (.ok j) ns own)(W:WF ns own)(ht:t<ns.length)(hsz:ns.length<=900000) :
  Calls prog 81 #[.pointer (some ⟨R,0,none⟩),.int .i64 (t:Nat),.string ⟨k.toArray⟩,.int .i64 (p:Nat),.bool false] w (I5 B P R s now de (.ok j) ns own (gV ns own t k p) w):=by
 have HD:=ae h;obtain⟨N,c,O,oc,c2,c3,hkd,hfl,hck⟩:=h.parts;have CK:=ae (hck t k W ht (by omega))
 cases hk:ah ns t k with
 | none =>
  rw[I7 hk]at CK;have HST:Hd (gV ns own t k p=.ok (ns.length,addN ns t ⟨0,k,[],0,[],p⟩)):=by show _=_;unfold gV;rw[hk]
  rw[HST.o];have hl1:(addN ns t ⟨0,k,[],0,[],p⟩).length=ns.length+1:=bY _ _ _;have hno:¬ns.length∈own:=fun hm=>by have:=W.own _ hm;omega
  obtain⟨L,hL⟩:=zN (ns.length);obtain⟨M,hM⟩:=zN (addN ns t ⟨0,k,[],0,[],p⟩);have CA:Hd (Calls prog 29 #[.pointer (some ⟨R,0,none⟩),.int .i64 (t:Nat),.agg #[.int .i64 0,.string ⟨k.toArray⟩,.string ⟨#[]⟩,.int .i64 0,.slice none 0 0,.int .i64 (p:Nat)]] w fun e w'=>e=.returned (.int .i64 (L:Nat))/\Dt w' B P R s now de (.ok j) M own/\DFr B P w w'):=by
   rw[<-hM,<-hL];exact vO B P R s now de (.ok j) ns own t 0 0 k [] p w h W ht (by omega)
  have sJ:∀(hq:L<M.length),(M[L]'hq).kd=0:=fun hq=>by
   have:=Pm ns t ⟨0,k,[],0,[],p⟩ ht (by omega);subst hM hL;exact this
  rw[hM];rw[hM]at hl1;rw[hL]at c2 CK hl1 hno ⊢;have yS:=ae sJ;have Pn:L<=900000:=by omega
  have nz:Hd (∀w',Dt w' B P R s now de (.ok j) M own->∃N1 c1 O1 oc1,w'.cell? ⟨R,2,none⟩=some (.slice (some ⟨N1,0,none⟩) (L+1) c1)/\w'.cell? ⟨N1,L*6,none⟩=some (.int .i64 0)/\w'.cell? ⟨R,3,none⟩=some (.slice (some ⟨O1,0,none⟩) (L+1) oc1)/\w'.cell? ⟨O1,L,none⟩=some (.bool false)):=fun w' hd=>by
   obtain⟨N1,c1,O1,oc1,x1,x2,x3,x4,-⟩:=hd.parts;have hq:L<M.length:=by omega
   have x5:=x3 L hq;have x6:=x4 L hq;rw[yS.o hq]at x5;rw[decide_eq_false hno]at x6;rw[hl1]at x1 x2;exact⟨N1,c1,O1,oc1,x1,x5,x2,x6⟩
  clear h W hk HST sJ hck hfl hkd hL hM hl1 ht hsz hno;go_enter func81,ntmps81;go_wp2_with (first|(go_at_call 14;refine CK.o.mono ?_;rintro e w' ⟨rfl,rfl⟩)|(go_at_call 29;refine CA.o.mono ?_));rintro e w2 ⟨rfl,hd2,hf2⟩;obtain⟨N1,c1,O1,oc1,x1,x5,x2,x6⟩:=nz.o w2 hd2;have HD2:=ae hd2;have HF2:=ae hf2;clear hd2 hf2 c2 c3;go_wp2;refine bodyPost_ret (results_tmp (t:=10) rfl _ _ _) rfl ?_;exact⟨fun n ns' hh=>(by cases hh;exact⟨rfl,HD2.o⟩),fun c hh=>(by cases hh),HF2.o⟩
 | some q =>
  rw[I8 hk]at CK;obtain⟨hm,-⟩:=rq hk;have hq:=W.lt t q hm;have n0:=hkd q hq;have o0:=hfl q hq;have hkq:ak ns q=ns[q].kd:=by unfold ak;rw[List.getElem?_eq_getElem hq]
  have Xn:¬(q:Int)<0:=by omega
  have HST:Hd (gV ns own t k p=if ns[q].kd=0/\¬q∈own then .ok (q,ns) else .error (5,p)):=by
   show _=_;unfold gV;rw[hk];simp only[hkq]
  rw[HST.o];obtain⟨L,hL⟩:=zN (ns.length);have dO:q<L:=by omega
  have Pn:L<=900000:=by omega
  obtain⟨v,hv⟩:=zN (ns[q].kd);obtain⟨b,hb⟩:=zN (decide (q∈own));rw[hv]at n0 ⊢;rw[hb]at o0;rw[hL]at c2 c3 CK;have HB:=ae hb;clear h W hk HST hck hfl hkd hL hm hkq hv hq ht hsz hb
  by_cases h0:v=0
  ·have hb0:(v != 0)=false:=by simpa using h0
   cases b with
   | false =>
    rw[if_pos ⟨h0,of_decide_eq_false HB.o⟩];clear h0;go_enter func81,ntmps81;go_wp2_with (go_at_call 14;refine CK.o.mono ?_;rintro e w' ⟨rfl,rfl⟩);refine bodyPost_ret (results_tmp (t:=10) rfl _ _ _) rfl ?_;exact⟨fun n ns' hh=>(by cases hh;exact⟨rfl,HD.o⟩),fun c hh=>(by cases hh),DFr.refl _⟩
   | true =>
    rw[if_neg (fun h=>h.2 (of_decide_eq_true HB.o))];clear h0;go_enter func81,ntmps81;go_wp2_with (go_at_call 14;refine CK.o.mono ?_;rintro e w' ⟨rfl,rfl⟩);refine bodyPost_ret (results_tmp (t:=10) rfl _ _ _) rfl ?_;exact⟨fun n ns' hh=>(by cases hh),fun c hh=>⟨rfl,ns,HD.o⟩,DFr.refl _⟩
  ·have hb0:(v != 0)=true:=by simpa using h0
   rw[if_neg (fun h=>h0 h.1)];clear h0;go_enter func81,ntmps81;go_wp2_with (go_at_call 14;refine CK.o.mono ?_;rintro e w' ⟨rfl,rfl⟩);refine bodyPost_ret (results_tmp (t:=10) rfl _ _ _) rfl ?_;exact⟨fun n ns' hh=>(by cases hh),fun c hh=>⟨rfl,ns,HD.o⟩,DFr.refl _⟩
open Go.RowKit Go.Maps Go.WideMaps Go.Joins
def afK(B P R:Nat)(s:ByteArray)(now de i:Nat)(ns:List Tn)(own:List Nat)(g:Rs (List UInt8 × Nat))(w:World)(e:Ending)(w':World):Prop:=(∀t j,g=.ok (t,j)->e=.returned (.tuple #[.string ⟨t.toArray⟩,.int .i64 (i:Nat)])/\Dt w' B P R s now de (.ok j) ns own)/\(∀c,g=.error c->∃t:List UInt8,e=.returned (.tuple #[.string ⟨t.toArray⟩,.int .i64 (i:Nat)])/\Dt w' B P R s now de (.error c) ns own)/\DFr B P w w'
theorem afL(B P R:Nat)(s:ByteArray)(now de i:Nat)(ns:List Tn)(own:List Nat)(w:World)(h:Dt w B P R s now de (.ok i) ns own)(hs:s.size<=100000) :
  Calls prog 79 #[.pointer (some ⟨R,0,none⟩)] w (afK B P R s now de i ns own (dm s.data.toList i) w):=by
 obtain⟨h1,h2,N,c,O,oc,xs,ks,h3,h4,h5,h6⟩:=h;refine(Vp R s _ _ now de i w h6.2 h6.1 (by omega)).mono ?_;rintro e w' ⟨a1,a2,a3⟩;refine⟨fun t j hg=>?_,fun c hg=>?_,rZ h6 h1 h2 h5.hP a3⟩
 ·obtain⟨b1,b2⟩:=a1 t j hg;exact⟨b1,h1,h2,N,_,O,oc,xs,ks,h3,h4,h5.keepR h6.2 a3,b2⟩
 ·obtain⟨⟨t,-,b1⟩,b2⟩:=a2 c.1 c.2 hg;exact⟨t,b1,h1,h2,N,_,O,oc,xs,ks,h3,h4,h5.keepR h6.2 a3,b2⟩
def EY(B P R:Nat)(s:ByteArray)(now:Nat)(own:List Nat)(g:Rs Sd)(w:World)(e:Ending)(w':World):Prop:=e=.returned (.tuple #[])/\(∀d,g=.ok d->Dt w' B P R s d.now 0 (.ok d.i) d.ns d.own)/\(∀c,g=.error c->∃now',Fq w' B P R s now' 0 c)/\DFr B P w w'
def X8(own:List Nat)(now:Nat):Rs (Nat × List Tn)->Rs Sd
 | .error e=>.error e
 | .ok (j,ns)=>.ok ⟨j,ns,own,now⟩
theorem afM(l:List UInt8)(d:Sd)(c:Int × Nat)(h:dm l d.i=.error c):rdPair l d=.error c:=by unfold rdPair;rw[h]
theorem afN(l:List UInt8)(d:Sd)(k:List UInt8)(j:Nat)(c:Int × Nat)(h:dm l d.i=.ok (k,j))(h2:must l (bl l j) 61=.error c):rdPair l d=.error c:=by unfold rdPair;rw[h];simp only[h2]
theorem afO(l:List UInt8)(d:Sd)(k:List UInt8)(j j1 q:Nat)(h:dm l d.i=.ok (k,j))(h2:must l (bl l j) 61=.ok j1)(h3:ah d.ns d.now k=some q):rdPair l d=.error (5,d.i):=by unfold rdPair;rw[h];simp only[h2,h3]
theorem afP(l:List UInt8)(d:Sd)(k:List UInt8)(j j1:Nat)(h:dm l d.i=.ok (k,j))(h2:must l (bl l j) 61=.ok j1)(h3:ah d.ns d.now k=none):rdPair l d=X8 d.own d.now (val l (2*l.length+2) (bl l j1) d.now k d.i 0 d.ns):=by
 unfold rdPair;rw[h];simp only[h2,h3]
 cases val l (2*l.length+2) (bl l j1) d.now k d.i 0 d.ns<;>rfl
theorem Fq.now{w:World}{B P R:Nat}{s:ByteArray}{now de:Nat}{e:Int × Nat}(h:Fq w B P R s now de e):w.cell? ⟨R,4,none⟩=some (.int .i64 (now:Nat))/\w.cell? ⟨R,5,none⟩=some (.int .i64 e.1)/\(e.1 == 0)=false:=by
 obtain⟨L,O,⟨h1,j,h2,h3⟩,-⟩:=h;exact⟨h3.cells.2.2.2.2.1,h3.cells.2.2.2.2.2.1,by simpa using h1⟩
theorem Fq.drew{w:World}{B P R:Nat}{s:ByteArray}{now de:Nat}{c:Int × Nat}(h:Fq w B P R s now de c)(n:Nat):Fq (w.drewN n) B P R s now de c/\DFr B P w (w.drewN n):=by
 obtain⟨L,O,h1,h4,h5,h6⟩:=h;obtain⟨i,er,p,hd⟩:=h1.dd;have g:=ay (au w none) n;exact⟨⟨L,O,h1.grow g,h4,h5,h6⟩,DFr.gb g (Nat.le_of_lt (Nat.lt_of_le_of_lt h4 (aB hd))) h6⟩
theorem afQ(B P R:Nat)(s:ByteArray)(now i:Nat)(ns:List Tn)(own:List Nat)(w:World)(h:Dt w B P R s now 0 (.ok i) ns own)(W:WF ns own)(V:WT ns)(X9:now<ns.length)(hk2:¬ak ns now=2)(hsz:ns.length+(s.size-i)<=700000)(hs:s.size<=100000) :
  Calls prog 54 #[.pointer (some ⟨R,0,none⟩)] w (EY B P R s now own (rdPair s.data.toList ⟨i,ns,own,now⟩) w):=by
 have hl:s.data.toList.length=s.size:=by simp
 have CK:=ae (afL B P R s now 0 i ns own w h hs);have CB:=ae (fun(q:Rs Nat) w (h:Dq w B P R s now 0 q ns own)=>Xb B P R s now 0 ns own q w h hs);have CM:=ae (fun(q:Rs Nat) w (h:Dq w B P R s now 0 q ns own)=>Oz B P R s now 0 ns own q w h hs 61 (by decide));have Po:=ae (fun(c:Int × Nat) (k:List UInt8) w (h:Fq w B P R s now 0 c)=>aeH B P R s now 0 c now k i w h hs);have jU:Hd (∀k j,dm s.data.toList i=.ok (k,j)->i<=j/\j<=s.size):=fun k j hh=>by
  have hi:=h.cells.2.2.2.2.2.1;have:=wU s.data.toList i k j (by omega) hh;omega
 obtain⟨G,hG⟩:=zN (rdPair s.data.toList ⟨i,ns,own,now⟩);have Jp:Hd (∀c,dm s.data.toList i=.error c->G=.error c):=fun c hh=>by show G=_;rw[<-hG];exact afM _ _ c hh
 have EZ:Hd (∀k j c,dm s.data.toList i=.ok (k,j)->must s.data.toList (bl s.data.toList j) 61=.error c->G=.error c):=fun k j c h1 h2=>by show G=_;rw[<-hG];exact afN _ _ k j c h1 h2
 have nz:Hd (∀k j j1 q,dm s.data.toList i=.ok (k,j)->must s.data.toList (bl s.data.toList j) 61=.ok j1->ah ns now k=some q->G=.error (5,i)):=fun k j j1 q h1 h2 h3=>by show G=_;rw[<-hG];exact afO _ _ k j j1 q h1 h2 h3
 have E5:Hd (∀k j j1,dm s.data.toList i=.ok (k,j)->must s.data.toList (bl s.data.toList j) 61=.ok j1->ah ns now k=none->G=X8 own now (val s.data.toList (2*s.data.toList.length+2) (bl s.data.toList j1) now k i 0 ns)):=fun k j j1 h1 h2 h3=>by show G=_;rw[<-hG];exact afP _ _ k j j1 h1 h2 h3
 rw[hG];obtain⟨K,hK⟩:=zN (dm s.data.toList i);rw[hK]at CK Jp EZ nz E5 jU;have BD:Hd (WF ns own/\WT ns/\now<ns.length/\¬ak ns now=2):=⟨W,V,X9,hk2⟩
 -- the tail behind a fault
 clear h hG hK W V X9 hk2;go_enter func54,ntmps54;go_wp2_with (go_at_call 79;refine CK.o.mono ?_);rintro e w1 ⟨h1,h2,hf1⟩;have jF:=ae hf1;clear hf1
 match K,h1,h2,Jp,EZ,nz,E5,jU with
 | .error c,_,h2,Jp,_,_,_,_ =>
  obtain⟨t,rfl,hd1⟩:=h2 c rfl;have aC:=ae (Jp.o c rfl);have HD1:Hd (Dq w1 B P R s now 0 (.error c) ns own):=hd1.fq;clear h1 h2 hd1;go_wp2_with (first|(go_at_call 51;refine(CB.o (.error c) _ HD1.o).mono ?_;rintro e w2 ⟨rfl,hd2,hf2⟩)|(go_at_call 56;refine(CM.o (.error c) _ hd2).mono ?_));rintro e w3 ⟨rfl,hd3,hf3⟩;have HD3:Hd (Fq w3 B P R s now 0 c):=hd3;have HF3:=ae ((jF.o.two hf2).two hf3);clear hd2 hf2 hd3 hf3;obtain⟨a4,a5,a6⟩:=HD3.o.now;go_wp2;go_quiet (fail);have aF:=HD3.o.drew nq;have dG:Hd (Dq (w3.drewN nq) B P R s now 0 (.error c) ns own):=aF.1;have bi:=ae (HF3.o.two aF.2);obtain⟨wA,hwA⟩:=zN (w3.drewN nq);rw[hwA]at dG bi ⊢;clear hwA aF a4 a5 a6;go_wp2_with (go_at_call 51;refine(CB.o (.error c) _ dG.o).mono ?_);rintro e w4 ⟨rfl,hd4,hf4⟩;have HD4:Hd (Fq w4 B P R s now 0 c):=hd4;have ED:=ae (bi.o.two hf4);obtain⟨b4,-,-⟩:=HD4.o.now
  clear hd4 hf4;go_wp2_with (go_at_call 83;refine(Po.o c t _ HD4.o).mono ?_;rintro e w5 ⟨rfl,hd5,hf5⟩);refine bodyPost_end (results_none rfl _ _ _) rfl ?_;rw[aC.o];exact⟨rfl,fun d hh=>(by cases hh),fun c' hh=>(by injection hh with hh;subst hh;exact⟨now,hd5⟩),ED.o.two hf5⟩
 | .ok (k,j),h1,_,_,EZ,nz,E5,jU =>
  obtain⟨rfl,hd1⟩:=h1 k j rfl;have HD1:Hd (Dq w1 B P R s now 0 (.ok j) ns own):=hd1;obtain⟨hij,hjs⟩:=jU.o k j rfl;have hbj:=jR s.data.toList j (by omega);clear h1 hd1;go_wp2_with (first|(go_at_call 51;refine(CB.o (.ok j) _ HD1.o).mono ?_;rintro e w2 ⟨rfl,hd2,hf2⟩)|(go_at_call 56;refine(CM.o (.ok (bl s.data.toList j)) _ hd2).mono ?_));rintro e w3 ⟨rfl,hd3,hf3⟩;have HF3:=ae ((jF.o.two hf2).two hf3);have x9:Hd (Dq w3 B P R s now 0 (must s.data.toList (bl s.data.toList j) 61) ns own):=hd3;have Jq:Hd (∀j1,must s.data.toList (bl s.data.toList j) 61=.ok j1->j<=j1/\j1<=s.size):=fun j1 hh=>by
   unfold must at hh;split at hh
   ·rename_i hx;have:=aY (l:=s.data.toList) (i:=bl s.data.toList j) (by omega);injection hh with hh
    omega
   ·cases hh
  obtain⟨q3,hq3⟩:=zN (must s.data.toList (bl s.data.toList j) 61);have Pq:=ae (fun c (hh:q3=.error c)=>EZ.o k j c rfl (hq3.trans hh));have Pv:=ae (fun j1 q (hh:q3=.ok j1) (h3:ah ns now k=some q)=>nz.o k j j1 q rfl (hq3.trans hh) h3);have Px:=ae (fun j1 (hh:q3=.ok j1) (h3:ah ns now k=none)=>E5.o k j j1 rfl (hq3.trans hh) h3);rw[hq3]at x9 Jq;clear hd2 hf2 hd3 hf3 hq3 hbj EZ nz E5
  match q3,x9,Jq,Pq,Pv,Px with
  | .error c,x9,_,Pq,_,_ =>
   have aC:=ae (Pq.o c rfl);have HD3:Hd (Fq w3 B P R s now 0 c):=x9.o;obtain⟨a4,a5,a6⟩:=HD3.o.now;go_wp2;go_quiet (fail);have aF:=HD3.o.drew nq;have dG:Hd (Dq (w3.drewN nq) B P R s now 0 (.error c) ns own):=aF.1;have bi:=ae (HF3.o.two aF.2);obtain⟨wA,hwA⟩:=zN (w3.drewN nq);rw[hwA]at dG bi ⊢;clear hwA aF a4 a5 a6;go_wp2_with (go_at_call 51;refine(CB.o (.error c) _ dG.o).mono ?_);rintro e w4 ⟨rfl,hd4,hf4⟩;have HD4:Hd (Fq w4 B P R s now 0 c):=hd4;have ED:=ae (bi.o.two hf4);obtain⟨b4,-,-⟩:=HD4.o.now;clear hd4 hf4;go_wp2_with (go_at_call 83;refine(Po.o c k _ HD4.o).mono ?_;rintro e w5 ⟨rfl,hd5,hf5⟩);refine bodyPost_end (results_none rfl _ _ _) rfl ?_;rw[aC.o];exact⟨rfl,fun d hh=>(by cases hh),fun c' hh=>(by injection hh with hh;subst hh;exact⟨now,hd5⟩),ED.o.two hf5⟩
  | .ok j1,x9,Jq,_,Pv,Px =>
   have HD3:Hd (Dt w3 B P R s now 0 (.ok j1) ns own):=x9.o;obtain⟨hj1,afR⟩:=Jq.o j1 rfl;obtain⟨x1,x2,N,cc,O,oc,xs,ks,x3,x4,x5,x6⟩:=HD3.o;obtain⟨-,-,c2,-,c4,c5,-,-,-⟩:=x6.2.cells;have E8:=ae (fun n=>IE (w3.drewN n) B P ns _ own N cc _ xs ks now k (x5.gb (ay (au w3 none) n)) BD.o.1 BD.o.2.2.1 (by omega));have CF:=ae (fun w (h:Dt w B P R s now 0 (.ok j1) ns own)=>zi B P R s now 0 ns own j1 w h 5 (by decide) i);have hbl:=jR s.data.toList j1 (by omega);have CV:Hd (∀w,Dt w B P R s now 0 (.ok (bl s.data.toList j1)) ns own->Calls prog 83 #[.pointer (some ⟨R,0,none⟩),.int .i64 (now:Nat),.string ⟨k.toArray⟩,.int .i64 (i:Nat)] w (uu B P R s now 0 own (val s.data.toList (2*s.data.toList.length+2) (bl s.data.toList j1) now k i 0 ns) w)):=fun w h=>(aeU _).1 B P R s own now _ now k i 0 ns w h hs BD.o.1 BD.o.2.1 BD.o.2.2.1 BD.o.2.2.2 (by omega) (by omega) (by omega)
   obtain⟨M,hM⟩:=zN (ns.length);rw[hM]at c2 E8;have hMs:M<=700000:=by omega
   clear x1 x2 x3 x4 x5 x6 hM hbl hij hjs hj1 afR hsz
   cases hk:ah ns now k with
   | some q =>
    rw[I8 hk]at E8;have aC:=ae (Pv.o j1 q rfl hk);have hq0:(0:Int)<=(q:Int):=by omega
    have hq1:decide ((0:Int)<=(q:Int))=true:=by simp
    clear hk;go_wp2;go_quiet (first|(go_at_call 14;exact Calls.quiet_of_same (E8.o _)));have aF:=HD3.o.drew nq;have dG:=ae aF.1;have bi:=ae (HF3.o.two aF.2);obtain⟨wA,hwA⟩:=zN (w3.drewN nq);rw[hwA]at dG bi ⊢;clear hwA aF c2 c4 c5;go_wp2_with (first|(go_at_call 82;refine(CF.o _ dG.o).mono ?_;rintro e w4 ⟨rfl,hd4,hf4⟩)|(go_at_call 51;refine(CB.o (.error (5,i)) _ hd4.fq).mono ?_));rintro e w5 ⟨rfl,hd5,hf5⟩;have HD5:Hd (Fq w5 B P R s now 0 (5,i)):=hd5;have vY:=ae ((bi.o.two hf4).two hf5);obtain⟨b4,-,-⟩:=HD5.o.now;clear hd4 hf4 hd5 hf5;go_wp2_with (go_at_call 83;refine(Po.o (5,i) k _ HD5.o).mono ?_;rintro e w6 ⟨rfl,hd6,su⟩);refine bodyPost_end (results_none rfl _ _ _) rfl ?_;rw[aC.o];exact⟨rfl,fun d hh=>(by cases hh),fun c' hh=>(by cases hh;exact⟨now,hd6⟩),vY.o.two su⟩
   | none =>
    rw[I7 hk]at E8;have aC:=ae (Px.o j1 rfl hk);obtain⟨V,hV⟩:=zN (val s.data.toList (2*s.data.toList.length+2) (bl s.data.toList j1) now k i 0 ns);rw[hV]at aC CV;clear hk hV;go_wp2;go_quiet (first|(go_at_call 14;exact Calls.quiet_of_same (E8.o _)));have aF:=HD3.o.drew nq;have dG:Hd (Dq (w3.drewN nq) B P R s now 0 (.ok j1) ns own):=aF.1;have bi:=ae (HF3.o.two aF.2);obtain⟨wA,hwA⟩:=zN (w3.drewN nq);rw[hwA]at dG bi ⊢;clear hwA aF c2 c4 c5;go_wp2_with (go_at_call 51;refine(CB.o (.ok j1) _ dG.o).mono ?_);rintro e w5 ⟨rfl,hd5,hf5⟩;have HD5:Hd (Dt w5 B P R s now 0 (.ok (bl s.data.toList j1)) ns own):=hd5;have vY:=ae (bi.o.two hf5);obtain⟨-,-,-,-,b4,-,-⟩:=HD5.o.cells;clear hd5 hf5;go_wp2_with (go_at_call 83;refine(CV.o _ HD5.o).mono ?_;rintro e w6 ⟨rfl,a1,a2,su⟩);refine bodyPost_end (results_none rfl _ _ _) rfl ?_
    rw[aC.o];refine⟨rfl,fun d hh=>?_,fun c' hh=>?_,vY.o.two su⟩
    ·cases V with
     | error e=>cases hh
     | ok r =>
      obtain⟨j2,ns2⟩:=r;have e1:(Except.ok ⟨j2,ns2,own,now⟩:Rs Sd)=.ok d:=hh;injection e1 with e1
      subst e1;exact a1 j2 ns2 rfl
    ·cases V with
     | error e =>
      have e1:(Except.error e:Rs Sd)=.error c':=hh;injection e1 with e1
      subst e1;exact⟨now,a2 e rfl⟩
     | ok r=>cases hh
end Go.Proofs.YtnnbgjaphfhibaaGreatDoor
