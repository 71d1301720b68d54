import Derived.Test.YtmkjelchiacogaaGreatDoorM05
import Derived.Test.YtmkjelchiacogaaGreatDoorM01
import Derived.Test.YtmkjelchiacogaaGreatDoorM03
import Derived.Test.YtmkjelchiacogaaGreatDoorM02
import Derived.Below
import Derived.Lib.ConvBytes
import Derived.Shelf.Strconv.Clone
import Derived.Test.YtmkjelchiacogaaGreatDoorProg
import Derived.Laws.ResultCell
set_option linter.unusedVariables false
set_option linter.unusedSimpArgs false
set_option maxRecDepth 100000
set_option maxHeartbeats 6400000
open Go.Proofs.Tryz
namespace Go.Proofs.YtmkjelchiacogaaGreatDoor
open Go.RowKit Go.Maps Go.WideMaps Go.Joins
theorem Tr.own{w:World}{B T:Nat}{ns:List Tn}{own:List Nat}{now:Nat}(h:Tr w B T ns own now)(W:WF ns own){p q:Nat}(h0:¬ag ns p=0)(hq:q∈ax ns p):Tr w B T ns (q :: own) now:=by
 obtain⟨N,c,M,xs,ks,e⟩:=h;refine⟨N,c,M,xs,ks,?_⟩;rw[Y4 ns own W p q h0 hq];exact⟨e.blk,e.bT,e.row,e.cel,e.kid,e.apart,e.map.mono (by simp),e.bM⟩
theorem aao{w:World}{B T:Nat}{ns:List Tn}{own:List Nat}{now:Nat}(h:Tr w B T ns own now){H:Nat}{cs:Array Value}(hH:w.heap[H]?=some (.cells cs 249 (0,0)))(o:Nat)(v:Value):Tr (w.setCell ⟨H,o,none⟩ v) B T ns own now:=by
 obtain⟨N,c,M,xs,ks,e⟩:=h;exact⟨N,c,M,xs,ks,e.keeps (FV hH (by decide) (by decide) (by decide) o v)⟩
theorem QM(ns:List Tn)(up:Nat)(n:Tn)(hu:up<ns.length):ns.length∈ax (addN ns up n) up:=by
 rw[jX ns up n hu,if_neg (by omega),if_pos rfl];simp
theorem aap(B T:Nat)(ns:List Tn)(own:List Nat)(now t:Nat)(E:Int->TypeId × Value)(k:List UInt8)(pl:Nat)(w:World)(h:Tr w B T ns own now)(W:WF ns own)(ht:t<ns.length)(h0:ag ns t=0)(hsz:ns.length+own.length<=900000)(hk:k.length<=1048576)(he:Es w E) :
  Calls prog 161 #[.pointer (some ⟨T,0,none⟩),.int .i64 (t:Nat),.agg #[.string ⟨k.toArray⟩,.int .i64 (pl:Nat)]] w (zx B T own now E (iL ns t k pl) w):=by
 have CW:Hd (∀w,Calls prog 165 #[.iface (E 5).1 (E 5).2,.int .i64 (pl:Nat)] w fun e w'=>(∃v,e=.returned v/\FaultV w' v pl (E 5).1 (E 5).2)/\w.grownBy w' none):=fun w=>rZ pl _ _ w
 have CA:Hd (aG ns t k=none->∀w',w.grownBy w' none->Calls prog 166 #[.pointer (some ⟨T,0,none⟩),.int .i64 (t:Nat),.int .i64 2,.agg #[.string ⟨k.toArray⟩,.int .i64 (pl:Nat)]] w' (qI B T ns own now t ⟨2,k,[],0,[],pl⟩ w')):=fun hn w' hg=>zg B T ns own now t 2 k pl w' (h.gb hg) W ht (fun _=>hn) (by omega) hk
 have CB:Hd (∀w',Tr w' B T (addN ns t ⟨2,k,[],0,[],pl⟩) own now->Calls prog 166 #[.pointer (some ⟨T,0,none⟩),.int .i64 (ns.length:Nat),.int .i64 0,.agg #[.string ⟨#[]⟩,.int .i64 (pl:Nat)]] w' (qI B T (addN ns t ⟨2,k,[],0,[],pl⟩) own now ns.length ⟨0,[],[],0,[],pl⟩ w')):=fun w' hg=>zg B T _ own now ns.length 0 [] pl w' hg (rW ns own t _ rfl ht W) (by rw[bV];omega) (fun h2=>by rw[eH ns t _ ht,if_pos rfl]at h2;exact absurd (show(2:Int)=0 from h2) (by decide)) (by rw[bV];omega) (by simp)
 have CQ:Hd (∀q,q<ns.length->ag ns q=2->∀w',w.grownBy w' none->Calls prog 166 #[.pointer (some ⟨T,0,none⟩),.int .i64 (q:Nat),.int .i64 0,.agg #[.string ⟨#[]⟩,.int .i64 (pl:Nat)]] w' (qI B T ns own now q ⟨0,[],[],0,[],pl⟩ w')):=fun q hq h2 w' hg=>zg B T ns own now q 0 [] pl w' (h.gb hg) W hq (fun h3=>by rw[h2]at h3;exact absurd h3 (by decide)) (by omega) (by simp)
 have mM:Hd (iL ns t k pl=match aG ns t k with|none=>.ok (ns.length+1,addN (addN ns t ⟨2,k,[],0,[],pl⟩) ns.length ⟨0,[],[],0,[],pl⟩)|some q=>if ag ns q=2 then .ok (ns.length,addN ns q ⟨0,[],[],0,[],pl⟩) else .error (5,pl)):=rfl;have ut:Hd (∀q,aG ns t k=some q->q<ns.length):=fun q hq=>Jz W hq
 have zy:Hd (WF ns own):=W;have mO:Hd (Tr w B T ns own now):=h;have hB:B<=w.heap.size:=h.base;obtain⟨N,c,M,xs,ks,hD⟩:=h;have gy:w.grownBy (w.alloc (.cells #[.string ⟨k.toArray⟩,.int .i64 (pl:Nat)] 196)) none:=World.grownBy_alloc w _ none;have dZ:=heap_alloc_new w (.cells #[.string ⟨k.toArray⟩,.int .i64 (pl:Nat)] 196);obtain⟨K,oI⟩:=zN (w.heap.size);rw[oI]at dZ;have hD1:=hD.keeps (mG gy);have he1:=xR he gy;obtain⟨w1,hw1⟩:=zN (w.alloc (.cells #[.string ⟨k.toArray⟩,.int .i64 (pl:Nat)] 196));rw[hw1]at dZ hD1 gy he1;obtain⟨-,t1,-,-⟩:=hD1.cells;have k0:=(gQ dZ).1;have gA:w1.grownBy (w1.alloc (.cells #[.int .i64 0,.bool false] 249)) none:=World.grownBy_alloc w1 _ none;have t1A:=gA.cell t1 (by simp);have k0A:=gA.cell k0 (by simp);have l1:=zt hD1 t k h0 (by omega) hk w1.drew (kP w1);have l2:=zt hD1 t k h0 (by omega) hk (w1.alloc (.cells #[.int .i64 0,.bool false] 249)).drew (pJ w1 _)
 have aB:Hd (w.grownBy w1 none):=gy;have jC:Hd (w1.heap[K]?=some (.cells #[.string ⟨k.toArray⟩,.int .i64 (pl:Nat)] 196 (0,0))):=dZ;have HD1:Hd (TrD w1 B T ns now N c M xs ks (ns.length+own.length) (hold ns own)):=hD1;have fF:Hd (∀w' v,FaultV w' v pl (E 5).1 (E 5).2->aF w' v E 5 pl):=fun _ _ h=>h
 have qK:Hd (∀w',w1.grownBy w' none->w'.cell? ⟨3,0,none⟩=some (.iface (E 5).1 (E 5).2)):=fun w' hg=>(xR he1 hg).tw
 obtain⟨ty,hty⟩:=zN ((E 5).1);obtain⟨pv,hpv⟩:=zN ((E 5).2);rw[hty,hpv]at CW fF qK;obtain⟨S,hS⟩:=zN (iL ns t k pl);rw[hS]at mM ⊢;clear hD dZ hD1 gy he1 he hty hpv gA hS W
 cases hq:aG ns t k with
 | none =>
  have aj:Hd (S=.ok (ns.length+1,addN (addN ns t ⟨2,k,[],0,[],pl⟩) ns.length ⟨0,[],[],0,[],pl⟩)):=by show S=_;rw[mM.o,hq]
  have Bh:Hd (∀w',w.grownBy w' none->Calls prog 166 #[.pointer (some ⟨T,0,none⟩),.int .i64 (t:Nat),.int .i64 2,.agg #[.string ⟨k.toArray⟩,.int .i64 (pl:Nat)]] w' (qI B T ns own now t ⟨2,k,[],0,[],pl⟩ w')):=CA.o hq;have jM:Hd ((addN ns t ⟨2,k,[],0,[],pl⟩).length=ns.length+1):=bV _ _ _;have HOW:Hd (∀w',Tr w' B T (addN (addN ns t ⟨2,k,[],0,[],pl⟩) ns.length ⟨0,[],[],0,[],pl⟩) own now->Tr w' B T (addN (addN ns t ⟨2,k,[],0,[],pl⟩) ns.length ⟨0,[],[],0,[],pl⟩) ((ns.length+1) :: own) now):=fun w' hh=>by
   have hu:ns.length<(addN ns t ⟨2,k,[],0,[],pl⟩).length:=by rw[bV];omega
   have hw1:=rW ns own t ⟨2,k,[],0,[],pl⟩ rfl ht zy.o;have hm:=QM (addN ns t ⟨2,k,[],0,[],pl⟩) ns.length ⟨0,[],[],0,[],pl⟩ hu;rw[bV]at hm;refine hh.own (rW _ own ns.length ⟨0,[],[],0,[],pl⟩ rfl hu hw1) (p:=ns.length) ?_ hm;rw[eH _ _ _ hu,if_neg (by rw[bV];omega),eH _ _ _ ht,if_pos rfl];exact fun hh=>absurd (show(2:Int)=0 from hh) (by decide)
  rw[hq]at l1 l2;simp only[]at l1 l2;clear hq;go_enter func161,ntmps161;go_upto_region 1 with fail
  go_cut [8,9] from 10 (fun v8 v9 wx=>∃H:Nat,v8=.pointer (some ⟨H,0,none⟩)/\wx.heap[H]?=some (.cells #[.int .i64 0,.bool false] 249 (0,0))/\v9=.bool false/\w1.grownBy wx none/\w1.heap.size<=H)
  case first =>
   go_region
   all_goals (
    go_wp2_with fail;go_meet;exact⟨_,rfl,heap_alloc_new w1 _,rfl,pJ w1 _,Nat.le_refl _⟩)
  case rest =>
   obtain⟨H,rfl,hH,rfl,hgc,hHw⟩:=hcut;have zA:Hd (w.heap.size<=H):=Nat.le_trans aB.o.size hHw;have iF:Hd (w.grownBy wc none):=af aB.o hgc;obtain⟨kc0,kc1,-⟩:=gQ (jl jC.o hgc);have qL:Hd (wc.heap[H]?=some (.cells #[.int .i64 0,.bool false] 249 (0,0))):=hH;have QN:Hd (wc.heap[K]?=some (.cells #[.string ⟨k.toArray⟩,.int .i64 (pl:Nat)] 196 (0,0))):=jl jC.o hgc;clear hgc hH hHw t1 t1A k0 k0A l1 l2;go_wp2_with (go_at_call 166;refine(Bh.o _ iF.o).mono ?_);rintro e w3 ⟨rfl,ht3,hf3⟩;have hH3:=(hf3.oth _ _ _ _ qL.o (by decide) (by decide) (by decide)).trans qL.o;have hK3:=(hf3.oth _ _ _ _ QN.o (by decide) (by decide) (by decide)).trans QN.o;obtain⟨hh0,hh1,sK⟩:=gQ hH3;have QL:=sK 0;obtain⟨kk0,kk1,-⟩:=gQ hK3;have hkne:¬K=H:=aY hK3 hH3 (by decide);have HT4:Hd (Tr (w3.setCell ⟨H,0,none⟩ (.int .i64 (ns.length:Nat))) B T (addN ns t ⟨2,k,[],0,[],pl⟩) own now):=aao ht3 hH3 0 _
   have HF3:Hd (Fr B wc w3):=hf3;clear hH3 hK3 ht3 hf3 sK kc0 kc1;go_wp2_with (go_at_call 166;refine(CB.o _ HT4.o).mono ?_;rintro e w4 ⟨rfl,pK,hf4⟩);refine bodyPost_ret (results_tmp2 (t:=6) (u:=7) rfl _ _ _) rfl ?_;rw[aj.o];refine⟨fun t' ns' hh=>(by cases hh;exact⟨by rw[jM.o];rfl,HOW.o _ pK⟩),fun c p hh=>(by cases hh),(FW ((Fr.gb iF.o hB).two HF3.o) hB zA.o 0 _).two hf4⟩
 | some q =>
  have gI:=ut.o q hq;obtain⟨x,hx⟩:=zN (ns[q]);have hkx:ag ns q=x.kd:=by unfold ag;rw[List.getElem?_eq_getElem gI,hx]
  have eP:Hd (S=if x.kd=2 then .ok (ns.length,addN ns q ⟨0,[],[],0,[],pl⟩) else .error (5,pl)):=by
   show S=_;rw[mM.o,hq];simp only[hkx]
  have Bi:Hd (ns[q]=x):=hx;have zB:Hd (ag ns q=x.kd):=hkx;rw[hq]at l1 l2;simp only[]at l1 l2;generalize decide (q∈own)=bb at l1 l2;clear hq hx hkx;go_enter func161,ntmps161;go_upto_region 1 with fail
  go_cut [8,9] from 10 (fun v8 v9 wx=>∃H:Nat,v8=.pointer (some ⟨H,0,none⟩)/\wx.heap[H]?=some (.cells #[.int .i64 (q:Nat),.bool bb] 249 (0,0))/\v9=.bool true/\w1.grownBy wx none)
  case first =>
   go_region
   all_goals (
    go_wp2_with fail;go_meet;exact⟨_,rfl,heap_alloc_new w1 _,rfl,pJ w1 _⟩)
  case rest =>
   obtain⟨H,rfl,hH,rfl,hgc⟩:=hcut;have iF:Hd (w.grownBy wc none):=af aB.o hgc;obtain⟨kc0,kc1,-⟩:=gQ (jl jC.o hgc);have hDc:=HD1.o.keeps (mG hgc);obtain⟨hh0,hh1,sK⟩:=gQ hH;obtain⟨T0,-,-,-⟩:=hDc.cells;obtain⟨n0,-,-,-,-,-,-⟩:=hDc.node q gI;rw[Bi.o]at n0;have twc:=qK.o _ hgc;obtain⟨z,hz⟩:=zN (x.kd);rw[hz]at n0 eP zB;clear hgc hH hDc sK hz t1 t1A k0 k0A l1 l2
   by_cases hok:z=2
   ·have aj:Hd (S=.ok (ns.length,addN ns q ⟨0,[],[],0,[],pl⟩)):=by show S=_;rw[eP.o,if_pos hok]
    have hzb:(z != 2)=false:=by simp[hok]
    have eY:Hd (ag ns q=2):=zB.o.trans hok;have JD:Hd (∀w',w.grownBy w' none->Calls prog 166 #[.pointer (some ⟨T,0,none⟩),.int .i64 (q:Nat),.int .i64 0,.agg #[.string ⟨#[]⟩,.int .i64 (pl:Nat)]] w' (qI B T ns own now q ⟨0,[],[],0,[],pl⟩ w')):=CQ.o q gI eY.o;have HOW:Hd (∀w',Tr w' B T (addN ns q ⟨0,[],[],0,[],pl⟩) own now->Tr w' B T (addN ns q ⟨0,[],[],0,[],pl⟩) (ns.length :: own) now):=fun w' hh=>by
     refine hh.own (rW ns own q ⟨0,[],[],0,[],pl⟩ rfl gI zy.o) (p:=q) ?_ (QM ns q _ gI);rw[eH _ _ _ gI,if_neg (by omega),eY.o];exact fun hh=>absurd hh (by decide)
    clear hok;go_upto_region 4 with fail
    go_quiet (fail);go_wp2_with (go_at_call 166;refine(JD.o _ (au iF.o _)).mono ?_;rintro e w4 ⟨rfl,pK,hf4⟩);refine bodyPost_ret (results_tmp2 (t:=6) (u:=7) rfl _ _ _) rfl ?_;rw[aj.o];exact⟨fun t' ns' hh=>(by cases hh;exact⟨rfl,HOW.o _ pK⟩),fun c p hh=>(by cases hh),(Fr.gb (au iF.o _) hB).two hf4⟩
   ·have aj:Hd (S=.error (5,pl)):=by show S=_;rw[eP.o,if_neg hok]
    have hzb:(z != 2)=true:=by simp[hok]
    clear hok;go_upto_region 4 with fail
    go_quiet (fail);go_wp2_with (go_at_call 165;refine(CW.o _).mono ?_;rintro e w5 ⟨⟨v,rfl,hv⟩,hg5⟩);refine bodyPost_ret (results_tmp2 (t:=6) (u:=7) rfl _ _ _) rfl ?_;rw[aj.o];exact⟨fun t' ns' hh=>(by cases hh),fun c p hh=>(by cases hh;exact⟨v,rfl,fF.o _ _ hv,ns,mO.o.gb (af (au iF.o _) hg5)⟩),Fr.gb (af (au iF.o _) hg5) hB⟩
structure Jt(ns:List Tn)(own:List Nat)(t:Nat):Prop where
 wf:WF ns own
 wt:WT ns
 lt:t<ns.length
 kd:ag ns t=0
theorem qM{ns:List Tn}{t:Nat}{z:Int}(h:ag ns t=z)(hz:0<=z):t<ns.length:=by
 apply Classical.byContradiction;intro hn;unfold ag at h;rw[List.getElem?_eq_none (by omega)]at h;simp only[]at h;omega
theorem JE(ns:List Tn)(own:List Nat)(W:WF ns own)(up:Nat)(n:Tn)(hu:up<ns.length)(h:WT ns)(h1:¬n.kd=2)(h2:¬ag ns up=2\/n.kd=0):WT (addN ns up n):=by
 intro q hq;rw[eH ns up n hu]at hq
 by_cases hn:q=ns.length
 ·rw[if_pos hn]at hq;exact absurd hq h1
 ·rw[if_neg hn]at hq;obtain⟨a,b⟩:=h q hq;rw[jX ns up n hu,if_neg hn]
  by_cases hqu:q=up
  ·subst hqu;rw[if_pos rfl];refine⟨by simp,fun x hx=>?_⟩;rw[eH ns q n hu]
   rcases List.mem_append.1 hx with hx|hx
   ·have:=W.lt _ _ hx;rw[if_neg (by omega)];exact b x hx
   ·rw[if_pos (by simpa using hx)]
    rcases h2 with h2|h2
    ·exact absurd hq h2
    ·exact h2
  ·rw[if_neg hqu];refine⟨a,fun x hx=>?_⟩;have:=W.lt _ _ hx;rw[eH ns up n hu,if_neg (by omega)];exact b x hx
theorem QO{ns:List Tn}{own:List Nat}{t:Nat}(J:Jt ns own t)(n:Tn)(hn:n.ks=[])(h0:n.kd=0):Jt (addN ns t n) own ns.length:=by
 refine⟨rW ns own t n hn J.lt J.wf,JE ns own J.wf t n J.lt J.wt (by rw[h0];decide) (Or.inr h0),by rw[bV];omega,?_⟩;rw[eH ns t n J.lt,if_pos rfl];exact h0
theorem F6{ns ns':List Tn}{own:List Nat}{t t' p:Nat}{k:List UInt8}(J:Jt ns own t)(h:iK ns t k p=.ok (t',ns')):Jt ns' own t'/\ns.length<=ns'.length/\ns'.length<=ns.length+1:=by
 unfold iK at h
 cases hq:aG ns t k with
 | none =>
  rw[hq]at h
  cases h
  exact⟨QO J _ rfl rfl,by rw[bV];omega,by rw[bV];omega⟩
 | some q =>
  rw[hq]at h;simp only[]at h
  by_cases h0:ag ns q=0
  ·rw[if_pos h0]at h
   cases h
   exact⟨⟨J.wf,J.wt,qM h0 (by omega),h0⟩,by omega,by omega⟩
  ·rw[if_neg h0]at h
   by_cases h2:ag ns q=2
   ·have hl:=qM h2 (by omega);rw[if_pos h2,List.getElem?_eq_getElem hl]at h;simp only[]at h;obtain⟨a,b⟩:=J.wt q h2;have hks:ax ns q=ns[q].ks:=by unfold ax;rw[List.getElem?_eq_getElem hl]
    rw[hks]at a b;have hm:ns[q].ks.getLastD 0∈ns[q].ks:=by
     rw[List.getLastD_eq_getLast?,List.getLast?_eq_some_getLast a];exact List.getLast_mem a
    have hkd:=b _ hm
    cases h
    exact⟨⟨J.wf,J.wt,qM hkd (by omega),hkd⟩,by omega,by omega⟩
   ·rw[if_neg h2]at h;cases h
theorem aaq{ns ns':List Tn}{own:List Nat}{t t' p:Nat}{k:List UInt8}(J:Jt ns own t)(h:jA ns own t k p=.ok (t',ns')):Jt ns' (t' :: own) t'/\ns.length<=ns'.length/\ns'.length<=ns.length+2:=by
 unfold jA at h;have fin:∀{n:List Tn} {q:Nat},Jt n own q->Jt n (q :: own) q:=fun j=>⟨PS _ _ j.wf _ j.lt,j.wt,j.lt,j.kd⟩
 cases hq:aG ns t k with
 | none =>
  rw[hq]at h
  cases h
  exact⟨fin (QO J _ rfl rfl),by rw[bV];omega,by rw[bV];omega⟩
 | some q =>
  rw[hq]at h;simp only[]at h
  by_cases h0:ag ns q=0/\¬q∈own
  ·rw[if_pos h0]at h
   cases h
   exact⟨fin ⟨J.wf,J.wt,qM h0.1 (by omega),h0.1⟩,by omega,by omega⟩
  ·rw[if_neg h0]at h;cases h
theorem aar{ns ns':List Tn}{own:List Nat}{t t' p:Nat}{k:List UInt8}(J:Jt ns own t)(h:iL ns t k p=.ok (t',ns')):Jt ns' (t' :: own) t'/\ns.length<=ns'.length/\ns'.length<=ns.length+2:=by
 unfold iL at h;have fin:∀{n:List Tn} {q:Nat},Jt n own q->Jt n (q :: own) q:=fun j=>⟨PS _ _ j.wf _ j.lt,j.wt,j.lt,j.kd⟩
 cases hq:aG ns t k with
 | none =>
  rw[hq]at h
  cases h
  have hu:ns.length<(addN ns t ⟨2,k,[],0,[],p⟩).length:=by rw[bV];omega
  have w1:=rW ns own t ⟨2,k,[],0,[],p⟩ rfl J.lt J.wf;have w2:=rW _ own ns.length ⟨0,[],[],0,[],p⟩ rfl hu w1;have hl:(addN ns t ⟨2,k,[],0,[],p⟩).length=ns.length+1:=bV _ _ _;refine⟨fin ⟨w2,?_,by rw[bV,bV];omega,?_⟩,by rw[bV,bV];omega,by rw[bV,bV];omega⟩
  ·intro q h2;rw[eH _ _ _ hu,hl]at h2
   by_cases e1:q=ns.length+1
   ·rw[if_pos e1]at h2;exact absurd (show(0:Int)=2 from h2) (by decide)
   ·rw[if_neg e1,eH _ _ _ J.lt]at h2;rw[jX _ _ _ hu,hl,if_neg e1]
    by_cases e2:q=ns.length
    ·rw[if_pos e2];refine⟨by simp,fun x hx=>?_⟩;rw[jX _ _ _ J.lt,if_pos rfl]at hx;simp only[List.nil_append,List.mem_singleton]at hx;rw[eH _ _ _ hu,hl,if_pos hx]
    ·rw[if_neg e2]at h2;rw[if_neg e2];obtain⟨a,b⟩:=J.wt q h2;have hqt:¬q=t:=fun e=>by rw[e,J.kd]at h2;exact absurd h2 (by decide)
     rw[jX _ _ _ J.lt,if_neg e2,if_neg hqt];refine⟨a,fun x hx=>?_⟩;have:=J.wf.lt _ _ hx;rw[eH _ _ _ hu,hl,if_neg (by omega),eH _ _ _ J.lt,if_neg (by omega)];exact b x hx
  ·rw[eH _ _ _ hu,hl,if_pos rfl]
 | some q =>
  rw[hq]at h;simp only[]at h
  by_cases h2:ag ns q=2
  ·rw[if_pos h2]at h
   cases h
   have hu:=qM h2 (by omega);refine⟨fin ⟨rW ns own q _ rfl hu J.wf,JE ns own J.wf q _ hu J.wt (fun e=>absurd (show(0:Int)=2 from e) (by decide)) (Or.inr rfl),by rw[bV];omega,?_⟩,by rw[bV];omega,by rw[bV];omega⟩;rw[eH _ _ _ hu,if_pos rfl]
  ·rw[if_neg h2]at h;cases h
theorem F7(many:Bool)(own:List Nat)(k:List UInt8)(p t:Nat)(ns:List Tn):way many own [(k,p)] t ns=if many=true then iL ns t k p else jA ns own t k p:=rfl
theorem Bz(many:Bool)(own:List Nat)(k:List UInt8)(p:Nat)(b:List UInt8 × Nat)(r:List (List UInt8 × Nat))(t:Nat)(ns:List Tn):way many own ((k,p) :: b :: r) t ns=match iK ns t k p with | .error e=>.error e | .ok (t1,ns1)=>way many own (b :: r) t1 ns1:=rfl
theorem QP(many:Bool)(own:List Nat):∀(l:List (List UInt8 × Nat)) (t:Nat) (ns ns':List Tn) (t':Nat),l≠[]->Jt ns own t->way many own l t ns=.ok (t',ns')->Jt ns' (t' :: own) t'/\ns.length<=ns'.length/\ns'.length<=ns.length+l.length+1
 | [],_,_,_,_,hl,_,_=>absurd rfl hl
 | [(k,p)],t,ns,ns',t',_,J,h=>by
  rw[F7]at h;split at h
  ·obtain⟨a,b,c⟩:=aar J h;exact⟨a,b,by simp;omega⟩
  ·obtain⟨a,b,c⟩:=aaq J h;exact⟨a,b,by simp;omega⟩
 | (k,p) :: b :: r,t,ns,ns',t',_,J,h=>by
  rw[Bz]at h
  cases hs:iK ns t k p with
  | error e=>rw[hs]at h;cases h
  | ok q =>
   obtain⟨t1,ns1⟩:=q;rw[hs]at h;obtain⟨a,b',c⟩:=F6 J hs;obtain⟨a2,b2,c2⟩:=QP many own (b :: r) t1 ns1 ns' t' (by simp) a h;refine⟨a2,by omega,?_⟩;simp only[List.length_cons]at c2 ⊢;omega
open Go.RowKit Go.Maps Go.WideMaps Go.Joins
structure Lo(B:Nat):Prop where
 te:5<B
 ra:1<B
 ma:2<B
 tw:3<B
theorem xX{w w':World}{B:Nat}(hb:Below B w w')(a:Addr)(h:a.block<B):w'.cell? a=w.cell? a:=World.cell?_of_block (hb.block a.block h)
theorem Es.bel{w w':World}{E:Int->TypeId × Value}{B:Nat}(h:Es w E)(hL:Lo B)(hb:Below B w w'):Es w' E :=
 ⟨(xX hb _ hL.te).trans h.te,(xX hb _ hL.ra).trans h.ra,(xX hb _ hL.ma).trans h.ma,(xX hb _ hL.tw).trans h.tw⟩
def KyR(w:World)(g:Nat)(l:List (List UInt8 × Nat)):Prop:=∃cur:Array Value,w.heap[g]?=some (.cells cur 196 (0,0))/\∀i (hi:i<l.length),cur[i*2]?=some (.string ⟨l[i].1.toArray⟩)/\cur[i*2+1]?=some (.int .i64 (l[i].2:Nat))
theorem KyR.fr{w w':World}{B g:Nat}{l:List (List UInt8 × Nat)}(h:KyR w g l)(hf:Fr B w w'):KyR w' g l:=by
 obtain⟨cur,h1,h2⟩:=h;exact⟨cur,(hf.oth _ _ _ _ h1 (by decide) (by decide) (by decide)).trans h1,h2⟩
theorem KyR.at{w:World}{g:Nat}{l:List (List UInt8 × Nat)}(h:KyR w g l)(i:Nat)(hi:i<l.length):w.cell? ⟨g,i*2,none⟩=some (.string ⟨l[i].1.toArray⟩)/\w.cell? ⟨g,i*2+1,none⟩=some (.int .i64 (l[i].2:Nat)):=by
 obtain⟨cur,h1,h2⟩:=h;obtain⟨a,b⟩:=h2 i hi;exact⟨by rw[ae h1];exact a,by rw[ae h1];exact b⟩
theorem QQ{w:World}{v:Value}{E:Int->TypeId × Value}{c:Int}{p T o:Nat}{cs:Array Value}{x:Value}(h:aF w v E c p)(hT:w.heap[T]?=some (.cells cs 103 (0,0))):aF (w.setCell ⟨T,o,none⟩ x) v E c p:=by
 obtain⟨F,h1,h2⟩:=h;exact⟨F,h1,(heap_setCell_other _ _ _ _ (aY h2 hT (by decide))).trans h2⟩
def QR(B T:Nat)(own:List Nat)(E:Int->TypeId × Value)(r:Rs (Nat × List Tn))(w:World)(e:Ending)(w':World):Prop :=
 (∀t ns,r=.ok (t,ns)->e=.returned .nilIface/\Tr w' B T ns (t :: own) t)/\(∀c p,r=.error (c,p)->∃v,e=.returned v/\aF w' v E c p)/\Fr B w w'
theorem Tr.blk{w:World}{B T:Nat}{ns:List Tn}{own:List Nat}{now:Nat}(h:Tr w B T ns own now):(∃cs,w.heap[T]?=some (.cells cs 103 (0,0)))/\B<=T:=by
 obtain⟨N,c,M,xs,ks,hD⟩:=h;exact⟨⟨_,hD.blk⟩,hD.bT⟩
theorem Tr.hand{w:World}{B T:Nat}{ns:List Tn}{own:List Nat}{now:Nat}(h:Tr w B T ns own now)(m:Nat):Tr (w.setCell ⟨T,2,none⟩ (.int .i64 (m:Nat))) B T ns own m:=by
 obtain⟨N,c,M,xs,ks,hD⟩:=h;exact⟨N,c,M,xs,ks,hD.hand m⟩
theorem Fr.hand{w w1:World}{B T:Nat}{cs:Array Value}(h:Fr B w w1)(hT:w1.heap[T]?=some (.cells cs 103 (0,0)))(hB:B<=T)(v:Value):Fr B w (w1.setCell ⟨T,2,none⟩ v):=h.two (Fr.row (jL w1 T 2 v) (Nat.le_of_lt (Nat.lt_of_le_of_lt hB (aA hT))) hB hT (Or.inl rfl))
theorem Tr.two{w:World}{B T:Nat}{ns:List Tn}{own:List Nat}{now:Nat}(h:Tr w B T ns own now):w.cell? ⟨T,2,none⟩=some (.int .i64 (now:Nat))/\w.frozen? ⟨T,2,none⟩=false:=by
 obtain⟨N,c,M,xs,ks,hD⟩:=h;obtain⟨-,-,h2,h3⟩:=hD.cells;exact⟨h2,h3 2⟩
theorem aas(B T:Nat)(ns:List Tn)(own:List Nat)(now:Nat)(E:Int->TypeId × Value)(l:List (List UInt8 × Nat))(many:Bool)(g c d:Nat)(w:World)(h:Tr w B T ns own now)(J:Jt ns own 0)(hl:l.length=d+1)(hc:d+1<=c)(hK:KyR w g l)(hsz:ns.length+own.length+d<=800000)(hk:∀x∈l,x.1.length<=1048576)(he:Es w E)(hL:Lo B) :
  Calls prog 118 #[.pointer (some ⟨T,0,none⟩),.slice (some ⟨g,0,none⟩) (d+1) c,.bool many] w (QR B T own E (way many own l 0 ns) w):=by
 have CP:Hd (∀(m:List Tn) (t i:Nat) (hi:i<l.length) w',Tr w' B T m own now->Jt m own t->m.length<=ns.length+d->Fr B w w'->Calls prog 160 #[.pointer (some ⟨T,0,none⟩),.int .i64 (t:Nat),.agg #[.string ⟨l[i].1.toArray⟩,.int .i64 (l[i].2:Nat)]] w' (Jy B T own now E (iK m t l[i].1 l[i].2) w')):=fun m t i hi w' h1 j hm hf=>aal B T m own now t E l[i].1 l[i].2 w' h1 j.wf j.wt j.lt j.kd (by omega) (hk _ (List.getElem_mem hi)) (he.bel hL hf.bel)
 have CT:Hd (∀(m:List Tn) (t i:Nat) (hi:i<l.length) w',Tr w' B T m own now->Jt m own t->m.length<=ns.length+d->Fr B w w'->Calls prog 162 #[.pointer (some ⟨T,0,none⟩),.int .i64 (t:Nat),.agg #[.string ⟨l[i].1.toArray⟩,.int .i64 (l[i].2:Nat)]] w' (zx B T own now E (jA m own t l[i].1 l[i].2) w')):=fun m t i hi w' h1 j hm hf=>aam B T m own now t E l[i].1 l[i].2 w' h1 j.wf j.lt j.kd (by omega) (hk _ (List.getElem_mem hi)) (he.bel hL hf.bel)
 have CL:Hd (∀(m:List Tn) (t i:Nat) (hi:i<l.length) w',Tr w' B T m own now->Jt m own t->m.length<=ns.length+d->Fr B w w'->Calls prog 161 #[.pointer (some ⟨T,0,none⟩),.int .i64 (t:Nat),.agg #[.string ⟨l[i].1.toArray⟩,.int .i64 (l[i].2:Nat)]] w' (zx B T own now E (iL m t l[i].1 l[i].2) w')):=fun m t i hi w' h1 j hm hf=>aap B T m own now t E l[i].1 l[i].2 w' h1 j.wf j.lt j.kd (by omega) (hk _ (List.getElem_mem hi)) (he.bel hL hf.bel)
 have hwd:wrap64 (d:Int)=(d:Int):=JA d (by omega);have hwd2:(wrap64 (d:Int)).toNat=d:=by rw[hwd];exact Int.toNat_natCast d
 have mO:Hd (Tr w B T ns own now):=h;have HB:Hd (B<=w.heap.size):=h.base;have HJ:Hd (Jt ns own 0):=J;have HK:Hd (KyR w g l):=hK;have HL:Hd (l.length=d+1):=hl;have HW1:Hd (∀i (hi:i<l.length) t m,i+1<l.length->way many own (l.drop i) t m=match iK m t l[i].1 l[i].2 with | .error e=>.error e | .ok (t1,ns1)=>way many own (l.drop (i+1)) t1 ns1):=fun i hi t m h2=>by
  rw[List.drop_eq_getElem_cons hi,List.drop_eq_getElem_cons h2];exact Bz many own l[i].1 l[i].2 l[i+1] _ t m
 have HW0:Hd (∀i (hi:i<l.length) t m,i+1=l.length->way many own (l.drop i) t m=if many=true then iL m t l[i].1 l[i].2 else jA m own t l[i].1 l[i].2):=fun i hi t m h2=>by
  rw[List.drop_eq_getElem_cons hi,List.drop_eq_nil_of_le (by omega)];exact F7 many own l[i].1 l[i].2 t m
 obtain⟨S,hS⟩:=zN (way many own l 0 ns);have HS:Hd (way many own l 0 ns=S):=hS;rw[hS];clear h J hK he hk hS hl;go_enter func118,ntmps118;go_wp2;go_loopw [8,21] (fun v8 v21 wr=>∃(i t:Nat) (m:List Tn),v21=.int .i64 (i:Nat)/\v8=.int .i64 (t:Nat)/\i<=d/\Jt m own t/\Tr wr B T m own now/\way many own (l.drop i) t m=S/\m.length<=ns.length+i/\Fr B w wr) (fun _ v21 _=>d-(intOf v21).toNat)
 case atStart=>exact⟨0,0,ns,rfl,rfl,Nat.zero_le _,HJ.o,mO.o,HS.o,Nat.le_refl _,Fr.gb (ai w none) HB.o⟩
 case round =>
  obtain⟨i,t,m,rfl,rfl,hi,hj,htr,zC,hml,hfr⟩:=hrel;have HJm:Hd (Jt m own t):=hj;have QS:Hd (Tr wr B T m own now):=htr;have F8:Hd (Fr B w wr):=hfr;have hil:i<l.length:=by have:=HL.o;omega
  obtain⟨a1,a2⟩:=(HK.o.fr hfr).at i hil
  by_cases hlt:i<d
  ·rw[HW1.o i hil t m (by have:=HL.o;omega)]at zC;have vH:Hd ((match iK m t l[i].1 l[i].2 with | .error e=>.error e | .ok (t1,ns1)=>way many own (l.drop (i+1)) t1 ns1)=S):=zC;have JF:Hd (∀w',Tr w' B T m own now->Fr B w w'->Calls prog 160 #[.pointer (some ⟨T,0,none⟩),.int .i64 (t:Nat),.agg #[.string ⟨l[i].1.toArray⟩,.int .i64 (l[i].2:Nat)]] w' (Jy B T own now E (iK m t l[i].1 l[i].2) w')):=fun w' h1 h2=>CP.o m t i hil w' h1 hj (by omega) h2
   have HST:Hd (∀t1 m1,iK m t l[i].1 l[i].2=.ok (t1,m1)->Jt m1 own t1/\m.length<=m1.length/\m1.length<=m.length+1):=fun t1 m1 hs=>F6 hj hs
   obtain⟨x,hx⟩:=zN (l[i]);rw[hx]at a1 a2 JF vH HST;obtain⟨R,hR⟩:=zN (iK m t x.1 x.2);rw[hR]at JF vH HST;have hgA:wr.grownBy (wr.alloc (.cells #[.string ⟨x.1.toArray⟩,.int .i64 (x.2:Nat)] 196)) none:=World.grownBy_alloc wr _ none;have HTA:Hd (Tr (wr.alloc (.cells #[.string ⟨x.1.toArray⟩,.int .i64 (x.2:Nat)] 196)) B T m own now):=htr.gb hgA;have lm:Hd (Fr B w (wr.alloc (.cells #[.string ⟨x.1.toArray⟩,.int .i64 (x.2:Nat)] 196))):=hfr.two (Fr.gb hgA htr.base);clear hj htr zC hfr hx hR hgA;go_wp2_with (go_at_call 160;refine(JF.o _ HTA.o lm.o).mono ?_);rintro e w2 ⟨p1,p2,p3⟩;have HF2:Hd (Fr B w w2):=lm.o.two p3
   cases R with
   | error ec =>
    obtain⟨ec1,ec2⟩:=ec;obtain⟨v,rfl,F,rfl,hF⟩:=p2 ec1 ec2 rfl;have aZ:Hd (aF w2 (.iface 104 (.pointer (some ⟨F,0,none⟩))) E ec1 ec2):=⟨F,rfl,hF⟩;have aj:Hd (S=.error (ec1,ec2)):=vH.o.symm;clear p1 p2 p3 hF;go_wp2;refine bodyPost_ret (results_tmp (t:=6) rfl _ _ _) rfl ?_;rw[aj.o];exact⟨fun t ns hh=>(by cases hh),fun c p hh=>(by cases hh;exact⟨_,rfl,aZ.o⟩),HF2.o⟩
   | ok tm =>
    obtain⟨t1,m1⟩:=tm;obtain⟨rfl,ht1⟩:=p1 t1 m1 rfl;have HT1:Hd (Tr w2 B T m1 own now):=ht1;obtain⟨j1,-,j3⟩:=HST.o t1 m1 rfl;have vI:Hd (Jt m1 own t1):=j1;have aj:Hd (way many own (l.drop (i+1)) t1 m1=S):=vH.o;clear p1 p2 p3 ht1 j1;go_wp2;go_roundw
    case rel=>exact⟨i+1,t1,m1,by go_num,rfl,by omega,vI.o,HT1.o,aj.o,by omega,HF2.o⟩
    case measure=>simp[intOf];omega
  ·have hid:i=d:=by omega
   subst hid;rw[HW0.o i hil t m (by have:=HL.o;omega)]at zC;have vH:Hd ((if many=true then iL m t l[i].1 l[i].2 else jA m own t l[i].1 l[i].2)=S):=zC;have xY:Hd (∀w',Tr w' B T m own now->Fr B w w'->Calls prog 162 #[.pointer (some ⟨T,0,none⟩),.int .i64 (t:Nat),.agg #[.string ⟨l[i].1.toArray⟩,.int .i64 (l[i].2:Nat)]] w' (zx B T own now E (jA m own t l[i].1 l[i].2) w')):=fun w' h1 h2=>CT.o m t i hil w' h1 hj (by omega) h2
   have qN:Hd (∀w',Tr w' B T m own now->Fr B w w'->Calls prog 161 #[.pointer (some ⟨T,0,none⟩),.int .i64 (t:Nat),.agg #[.string ⟨l[i].1.toArray⟩,.int .i64 (l[i].2:Nat)]] w' (zx B T own now E (iL m t l[i].1 l[i].2) w')):=fun w' h1 h2=>CL.o m t i hil w' h1 hj (by omega) h2
   obtain⟨x,hx⟩:=zN (l[i]);rw[hx]at a1 a2 xY qN vH;obtain⟨⟨csT,oL⟩,hBT⟩:=htr.blk;clear hj htr zC hfr hx oL
   cases many with
   | true =>
    have xZ:Hd (iL m t x.1 x.2=S):=vH.o;obtain⟨R,hR⟩:=zN (iL m t x.1 x.2);rw[hR]at qN xZ;clear hR;go_wp2_with (go_at_call 161;refine(qN.o _ QS.o F8.o).mono ?_);rintro e w2 ⟨p1,p2,p3⟩;have HF2:Hd (Fr B w w2):=F8.o.two p3
    cases R with
    | error ec =>
     obtain⟨ec1,ec2⟩:=ec;obtain⟨v,rfl,⟨F,rfl,hF⟩,ns0,htr0⟩:=p2 ec1 ec2 rfl;have aZ:Hd (aF w2 (.iface 104 (.pointer (some ⟨F,0,none⟩))) E ec1 ec2):=⟨F,rfl,hF⟩;obtain⟨⟨csT,oL⟩,-⟩:=htr0.blk;have uu:Hd (w2.heap[T]?=some (.cells csT 103 (0,0))):=oL;obtain⟨c2,f2⟩:=htr0.two;have aj:Hd (S=.error (ec1,ec2)):=xZ.o.symm;clear p1 p2 p3 hF oL htr0;go_wp2;refine bodyPost_ret (results_tmp (t:=6) rfl _ _ _) rfl ?_;rw[aj.o];exact⟨fun t ns hh=>(by cases hh),fun c p hh=>(by cases hh;exact⟨_,rfl,QQ aZ.o uu.o⟩),HF2.o.hand uu.o hBT _⟩
    | ok tm =>
     obtain⟨t1,m1⟩:=tm;obtain⟨rfl,ht1⟩:=p1 t1 m1 rfl;have HT1:Hd (Tr w2 B T m1 (t1 :: own) now):=ht1;obtain⟨⟨csT,oL⟩,-⟩:=ht1.blk;have uu:Hd (w2.heap[T]?=some (.cells csT 103 (0,0))):=oL;obtain⟨c2,f2⟩:=ht1.two;have aj:Hd (S=.ok (t1,m1)):=xZ.o.symm;clear p1 p2 p3 ht1 oL;go_wp2;refine bodyPost_ret (results_tmp (t:=6) rfl _ _ _) rfl ?_;rw[aj.o];exact⟨fun t ns hh=>(by cases hh;exact⟨rfl,HT1.o.hand t1⟩),fun c p hh=>(by cases hh),HF2.o.hand uu.o hBT _⟩
   | false =>
    have xZ:Hd (jA m own t x.1 x.2=S):=vH.o;obtain⟨R,hR⟩:=zN (jA m own t x.1 x.2);rw[hR]at xY xZ;clear hR;go_wp2_with (go_at_call 162;refine(xY.o _ QS.o F8.o).mono ?_);rintro e w2 ⟨p1,p2,p3⟩;have HF2:Hd (Fr B w w2):=F8.o.two p3
    cases R with
    | error ec =>
     obtain⟨ec1,ec2⟩:=ec;obtain⟨v,rfl,⟨F,rfl,hF⟩,ns0,htr0⟩:=p2 ec1 ec2 rfl;have aZ:Hd (aF w2 (.iface 104 (.pointer (some ⟨F,0,none⟩))) E ec1 ec2):=⟨F,rfl,hF⟩;obtain⟨⟨csT,oL⟩,-⟩:=htr0.blk;have uu:Hd (w2.heap[T]?=some (.cells csT 103 (0,0))):=oL;obtain⟨c2,f2⟩:=htr0.two;have aj:Hd (S=.error (ec1,ec2)):=xZ.o.symm;clear p1 p2 p3 hF oL htr0;go_wp2;refine bodyPost_ret (results_tmp (t:=6) rfl _ _ _) rfl ?_;rw[aj.o];exact⟨fun t ns hh=>(by cases hh),fun c p hh=>(by cases hh;exact⟨_,rfl,QQ aZ.o uu.o⟩),HF2.o.hand uu.o hBT _⟩
    | ok tm =>
     obtain⟨t1,m1⟩:=tm;obtain⟨rfl,ht1⟩:=p1 t1 m1 rfl;have HT1:Hd (Tr w2 B T m1 (t1 :: own) now):=ht1;obtain⟨⟨csT,oL⟩,-⟩:=ht1.blk;have uu:Hd (w2.heap[T]?=some (.cells csT 103 (0,0))):=oL;obtain⟨c2,f2⟩:=ht1.two;have aj:Hd (S=.ok (t1,m1)):=xZ.o.symm;clear p1 p2 p3 ht1 oL;go_wp2;refine bodyPost_ret (results_tmp (t:=6) rfl _ _ _) rfl ?_;rw[aj.o];exact⟨fun t ns hh=>(by cases hh;exact⟨rfl,HT1.o.hand t1⟩),fun c p hh=>(by cases hh),HF2.o.hand uu.o hBT _⟩
open Go.RowKit Go.Joins
theorem aat(l:List UInt8)(i n j:Nat)(hi:i<l.length)(h:mF l i=.ok (n,j)):(jV n).length+i<=j:=by
 have h0:=h;unfold mF at h;split at h
 ·rename_i hx;have hlt:i+1<l.length:=cZ (by rw[hx];decide);unfold uk at h
  cases hf:four l 4 (i+2) 0 with
  | error e=>rw[hf]at h;cases h
  | ok q =>
   obtain⟨m,k⟩:=q;rw[hf]at h;have h2:(if nH m=true then Except.error (2,i) else Except.ok (m,k):Rs (Nat × Nat))=.ok (n,j):=h;split at h2
   ·cases h2
   ·cases h2
    obtain⟨h3,h4,h5⟩:=Jp l 4 (i+2) 0 n j (by omega) hf;have:=Qr n;omega
 ·cases hc:lM (nx l (i+1)) with
  | none=>rw[hc]at h;cases h
  | some m =>
   rw[hc]at h
   cases h
   obtain⟨h1,h2⟩:=Qp _ _ hc;unfold jV;rw[if_pos h1];simp;omega
theorem F9(l:List UInt8):∀(f i:Nat) (acc t:List UInt8) (j:Nat),i<=l.length->str l f i acc=.ok (t,j)->i<j/\j<=l.length/\t.length+i<=acc.length+j:=by
 intro f
 induction f with
 | zero=>intro i acc t j hi h;cases h
 | succ f ih =>
  intro i acc t j hi h;rw[y9]at h;split at h
  ·rename_i hx;have:=cZ (l:=l) (i:=i) (by rw[hx];decide)
   cases h
   exact⟨by omega,by omega,by omega⟩
  ·split at h
   ·rename_i hx;have hlt:=cZ (l:=l) (i:=i) (by rw[hx];decide);rw[Qh]at h
    cases he:mF l i with
    | error e=>rw[he]at h;cases h
    | ok q =>
     obtain⟨n,k⟩:=q;rw[he]at h;have h2:str l f k (acc++jV n)=.ok (t,j):=h;obtain⟨-,-,e3,e4⟩:=Qq l i n k hlt he;have e5:=aat l i n k hlt he;obtain⟨a,b,c⟩:=ih k _ t j e4 h2;rw[List.length_append]at c;exact⟨by omega,b,by omega⟩
   ·split at h
    ·cases h
    ·split at h
     ·cases h
     ·rename_i hs;have hk:=Qs l i hi;obtain⟨a,b,c⟩:=ih (i+aX l i) _ t j hk h;have hl:(ah l i (aX l i)).length<=aX l i:=by
       unfold ah;simp;omega
      rw[List.length_append]at c;exact⟨by omega,b,by omega⟩
theorem zD(l:List UInt8)(i:Nat)(k:List UInt8)(j:Nat)(hi:i<=l.length)(h:eG l i=.ok (k,j)):i<j/\j<=l.length/\k.length<=l.length:=by
 unfold eG at h;split at h
 ·rename_i hx;have hlt:=cZ (l:=l) (i:=i) (by rw[hx];decide);obtain⟨a,b,c⟩:=F9 l _ (i+1) [] k j (by omega) h;simp at c;exact⟨by omega,b,by omega⟩
 ·split at h
  ·cases h
  ·rename_i hn;have:=rV aV l i hi
   cases h
   refine⟨by omega,by omega,?_⟩;unfold ah;simp;omega
open Go.RowKit
theorem uf{w w':World}(h:w.grownBy w' none):Below w.heap.size w w':=⟨h.os,h.tape,h.output,h.size,fun k hk=>h.block k hk (by simp)⟩
theorem BA{w w':World}{r:Option Nat}(h:w.drew.grownBy w' r):w.grownBy w' r:=⟨h.os,h.tape,h.output,h.size,h.block⟩
theorem aP{w w':World}(h:w.grownBy w' none)(o:Obj):w.grownBy (w'.alloc o) none :=
 ⟨h.os,h.tape,h.output,by have:=h.size;simp;omega,fun k hk hn=>by rw[Lib.alloc_old _ _ _ (Nat.lt_of_lt_of_le hk h.size)];exact h.block k hk hn⟩
theorem JG(w:World)(e:TypeId)(s:ByteArray):w.grownBy (Lib.bytesWorld w e s) none :=
 ⟨rfl,rfl,rfl,by rw[Lib.bytesWorld_size];omega,fun k hk _=>Lib.bytesWorld_at_old w e s k hk⟩
theorem Gf{w w':World}(h:w.grownBy w' none)(r:Option Nat):w.grownBy w' r:=⟨h.os,h.tape,h.output,h.size,fun k hk _=>h.block k hk (by simp)⟩
theorem QU(s:ByteArray)(w:World)(hs:s.size<2 ^ 62) :
  Calls prog 252 #[.string s] w fun e w'=>e=.returned (.bool (oh s.data.toList))/\w.grownBy w' none:=by
 have kc:=fun(w:World)=>Lib.run_convert_string_bytes (P:=prog) w 9 69 5 s underlying9 underlying69 underlying5
 obtain⟨W,hW⟩:=zN (Lib.bytesWorld w 5 s);have HC:Hd (∀j,(hj:j<s.size)->W.cell? ⟨w.heap.size,j,none⟩=some (.int .u8 (s[j].toNat:Int))):=by
  show ∀j,(hj:j<s.size)->W.cell? ⟨w.heap.size,j,none⟩=some (.int .u8 (s[j].toNat:Int));intro j hj;rw[<-hW,Lib.bytesWorld_cell w _ s j hj];have:s.data.toList.getD j 0=s[j]:=by
   rw[List.getD_eq_getElem?_getD,jY s j hj];rfl
  rw[this]
 have HG:Hd (w.grownBy W none):=by show w.grownBy W none;rw[<-hW];exact JG w _ s
 have kw:=kc w;rw[hW]at kw;clear kc hW;go_enter func252,ntmps252;go_wp2
 go_loop [8] (fun i=>∃k:Nat,k<=s.size/\i=.int .i64 k/\∀j,(hj:j<s.size)->j<k->aC s[j]=true) (fun i=>s.size-(intOf i).toNat)
 case atStart=>exact⟨0,Nat.zero_le _,rfl,fun j hj h=>absurd h (by omega)⟩
 case round =>
  obtain⟨k,hk,rfl,hp⟩:=hrel;have HP:Hd (∀j,(hj:j<s.size)->j<k->aC s[j]=true):=hp;clear hp
  by_cases hlt:k<s.size
  ·have ck:=HC.o k hlt
   cases hd:aC s[k] with
   | true =>
    go_wp2_with (go_at_call 237;refine(xJ _ _).mono ?_;rintro e w' ⟨rfl,rfl⟩)
    go_round
    case rel =>
     refine⟨k+1,by omega,by go_num,fun j hj hjk=>?_⟩
     by_cases hjk':j<k
     ·exact HP.o j hj hjk'
     ·have e:j=k:=by omega
      subst e;exact hd
    case measure=>simp[intOf];omega
   | false =>
    have HN:Hd (oh s.data.toList=false):=by
     show oh s.data.toList=false;unfold oh;have:s.data.toList.all aC=false:=by
      rw[List.all_eq_false];exact⟨s[k],List.mem_of_getElem? (jY s k hlt),by simp[hd]⟩
     rw[this,Bool.and_false]
    go_wp2_with (go_at_call 237;refine(xJ _ _).mono ?_;rintro e w' ⟨rfl,rfl⟩);go_ret;exact⟨bn HN.o.symm,HG.o⟩
  ·have hks:k=s.size:=by omega
   have HA:Hd (s.data.toList.all aC=true):=by
    show s.data.toList.all aC=true;rw[List.all_eq_true];intro c hc;obtain⟨j,hj,rfl⟩:=List.getElem_of_mem hc;exact HP.o j (by simpa using hj) (by simp at hj;have:s.size=s.data.size:=rfl;omega)
   clear hks hk;go_wp2;go_ret;refine⟨bn ?_,HG.o⟩;unfold oh;rw[Lib.toList_data,HA.o,Bool.and_true]
theorem aau(s:ByteArray)(k:Nat)(hk:k<=s.size)(w:World) :
  (Instr.slice 9 (.string s) (some (.int .i64 (k:Int))) none none).run prog w=.ok (.string ⟨(s.data.toList.drop k).toArray⟩) w:=by
 have h1:(0:Int)<=(k:Int):=by omega
 have h5:(k:Int)<=(s.size:Int):=by omega
 have e:s.extract k s.size=⟨(s.data.toList.drop k).toArray⟩:=by
  apply ByteArray.ext;rw[ByteArray.data_extract];apply Array.ext';simp;exact List.take_of_length_le (by simp)
 rw[<-e];simp[go_sem,underlying9,h1,h5]
end Go.Proofs.YtmkjelchiacogaaGreatDoor
namespace Go.Proofs
open Go.Shelf
def Tryz.lays316_ren:Go.Shelf.Ren:=⟨fun|316=>204|n=>n,fun|22=>263|24=>169|25=>170|27=>66|28=>88|31=>41|32=>172|33=>118|35=>219|37=>69|40=>312|41=>127|42=>220|43=>218|46=>176|47=>175|48=>132|49=>351|51=>235|52=>234|53=>237|54=>236|55=>258|67=>125|69=>75|70=>68|71=>70|72=>71|73=>112|74=>49|75=>50|76=>72|77=>73|78=>161|79=>283|80=>77|81=>140|83=>74|84=>178|85=>318|86=>319|94=>165|100=>179|101=>56|102=>57|103=>171|104=>78|105=>284|106=>285|108=>328|111=>141|112=>221|114=>270|119=>313|126=>303|127=>126|128=>304|131=>59|135=>243|137=>314|138=>315|139=>316|143=>330|144=>331|145=>332|164=>143|165=>177|166=>279|167=>317|168=>320|169=>321|170=>322|171=>238|172=>239|173=>240|174=>241|175=>324|176=>325|182=>228|183=>229|188=>274|189=>275|190=>276|191=>277|192=>278|209=>326|210=>327|211=>271|212=>272|213=>273|214=>329|218=>264|219=>265|220=>266|222=>268|224=>300|225=>301|228=>297|229=>298|231=>311|232=>309|233=>310|238=>333|239=>334|240=>335|241=>336|242=>337|243=>339|244=>151|245=>340|246=>341|247=>342|248=>343|249=>344|n=>n,fun|1=>7|3=>10|4=>11|15=>12|16=>13|17=>6|18=>8|19=>9|n=>n⟩
theorem Tryz.lays316:Go.Proofs.LaysM.n316 prog Tryz.lays316_ren:={
 mixed:=by kernel_rfl
 f316:=func204.trans (congrArg some (by kernel_rfl))
 t0:=underlying0
 a0:=isAgg0
 z0:=sizeOf0
 v0:=zeroValue0
 t3:=underlying3
 a3:=isAgg3
 z3:=sizeOf3
 v3:=zeroValue3
 t4:=underlying4
 a4:=isAgg4
 z4:=sizeOf4
 v4:=zeroValue4
 t9:=underlying9
 a9:=isAgg9
 z9:=sizeOf9
 v9:=zeroValue9
 t37:=underlying69
 a37:=isAgg69
 z37:=sizeOf69
 v37:=zeroValue69
 t127:=underlying126
 a127:=isAgg126
 z127:=sizeOf126
 v127:=zeroValue126
 t5:=underlying5
 a5:=isAgg5
 z5:=sizeOf5
 v5:=zeroValue5
 i0:=by kernel_rfl
 i3:=by kernel_rfl
 i4:=by kernel_rfl
 i5:=by kernel_rfl
 i9:=by kernel_rfl
 i37:=by kernel_rfl
 i127:=by kernel_rfl }
end Go.Proofs
namespace Go.Proofs.YtmkjelchiacogaaGreatDoor
open Go.RowKit Go.Shelf
theorem aav(s:ByteArray)(w:World)(hlim:s.size<=281474976710656) :
  Calls prog 204 #[.string s] w fun e w'=>e=.returned (.string s)/\Below w.heap.size w w':=Any.stringslite_Clone Tryz.lays316 s w hlim
theorem clone_any(s:ByteArray)(w:World)(hlim:s.size<=281474976710656) :
  Calls prog 164 #[.string s] w fun e w'=>e=.returned (.string s)/\w.grownBy w' none:=by
 have C:Hd (∀w,Calls prog 204 #[.string s] w fun e w'=>e=.returned (.string s)/\Below w.heap.size w w'):=fun w=>aav s w hlim
 clear hlim;go_enter func164,ntmps164;go_wp2_with (go_at_call 204;refine(C.o _).mono ?_;rintro e w1 ⟨rfl,hb⟩);go_ret;exact⟨rfl,⟨hb.os,hb.tape,hb.output,hb.size,fun k hk _=>hb.block k hk⟩⟩
open Go.RowKit Go.Maps Go.WideMaps Go.Joins
structure Gl(w:World)(B:Nat)(E:Int->TypeId × Value):Prop where
 es:Es w E
 lo:Lo B
 tabs:Lib.Utf8Tabs 10 11 w
 t3:10<B
 t4:11<B
theorem Gl.bel{w w':World}{B:Nat}{E:Int->TypeId × Value}(h:Gl w B E)(hb:Below B w w'):Gl w' B E :=
 ⟨h.es.bel h.lo hb,h.lo,⟨fun c hc=>(xX hb _ h.t3).trans (h.tabs.1 c hc),fun i hi=>⟨(xX hb _ h.t4).trans (h.tabs.2 i hi).1,(xX hb _ h.t4).trans (h.tabs.2 i hi).2⟩⟩,h.t3,h.t4⟩
theorem iP{w w':World}{B R:Nat}(hg:w.grownBy w' (some R))(hR:B<=R)(hB:B<=w.heap.size):Below B w w':=⟨hg.os,hg.tape,hg.output,hg.size,fun k hk=>hg.block k (by omega) (by simp;omega)⟩
theorem Gl.gb{w w':World}{B R:Nat}{E:Int->TypeId × Value}(h:Gl w B E)(hg:w.grownBy w' (some R))(hR:B<=R)(hB:B<=w.heap.size):Gl w' B E:=h.bel (iP hg hR hB)
theorem zF{B R:Nat}(h:Lo B)(hR:B<=R):Far R:=⟨by have:=h.te;omega,by have:=h.ra;omega,by have:=h.ma;omega,by have:=h.tw;omega⟩
theorem vJ{w W:World}{r:Option Nat}{b:Nat}(h:w.grownBy W r)(hb:w.heap.size<=b)(o:Nat)(v:Value):w.grownBy (W.setCell ⟨b,o,none⟩ v) r :=
 ⟨h.os,h.tape,h.output,by have:=h.size;simpa [World.setCell] using this,fun k hk hn=>(heap_setCell_other _ _ _ _ (by simp;omega)).trans (h.block k hk hn)⟩
theorem Gg{P:Program}{fn:Func}{p u:Tmp}{ty:TypeId}(h:fn.results=#[.cell p ty,.tmp u])(tmps:Array Value)(w:World)(g:Nat)(t:TypeId)(cs:Array Value)(fr:Nat × Nat)(d:TypeDesc)
  (hp:tmps.getD p undef=.pointer (some ⟨g,0,none⟩)) (hg:w.heap[g]?=some (.cells cs t fr))
  (hu:P.underlying ty=some d) (hd:(match d with | .struct _ | .array _ _=>true|_=>false)=true) (hi:(P.info? ty).map (·.size)=some cs.size) :
  (results fn tmps).run P w=.ok (.tuple #[.agg cs,tmps.getD u undef]) w:=by
 have hp':tmps[p]?.getD undef=.pointer (some ⟨g,0,none⟩):=by simpa using hp
 rw[results_cell_tmp h];simp[hp',asAddr,run_loadVar_row w g t ty cs fr d hg hu hd hi,Result.andThen]
def Gh(R:Nat)(s:ByteArray)(T:Nat)(E:Int->TypeId × Value)(i:Nat)(g:Rs (List UInt8 × Nat))(w:World)(e:Ending)(w':World):Prop :=
 (∀k j,g=.ok (k,j)->e=.returned (.tuple #[.agg #[.string ⟨k.toArray⟩,.int .i64 (i:Nat)],.nilIface])/\Rd w' R s j T)/\(∀c p,g=.error (c,p)->∃(a:ByteArray) (b:Int) (v:Value),e=.returned (.tuple #[.agg #[.string a,.int .i64 b],v])/\aF w' v E c p)/\w.grownBy w' (some R)
theorem Gj{w:World}{v:Value}{E:Int->TypeId × Value}{c:Int}{p Z o:Nat}{cs:Array Value}{x:Value}(h:aF w v E c p)(hZ:w.heap[Z]?=some (.cells cs 196 (0,0))):aF (w.setCell ⟨Z,o,none⟩ x) v E c p:=by
 obtain⟨F,h1,h2⟩:=h;exact⟨F,h1,(heap_setCell_other _ _ _ _ (aY h2 hZ (by decide))).trans h2⟩
theorem Rd.new{w:World}{R:Nat}{s:ByteArray}{i T Z o:Nat}{cs:Array Value}{x:Value}(h:Rd w R s i T)(hZ:w.heap[Z]?=some (.cells cs 196 (0,0))):Rd (w.setCell ⟨Z,o,none⟩ x) R s i T:=(heap_setCell_other _ _ _ _ (aY h hZ (by decide))).trans h
theorem Gm{w:World}{Z:Nat}{a b x y:Value}(h:w.heap[Z]?=some (.cells #[a,b] 196 (0,0))):((w.setCell ⟨Z,0,none⟩ x).setCell ⟨Z,1,none⟩ y).heap[Z]?=some (.cells #[x,y] 196 (0,0)):=block_setCell (i:=1) (block_setCell (i:=0) h x) y
theorem QV(R:Nat)(s:ByteArray)(i T B:Nat)(E:Int->TypeId × Value)(w:World)(h:Rd w R s i T)(hi:i<=s.size)(hs:s.size<=1048576)(G:Gl w B E)(hR:B<=R)(hBw:B<=w.heap.size) :
  Calls prog 121 #[.pointer (some ⟨R,0,none⟩)] w (Gh R s T E i (eG s.data.toList i) w):=by
 have CN:Hd (∀k w,Rd w R s k T->k<=s.size->Calls prog 74 #[.pointer (some ⟨R,0,none⟩)] w fun e w'=>e=.returned (.int .i64 (nx s.data.toList k))/\w.grownBy w' none):=fun k w h1 h2=>mr R s k T w h1 h2 hs
 have CB:Hd (∀c w,Calls prog 76 #[.int .i64 c] w fun e w'=>e=.returned (.bool (aV c))/\w'=w):=Ji;have CH:Hd (∀k w',w.grownBy w' (some R)->Rd w' R s k T->Calls prog 125 #[.pointer (some ⟨R,0,none⟩)] w' fun e w''=>(∃v,e=.returned v/\aF w'' v E 2 k)/\w'.grownBy w'' none):=fun k w' hg hr=>(uU R s k T (E 2).1 (E 2).2 w' hr (G.gb hg hR hBw).es.te).mono fun e w'' h=>h
 have CQ:Hd (i<s.size->∀w',w.grownBy w' (some R)->Rd w' R s i T->Calls prog 163 #[.pointer (some ⟨R,0,none⟩)] w' (FT R s T E (str s.data.toList (s.data.toList.length+1) (i+1) []) w')):=fun hlt w' hg hr=>QD R s i T E w' hr hlt hs (G.gb hg hR hBw).es (zF G.lo hR) (G.gb hg hR hBw).tabs (by have:=G.t3;omega) (by have:=G.t4;omega)
 have CC:Hd (∀(t:ByteArray) w,t.size<=1048576->Calls prog 164 #[.string t] w fun e w'=>e=.returned (.string t)/\w.grownBy w' none):=fun t w ht=>clone_any t w (by omega)
 have hl:s.data.toList.length=s.size:=by simp
 have QW:Hd (nx s.data.toList i=34->i<s.size):=fun hx=>by
  have:=cZ (l:=s.data.toList) (i:=i) (by rw[hx];decide);omega
 have HST:Hd (∀k,k<s.size->aV (nx s.data.toList k)=true->toR aV s.data.toList k=toR aV s.data.toList (k+1)):=fun k hk hb=>AV aV _ k (by omega) hb
 have rY:Hd (∀k,aV (nx s.data.toList k)=false->toR aV s.data.toList k=k):=fun k hb=>xB aV _ k hb
 have dE:Hd (∀k,k<=s.size->aV (nx s.data.toList k)=true->k<s.size):=fun k hk hb=>by
  apply Classical.byContradiction;intro hn;rw[oq _ _ (by omega)]at hb;exact absurd hb (by decide)
 have ji:Hd (eG s.data.toList i=if nx s.data.toList i=34 then str s.data.toList (s.data.toList.length+1) (i+1) [] else if toR aV s.data.toList i=i then .error (2,i) else .ok (ah s.data.toList i (toR aV s.data.toList i-i),toR aV s.data.toList i)):=rfl;have hij:=rV aV s.data.toList i (by omega);rw[hl]at hij;obtain⟨J,hJ⟩:=zN (toR aV s.data.toList i);have HJ:Hd (toR aV s.data.toList i=J):=hJ;rw[hJ]at ji hij;obtain⟨hij1,hij2⟩:=hij;obtain⟨X,hX⟩:∃X:ByteArray,X=⟨(ah s.data.toList i (J-i)).toArray⟩:=⟨_,rfl⟩;have s1:∀wx,(Instr.slice 9 (.string s) (some (.int .i64 (i:Int))) (some (.int .i64 (J:Int))) none).run prog wx=.ok (.string X) wx:=fun wx=>by rw[hX];exact qF s i J hij1 hij2 wx
 have A7:Hd (X=⟨(ah s.data.toList i (J-i)).toArray⟩):=hX;have vF:Hd (X.size<=1048576):=by
  show _<=_;rw[hX];show(ah s.data.toList i (J-i)).toArray.size<=_;unfold ah;simp;omega
 obtain⟨SQ,BB⟩:=zN (str s.data.toList (s.data.toList.length+1) (i+1) []);rw[BB]at CQ ji;obtain⟨G0,hG0⟩:=zN (eG s.data.toList i);rw[hG0]at ji ⊢;have JH:w.grownBy (w.alloc (.cells #[.string ⟨#[]⟩,.int .i64 0] 196)) (some R):=World.grownBy_alloc w _ _;have JI:w.grownBy (w.alloc (.cells #[.string ⟨#[]⟩,.int .i64 0] 196)) none:=World.grownBy_alloc w _ _;have BC:=heap_alloc_new w (.cells #[.string ⟨#[]⟩,.int .i64 0] 196);obtain⟨Z,hZ⟩:=zN (w.heap.size);rw[hZ]at BC;obtain⟨w1,hw1⟩:=zN (w.alloc (.cells #[.string ⟨#[]⟩,.int .i64 0] 196));rw[hw1]at JH JI BC;have aB:Hd (w.grownBy w1 (some R)):=JH;have HZ1:Hd (w1.heap[Z]?=some (.cells #[.string ⟨#[]⟩,.int .i64 0] 196 (0,0))):=BC;have H1:Hd (Rd w1 R s i T):=h.grow JI;have QX:Hd (¬Z=R):=aY BC H1.o (by decide);obtain⟨c0,c1,-,-⟩:=H1.o.cells;have C1:Hd (Calls prog 74 #[.pointer (some ⟨R,0,none⟩)] w1 fun e w'=>e=.returned (.int .i64 (nx s.data.toList i))/\w1.grownBy w' none):=CN.o i w1 H1.o hi
 obtain⟨x,hx⟩:=zN (nx s.data.toList i);rw[hx]at C1 ji QW;have vK:Hd (w.heap.size<=Z):=by show _<=_;omega
 clear h hJ hX BB hG0 JH JI BC hx G;go_enter func121,ntmps121;go_wp2_with (go_at_call 74;refine C1.o.mono ?_);rintro e w2 ⟨rfl,hg2⟩;have HG2:Hd (w.grownBy w2 (some R)):=aI aB.o hg2;have HR2:Hd (Rd w2 R s i T):=H1.o.grow hg2;have HZ2:Hd (w2.heap[Z]?=some (.cells #[.string ⟨#[]⟩,.int .i64 0] 196 (0,0))):=jl HZ1.o hg2;clear hg2 c0 c1
 by_cases hx34:x=34
 ·have hb:(x == 34)=true:=by simp[hx34]
  have hil:=QW.o hx34;have pM:Hd (G0=SQ):=by show _=_;rw[ji.o,if_pos hx34]
  clear hx34;go_wp2_with (go_at_call 163;refine(CQ.o hil _ HG2.o HR2.o).mono ?_);rintro e w3 ⟨p1,p2,p3⟩;have aQ:Hd (w.grownBy w3 (some R)):=kK HG2.o p3;have hZ3:w3.heap[Z]?=some (.cells #[.string ⟨#[]⟩,.int .i64 0] 196 (0,0)):=(p3.block Z (aA HZ2.o) (by simp only[ne_eq,Option.some.injEq];exact QX.o)).trans HZ2.o;have HZ3:Hd (w3.heap[Z]?=some (.cells #[.string ⟨#[]⟩,.int .i64 0] 196 (0,0))):=hZ3;obtain⟨z0,z1,zf⟩:=gQ hZ3;have zf0:=zf 0;have zf1:=zf 1
  cases SQ with
  | error ec =>
   obtain⟨ec1,ec2⟩:=ec;obtain⟨v,rfl,hv,-⟩:=p2 ec1 ec2 rfl;have aZ:Hd (aF w3 v E ec1 ec2):=hv;clear p1 p2 p3 hv hZ3 zf;go_wp2;refine bodyPost_ret (Gg rfl _ _ Z 196 #[.string ⟨#[]⟩,.int .i64 (i:Nat)] (0,0) _ rfl (Gm HZ3.o) underlying196 rfl (by kernel_rfl)) rfl ?_;rw[pM.o];exact⟨fun k j hh=>(by cases hh),fun c p hh=>(by cases hh;exact⟨_,_,v,rfl,Gj (Gj aZ.o HZ3.o) (block_setCell (i:=0) HZ3.o _)⟩),vJ (vJ aQ.o vK.o 0 _) vK.o 1 _⟩
  | ok q =>
   obtain⟨tx,j⟩:=q;obtain⟨rfl,hr3⟩:=p1 tx j rfl;have HR3:Hd (Rd w3 R s j T):=hr3;clear p1 p2 p3 hr3 hZ3 zf;go_wp2;refine bodyPost_ret (Gg rfl _ _ Z 196 #[.string ⟨tx.toArray⟩,.int .i64 (i:Nat)] (0,0) _ rfl (Gm HZ3.o) underlying196 rfl (by kernel_rfl)) rfl ?_;rw[pM.o];exact⟨fun k j hh=>(by cases hh;exact⟨rfl,(HR3.o.new HZ3.o).new (block_setCell (i:=0) HZ3.o _)⟩),fun c p hh=>(by cases hh),vJ (vJ aQ.o vK.o 0 _) vK.o 1 _⟩
 ·have hb:(x == 34)=false:=by simp[hx34]
  have pM:Hd (G0=if J=i then .error (2,i) else .ok (ah s.data.toList i (J-i),J)):=by show _=_;rw[ji.o,if_neg hx34]
  clear hx34;go_wp2;go_loopw [] (fun wr=>∃k:Nat,Rd wr R s k T/\k<=s.size/\toR aV s.data.toList k=J/\w.grownBy wr (some R)/\wr.heap[Z]?=some (.cells #[.string ⟨#[]⟩,.int .i64 0] 196 (0,0))) (fun wr=>s.size-(match wr.cell? ⟨R,1,none⟩ with|some (.int _ k)=>k.toNat|_=>0))
  case atStart=>exact⟨i,HR2.o,hi,HJ.o,HG2.o,HZ2.o⟩
  case round =>
   obtain⟨k,hrd,hk,hbl,hg,QY⟩:=hrel;have bH:Hd (Rd wr R s k T):=hrd;have fP:Hd (toR aV s.data.toList k=J):=hbl;have HG:Hd (w.grownBy wr (some R)):=hg;have QZ:Hd (wr.heap[Z]?=some (.cells #[.string ⟨#[]⟩,.int .i64 0] 196 (0,0))):=QY;have Ck:Hd (Calls prog 74 #[.pointer (some ⟨R,0,none⟩)] wr fun e w'=>e=.returned (.int .i64 (nx s.data.toList k))/\wr.grownBy w' none):=CN.o k wr hrd hk;have jB:Hd ((match wr.cell? ⟨R,1,none⟩ with|some (.int _ k)=>k.toNat|_=>0)=k):=by show _=_;rw[hrd.cells.2.1];simp
   have eP:Hd (aV (nx s.data.toList k)=true->toR aV s.data.toList k=toR aV s.data.toList (k+1)):=fun hb=>HST.o k (dE.o k hk hb) hb
   have HS2:Hd (aV (nx s.data.toList k)=false->toR aV s.data.toList k=k):=rY.o k;have HL2:Hd (aV (nx s.data.toList k)=true->k<s.size):=dE.o k hk;obtain⟨c,hc⟩:=zN (nx s.data.toList k);rw[hc]at Ck eP HS2 HL2;have fC:Hd (∀w,Calls prog 76 #[.int .i64 c] w fun e w'=>e=.returned (.bool (aV c))/\w'=w):=fun w=>CB.o c w
   obtain⟨b,hb⟩:=zN (aV c);rw[hb]at fC eP HS2 HL2;clear hrd hbl hg QY hc hb
   cases b with
   | true =>
    have hkl:k<s.size:=HL2.o (by trivial);have HN:Hd (toR aV s.data.toList (k+1)=J):=(eP.o (by trivial)).symm.trans fP.o;go_wp2_with (first|(go_at_call 74;refine Ck.o.mono ?_;rintro e w3 ⟨rfl,hg3⟩;obtain⟨-,d1,-,df⟩:=(bH.o.grow hg3).cells;have df1:=df 1)|(go_at_call 76;refine(fC.o _).mono ?_;rintro e w' ⟨rfl,rfl⟩));have fQ:Hd (Rd (w'.setCell ⟨R,1,none⟩ (.int .i64 ((k:Int)+1))) R s (k+1) T):=(bH.o.grow hg3).set (k+1);refine⟨⟨k+1,fQ.o,by omega,HN.o,dD (aI HG.o hg3) 1 _,(heap_setCell_other _ _ _ _ (by simp only[];exact QX.o)).trans (jl QZ.o hg3)⟩,?_⟩;rw[jB.o,fQ.o.cells.2.1];simp;omega
   | false =>
    have uj:Hd (k=J):=(HS2.o (by trivial)).symm.trans fP.o;go_wp2_with (go_at_call 74;refine Ck.o.mono ?_);rintro e w3 rfl hg3;have HR3:Hd (Rd w3 R s J T):=by rw[<-uj.o];exact bH.o.grow hg3
    have aQ:Hd (w.grownBy w3 (some R)):=aI HG.o hg3;have HZ3:Hd (w3.heap[Z]?=some (.cells #[.string ⟨#[]⟩,.int .i64 0] 196 (0,0))):=jl QZ.o hg3;obtain⟨d0,d1,-,-⟩:=HR3.o.cells;clear hg3
    by_cases hJi:J=i
    ·have hbj:((J:Int) == (i:Int))=true:=by simp[hJi]
     have oD:Hd (G0=.error (2,J)):=by show _=_;rw[pM.o,if_pos hJi,hJi]
     have xM:Hd (Calls prog 125 #[.pointer (some ⟨R,0,none⟩)] w3 fun e w''=>(∃v,e=.returned v/\aF w'' v E 2 J)/\w3.grownBy w'' none):=CH.o J _ aQ.o HR3.o;clear hJi;go_wp2_with (first|(go_at_call 76;refine(fC.o _).mono ?_;rintro e w' ⟨rfl,rfl⟩)|(go_at_call 125;refine xM.o.mono ?_;rintro e w4 ⟨⟨v,rfl,hv⟩,hg4⟩;obtain⟨z0,z1,zf⟩:=gQ (jl HZ3.o hg4);have zf0:=zf 0;have zf1:=zf 1));have x8:=jl HZ3.o hg4;refine bodyPost_ret (Gg rfl _ _ Z 196 #[.string ⟨#[]⟩,.int .i64 0] (0,0) _ rfl (Gm x8) underlying196 rfl (by kernel_rfl)) rfl ?_;rw[oD.o];exact⟨fun k j hh=>(by cases hh),fun c p hh=>(by cases hh;exact⟨_,_,v,rfl,Gj (Gj hv x8) (block_setCell (i:=0) x8 _)⟩),vJ (vJ (aI aQ.o hg4) vK.o 0 _) vK.o 1 _⟩
    ·have hbj:((J:Int) == (i:Int))=false:=by rw[beq_eq_false_iff_ne];omega
     have oD:Hd (G0=.ok (ah s.data.toList i (J-i),J)):=by show _=_;rw[pM.o,if_neg hJi]
     have CC1:Hd (∀w,Calls prog 164 #[.string X] w fun e w'=>e=.returned (.string X)/\w.grownBy w' none):=fun w=>CC.o X w vF.o
     clear hJi;go_wp2_with (go_at_call 76;refine(fC.o _).mono ?_;rintro e w' ⟨rfl,rfl⟩);go_region_with (first|(go_at_call 164;refine(CC1.o _).mono ?_;rintro e w6 ⟨rfl,bG⟩;have kN:w'.grownBy w6 none:=⟨bG.os,bG.tape,bG.output,bG.size,bG.block⟩;obtain⟨z0,z1,zf⟩:=gQ (jl HZ3.o kN);have zf0:=zf 0;have zf1:=zf 1))
     all_goals (
      have x8:=jl HZ3.o kN;go_wp2;refine bodyPost_ret (Gg rfl _ _ Z 196 #[.string X,.int .i64 (i:Nat)] (0,0) _ rfl (Gm x8) underlying196 rfl (by kernel_rfl)) rfl ?_;rw[oD.o];exact⟨fun k j hh=>(by cases hh;rw[<-A7.o];exact⟨rfl,((HR3.o.grow kN).new x8).new (block_setCell (i:=0) x8 _)⟩),fun c p hh=>(by cases hh),vJ (vJ (aI aQ.o kN) vK.o 0 _) vK.o 1 _⟩)
end Go.Proofs.YtmkjelchiacogaaGreatDoor
