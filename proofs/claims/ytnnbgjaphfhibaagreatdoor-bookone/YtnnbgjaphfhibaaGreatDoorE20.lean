import Derived.Test.YtnnbgjaphfhibaaGreatDoorE14
import Derived.Laws.ResultCell
import Derived.Test.YtnnbgjaphfhibaaGreatDoorE15
import Derived.Test.YtnnbgjaphfhibaaGreatDoorE12
set_option linter.all false
set_option maxRecDepth 100000
set_option maxHeartbeats 0
open Go.Proofs.Tryz
namespace Go.Proofs.YtnnbgjaphfhibaaGreatDoor
open Go.RowKit Go.Maps Go.WideMaps Go.Joins
theorem Tr.own{w:World}{B T:Nat}{ns:List Tn}{own:List Nat}{now:Nat}(h:Tr w B T ns own now)(W:WF ns own){p q:Nat}(h0:¬ak ns p=0)(hq:q∈af ns p):Tr w B T ns (q :: own) now:=by
 obtain⟨N,c,M,xs,ks,e⟩:=h;refine⟨N,c,M,xs,ks,?_⟩;rw[aaK ns own W p q h0 hq];exact⟨e.blk,e.bT,e.row,e.cel,e.kid,e.apart,e.map.mono (by simp),e.bM⟩
theorem adB{w:World}{B T:Nat}{ns:List Tn}{own:List Nat}{now:Nat}(h:Tr w B T ns own now){H:Nat}{cs:Array Value}(hH:w.heap[H]?=some (.cells cs 265 (0,0)))(o:Nat)(v:Value):Tr (w.setCell ⟨H,o,none⟩ v) B T ns own now:=by
 obtain⟨N,c,M,xs,ks,e⟩:=h;exact⟨N,c,M,xs,ks,e.keeps (H6 hH (by decide) (by decide) (by decide) o v)⟩
theorem VJ(ns:List Tn)(up:Nat)(n:Tn)(hu:up<ns.length):ns.length∈af (addN ns up n) up:=by
 rw[jS ns up n hu,if_neg (by omega),if_pos rfl];simp
theorem adC(B T:Nat)(ns:List Tn)(own:List Nat)(now t:Nat)(E:Int->TypeId × Value)(k:List UInt8)(pl:Nat)(w:World)(h:Tr w B T ns own now)(W:WF ns own)(ht:t<ns.length)(h0:ak ns t=0)(hsz:ns.length+own.length<=900000)(hk:k.length<=1048576)(he:Es w E) :
  Calls prog 191 #[.pointer (some ⟨T,0,none⟩),.int .i64 (t:Nat),.agg #[.string ⟨k.toArray⟩,.int .i64 (pl:Nat)]] w (UV B T own now E (fO ns t k pl) w):=by
 have CW:Hd (∀w,Calls prog 195 #[.iface (E 5).1 (E 5).2,.int .i64 (pl:Nat)] w fun e w'=>(∃v,e=.returned v/\FaultV w' v pl (E 5).1 (E 5).2)/\w.grownBy w' none):=fun w=>tC pl _ _ w
 have CA:=ae (fun(hn:ah ns t k=none) w' (hg:w.grownBy w' none)=>Am B T ns own now t 2 k pl w' (h.gb hg) W ht (fun _=>hn) (by omega) hk);have CB:=ae (fun w' (hg:Tr w' B T (addN ns t ⟨2,k,[],0,[],pl⟩) own now)=>Am B T _ own now ns.length 0 [] pl w' hg (ru ns own t _ rfl ht W) (by rw[bY];omega) (fun h2=>by rw[fF ns t _ ht,if_pos rfl]at h2;exact absurd (show(2:Int)=0 from h2) (by decide)) (by rw[bY];omega) (by simp));have CQ:=ae (fun q (hq:q<ns.length) (h2:ak ns q=2) w' (hg:w.grownBy w' none)=>Am B T ns own now q 0 [] pl w' (h.gb hg) W hq (fun h3=>by rw[h2]at h3;exact absurd h3 (by decide)) (by omega) (by simp));have jr:Hd (fO ns t k pl=match ah ns t k with|none=>.ok (ns.length+1,addN (addN ns t ⟨2,k,[],0,[],pl⟩) ns.length ⟨0,[],[],0,[],pl⟩)|some q=>if ak ns q=2 then .ok (ns.length,addN ns q ⟨0,[],[],0,[],pl⟩) else .error (5,pl)):=rfl
 have Aq:=ae (fun q (hq:ah ns t k=some q)=>MW W hq);have uh:=ae W;have nJ:=ae h;have hB:=h.base;obtain⟨N,c,M,xs,ks,hD⟩:=h;have fA:w.grownBy (w.alloc (.cells #[.string ⟨k.toArray⟩,.int .i64 (pl:Nat)] 213)) none:=World.grownBy_alloc w _ none;have bV:=heap_alloc_new w (.cells #[.string ⟨k.toArray⟩,.int .i64 (pl:Nat)] 213);obtain⟨K,jd⟩:=zN (w.heap.size);rw[jd]at bV;have hD1:=hD.keeps (nG fA);have he1:=yR he fA;obtain⟨w1,hw1⟩:=zN (w.alloc (.cells #[.string ⟨k.toArray⟩,.int .i64 (pl:Nat)] 213));rw[hw1]at bV hD1 fA he1;obtain⟨-,t1,-,-⟩:=hD1.cells;have k0:=(iG bV).1;have gA:w1.grownBy (w1.alloc (.cells #[.int .i64 0,.bool false] 265)) none:=World.grownBy_alloc w1 _ none;have t1A:=gA.cell t1 (by simp);have k0A:=gA.cell k0 (by simp);have l1:=Ap hD1 t k h0 (by omega) hk w1.drew (lw w1);have l2:=Ap hD1 t k h0 (by omega) hk (w1.alloc (.cells #[.int .i64 0,.bool false] 265)).drew (qx w1 _)
 have ax:=ae fA;have lg:=ae bV;have HD1:=ae hD1;have dV:Hd (∀w' v,FaultV w' v pl (E 5).1 (E 5).2->dF w' v E 5 pl):=fun _ _ h=>h
 have ug:=ae (fun w' (hg:w1.grownBy w' none)=>(yR he1 hg).tw);obtain⟨ty,hty⟩:=zN ((E 5).1);obtain⟨pv,hpv⟩:=zN ((E 5).2);rw[hty,hpv]at CW dV ug;obtain⟨S,hS⟩:=zN (fO ns t k pl);rw[hS]at jr ⊢;clear hD bV hD1 fA he1 he hty hpv gA hS W
 cases hq:ah ns t k with
 | none =>
  have az:Hd (S=.ok (ns.length+1,addN (addN ns t ⟨2,k,[],0,[],pl⟩) ns.length ⟨0,[],[],0,[],pl⟩)):=by show S=_;rw[jr.o,hq]
  have DF:=ae (CA.o hq);have ui:Hd ((addN ns t ⟨2,k,[],0,[],pl⟩).length=ns.length+1):=bY _ _ _;have HOW:Hd (∀w',Tr w' B T (addN (addN ns t ⟨2,k,[],0,[],pl⟩) ns.length ⟨0,[],[],0,[],pl⟩) own now->Tr w' B T (addN (addN ns t ⟨2,k,[],0,[],pl⟩) ns.length ⟨0,[],[],0,[],pl⟩) ((ns.length+1) :: own) now):=fun w' hh=>by
   have hu:ns.length<(addN ns t ⟨2,k,[],0,[],pl⟩).length:=by rw[bY];omega
   have hw1:=ru ns own t ⟨2,k,[],0,[],pl⟩ rfl ht uh.o;have hm:=VJ (addN ns t ⟨2,k,[],0,[],pl⟩) ns.length ⟨0,[],[],0,[],pl⟩ hu;rw[bY]at hm;refine hh.own (ru _ own ns.length ⟨0,[],[],0,[],pl⟩ rfl hu hw1) (p:=ns.length) ?_ hm;rw[fF _ _ _ hu,if_neg (by rw[bY];omega),fF _ _ _ ht,if_pos rfl];exact fun hh=>absurd (show(2:Int)=0 from hh) (by decide)
  rw[hq]at l1 l2;simp only[]at l1 l2;clear hq;go_enter func191,ntmps191;go_upto_region 1 with fail
  go_cut [8,9] from 10 (fun v8 v9 wx=>∃H:Nat,v8=.pointer (some ⟨H,0,none⟩)/\wx.heap[H]?=some (.cells #[.int .i64 0,.bool false] 265 (0,0))/\v9=.bool false/\w1.grownBy wx none/\w1.heap.size<=H)
  case first =>
   go_region
   all_goals (
    go_wp2_with fail;go_meet;exact⟨_,rfl,heap_alloc_new w1 _,rfl,qx w1 _,Nat.le_refl _⟩)
  case rest =>
   obtain⟨H,rfl,hH,rfl,hgc,hHw⟩:=hcut;have Au:=ae (Nat.le_trans ax.o.size hHw);have bf:=ae (ai ax.o hgc);obtain⟨kc0,kc1,-⟩:=iG (jG lg.o hgc);have rM:=ae hH;have AC:=ae (jG lg.o hgc);clear hgc hH hHw t1 t1A k0 k0A l1 l2;go_wp2_with (go_at_call 196;refine(DF.o _ bf.o).mono ?_);rintro e w3 ⟨rfl,ht3,hf3⟩;have hH3:=(hf3.oth _ _ _ _ rM.o (by decide) (by decide) (by decide)).trans rM.o;have hK3:=(hf3.oth _ _ _ _ AC.o (by decide) (by decide) (by decide)).trans AC.o;obtain⟨hh0,hh1,uj⟩:=iG hH3;have UX:=uj 0;obtain⟨kk0,kk1,-⟩:=iG hK3;have hkne:=aO hK3 hH3 (by decide);have HT4:Hd (Tr (w3.setCell ⟨H,0,none⟩ (.int .i64 (ns.length:Nat))) B T (addN ns t ⟨2,k,[],0,[],pl⟩) own now):=adB ht3 hH3 0 _;have HF3:=ae hf3;clear hH3 hK3 ht3 hf3 uj kc0 kc1;go_wp2_with (go_at_call 196;refine(CB.o _ HT4.o).mono ?_;rintro e w4 ⟨rfl,qE,hf4⟩)
   refine bodyPost_ret (results_tmp2 (t:=6) (u:=7) rfl _ _ _) rfl ?_;rw[az.o];refine⟨fun t' ns' hh=>(by cases hh;exact⟨by rw[ui.o];rfl,HOW.o _ qE⟩),fun c p hh=>(by cases hh),(H7 ((Fr.gb bf.o hB).two HF3.o) hB Au.o 0 _).two hf4⟩
 | some q =>
  have dU:=Aq.o q hq;obtain⟨x,hx⟩:=zN (ns[q]);have hkx:ak ns q=x.kd:=by unfold ak;rw[List.getElem?_eq_getElem dU,hx]
  have fC:Hd (S=if x.kd=2 then .ok (ns.length,addN ns q ⟨0,[],[],0,[],pl⟩) else .error (5,pl)):=by
   show S=_;rw[jr.o,hq];simp only[hkx]
  have DI:=ae hx;have AL:=ae hkx;rw[hq]at l1 l2;simp only[]at l1 l2;generalize decide (q∈own)=bb at l1 l2;clear hq hx hkx;go_enter func191,ntmps191;go_upto_region 1 with fail
  go_cut [8,9] from 10 (fun v8 v9 wx=>∃H:Nat,v8=.pointer (some ⟨H,0,none⟩)/\wx.heap[H]?=some (.cells #[.int .i64 (q:Nat),.bool bb] 265 (0,0))/\v9=.bool true/\w1.grownBy wx none)
  case first =>
   go_region
   all_goals (
    go_wp2_with fail;go_meet;exact⟨_,rfl,heap_alloc_new w1 _,rfl,qx w1 _⟩)
  case rest =>
   obtain⟨H,rfl,hH,rfl,hgc⟩:=hcut;have bf:=ae (ai ax.o hgc);obtain⟨kc0,kc1,-⟩:=iG (jG lg.o hgc);have hDc:=HD1.o.keeps (nG hgc);obtain⟨hh0,hh1,uj⟩:=iG hH;obtain⟨T0,-,-,-⟩:=hDc.cells;obtain⟨n0,-,-,-,-,-,-⟩:=hDc.node q dU;rw[DI.o]at n0;have twc:=ug.o _ hgc;obtain⟨z,hz⟩:=zN (x.kd);rw[hz]at n0 fC AL;clear hgc hH hDc uj hz t1 t1A k0 k0A l1 l2
   by_cases hok:z=2
   ·have az:Hd (S=.ok (ns.length,addN ns q ⟨0,[],[],0,[],pl⟩)):=by show S=_;rw[fC.o,if_pos hok]
    have hzb:(z != 2)=false:=by simp[hok]
    have iV:=ae (AL.o.trans hok);have NG:=ae (CQ.o q dU iV.o);have HOW:Hd (∀w',Tr w' B T (addN ns q ⟨0,[],[],0,[],pl⟩) own now->Tr w' B T (addN ns q ⟨0,[],[],0,[],pl⟩) (ns.length :: own) now):=fun w' hh=>by
     refine hh.own (ru ns own q ⟨0,[],[],0,[],pl⟩ rfl dU uh.o) (p:=q) ?_ (VJ ns q _ dU);rw[fF _ _ _ dU,if_neg (by omega),iV.o];exact fun hh=>absurd hh (by decide)
    clear hok;go_upto_region 4 with fail
    go_quiet (fail);go_wp2_with (go_at_call 196;refine(NG.o _ (ay bf.o _)).mono ?_;rintro e w4 ⟨rfl,qE,hf4⟩);refine bodyPost_ret (results_tmp2 (t:=6) (u:=7) rfl _ _ _) rfl ?_;rw[az.o];exact⟨fun t' ns' hh=>(by cases hh;exact⟨rfl,HOW.o _ qE⟩),fun c p hh=>(by cases hh),(Fr.gb (ay bf.o _) hB).two hf4⟩
   ·have az:Hd (S=.error (5,pl)):=by show S=_;rw[fC.o,if_neg hok]
    have hzb:(z != 2)=true:=by simp[hok]
    clear hok;go_upto_region 4 with fail
    go_quiet (fail);go_wp2_with (go_at_call 195;refine(CW.o _).mono ?_;rintro e w5 ⟨⟨v,rfl,hv⟩,hg5⟩);refine bodyPost_ret (results_tmp2 (t:=6) (u:=7) rfl _ _ _) rfl ?_;rw[az.o];exact⟨fun t' ns' hh=>(by cases hh),fun c p hh=>(by cases hh;exact⟨v,rfl,dV.o _ _ hv,ns,nJ.o.gb (ai (ay bf.o _) hg5)⟩),Fr.gb (ai (ay bf.o _) hg5) hB⟩
open Go.RowKit Go.Maps Go.WideMaps Go.Joins
structure Lo(B:Nat):Prop where
 te:6<B
 ra:1<B
 ma:2<B
 tw:3<B
theorem yZ{w w':World}{B:Nat}(hb:Below B w w')(a:Addr)(h:a.block<B):w'.cell? a=w.cell? a:=World.cell?_of_block (hb.block a.block h)
theorem Es.bel{w w':World}{E:Int->TypeId × Value}{B:Nat}(h:Es w E)(hL:Lo B)(hb:Below B w w'):Es w' E :=
 ⟨(yZ hb _ hL.te).trans h.te,(yZ hb _ hL.ra).trans h.ra,(yZ hb _ hL.ma).trans h.ma,(yZ hb _ hL.tw).trans h.tw⟩
def KyR(w:World)(g:Nat)(l:List (List UInt8 × Nat)):Prop:=∃cur:Array Value,w.heap[g]?=some (.cells cur 213 (0,0))/\∀i (hi:i<l.length),cur[i*2]?=some (.string ⟨l[i].1.toArray⟩)/\cur[i*2+1]?=some (.int .i64 (l[i].2:Nat))
theorem KyR.fr{w w':World}{B g:Nat}{l:List (List UInt8 × Nat)}(h:KyR w g l)(hf:Fr B w w'):KyR w' g l:=by
 obtain⟨cur,h1,h2⟩:=h;exact⟨cur,(hf.oth _ _ _ _ h1 (by decide) (by decide) (by decide)).trans h1,h2⟩
theorem KyR.at{w:World}{g:Nat}{l:List (List UInt8 × Nat)}(h:KyR w g l)(i:Nat)(hi:i<l.length):w.cell? ⟨g,i*2,none⟩=some (.string ⟨l[i].1.toArray⟩)/\w.cell? ⟨g,i*2+1,none⟩=some (.int .i64 (l[i].2:Nat)):=by
 obtain⟨cur,h1,h2⟩:=h;obtain⟨a,b⟩:=h2 i hi;exact⟨by rw[ag h1];exact a,by rw[ag h1];exact b⟩
theorem VK{w:World}{v:Value}{E:Int->TypeId × Value}{c:Int}{p T o:Nat}{cs:Array Value}{x:Value}(h:dF w v E c p)(hT:w.heap[T]?=some (.cells cs 129 (0,0))):dF (w.setCell ⟨T,o,none⟩ x) v E c p:=by
 obtain⟨F,h1,h2⟩:=h;exact⟨F,h1,(heap_setCell_other _ _ _ _ (aO h2 hT (by decide))).trans h2⟩
def VL(B T:Nat)(own:List Nat)(E:Int->TypeId × Value)(r:Rs (Nat × List Tn))(w:World)(e:Ending)(w':World):Prop :=
 (∀t ns,r=.ok (t,ns)->e=.returned .nilIface/\Tr w' B T ns (t :: own) t)/\(∀c p,r=.error (c,p)->∃v,e=.returned v/\dF w' v E c p)/\Fr B w w'
theorem Tr.blk{w:World}{B T:Nat}{ns:List Tn}{own:List Nat}{now:Nat}(h:Tr w B T ns own now):(∃cs,w.heap[T]?=some (.cells cs 129 (0,0)))/\B<=T:=by
 obtain⟨N,c,M,xs,ks,hD⟩:=h;exact⟨⟨_,hD.blk⟩,hD.bT⟩
theorem Tr.hand{w:World}{B T:Nat}{ns:List Tn}{own:List Nat}{now:Nat}(h:Tr w B T ns own now)(m:Nat):Tr (w.setCell ⟨T,2,none⟩ (.int .i64 (m:Nat))) B T ns own m:=by
 obtain⟨N,c,M,xs,ks,hD⟩:=h;exact⟨N,c,M,xs,ks,hD.hand m⟩
theorem Fr.hand{w w1:World}{B T:Nat}{cs:Array Value}(h:Fr B w w1)(hT:w1.heap[T]?=some (.cells cs 129 (0,0)))(hB:B<=T)(v:Value):Fr B w (w1.setCell ⟨T,2,none⟩ v):=h.two (Fr.row (iL w1 T 2 v) (Nat.le_of_lt (Nat.lt_of_le_of_lt hB (aB hT))) hB hT (Or.inl rfl))
theorem Tr.two{w:World}{B T:Nat}{ns:List Tn}{own:List Nat}{now:Nat}(h:Tr w B T ns own now):w.cell? ⟨T,2,none⟩=some (.int .i64 (now:Nat))/\w.frozen? ⟨T,2,none⟩=false:=by
 obtain⟨N,c,M,xs,ks,hD⟩:=h;obtain⟨-,-,h2,h3⟩:=hD.cells;exact⟨h2,h3 2⟩
theorem adD(B T:Nat)(ns:List Tn)(own:List Nat)(now:Nat)(E:Int->TypeId × Value)(l:List (List UInt8 × Nat))(many:Bool)(g c d:Nat)(w:World)(h:Tr w B T ns own now)(J:Jt ns own 0)(hl:l.length=d+1)(hc:d+1<=c)(hK:KyR w g l)(hsz:ns.length+own.length+d<=800000)(hk:∀x∈l,x.1.length<=1048576)(he:Es w E)(hL:Lo B) :
  Calls prog 149 #[.pointer (some ⟨T,0,none⟩),.slice (some ⟨g,0,none⟩) (d+1) c,.bool many] w (VL B T own E (way many own l 0 ns) w):=by
 have CP:=ae (fun(m:List Tn) (t:Nat) (i:Nat) (hi:i<l.length) w' (h1:Tr w' B T m own now) (j:Jt m own t) (hm:m.length<=ns.length+d) (hf:Fr B w w')=>acF B T m own now t E l[i].1 l[i].2 w' h1 j.wf j.wt j.lt j.kd (by omega) (hk _ (List.getElem_mem hi)) (he.bel hL hf.bel));have CT:=ae (fun(m:List Tn) (t:Nat) (i:Nat) (hi:i<l.length) w' (h1:Tr w' B T m own now) (j:Jt m own t) (hm:m.length<=ns.length+d) (hf:Fr B w w')=>acG B T m own now t E l[i].1 l[i].2 w' h1 j.wf j.lt j.kd (by omega) (hk _ (List.getElem_mem hi)) (he.bel hL hf.bel));have CL:=ae (fun(m:List Tn) (t:Nat) (i:Nat) (hi:i<l.length) w' (h1:Tr w' B T m own now) (j:Jt m own t) (hm:m.length<=ns.length+d) (hf:Fr B w w')=>adC B T m own now t E l[i].1 l[i].2 w' h1 j.wf j.lt j.kd (by omega) (hk _ (List.getElem_mem hi)) (he.bel hL hf.bel));have hwd:=UQ d (by omega);have hwd2:(wrap64 (d:Int)).toNat=d:=by rw[hwd];exact Int.toNat_natCast d
 have nJ:=ae h;have HB:=ae h.base;have HJ:=ae J;have HK:=ae hK;have HL:=ae hl;have HW1:Hd (∀i (hi:i<l.length) t m,i+1<l.length->way many own (l.drop i) t m=match gz m t l[i].1 l[i].2 with | .error e=>.error e | .ok (t1,ns1)=>way many own (l.drop (i+1)) t1 ns1):=fun i hi t m h2=>by
  rw[List.drop_eq_getElem_cons hi,List.drop_eq_getElem_cons h2];exact Dj many own l[i].1 l[i].2 l[i+1] _ t m
 have HW0:Hd (∀i (hi:i<l.length) t m,i+1=l.length->way many own (l.drop i) t m=if many=true then fO m t l[i].1 l[i].2 else gV m own t l[i].1 l[i].2):=fun i hi t m h2=>by
  rw[List.drop_eq_getElem_cons hi,List.drop_eq_nil_of_le (by omega)];exact Aa many own l[i].1 l[i].2 t m
 obtain⟨S,hS⟩:=zN (way many own l 0 ns);have HS:=ae hS;rw[hS];clear h J hK he hk hS hl;go_enter func149,ntmps149;go_wp2;go_loopw [8,21] (fun v8 v21 wr=>∃(i t:Nat) (m:List Tn),v21=.int .i64 (i:Nat)/\v8=.int .i64 (t:Nat)/\i<=d/\Jt m own t/\Tr wr B T m own now/\way many own (l.drop i) t m=S/\m.length<=ns.length+i/\Fr B w wr) (fun _ v21 _=>d-(intOf v21).toNat)
 case atStart=>exact⟨0,0,ns,rfl,rfl,Nat.zero_le _,HJ.o,nJ.o,HS.o,Nat.le_refl _,Fr.gb (au w none) HB.o⟩
 case round =>
  obtain⟨i,t,m,rfl,rfl,hi,hj,htr,gG,hml,hfr⟩:=hrel;have HJm:=ae hj;have VM:=ae htr;have uo:=ae hfr;have hil:i<l.length:=by have:=HL.o;omega
  obtain⟨a1,a2⟩:=(HK.o.fr hfr).at i hil
  by_cases hlt:i<d
  ·rw[HW1.o i hil t m (by have:=HL.o;omega)]at gG;have xE:=ae gG;have vH:=ae (fun w' (h1:Tr w' B T m own now) (h2:Fr B w w')=>CP.o m t i hil w' h1 hj (by omega) h2);have HST:=ae (fun t1 m1 (hs:gz m t l[i].1 l[i].2=.ok (t1,m1))=>Di hj hs);obtain⟨x,hx⟩:=zN (l[i]);rw[hx]at a1 a2 vH xE HST;obtain⟨R,hR⟩:=zN (gz m t x.1 x.2);rw[hR]at vH xE HST;have hgA:wr.grownBy (wr.alloc (.cells #[.string ⟨x.1.toArray⟩,.int .i64 (x.2:Nat)] 213)) none:=World.grownBy_alloc wr _ none;have HTA:=ae (htr.gb hgA);have bi:=ae (hfr.two (Fr.gb hgA htr.base));clear hj htr gG hfr hx hR hgA;go_wp2_with (go_at_call 190;refine(vH.o _ HTA.o bi.o).mono ?_);rintro e w2 ⟨p1,p2,p3⟩;have HF2:=ae (bi.o.two p3)
   cases R with
   | error ec =>
    obtain⟨ec1,ec2⟩:=ec;obtain⟨v,rfl,F,rfl,hF⟩:=p2 ec1 ec2 rfl;have dZ:Hd (dF w2 (.iface 130 (.pointer (some ⟨F,0,none⟩))) E ec1 ec2):=⟨F,rfl,hF⟩;have az:Hd (S=.error (ec1,ec2)):=xE.o.symm;clear p1 p2 p3 hF;go_wp2;refine bodyPost_ret (results_tmp (t:=6) rfl _ _ _) rfl ?_;rw[az.o];exact⟨fun t ns hh=>(by cases hh),fun c p hh=>(by cases hh;exact⟨_,rfl,dZ.o⟩),HF2.o⟩
   | ok tm =>
    obtain⟨t1,m1⟩:=tm;obtain⟨rfl,ht1⟩:=p1 t1 m1 rfl;have HT1:=ae ht1;obtain⟨j1,-,j3⟩:=HST.o t1 m1 rfl;have rG:=ae j1;have az:Hd (way many own (l.drop (i+1)) t1 m1=S):=xE.o;clear p1 p2 p3 ht1 j1;go_wp2;go_roundw
    case rel=>exact⟨i+1,t1,m1,by go_num,rfl,by omega,rG.o,HT1.o,az.o,by omega,HF2.o⟩
    case measure=>simp[intOf];omega
  ·have hid:i=d:=by omega
   subst hid;rw[HW0.o i hil t m (by have:=HL.o;omega)]at gG;have xE:=ae gG;have NH:=ae (fun w' (h1:Tr w' B T m own now) (h2:Fr B w w')=>CT.o m t i hil w' h1 hj (by omega) h2);have mO:=ae (fun w' (h1:Tr w' B T m own now) (h2:Fr B w w')=>CL.o m t i hil w' h1 hj (by omega) h2);obtain⟨x,hx⟩:=zN (l[i]);rw[hx]at a1 a2 NH mO xE;obtain⟨⟨csT,pF⟩,hBT⟩:=htr.blk;clear hj htr gG hfr hx pF
   cases many with
   | true =>
    have y7:Hd (fO m t x.1 x.2=S):=xE.o;obtain⟨R,hR⟩:=zN (fO m t x.1 x.2);rw[hR]at mO y7;clear hR;go_wp2_with (go_at_call 191;refine(mO.o _ VM.o uo.o).mono ?_);rintro e w2 ⟨p1,p2,p3⟩;have HF2:=ae (uo.o.two p3)
    cases R with
    | error ec =>
     obtain⟨ec1,ec2⟩:=ec;obtain⟨v,rfl,⟨F,rfl,hF⟩,ns0,htr0⟩:=p2 ec1 ec2 rfl;have dZ:Hd (dF w2 (.iface 130 (.pointer (some ⟨F,0,none⟩))) E ec1 ec2):=⟨F,rfl,hF⟩;obtain⟨⟨csT,pF⟩,-⟩:=htr0.blk;have oD:=ae pF;obtain⟨c2,f2⟩:=htr0.two;have az:=ae y7.o.symm;clear p1 p2 p3 hF pF htr0;go_wp2;refine bodyPost_ret (results_tmp (t:=6) rfl _ _ _) rfl ?_;rw[az.o];exact⟨fun t ns hh=>(by cases hh),fun c p hh=>(by cases hh;exact⟨_,rfl,VK dZ.o oD.o⟩),HF2.o.hand oD.o hBT _⟩
    | ok tm =>
     obtain⟨t1,m1⟩:=tm;obtain⟨rfl,ht1⟩:=p1 t1 m1 rfl;have HT1:=ae ht1;obtain⟨⟨csT,pF⟩,-⟩:=ht1.blk;have oD:=ae pF;obtain⟨c2,f2⟩:=ht1.two;have az:=ae y7.o.symm;clear p1 p2 p3 ht1 pF;go_wp2;refine bodyPost_ret (results_tmp (t:=6) rfl _ _ _) rfl ?_;rw[az.o];exact⟨fun t ns hh=>(by cases hh;exact⟨rfl,HT1.o.hand t1⟩),fun c p hh=>(by cases hh),HF2.o.hand oD.o hBT _⟩
   | false =>
    have y7:Hd (gV m own t x.1 x.2=S):=xE.o;obtain⟨R,hR⟩:=zN (gV m own t x.1 x.2);rw[hR]at NH y7;clear hR;go_wp2_with (go_at_call 192;refine(NH.o _ VM.o uo.o).mono ?_);rintro e w2 ⟨p1,p2,p3⟩;have HF2:=ae (uo.o.two p3)
    cases R with
    | error ec =>
     obtain⟨ec1,ec2⟩:=ec;obtain⟨v,rfl,⟨F,rfl,hF⟩,ns0,htr0⟩:=p2 ec1 ec2 rfl;have dZ:Hd (dF w2 (.iface 130 (.pointer (some ⟨F,0,none⟩))) E ec1 ec2):=⟨F,rfl,hF⟩;obtain⟨⟨csT,pF⟩,-⟩:=htr0.blk;have oD:=ae pF;obtain⟨c2,f2⟩:=htr0.two;have az:=ae y7.o.symm;clear p1 p2 p3 hF pF htr0;go_wp2;refine bodyPost_ret (results_tmp (t:=6) rfl _ _ _) rfl ?_;rw[az.o];exact⟨fun t ns hh=>(by cases hh),fun c p hh=>(by cases hh;exact⟨_,rfl,VK dZ.o oD.o⟩),HF2.o.hand oD.o hBT _⟩
    | ok tm =>
     obtain⟨t1,m1⟩:=tm;obtain⟨rfl,ht1⟩:=p1 t1 m1 rfl;have HT1:=ae ht1;obtain⟨⟨csT,pF⟩,-⟩:=ht1.blk;have oD:=ae pF;obtain⟨c2,f2⟩:=ht1.two;have az:=ae y7.o.symm;clear p1 p2 p3 ht1 pF;go_wp2;refine bodyPost_ret (results_tmp (t:=6) rfl _ _ _) rfl ?_;rw[az.o];exact⟨fun t ns hh=>(by cases hh;exact⟨rfl,HT1.o.hand t1⟩),fun c p hh=>(by cases hh),HF2.o.hand oD.o hBT _⟩
open Go.RowKit Go.Maps Go.WideMaps Go.Joins
structure Gl(w:World)(B:Nat)(E:Int->TypeId × Value):Prop where
 es:Es w E
 lo:Lo B
 tabs:Lib.Utf8Tabs 10 11 w
 t3:10<B
 t4:11<B
theorem Gl.bel{w w':World}{B:Nat}{E:Int->TypeId × Value}(h:Gl w B E)(hb:Below B w w'):Gl w' B E :=
 ⟨h.es.bel h.lo hb,h.lo,⟨fun c hc=>(yZ hb _ h.t3).trans (h.tabs.1 c hc),fun i hi=>⟨(yZ hb _ h.t4).trans (h.tabs.2 i hi).1,(yZ hb _ h.t4).trans (h.tabs.2 i hi).2⟩⟩,h.t3,h.t4⟩
theorem kD{w w':World}{B R:Nat}(hg:w.grownBy w' (some R))(hR:B<=R)(hB:B<=w.heap.size):Below B w w':=⟨hg.os,hg.tape,hg.output,hg.size,fun k hk=>hg.block k (by omega) (by simp;omega)⟩
theorem Gl.gb{w w':World}{B R:Nat}{E:Int->TypeId × Value}(h:Gl w B E)(hg:w.grownBy w' (some R))(hR:B<=R)(hB:B<=w.heap.size):Gl w' B E:=h.bel (kD hg hR hB)
theorem AO{B R:Nat}(h:Lo B)(hR:B<=R):Far R:=⟨by have:=h.te;omega,by have:=h.ra;omega,by have:=h.ma;omega,by have:=h.tw;omega⟩
theorem xG{w W:World}{r:Option Nat}{b:Nat}(h:w.grownBy W r)(hb:w.heap.size<=b)(o:Nat)(v:Value):w.grownBy (W.setCell ⟨b,o,none⟩ v) r :=
 ⟨h.os,h.tape,h.output,by have:=h.size;simpa [World.setCell] using this,fun k hk hn=>(heap_setCell_other _ _ _ _ (by simp;omega)).trans (h.block k hk hn)⟩
theorem Iu{P:Program}{fn:Func}{p u:Tmp}{ty:TypeId}(h:fn.results=#[.cell p ty,.tmp u])(tmps:Array Value)(w:World)(g:Nat)(t:TypeId)(cs:Array Value)(fr:Nat × Nat)(d:TypeDesc)
  (hp:tmps.getD p undef=.pointer (some ⟨g,0,none⟩)) (hg:w.heap[g]?=some (.cells cs t fr))
  (hu:P.underlying ty=some d) (hd:(match d with | .struct _ | .array _ _=>true|_=>false)=true) (hi:(P.info? ty).map (·.size)=some cs.size) :
  (results fn tmps).run P w=.ok (.tuple #[.agg cs,tmps.getD u undef]) w:=by
 have hp':tmps[p]?.getD undef=.pointer (some ⟨g,0,none⟩):=by simpa using hp
 rw[results_cell_tmp h];simp[hp',asAddr,run_loadVar_row w g t ty cs fr d hg hu hd hi,Result.andThen]
def adE(R:Nat)(s:ByteArray)(T:Nat)(E:Int->TypeId × Value)(i:Nat)(g:Rs (List UInt8 × Nat))(w:World)(e:Ending)(w':World):Prop :=
 (∀k j,g=.ok (k,j)->e=.returned (.tuple #[.agg #[.string ⟨k.toArray⟩,.int .i64 (i:Nat)],.nilIface])/\Rd w' R s j T)/\(∀c p,g=.error (c,p)->∃(a:ByteArray) (b:Int) (v:Value),e=.returned (.tuple #[.agg #[.string a,.int .i64 b],v])/\dF w' v E c p)/\w.grownBy w' (some R)
theorem Iw{w:World}{v:Value}{E:Int->TypeId × Value}{c:Int}{p Z o:Nat}{cs:Array Value}{x:Value}(h:dF w v E c p)(hZ:w.heap[Z]?=some (.cells cs 213 (0,0))):dF (w.setCell ⟨Z,o,none⟩ x) v E c p:=by
 obtain⟨F,h1,h2⟩:=h;exact⟨F,h1,(heap_setCell_other _ _ _ _ (aO h2 hZ (by decide))).trans h2⟩
theorem Rd.new{w:World}{R:Nat}{s:ByteArray}{i T Z o:Nat}{cs:Array Value}{x:Value}(h:Rd w R s i T)(hZ:w.heap[Z]?=some (.cells cs 213 (0,0))):Rd (w.setCell ⟨Z,o,none⟩ x) R s i T:=(heap_setCell_other _ _ _ _ (aO h hZ (by decide))).trans h
theorem Iy{w:World}{Z:Nat}{a b x y:Value}(h:w.heap[Z]?=some (.cells #[a,b] 213 (0,0))):((w.setCell ⟨Z,0,none⟩ x).setCell ⟨Z,1,none⟩ y).heap[Z]?=some (.cells #[x,y] 213 (0,0)):=block_setCell (i:=1) (block_setCell (i:=0) h x) y
theorem VN(R:Nat)(s:ByteArray)(i T B:Nat)(E:Int->TypeId × Value)(w:World)(h:Rd w R s i T)(hi:i<=s.size)(hs:s.size<=1048576)(G:Gl w B E)(hR:B<=R)(hBw:B<=w.heap.size) :
  Calls prog 152 #[.pointer (some ⟨R,0,none⟩)] w (adE R s T E i (dm s.data.toList i) w):=by
 have CN:=ae (fun k w (h1:Rd w R s k T) (h2:k<=s.size)=>mX R s k T w h1 h2 hs);have CB:=ae RQ;have CH:Hd (∀k w',w.grownBy w' (some R)->Rd w' R s k T->Calls prog 156 #[.pointer (some ⟨R,0,none⟩)] w' fun e w''=>(∃v,e=.returned v/\dF w'' v E 2 k)/\w'.grownBy w'' none):=fun k w' hg hr=>(wM R s k T (E 2).1 (E 2).2 w' hr (G.gb hg hR hBw).es.te).mono fun e w'' h=>h
 have CQ:=ae (fun(hlt:i<s.size) w' (hg:w.grownBy w' (some R)) (hr:Rd w' R s i T)=>TL R s i T E w' hr hlt hs (G.gb hg hR hBw).es (AO G.lo hR) (G.gb hg hR hBw).tabs (by have:=G.t3;omega) (by have:=G.t4;omega));have CC:=ae (fun(t:ByteArray) w (ht:t.size<=1048576)=>clone_any t w (by omega));have hl:s.data.toList.length=s.size:=by simp
 have VO:Hd (nx s.data.toList i=34->i<s.size):=fun hx=>by
  have:=aY (l:=s.data.toList) (i:=i) (by rw[hx];decide);omega
 have HST:=ae (fun k (hk:k<s.size) (hb:bg (nx s.data.toList k)=true)=>qV bg _ k (by omega) hb);have kY:=ae (fun k (hb:bg (nx s.data.toList k)=false)=>kX bg _ k hb);have bP:Hd (∀k,k<=s.size->bg (nx s.data.toList k)=true->k<s.size):=fun k hk hb=>by
  apply Classical.byContradiction;intro hn;rw[jJ _ _ (by omega)]at hb;exact absurd hb (by decide)
 have kM:Hd (dm s.data.toList i=if nx s.data.toList i=34 then str s.data.toList (s.data.toList.length+1) (i+1) [] else if toR bg s.data.toList i=i then .error (2,i) else .ok (aj s.data.toList i (toR bg s.data.toList i-i),toR bg s.data.toList i)):=rfl;have hij:=pY bg s.data.toList i (by omega);rw[hl]at hij;obtain⟨J,hJ⟩:=zN (toR bg s.data.toList i);have HJ:=ae hJ;rw[hJ]at kM hij;obtain⟨hij1,hij2⟩:=hij;obtain⟨X,hX⟩:∃X:ByteArray,X=⟨(aj s.data.toList i (J-i)).toArray⟩:=⟨_,rfl⟩;have s1:∀wx,(Instr.slice 9 (.string s) (some (.int .i64 (i:Int))) (some (.int .i64 (J:Int))) none).run prog wx=.ok (.string X) wx:=fun wx=>by rw[hX];exact lM s i J hij1 hij2 wx
 have uQ:=ae hX;have HXS:Hd (X.size<=1048576):=by
  show _<=_;rw[hX];show(aj s.data.toList i (J-i)).toArray.size<=_;unfold aj;simp;omega
 obtain⟨SQ,D9⟩:=zN (str s.data.toList (s.data.toList.length+1) (i+1) []);rw[D9]at CQ kM;obtain⟨G0,hG0⟩:=zN (dm s.data.toList i);rw[hG0]at kM ⊢;have NI:w.grownBy (w.alloc (.cells #[.string ⟨#[]⟩,.int .i64 0] 213)) (some R):=World.grownBy_alloc w _ _;have NJ:w.grownBy (w.alloc (.cells #[.string ⟨#[]⟩,.int .i64 0] 213)) none:=World.grownBy_alloc w _ _;have Ea:=heap_alloc_new w (.cells #[.string ⟨#[]⟩,.int .i64 0] 213);obtain⟨Z,hZ⟩:=zN (w.heap.size);rw[hZ]at Ea;obtain⟨w1,hw1⟩:=zN (w.alloc (.cells #[.string ⟨#[]⟩,.int .i64 0] 213));rw[hw1]at NI NJ Ea;have ax:=ae NI;have HZ1:=ae Ea;have H1:=ae (h.grow NJ);have VP:=ae (aO Ea H1.o (by decide));obtain⟨c0,c1,-,-⟩:=H1.o.cells;have C1:=ae (CN.o i w1 H1.o hi);obtain⟨x,hx⟩:=zN (nx s.data.toList i);rw[hx]at C1 kM VO;have xH:Hd (w.heap.size<=Z):=by show _<=_;omega
 clear h hJ hX D9 hG0 NI NJ Ea hx G;go_enter func152,ntmps152;go_wp2_with (go_at_call 104;refine C1.o.mono ?_);rintro e w2 ⟨rfl,hg2⟩;have HG2:=ae (aG ax.o hg2);have HR2:=ae (H1.o.grow hg2);have HZ2:=ae (jG HZ1.o hg2);clear hg2 c0 c1
 by_cases hx34:x=34
 ·have hb:(x == 34)=true:=by simp[hx34]
  have hil:=VO.o hx34;have tZ:Hd (G0=SQ):=by show _=_;rw[kM.o,if_pos hx34]
  clear hx34;go_wp2_with (go_at_call 193;refine(CQ.o hil _ HG2.o HR2.o).mono ?_);rintro e w3 ⟨p1,p2,p3⟩;have aK:=ae (dK HG2.o p3);have hZ3:=(p3.block Z (aB HZ2.o) (by simp only[ne_eq,Option.some.injEq];exact VP.o)).trans HZ2.o;have HZ3:=ae hZ3;obtain⟨z0,z1,zf⟩:=iG hZ3;have zf0:=zf 0;have zf1:=zf 1
  cases SQ with
  | error ec =>
   obtain⟨ec1,ec2⟩:=ec;obtain⟨v,rfl,hv,-⟩:=p2 ec1 ec2 rfl;have dZ:=ae hv;clear p1 p2 p3 hv hZ3 zf;go_wp2;refine bodyPost_ret (Iu rfl _ _ Z 213 #[.string ⟨#[]⟩,.int .i64 (i:Nat)] (0,0) _ rfl (Iy HZ3.o) underlying213 rfl (by kernel_rfl)) rfl ?_;rw[tZ.o];exact⟨fun k j hh=>(by cases hh),fun c p hh=>(by cases hh;exact⟨_,_,v,rfl,Iw (Iw dZ.o HZ3.o) (block_setCell (i:=0) HZ3.o _)⟩),xG (xG aK.o xH.o 0 _) xH.o 1 _⟩
  | ok q =>
   obtain⟨tx,j⟩:=q;obtain⟨rfl,hr3⟩:=p1 tx j rfl;have HR3:=ae hr3;clear p1 p2 p3 hr3 hZ3 zf;go_wp2;refine bodyPost_ret (Iu rfl _ _ Z 213 #[.string ⟨tx.toArray⟩,.int .i64 (i:Nat)] (0,0) _ rfl (Iy HZ3.o) underlying213 rfl (by kernel_rfl)) rfl ?_;rw[tZ.o];exact⟨fun k j hh=>(by cases hh;exact⟨rfl,(HR3.o.new HZ3.o).new (block_setCell (i:=0) HZ3.o _)⟩),fun c p hh=>(by cases hh),xG (xG aK.o xH.o 0 _) xH.o 1 _⟩
 ·have hb:(x == 34)=false:=by simp[hx34]
  have tZ:Hd (G0=if J=i then .error (2,i) else .ok (aj s.data.toList i (J-i),J)):=by show _=_;rw[kM.o,if_neg hx34]
  clear hx34;go_wp2;go_loopw [] (fun wr=>∃k:Nat,Rd wr R s k T/\k<=s.size/\toR bg s.data.toList k=J/\w.grownBy wr (some R)/\wr.heap[Z]?=some (.cells #[.string ⟨#[]⟩,.int .i64 0] 213 (0,0))) (fun wr=>s.size-(match wr.cell? ⟨R,1,none⟩ with|some (.int _ k)=>k.toNat|_=>0))
  case atStart=>exact⟨i,HR2.o,hi,HJ.o,HG2.o,HZ2.o⟩
  case round =>
   obtain⟨k,hrd,hk,hbl,hg,VQ⟩:=hrel;have dJ:=ae hrd;have fP:=ae hbl;have HG:=ae hg;have VT:=ae VQ;have Ck:=ae (CN.o k wr hrd hk);have ig:Hd ((match wr.cell? ⟨R,1,none⟩ with|some (.int _ k)=>k.toNat|_=>0)=k):=by show _=_;rw[hrd.cells.2.1];simp
   have fC:=ae (fun(hb:bg (nx s.data.toList k)=true)=>HST.o k (bP.o k hk hb) hb);have HS2:=ae (kY.o k);have HL2:=ae (bP.o k hk);obtain⟨c,hc⟩:=zN (nx s.data.toList k);rw[hc]at Ck fC HS2 HL2;have jk:=ae (fun w=>CB.o c w);obtain⟨b,hb⟩:=zN (bg c);rw[hb]at jk fC HS2 HL2;clear hrd hbl hg VQ hc hb
   cases b with
   | true =>
    have hkl:=HL2.o (by trivial);have HN:=ae ((fC.o (by trivial)).symm.trans fP.o);go_wp2_with (first|(go_at_call 104;refine Ck.o.mono ?_;rintro e w3 ⟨rfl,hg3⟩;obtain⟨-,d1,-,df⟩:=(dJ.o.grow hg3).cells;have df1:=df 1)|(go_at_call 106;refine(jk.o _).mono ?_;rintro e w' ⟨rfl,rfl⟩));have jQ:Hd (Rd (w'.setCell ⟨R,1,none⟩ (.int .i64 ((k:Int)+1))) R s (k+1) T):=(dJ.o.grow hg3).set (k+1);refine⟨⟨k+1,jQ.o,by omega,HN.o,aS (aG HG.o hg3) 1 _,(heap_setCell_other _ _ _ _ (by simp only[];exact VP.o)).trans (jG VT.o hg3)⟩,?_⟩;rw[ig.o,jQ.o.cells.2.1];simp;omega
   | false =>
    have yG:=ae ((HS2.o (by trivial)).symm.trans fP.o);go_wp2_with (go_at_call 104;refine Ck.o.mono ?_);rintro e w3 rfl hg3;have HR3:Hd (Rd w3 R s J T):=by rw[<-yG.o];exact dJ.o.grow hg3
    have aK:=ae (aG HG.o hg3);have HZ3:=ae (jG VT.o hg3);obtain⟨d0,d1,-,-⟩:=HR3.o.cells;clear hg3
    by_cases hJi:J=i
    ·have hbj:((J:Int) == (i:Int))=true:=by simp[hJi]
     have gX:Hd (G0=.error (2,J)):=by show _=_;rw[tZ.o,if_pos hJi,hJi]
     have wQ:=ae (CH.o J _ aK.o HR3.o);clear hJi;go_wp2_with (first|(go_at_call 106;refine(jk.o _).mono ?_;rintro e w' ⟨rfl,rfl⟩)|(go_at_call 156;refine wQ.o.mono ?_;rintro e w4 ⟨⟨v,rfl,hv⟩,hg4⟩;obtain⟨z0,z1,zf⟩:=iG (jG HZ3.o hg4);have zf0:=zf 0;have zf1:=zf 1));have y8:=jG HZ3.o hg4;refine bodyPost_ret (Iu rfl _ _ Z 213 #[.string ⟨#[]⟩,.int .i64 0] (0,0) _ rfl (Iy y8) underlying213 rfl (by kernel_rfl)) rfl ?_;rw[gX.o];exact⟨fun k j hh=>(by cases hh),fun c p hh=>(by cases hh;exact⟨_,_,v,rfl,Iw (Iw hv y8) (block_setCell (i:=0) y8 _)⟩),xG (xG (aG aK.o hg4) xH.o 0 _) xH.o 1 _⟩
    ·have hbj:((J:Int) == (i:Int))=false:=by rw[beq_eq_false_iff_ne];omega
     have gX:Hd (G0=.ok (aj s.data.toList i (J-i),J)):=by show _=_;rw[tZ.o,if_neg hJi]
     have CC1:=ae (fun w=>CC.o X w HXS.o);clear hJi;go_wp2_with (go_at_call 106;refine(jk.o _).mono ?_;rintro e w' ⟨rfl,rfl⟩);go_region_with (first|(go_at_call 194;refine(CC1.o _).mono ?_;rintro e w6 ⟨rfl,eY⟩;have og:w'.grownBy w6 none:=⟨eY.os,eY.tape,eY.output,eY.size,eY.block⟩;obtain⟨z0,z1,zf⟩:=iG (jG HZ3.o og);have zf0:=zf 0;have zf1:=zf 1))
     all_goals (
      have y8:=jG HZ3.o og;go_wp2;refine bodyPost_ret (Iu rfl _ _ Z 213 #[.string X,.int .i64 (i:Nat)] (0,0) _ rfl (Iy y8) underlying213 rfl (by kernel_rfl)) rfl ?_;rw[gX.o];exact⟨fun k j hh=>(by cases hh;rw[<-uQ.o];exact⟨rfl,((HR3.o.grow og).new y8).new (block_setCell (i:=0) y8 _)⟩),fun c p hh=>(by cases hh),xG (xG (aG aK.o og) xH.o 0 _) xH.o 1 _⟩)
open Go.RowKit Go.Maps Go.WideMaps Go.Joins
theorem Tr.keepR{w w':World}{B T:Nat}{ns:List Tn}{own:List Nat}{now R:Nat}{s:ByteArray}{i T':Nat}(h:Tr w B T ns own now)(hr:Rd w R s i T')(hg:w.grownBy w' (some R)):Tr w' B T ns own now:=by
 obtain⟨N,c,M,xs,ks,hD⟩:=h;exact⟨N,c,M,xs,ks,hD.keeps (acv hr hg)⟩
theorem Rd.fr{w w':World}{R:Nat}{s:ByteArray}{i T B:Nat}(h:Rd w R s i T)(hf:Fr B w w'):Rd w' R s i T:=(hf.oth _ _ _ _ h (by decide) (by decide) (by decide)).trans h
theorem VU(ns:List Tn)(up:Nat)(x:Tn)(h:ns.length<(addN ns up x).length):(addN ns up x)[ns.length]'h=x:=by
 obtain⟨X,h1,h2⟩:=La ns up x;have:(addN ns up x)[ns.length]?=some x:=by rw[h2,<-h1];simp
 rw[List.getElem?_eq_getElem h]at this;exact Option.some.inj this
theorem VV(ns:List Tn)(own:List Nat)(up:Nat)(x y:Tn)(h1:y.kd=x.kd)(h2:y.ky=x.ky)(h3:y.ks=x.ks):hold (addN ns up y) own=hold (addN ns up x) own:=by
 have hl:ns.length<(addN ns up x).length:=by rw[bY];omega
 have e:=VU ns up x hl;obtain⟨a,b,c⟩:=aaL (addN ns up x) ns.length y hl (by rw[e];exact h1) (by rw[e];exact h2) (by rw[e];exact h3);rw[Lc]at a b c;exact aaM own a b c
theorem Tr.last{w:World}{B T:Nat}{ns:List Tn}{own:List Nat}{now up:Nat}{kd:Int}{k:List UInt8}{p:Nat}(h:Tr w B T (addN ns up ⟨kd,k,[],0,[],p⟩) own now) :
  ∃N cc,w.cell? ⟨T,0,none⟩=some (.slice (some ⟨N,0,none⟩) (ns.length+1) cc)/\(∃cs,w.heap[N]?=some (.cells cs 64 (0,0)))/\B<=N/\w.cell? ⟨N,ns.length*6+2,none⟩=some (.string ⟨#[]⟩)/\w.cell? ⟨N,ns.length*6+3,none⟩=some (.int .i64 0) ∧
   (∀t:List UInt8,Tr (w.setCell ⟨N,ns.length*6+2,none⟩ (.string ⟨t.toArray⟩)) B T (addN ns up ⟨kd,k,t,0,[],p⟩) own now)/\∀v:Int,Tr (w.setCell ⟨N,ns.length*6+3,none⟩ (.int .i64 v)) B T (addN ns up ⟨kd,k,[],v,[],p⟩) own now:=by
 obtain⟨N,c,M,xs,ks,hD⟩:=h;have hl:ns.length<(addN ns up ⟨kd,k,[],0,[],p⟩).length:=by rw[bY];omega
 have e:=VU ns up ⟨kd,k,[],0,[],p⟩ hl;have hc:=hD.cells.1;rw[bY]at hc;obtain⟨-,-,n2,n3,-,-,-⟩:=hD.node ns.length hl;rw[e]at n2 n3;refine⟨N,c,hc,hD.rowT,(bH hD.row rfl).1,n2,n3,fun t=>?_,fun v=>?_⟩
 ·refine⟨N,c,M,xs.set (ns.length*6+2) (.string ⟨t.toArray⟩),ks,?_⟩;have h1:=hD.cellSet ns.length 2 (.string ⟨t.toArray⟩) ⟨kd,k,t,0,[],p⟩ hl (by omega) (by omega) (by rw[e]) (fun j u hu=>by
   rw[e]at hu
   by_cases hj:j=2
   ·subst hj;rw[if_pos rfl]at hu;exact hu
   ·rw[if_neg hj]at hu
    match j,hj,hu with
    | 0,_,hu=>exact hu
    | 1,_,hu=>exact hu
    | 3,_,hu=>exact hu
    | 4,_,hu=>exact hu
    | 5,_,hu=>exact hu
    | j+6,_,hu=>simp at hu)
  rw[Lc]at h1;rw[VV ns own up ⟨kd,k,[],0,[],p⟩ ⟨kd,k,t,0,[],p⟩ rfl rfl rfl,bY,<-bY ns up ⟨kd,k,[],0,[],p⟩];exact h1
 ·refine⟨N,c,M,xs.set (ns.length*6+3) (.int .i64 v),ks,?_⟩;have h1:=hD.cellSet ns.length 3 (.int .i64 v) ⟨kd,k,[],v,[],p⟩ hl (by omega) (by omega) (by rw[e]) (fun j u hu=>by
   rw[e]at hu
   by_cases hj:j=3
   ·subst hj;rw[if_pos rfl]at hu;exact hu
   ·rw[if_neg hj]at hu
    match j,hj,hu with
    | 0,_,hu=>exact hu
    | 1,_,hu=>exact hu
    | 2,_,hu=>exact hu
    | 4,_,hu=>exact hu
    | 5,_,hu=>exact hu
    | j+6,_,hu=>simp at hu)
  rw[Lc]at h1;rw[VV ns own up ⟨kd,k,[],0,[],p⟩ ⟨kd,k,[],v,[],p⟩ rfl rfl rfl,bY,<-bY ns up ⟨kd,k,[],0,[],p⟩];exact h1
theorem NK{w:World}{v:Value}{E:Int->TypeId × Value}{c:Int}{p N o:Nat}{cs:Array Value}{x:Value}(h:dF w v E c p)(hN:w.heap[N]?=some (.cells cs 64 (0,0))):dF (w.setCell ⟨N,o,none⟩ x) v E c p:=by
 obtain⟨F,h1,h2⟩:=h;exact⟨F,h1,(heap_setCell_other _ _ _ _ (aO h2 hN (by decide))).trans h2⟩
theorem Rd.node{w:World}{R:Nat}{s:ByteArray}{i T N o:Nat}{cs:Array Value}{x:Value}(h:Rd w R s i T)(hN:w.heap[N]?=some (.cells cs 64 (0,0))):Rd (w.setCell ⟨N,o,none⟩ x) R s i T:=(heap_setCell_other _ _ _ _ (aO h hN (by decide))).trans h
theorem xI{w w1:World}{B b:Nat}(h:Below B w w1)(hb:B<=b)(o:Nat)(v:Value):Below B w (w1.setCell ⟨b,o,none⟩ v):=⟨h.os,h.tape,h.output,by have:=h.size;simpa [World.setCell] using this,fun k hk=>(heap_setCell_other _ _ _ _ (by simp;omega)).trans (h.block k hk)⟩
theorem nN{w w':World}{B:Nat}(hg:w.grownBy w' none)(hB:B<=w.heap.size):Below B w w':=⟨hg.os,hg.tape,hg.output,hg.size,fun k hk=>hg.block k (by omega) (by simp)⟩
def vI(B R T:Nat)(s:ByteArray)(E:Int->TypeId × Value)(own:List Nat)(now:Nat)(r:Rs (Nat × List Tn))(w:World)(e:Ending)(w':World):Prop :=
 (∀j ns,r=.ok (j,ns)->e=.returned .nilIface/\Rd w' R s j T/\Tr w' B T ns own now)/\(∀c p,r=.error (c,p)->∃v,e=.returned v/\dF w' v E c p)/\Below B w w'
def Eb(f:Nat):Prop:=∀(B R T:Nat) (s:ByteArray) (E:Int->TypeId × Value) (own:List Nat) (now i up:Nat) (k:List UInt8) (p d:Nat) (ns:List Tn) (w:World),Rd w R s i T->Tr w B T ns own now->Gl w B E->B<=R->i<=s.size->s.size<=100000->WF ns own->WT ns->up<ns.length->¬ak ns up=2->(ak ns up=0->ah ns up k=none)->k.length<=1048576->d<=8->ns.length+own.length+(s.size-i)<=700000->2*(s.size-i)+1<=f →
 Calls prog 154 #[.pointer (some ⟨R,0,none⟩),.int .i64 (up:Nat),.agg #[.string ⟨k.toArray⟩,.int .i64 (p:Nat)],.int .i64 (d:Nat)] w (vI B R T s E own now (val s.data.toList f i up k p d ns) w)
def VW(f:Nat):Prop:=∀(B R T:Nat) (s:ByteArray) (E:Int->TypeId × Value) (own:List Nat) (now i up d:Nat) (ns:List Tn) (w:World),Rd w R s i T->Tr w B T ns own now->Gl w B E->B<=R->i<s.size->s.size<=100000->WF ns own->WT ns->up<ns.length->ak ns up=1->d<=8->ns.length+own.length+(s.size-i)<=700001->2*(s.size-i)<=f →
 Calls prog 199 #[.pointer (some ⟨R,0,none⟩),.int .i64 (up:Nat),.int .i64 (d:Nat)] w (vI B R T s E own now (lst s.data.toList f (i+1) up d ns) w)
open Go.RowKit Go.Maps Go.WideMaps Go.Joins
theorem adF(l:List UInt8):∀(f i:Nat) (c:Int) (p:Nat),gap l f i=.error (c,p)->c=2:=by
 intro f
 induction f with
 | zero=>intro i c p h;cases h;rfl
 | succ f ih =>
  intro i c p h;rw[uP]at h;split at h
  ·cases h;rfl
  ·split at h
   ·exact ih _ c p h
   ·cases h
def adG(B R T:Nat)(s:ByteArray)(E:Int->TypeId × Value)(own:List Nat)(now:Nat)(m:List Tn)(g:Rs Nat)(w:World)(e:Ending)(w':World):Prop:=(∀j,g=.ok j->e=.returned .nilIface/\Rd w' R s j T/\Tr w' B T m own now)/\(∀c p,g=.error (c,p)->∃F,e=.returned (.iface 130 (.pointer (some ⟨F,0,none⟩)))/\dF w' (.iface 130 (.pointer (some ⟨F,0,none⟩))) E c p)/\Below B w w'
theorem adH(B R T:Nat)(s:ByteArray)(E:Int->TypeId × Value)(own:List Nat)(now i:Nat)(m:List Tn)(w:World)(h:Rd w R s i T)(ht:Tr w B T m own now)(G:Gl w B E)(hR:B<=R)(hi:i<=s.size)(hs:s.size<=100000) :
  Calls prog 219 #[.pointer (some ⟨R,0,none⟩)] w (adG B R T s E own now m (gap s.data.toList (s.data.toList.length+1) i) w) :=
 (aar R s i T (E 2).1 (E 2).2 w h hi (by omega) G.es.te (AO G.lo hR).te).mono fun e w' ⟨h1,h2,h3⟩=>⟨fun j hj=>⟨(h1 j hj).1,(h1 j hj).2,ht.keepR h h3⟩,fun c p hp=>by
  have hc:=adF _ _ _ _ _ hp;subst hc;obtain⟨v,e1,F,rfl,hF⟩:=h2 2 p hp;exact⟨F,e1,F,rfl,hF⟩,kD h3 hR ht.base⟩
def adI(B R T:Nat)(s:ByteArray)(E:Int->TypeId × Value)(own:List Nat)(now:Nat)(m:List Tn)(r:Rs Nat)(w:World)(e:Ending)(w':World):Prop:=(∀j,r=.ok j->e=.returned .nilIface/\Rd w' R s j T/\Tr w' B T m own now)/\(∀c p,r=.error (c,p)->∃F,e=.returned (.iface 130 (.pointer (some ⟨F,0,none⟩)))/\dF w' (.iface 130 (.pointer (some ⟨F,0,none⟩))) E c p)/\Below B w w'
theorem VY(B R T:Nat)(s:ByteArray)(E:Int->TypeId × Value)(own:List Nat)(now i:Nat)(c:Int)(hc:0<=c)(m:List Tn)(w:World)(h:Rd w R s i T)(ht:Tr w B T m own now)(G:Gl w B E)(hR:B<=R)(hi:i<=s.size)(hs:s.size<=100000) :
  Calls prog 109 #[.pointer (some ⟨R,0,none⟩),.int .i64 c] w (adI B R T s E own now m (must s.data.toList i c) w) :=
 (KI R s i T c (E 2).1 (E 2).2 w h hi (by omega) hc G.es.te).mono fun e w' ⟨h1,h2,h3⟩=>by
  unfold must
  by_cases hx:nx s.data.toList i=c
  ·rw[if_pos hx];exact⟨fun j hj=>(by cases hj;exact⟨(h1 hx).1,(h1 hx).2,ht.keepR h h3⟩),fun c p hp=>(by cases hp),kD h3 hR ht.base⟩
  ·rw[if_neg hx];obtain⟨⟨v,e1,F,rfl,hF⟩,-⟩:=h2 hx;exact⟨fun j hj=>(by cases hj),fun c p hp=>(by cases hp;exact⟨F,e1,F,rfl,hF⟩),kD h3 hR ht.base⟩
theorem adJ(l:List UInt8)(f i up d:Nat)(ns:List Tn):lst l (f+1) i up d ns =
  match gap l (l.length+1) i with
  | .error e=>.error e
  | .ok j =>
   if nx l j=93 then(match must l j 93 with | .error e=>.error e | .ok q=>.ok (q,ns))
   else match val l f j up [] j d ns with
    | .error e=>.error e
    | .ok (j1,ns1)=>match gap l (l.length+1) j1 with
     | .error e=>.error e
     | .ok j2=>if nx l j2=44 then lst l f (j2+1) up d ns1 else(match must l j2 93 with | .error e=>.error e | .ok q=>.ok (q,ns1)):=by
 rw[yV]
 cases gap l (l.length+1) i with
 | error e=>rfl
 | ok j =>
  simp only[]
  by_cases h:nx l j=93
  ·rw[if_pos h,if_pos h];unfold must;rw[if_pos h]
  ·rw[if_neg h,if_neg h]
   cases val l f j up [] j d ns with
   | error e=>rfl
   | ok q =>
    obtain⟨j1,ns1⟩:=q;simp only[]
    cases gap l (l.length+1) j1 with
    | error e=>rfl
    | ok j2 =>
     simp only[]
     by_cases h4:nx l j2=44
     ·rw[if_pos h4,if_pos h4]
     ·rw[if_neg h4,if_neg h4];unfold must
      by_cases h9:nx l j2=93
      ·rw[if_pos h9,if_pos h9]
      ·rw[if_neg h9,if_neg h9]
theorem adK{B R T:Nat}{s:ByteArray}{E:Int->TypeId × Value}{own:List Nat}{now:Nat}{c:Int}{p:Nat}{w w':World}{e:Ending}(h:vI B R T s E own now (.error (c,p)) w e w'):∃F,e=.returned (.iface 130 (.pointer (some ⟨F,0,none⟩)))/\dF w' (.iface 130 (.pointer (some ⟨F,0,none⟩))) E c p:=by
 obtain⟨v,e1,F,rfl,hF⟩:=h.2.1 c p rfl;exact⟨F,e1,F,rfl,hF⟩
structure Lk(B R T:Nat)(s:ByteArray)(own:List Nat)(now i up:Nat)(ns:List Tn)(w:World)(kx:Nat)(m:List Tn)(wr:World):Prop where
 rd:Rd wr R s kx T
 tr:Tr wr B T m own now
 wf:WF m own
 wt:WT m
 ul:up<m.length
 kd:ak m up=1
 le:kx<=s.size
 nn:m.length+i+1<=ns.length+kx
 be:Below B w wr
theorem Lk.gb{B R T:Nat}{s:ByteArray}{own:List Nat}{now i up:Nat}{ns:List Tn}{w:World}{kx:Nat}{m:List Tn}{wr w':World}(h:Lk B R T s own now i up ns w kx m wr)(hg:wr.grownBy w' none):Lk B R T s own now i up ns w kx m w':=⟨h.rd.grow hg,h.tr.gb hg,h.wf,h.wt,h.ul,h.kd,h.le,h.nn,h.be.trans (nN hg h.tr.base)⟩
theorem Lk.to{B R T:Nat}{s:ByteArray}{own:List Nat}{now i up:Nat}{ns:List Tn}{w:World}{kx j:Nat}{m:List Tn}{wr w':World}(h:Lk B R T s own now i up ns w kx m wr)(hr:Rd w' R s j T)(ht:Tr w' B T m own now)(hb:Below B wr w')(h1:kx<=j)(h2:j<=s.size):Lk B R T s own now i up ns w j m w':=⟨hr,ht,h.wf,h.wt,h.ul,h.kd,h2,by have:=h.nn;omega,h.be.trans hb⟩
theorem Lk.ad{B R T:Nat}{s:ByteArray}{own:List Nat}{now i up:Nat}{ns:List Tn}{w:World}{kx j:Nat}{m m1:List Tn}{wr w':World}(h:Lk B R T s own now i up ns w kx m wr)(A:Ad m m1 own kx j s.size)(hr:Rd w' R s j T)(ht:Tr w' B T m1 own now)(hb:Below B wr w'):Lk B R T s own now i up ns w j m1 w':=⟨hr,ht,A.wf,A.wt,Nat.lt_of_lt_of_le h.ul A.lo,(A.kd up h.ul).trans h.kd,A.en,by have:=h.nn;have:=A.hi;omega,h.be.trans hb⟩
theorem adL(F:Nat)(IH:∀f,f<F->Eb f):VW F:=by
 intro B R T s E own now i up d ns w h htr G hR hi hs W V hu h1 hd hsz hF;have hl:s.data.toList.length=s.size:=by simp
 have CG:=ae (fun kx m wr (L:Lk B R T s own now i up ns w kx m wr)=>adH B R T s E own now kx m wr L.rd L.tr (G.bel L.be) hR L.le hs);have CN:=ae (fun kx m wr (L:Lk B R T s own now i up ns w kx m wr)=>mX R s kx T wr L.rd L.le (by omega));have CT:=ae (fun kx m wr (L:Lk B R T s own now i up ns w kx m wr)=>VY B R T s E own now kx 93 (by decide) m wr L.rd L.tr (G.bel L.be) hR L.le hs);have CV:=ae (fun f kx m wr (hf:f<F) (hkf:2*(s.size-kx)+1<=f) (L:Lk B R T s own now i up ns w kx m wr)=>IH f hf B R T s E own now kx up [] kx d m wr L.rd L.tr (G.bel L.be) hR L.le hs L.wf L.wt L.ul (by rw[L.kd];decide) (fun e=>by rw[L.kd]at e;exact absurd e (by decide)) (by simp) hd (by have:=L.nn;have:=L.le;omega) hkf);have HVO:Hd (∀f kx m j1 m1,kx<=s.size->WF m own->WT m->up<m.length->ak m up=1->val s.data.toList f kx up [] kx d m=.ok (j1,m1)->Ad m m1 own kx j1 s.size):=fun f kx m j1 m1 a1 a2 a3 a4 a5 a6=>by
  have:=(Ic s.data.toList own f).1 kx up [] kx d m j1 m1 (by omega) a2 a3 a4 (by rw[a5];decide) a6;rw[hl]at this;exact this
 have oG:Hd (∀kx j,kx<=s.size->gap s.data.toList (s.data.toList.length+1) kx=.ok j->kx<=j/\j<=s.size):=fun kx j a b=>by
  have:=xy s.data.toList _ kx j (by omega) b;omega
 have gq:Hd (∀kx,nx s.data.toList kx=44->kx<s.size):=fun kx a=>by
  have:=aY (l:=s.data.toList) (i:=kx) (by rw[a];decide);omega
 have HST:Hd (∀f kx m,lst s.data.toList (f+1) kx up d m=_):=fun f kx m=>adJ s.data.toList f kx up d m
 obtain⟨S,hS⟩:=zN (lst s.data.toList F (i+1) up d ns);have HS:=ae hS;rw[hS];obtain⟨-,r1,-,rf⟩:=h.cells;have rf1:=rf 1;have hset:Rd (w.setCell ⟨R,1,none⟩ (.int .i64 ((i:Int)+1))) R s (i+1) T:=h.set (i+1);have AP:Hd (Lk B R T s own now i up ns w (i+1) ns (w.setCell ⟨R,1,none⟩ (.int .i64 ((i:Int)+1)))):=⟨hset,htr.keepR h (iL w R 1 _),W,V,hu,h1,by omega,by omega,xI (Below.refl _ _) hR 1 _⟩;clear h htr G W V hu h1 hS rf hset IH;go_enter func199,ntmps199;go_wp2;go_loopw [] (fun wr=>∃(kx f:Nat) (m:List Tn),Lk B R T s own now i up ns w kx m wr/\2*(s.size-kx)+2<=f/\f<=F/\lst s.data.toList f kx up d m=S) (fun wr=>s.size-(match wr.cell? ⟨R,1,none⟩ with|some (.int _ k)=>k.toNat|_=>0))
 case atStart=>exact⟨i+1,F,ns,AP.o,by omega,Nat.le_refl _,HS.o⟩
 case round =>
  obtain⟨kx,f,m,hL,hf,hfF,NL⟩:=hrel;obtain⟨f,rfl⟩:∃f',f=f'+1:=⟨f-1,by omega⟩;rw[HST.o]at NL;have Iz:Hd (_=S):=NL;have HL:=ae hL;have C1:=CG.o kx m wr hL;have ig:Hd ((match wr.cell? ⟨R,1,none⟩ with|some (.int _ k)=>k.toNat|_=>0)=kx):=by show _=_;rw[hL.rd.cells.2.1];simp
  have ax:=oG.o kx;obtain⟨g0,hg0⟩:=zN (gap s.data.toList (s.data.toList.length+1) kx);rw[hg0]at C1 Iz ax;have y9:=ae C1;have AQ:=ae ax;clear hL NL C1 ax hg0;go_wp2_with (go_at_call 219;refine y9.o.mono ?_);rintro e w2 ⟨p1,p2,p3⟩
  cases g0 with
  | error ec =>
   obtain⟨ec1,ec2⟩:=ec;obtain⟨Fb,rfl,oH⟩:=p2 ec1 ec2 rfl;have dV:=ae oH;have az:Hd (S=.error (ec1,ec2)):=Iz.o.symm;have dY:=ae (HL.o.be.trans p3);clear p1 p2 p3 oH;go_wp2;refine bodyPost_ret (results_tmp (t:=6) rfl _ _ _) rfl ?_;rw[az.o];exact⟨fun j ns hh=>(by cases hh),fun c p hh=>(by cases hh;exact⟨_,rfl,dV.o⟩),dY.o⟩
  | ok j0 =>
   obtain⟨rfl,hr2,ht2⟩:=p1 j0 rfl;obtain⟨gj1,gj2⟩:=AQ.o j0 HL.o.le rfl;have HL2:=ae (HL.o.to hr2 ht2 p3 gj1 gj2);have C2:=ae (CN.o j0 m w2 HL2.o);have AU:=Iz.o;simp only[]at AU;have rX:=CT.o j0 m;have NM:=CV.o f j0 m;have NP:=HVO.o f j0 m;obtain⟨V0,hV0⟩:=zN (val s.data.toList f j0 up [] j0 d m);obtain⟨MU,lX⟩:=zN (must s.data.toList j0 93);rw[lX]at AU rX;rw[hV0]at AU NM NP;obtain⟨x,hx⟩:=zN (nx s.data.toList j0);rw[hx]at C2 AU;have rJ:Hd (_=S):=AU;have vJ:=ae rX;have CV3:=ae (fun wr (L:Lk B R T s own now i up ns w j0 m wr)=>NM wr (by omega) (by omega) L);have adM:=ae (fun j1 m1 (e:V0=.ok (j1,m1))=>NP j1 m1 gj2 HL2.o.wf HL2.o.wt HL2.o.ul HL2.o.kd e);clear p1 p2 p3 hr2 ht2 Iz AU rX NM NP hV0 lX hx AQ;go_wp2_with (go_at_call 104;refine C2.o.mono ?_);rintro e w3 ⟨rfl,hg3⟩
   have zg:=ae (HL2.o.gb hg3);clear hg3
   by_cases c93:x=93
   ·have e93:(x == 93)=true:=by simp[c93]
    have zh:Hd ((match (generalizing:=false) MU with | .error e=>.error e | .ok q=>.ok (q,m))=S):=by
     have:=rJ.o;rw[if_pos c93]at this;exact this
    clear c93;go_wp2_with (go_at_call 109;refine(vJ.o _ zg.o).mono ?_);rintro e w4 ⟨q1,q2,q3⟩
    cases MU with
    | error ec =>
     obtain⟨ec1,ec2⟩:=ec;obtain⟨Fb,rfl,oH⟩:=q2 ec1 ec2 rfl;have dV:=ae oH;have az:Hd (S=.error (ec1,ec2)):=zh.o.symm;have dY:=ae (zg.o.be.trans q3);clear q1 q2 q3 oH;go_wp2;refine bodyPost_ret (results_tmp (t:=6) rfl _ _ _) rfl ?_;rw[az.o];exact⟨fun j ns hh=>(by cases hh),fun c p hh=>(by cases hh;exact⟨_,rfl,dV.o⟩),dY.o⟩
    | ok jq =>
     obtain⟨rfl,hrq,Ed⟩:=q1 jq rfl;have NQ:=ae hrq;have NR:=ae Ed;have az:Hd (S=.ok (jq,m)):=zh.o.symm;have dY:=ae (zg.o.be.trans q3);clear q1 q2 q3 hrq Ed;go_wp2;refine bodyPost_ret (results_tmp (t:=6) rfl _ _ _) rfl ?_;rw[az.o];exact⟨fun j ns hh=>(by cases hh;exact⟨rfl,NQ.o,NR.o⟩),fun c p hh=>(by cases hh),dY.o⟩
   ·have e93:(x == 93)=false:=by simp[c93]
    have NS:=rJ.o;rw[if_neg c93]at NS;have Ee:Hd (_=S):=NS;clear NS;obtain⟨-,r1c,-,-⟩:=zg.o.rd.cells;clear c93 rJ;go_wp2_with (go_at_call 154;refine(CV3.o _ zg.o).mono ?_);intro e w4 hq
    cases V0 with
    | error ec =>
     obtain⟨ec1,ec2⟩:=ec;obtain⟨Fb,rfl,oH⟩:=adK hq;have dV:=ae oH;have az:Hd (S=.error (ec1,ec2)):=Ee.o.symm;have dY:=ae (zg.o.be.trans hq.2.2);clear hq oH r1c;go_wp2;refine bodyPost_ret (results_tmp (t:=6) rfl _ _ _) rfl ?_;rw[az.o];exact⟨fun j ns hh=>(by cases hh),fun c p hh=>(by cases hh;exact⟨_,rfl,dV.o⟩),dY.o⟩
    | ok jm =>
     obtain⟨j1,m1⟩:=jm;obtain⟨rfl,hr4,qE⟩:=hq.1 j1 m1 rfl;have A:=adM.o j1 m1 rfl;have hA1:=A.fw;have hA2:=A.en;have IA:=ae (zg.o.ad A hr4 qE hq.2.2);have C5:=CG.o j1 m1 w4 IA.o;have iK:=oG.o j1;have AV:=Ee.o;simp only[]at AV;obtain⟨g1,hg1⟩:=zN (gap s.data.toList (s.data.toList.length+1) j1);rw[hg1]at C5 iK AV;have NT:=ae C5;have VZ:=ae iK;have NU:Hd (_=S):=AV;clear C5 iK AV hg1 hq hr4 qE A r1c Ee;go_wp2_with (go_at_call 219;refine NT.o.mono ?_);rintro e w5 ⟨p1,p2,p3⟩
     cases g1 with
     | error ec =>
      obtain⟨ec1,ec2⟩:=ec;obtain⟨Fb,rfl,oH⟩:=p2 ec1 ec2 rfl;have dV:=ae oH;have az:Hd (S=.error (ec1,ec2)):=NU.o.symm;have dY:=ae (IA.o.be.trans p3);clear p1 p2 p3 oH;go_wp2;refine bodyPost_ret (results_tmp (t:=6) rfl _ _ _) rfl ?_;rw[az.o];exact⟨fun j ns hh=>(by cases hh),fun c p hh=>(by cases hh;exact⟨_,rfl,dV.o⟩),dY.o⟩
     | ok j2 =>
      obtain⟨rfl,lu,xJ⟩:=p1 j2 rfl;obtain⟨hj1,hj2⟩:=VZ.o j2 IA.o.le rfl;have V4:=ae (IA.o.to lu xJ p3 hj1 hj2);have C6:=ae (CN.o j2 m1 w5 V4.o);have Ef:=NU.o;simp only[]at Ef;have NV:=CT.o j2 m1;have V5:=ae (gq.o j2);obtain⟨MU,lX⟩:=zN (must s.data.toList j2 93);rw[lX]at Ef NV;obtain⟨y,hy⟩:=zN (nx s.data.toList j2);rw[hy]at C6 Ef V5;have V6:Hd (_=S):=Ef;have adN:=ae NV;clear p1 p2 p3 lu xJ Ef NV lX hy NU VZ;go_wp2_with (go_at_call 104;refine C6.o.mono ?_);rintro e w6 ⟨rfl,eY⟩;have xK:=ae (V4.o.gb eY);clear eY
      by_cases c44:y=44
      ·have e44:(y != 44)=false:=by simp[c44]
       have hjl:=V5.o c44;have adO:Hd (lst s.data.toList f (j2+1) up d m1=S):=by
        have:=V6.o;rw[if_pos c44]at this;exact this
       obtain⟨-,r16,-,rf6⟩:=xK.o.rd.cells;have rf61:=rf6 1;have V7:Hd (Rd (w6.setCell ⟨R,1,none⟩ (.int .i64 ((j2:Int)+1))) R s (j2+1) T):=xK.o.rd.set (j2+1);have adP:=ae (xK.o.to V7.o (xK.o.tr.keepR xK.o.rd (iL w6 R 1 _)) (xI (Below.refl _ _) hR 1 _) (by omega) (by omega));clear c44 rf6;go_wp2;refine⟨⟨j2+1,f,m1,adP.o,by omega,by omega,adO.o⟩,?_⟩;rw[ig.o,V7.o.cells.2.1];simp;omega
      ·have e44:(y != 44)=true:=by simp[c44]
       have zh:Hd ((match (generalizing:=false) MU with | .error e=>.error e | .ok q=>.ok (q,m1))=S):=by
        have:=V6.o;rw[if_neg c44]at this;exact this
       clear c44;go_wp2_with (go_at_call 109;refine(adN.o _ xK.o).mono ?_);rintro e w7 ⟨q1,q2,q3⟩
       cases MU with
       | error ec =>
        obtain⟨ec1,ec2⟩:=ec;obtain⟨Fb,rfl,oH⟩:=q2 ec1 ec2 rfl;have dV:=ae oH;have az:Hd (S=.error (ec1,ec2)):=zh.o.symm;have dY:=ae (xK.o.be.trans q3);clear q1 q2 q3 oH;go_wp2;refine bodyPost_ret (results_tmp (t:=6) rfl _ _ _) rfl ?_;rw[az.o];exact⟨fun j ns hh=>(by cases hh),fun c p hh=>(by cases hh;exact⟨_,rfl,dV.o⟩),dY.o⟩
       | ok jq =>
        obtain⟨rfl,hrq,Ed⟩:=q1 jq rfl;have NQ:=ae hrq;have NR:=ae Ed;have az:Hd (S=.ok (jq,m1)):=zh.o.symm;have dY:=ae (xK.o.be.trans q3);clear q1 q2 q3 hrq Ed;go_wp2;refine bodyPost_ret (results_tmp (t:=6) rfl _ _ _) rfl ?_;rw[az.o];exact⟨fun j ns hh=>(by cases hh;exact⟨rfl,NQ.o,NR.o⟩),fun c p hh=>(by cases hh),dY.o⟩
open Go.RowKit Go.Maps Go.WideMaps Go.Joins
def qF(l:List (List UInt8 × Nat)):List Value:=l.flatMap fun x=>[.string ⟨x.1.toArray⟩,.int .i64 (x.2:Nat)]
theorem V8:∀(l:List (List UInt8 × Nat)) (i:Nat) (hi:i<l.length),(qF l)[i*2]?=some (.string ⟨l[i].1.toArray⟩)/\(qF l)[i*2+1]?=some (.int .i64 (l[i].2:Nat))
 | a :: r,0,_=>⟨rfl,rfl⟩
 | a :: r,i+1,hi=>by
  have:=V8 r i (by simpa using hi);have e:qF (a :: r)=.string ⟨a.1.toArray⟩ :: .int .i64 (a.2:Nat) :: qF r:=rfl;rw[e,show(i+1)*2=i*2+1+1 by omega];exact this
theorem adQ(l:List (List UInt8 × Nat))(x:List UInt8 × Nat):qF (l++[x])=qF l++[.string ⟨x.1.toArray⟩,.int .i64 (x.2:Nat)]:=by
 unfold qF;rw[List.flatMap_append];rfl
theorem adR{w:World}{B g c n:Nat}{l:List (List UInt8 × Nat)}(h:w.ownsRow B 213 2 (.slice (some ⟨g,0,none⟩) n c) n (qF l))(hn:l.length=n):KyR w g l/\n<=c:=by
 rcases h.2 with⟨h1,-⟩|⟨g',cap,cur,h1,-,h3,h4,-,h6,h7⟩
 ·cases h1
 ·cases h1
  refine⟨⟨cur,h3,fun i hi=>?_⟩,h4⟩;obtain⟨a,b⟩:=V8 l i hi;rw[<-h7]at a b;rw[List.getElem?_take_of_lt (by omega),Array.getElem?_toList]at a b;exact⟨a,b⟩
theorem adS:(prog.info? 213).map (fun i=>(i.zero,i.size,i.bytes))=some (some (.agg #[.string ⟨#[]⟩,.int .i64 0]),2,24):=by kernel_rfl
theorem AX(l:List UInt8)(f i:Nat)(acc:List (List UInt8 × Nat)):ik l (f+1) i acc=match dm l (bl l i) with | .error e=>.error e | .ok (k,j)=>if nx l (bl l j)=46 then ik l f (bl l j+1) (acc++[(k,bl l i)]) else .ok (acc++[(k,bl l i)],bl l j):=rfl
theorem NW{w W w3:World}{r q:Option Nat}(h:w.grownBy W r)(hg:W.grownBy w3 q)(hq:∀b,q=some b->w.heap.size<=b):w.grownBy w3 r :=
 ⟨hg.os.trans h.os,hg.tape.trans h.tape,hg.output.trans h.output,Nat.le_trans h.size hg.size,fun k hk hn=>(hg.block k (Nat.lt_of_lt_of_le hk h.size) (fun e=>by have:=hq k e.symm;omega)).trans (h.block k hk hn)⟩
def adT(R:Nat)(s:ByteArray)(T:Nat)(E:Int->TypeId × Value)(g:Rs (List (List UInt8 × Nat) × Nat))(w:World)(e:Ending)(w':World):Prop :=
 (∀l j,g=.ok (l,j)->∃b c,e=.returned (.tuple #[.slice (some ⟨b,0,none⟩) l.length c,.nilIface])/\KyR w' b l/\l.length<=c/\Rd w' R s j T)/\(∀c p,g=.error (c,p)->∃F,e=.returned (.tuple #[.slice none 0 0,.iface 130 (.pointer (some ⟨F,0,none⟩))])/\dF w' (.iface 130 (.pointer (some ⟨F,0,none⟩))) E c p)/\w.grownBy w' (some R)
theorem adU(x:List UInt8 × Nat):∀u∈([.string ⟨x.1.toArray⟩,.int .i64 (x.2:Nat)]:List Value),u.oneCell'=true:=by
 intro u hu;simp only[List.mem_cons,List.not_mem_nil,or_false]at hu
 rcases hu with rfl|rfl<;>rfl
theorem adV(R:Nat)(s:ByteArray)(i T B:Nat)(E:Int->TypeId × Value)(w:World)(h:Rd w R s i T)(hi:i<=s.size)(hs:s.size<=100000)(G:Gl w B E)(hR:B<=R)(hBw:B<=w.heap.size) :
  Calls prog 148 #[.pointer (some ⟨R,0,none⟩)] w (adT R s T E (ik s.data.toList (s.data.toList.length+1) i []) w):=by
 have CN:=ae (fun k w (h1:Rd w R s k T) (h2:k<=s.size)=>mX R s k T w h1 h2 (by omega));have CS:=ae (fun k w (h1:Rd w R s k T) (h2:k<=s.size)=>Gx R s k T w h1 h2 (by omega));have CK:=ae (fun k w' (h1:Rd w' R s k T) (h2:k<=s.size) (hg:w.grownBy w' (some R))=>VN R s k T B E w' h1 h2 (by omega) (G.gb hg hR hBw) hR (Nat.le_trans hBw hg.size));have hl:s.data.toList.length=s.size:=by simp
 have fP:Hd (∀k,k<=s.size->k<=bl s.data.toList k/\bl s.data.toList k<=s.size):=fun k hk=>by rw[<-hl];exact jR _ k (by omega)
 have jU:Hd (∀k x j,k<=s.size->dm s.data.toList k=.ok (x,j)->k<j/\j<=s.size):=fun k x j a b=>by
  have:=wU s.data.toList k x j (by omega) b;omega
 have bP:Hd (∀k,nx s.data.toList k=46->k<s.size):=fun k a=>by
  have:=aY (l:=s.data.toList) (i:=k) (by rw[a];decide);omega
 obtain⟨i0,hi0,hii⟩:=Option.map_eq_some_iff.1 adS;simp only[Prod.mk.injEq]at hii;obtain⟨hz0,hz1,hzb⟩:=hii;obtain⟨S,hS⟩:=zN (ik s.data.toList (s.data.toList.length+1) i []);have HS:=ae hS;rw[hS];have H0:=ae h;clear h G hS;go_enter func148,ntmps148;go_wp2;go_loopw [2,3,4] (fun v2 v3 v4 wr=>v2=.slice none 0 0/\v3=.nilIface/\∃(kx f:Nat) (acc:List (List UInt8 × Nat)),Rd wr R s kx T/\kx<=s.size/\wr.ownsRow w.heap.size 213 2 v4 acc.length (qF acc)/\w.grownBy wr (some R)/\s.size-kx<f/\ik s.data.toList f kx acc=S/\acc.length<=kx) (fun _ _ _ wr=>s.size-(match wr.cell? ⟨R,1,none⟩ with|some (.int _ k)=>k.toNat|_=>0))
 case atStart=>exact⟨rfl,rfl,i,s.data.toList.length+1,[],H0.o,hi,World.ownsRow_nil _ _ _ _,au _ _,by omega,HS.o,by simp⟩
 case round =>
  obtain⟨rfl,rfl,kx,f,acc,hrd,hk,hown,hg,hf,hhd,hac⟩:=hrel;obtain⟨f,rfl⟩:∃f',f=f'+1:=⟨f-1,by omega⟩;rw[AX]at hhd;have kZ:=ae hrd;have ku:=ae hg;have HOW:=ae hown;have ig:Hd ((match wr.cell? ⟨R,1,none⟩ with|some (.int _ k)=>k.toNat|_=>0)=kx):=by show _=_;rw[hrd.cells.2.1];simp
  have C1:=CS.o kx wr hrd hk;obtain⟨b1,b2⟩:=fP.o kx hk;obtain⟨j0,hj0⟩:=zN (bl s.data.toList kx);rw[hj0]at C1 hhd b1 b2;have y9:=ae C1;have yT:=jU.o j0;have NY:=CK.o j0;obtain⟨KR,kS⟩:=zN (dm s.data.toList j0);rw[kS]at yT NY hhd;have vK:Hd (_=S):=hhd;have adW:=ae yT;have adX:=ae NY;clear hrd hown hg hhd C1 yT NY hj0 kS;go_wp2_with (first|(go_at_call 103;refine y9.o.mono ?_));rintro e w2 ⟨rfl,hr2,hg2⟩;have HR2:=ae hr2;have HG2:=ae (dK ku.o hg2);have adY:=ae (bZ HOW.o fun g' cur' hh hc=>hg2.block g' (aB hc) (by simp only[ne_eq,Option.some.injEq];exact aO hc kZ.o (by decide)));clear hr2 hg2;go_wp2_with (go_at_call 152;refine(adX.o _ HR2.o b2 HG2.o).mono ?_);rintro e w3 ⟨p1,p2,p3⟩;have aK:=ae (dK HG2.o p3)
  cases KR with
  | error ec =>
   obtain⟨ec1,ec2⟩:=ec;obtain⟨ka,kb,v,rfl,F,rfl,hF⟩:=p2 ec1 ec2 rfl;have dZ:Hd (dF w3 (.iface 130 (.pointer (some ⟨F,0,none⟩))) E ec1 ec2):=⟨F,rfl,hF⟩;have az:Hd (S=.error (ec1,ec2)):=vK.o.symm;clear p1 p2 p3 hF;have dW:Hd (w.grownBy (w3.alloc (.cells #[.string ka,.int .i64 kb] 213)) (some R)):=aG aK.o (World.grownBy_alloc _ _ none);have bi:Hd (dF (w3.alloc (.cells #[.string ka,.int .i64 kb] 213)) (.iface 130 (.pointer (some ⟨F,0,none⟩))) E ec1 ec2):=FaultV.grow dZ.o (World.grownBy_alloc _ _ none);go_wp2;refine bodyPost_ret (results_tmp2 (t:=2) (u:=3) rfl _ _ _) rfl ?_;rw[az.o];exact⟨fun l j hh=>(by cases hh),fun c p hh=>(by cases hh;exact⟨F,rfl,bi.o⟩),dW.o⟩
  | ok q =>
   obtain⟨kk,j⟩:=q;obtain⟨rfl,hr3⟩:=p1 kk j rfl;obtain⟨k1,k2⟩:=adW.o kk j b2 rfl;have hown3:=bZ adY.o fun g' cur' hh hc=>p3.block g' (aB hc) (by simp only[ne_eq,Option.some.injEq];exact aO hc HR2.o (by decide))
   have HR3:=ae hr3;have hnb:=heap_alloc_new (w3.alloc (.cells #[.string ⟨kk.toArray⟩,.int .i64 (j0:Nat)] 213)) (.cells #[.string ⟨kk.toArray⟩,.int .i64 (j0:Nat)] 213);rw[World.size_alloc]at hnb;have KX:=ae hnb;have hsz3:=aK.o.size;have hone:=adU (kk,j0)
   try simp only[]at hone
   clear p1 p2 p3 hr3 hnb;go_wp2_with (first|(at_builtin;refine wpList_append_lies _ rfl _ _ 208 rfl w.heap.size 213 i0 _ 2 24 underlying208 hi0 hz0 hz1 hzb rfl (by decide) u4 acc.length (qF acc) rfl ((hown3.alloc _).alloc _) ⟨w3.heap.size+1,0,none⟩ 1 1 [.string ⟨kk.toArray⟩,.int .i64 (j0:Nat)] rfl rfl (World.news_of_block KX.o) hone (by omega) (by unfold maxLen;omega) (by omega) (by simp;omega) _ rfl ?_));intro g cap w6 hown6 hgrow hat hlt6;have lu:=(HR3.o.grow (World.grownBy_alloc w3 (.cells #[.string ⟨kk.toArray⟩,.int .i64 (j0:Nat)] 213) none)).grow (World.grownBy_alloc _ (.cells #[.string ⟨kk.toArray⟩,.int .i64 (j0:Nat)] 213) none);have hown5:=(hown3.alloc (.cells #[.string ⟨kk.toArray⟩,.int .i64 (j0:Nat)] 213)).alloc (.cells #[.string ⟨kk.toArray⟩,.int .i64 (j0:Nat)] 213);have oh:Hd (Rd w6 R s j T):=(hgrow.block R (aB lu) (fun e=>by
    obtain⟨-,cc,hcc⟩:=bH hown5 e.symm;exact aO lu hcc (by decide) rfl)).trans lu
   have mD:=ae (NW (aG (aG aK.o (World.grownBy_alloc _ _ none)) (World.grownBy_alloc _ _ none)) hgrow (fun b hb=>(bH hown5 hb).1));have adZ:Hd (w6.ownsRow w.heap.size 213 2 (.slice (some ⟨g,0,none⟩) (acc.length+1) cap) (acc.length+1) (qF (acc++[(kk,j0)]))):=by
    show World.ownsRow _ _ _ _ _ _ _;rw[adQ];exact hown6
   have C7:=CS.o j w6 oh.o k2;obtain⟨d1,d2⟩:=fP.o j k2;have Eg:=vK.o
   try simp only[]at Eg
   obtain⟨j7,Eh⟩:=zN (bl s.data.toList j);rw[Eh]at C7 d1 d2 Eg;have NZ:=ae C7;have V9:=ae (bP.o j7);have C8:=ae (fun w' (hh:Rd w' R s j7 T)=>CN.o j7 w' hh d2);obtain⟨y,hy⟩:=zN (nx s.data.toList j7);rw[hy]at Eg V9 C8;have We:Hd (_=S):=Eg;clear hown6 hgrow hat hlt6 lu hown5 hown3 C7 Eg Eh hy hone hsz3;go_wp2_with (first|(go_at_call 103;refine NZ.o.mono ?_));rintro e w7 ⟨rfl,Wh,lT⟩;have wW:=ae Wh;have o6:=ae (dK mD.o lT);have ad1:=ae (bZ adZ.o fun g' cur' hh hc=>lT.block g' (aB hc) (by simp only[ne_eq,Option.some.injEq];exact aO hc oh.o (by decide)));clear Wh lT;go_wp2_with (first|(go_at_call 104;refine(C8.o _ wW.o).mono ?_));rintro e w8 ⟨rfl,oz⟩;have uY:=ae (wW.o.grow oz);have Hl:=ae (aG o6.o oz);have Wi:=ae (bZ ad1.o fun g' cur' hh hc=>oz.block g' (aB hc) (by simp))
   clear oz;have nM:Hd ((acc++[(kk,j0)]).length=acc.length+1):=by show _=_;simp
   by_cases c46:y=46
   ·have e46:(y != 46)=false:=by simp[c46]
    have hjl:=V9.o c46;have gq:Hd (ik s.data.toList f (j7+1) (acc++[(kk,j0)])=S):=by
     have:=We.o;rw[if_pos c46]at this;exact this
    obtain⟨-,r1,-,rf⟩:=uY.o.cells;have rf1:=rf 1;have Wj:Hd (Rd (w8.setCell ⟨R,1,none⟩ (.int .i64 ((j7:Int)+1))) R s (j7+1) T):=uY.o.set (j7+1);have HO9:Hd ((w8.setCell ⟨R,1,none⟩ (.int .i64 ((j7:Int)+1))).ownsRow w.heap.size 213 2 (.slice (some ⟨g,0,none⟩) (acc.length+1) cap) (acc++[(kk,j0)]).length (qF (acc++[(kk,j0)]))):=by
     show World.ownsRow _ _ _ _ _ _ _;rw[nM.o];exact bZ Wi.o fun g' cur' hh hc=>heap_setCell_other _ _ _ _ (aO hc uY.o (by decide))
    clear c46 rf;go_wp2;go_roundw
    case rel=>exact⟨rfl,rfl,j7+1,f,acc++[(kk,j0)],Wj.o,by omega,HO9.o,aS Hl.o 1 _,by omega,gq.o,by rw[nM.o];omega⟩
    case measure =>
     rw[ig.o,Wj.o.cells.2.1];simp;omega
   ·have e46:(y != 46)=true:=by simp[c46]
    have az:Hd (S=.ok (acc++[(kk,j0)],j7)):=by
     have:=We.o;rw[if_neg c46]at this;exact this.symm
    clear c46;go_wp2;refine bodyPost_ret (results_tmp2 (t:=2) (u:=3) rfl _ _ _) rfl ?_;rw[az.o];obtain⟨hky,hcp⟩:=adR Wi.o nM.o;exact⟨fun l j hh=>(by cases hh;exact⟨g,cap,by rw[nM.o];rfl,hky,by rw[nM.o];exact hcp,uY.o⟩),fun c p hh=>(by cases hh),Hl.o⟩
end Go.Proofs.YtnnbgjaphfhibaaGreatDoor
