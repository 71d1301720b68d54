import Derived.Test.YtnnbgjaphfhibaaGreatDoorM13
import Derived.Test.YtnnbgjaphfhibaaGreatDoorM06
import Derived.Test.YtnnbgjaphfhibaaGreatDoorM10
import Derived.Test.YtnnbgjaphfhibaaGreatDoorM12
import Derived.Test.YtnnbgjaphfhibaaGreatDoorM03
import Derived.Laws.ResultCell
import Derived.Shelf.Strconv.AtoiAll
import Derived.Test.YtnnbgjaphfhibaaGreatDoorProg
import Derived.Test.YtnnbgjaphfhibaaGreatDoorM08
import Derived.Lib.AtoiTie
set_option linter.unusedVariables false
set_option linter.unusedSimpArgs false
set_option maxRecDepth 100000
set_option maxHeartbeats 6400000
open Go.Proofs.Tryz
namespace Go.Proofs.YtnnbgjaphfhibaaGreatDoor
open Go.RowKit Go.Maps Go.WideMaps Go.Joins
theorem Tr.own{w:World}{B T:Nat}{ns:List Tn}{own:List Nat}{now:Nat}(h:Tr w B T ns own now)(W:WF ns own){p q:Nat}(h0:¬ak ns p=0)(hq:q∈ae ns p):Tr w B T ns (q :: own) now:=by
 obtain⟨N,c,M,xs,ks,e⟩:=h;refine⟨N,c,M,xs,ks,?_⟩;rw[Yv ns own W p q h0 hq];exact⟨e.blk,e.bT,e.row,e.cel,e.kid,e.apart,e.map.mono (by simp),e.bM⟩
theorem aaG{w:World}{B T:Nat}{ns:List Tn}{own:List Nat}{now:Nat}(h:Tr w B T ns own now){H:Nat}{cs:Array Value}(hH:w.heap[H]?=some (.cells cs 265 (0,0)))(o:Nat)(v:Value):Tr (w.setCell ⟨H,o,none⟩ v) B T ns own now:=by
 obtain⟨N,c,M,xs,ks,e⟩:=h;exact⟨N,c,M,xs,ks,e.keeps (Gp hH (by decide) (by decide) (by decide) o v)⟩
theorem Su(ns:List Tn)(up:Nat)(n:Tn)(hu:up<ns.length):ns.length∈ae (addN ns up n) up:=by
 rw[jM ns up n hu,if_neg (by omega),if_pos rfl];simp
theorem aaH(B T:Nat)(ns:List Tn)(own:List Nat)(now t:Nat)(E:Int->TypeId × Value)(k:List UInt8)(pl:Nat)(w:World)(h:Tr w B T ns own now)(W:WF ns own)(ht:t<ns.length)(h0:ak ns t=0)(hsz:ns.length+own.length<=900000)(hk:k.length<=1048576)(he:Es w E) :
  Calls prog 191 #[.pointer (some ⟨T,0,none⟩),.int .i64 (t:Nat),.agg #[.string ⟨k.toArray⟩,.int .i64 (pl:Nat)]] w (zq B T own now E (gp ns t k pl) w):=by
 have CW:Hd (∀w,Calls prog 195 #[.iface (E 5).1 (E 5).2,.int .i64 (pl:Nat)] w fun e w'=>(∃v,e=.returned v/\FaultV w' v pl (E 5).1 (E 5).2)/\w.grownBy w' none):=fun w=>rV pl _ _ w
 have CA:Hd (ai ns t k=none->∀w',w.grownBy w' none->Calls prog 196 #[.pointer (some ⟨T,0,none⟩),.int .i64 (t:Nat),.int .i64 2,.agg #[.string ⟨k.toArray⟩,.int .i64 (pl:Nat)]] w' (qU B T ns own now t ⟨2,k,[],0,[],pl⟩ w')):=fun hn w' hg=>zk B T ns own now t 2 k pl w' (h.gb hg) W ht (fun _=>hn) (by omega) hk
 have CB:Hd (∀w',Tr w' B T (addN ns t ⟨2,k,[],0,[],pl⟩) own now->Calls prog 196 #[.pointer (some ⟨T,0,none⟩),.int .i64 (ns.length:Nat),.int .i64 0,.agg #[.string ⟨#[]⟩,.int .i64 (pl:Nat)]] w' (qU B T (addN ns t ⟨2,k,[],0,[],pl⟩) own now ns.length ⟨0,[],[],0,[],pl⟩ w')):=fun w' hg=>zk B T _ own now ns.length 0 [] pl w' hg (qK ns own t _ rfl ht W) (by rw[dh];omega) (fun h2=>by rw[fA ns t _ ht,if_pos rfl]at h2;exact absurd (show(2:Int)=0 from h2) (by decide)) (by rw[dh];omega) (by simp)
 have CQ:Hd (∀q,q<ns.length->ak ns q=2->∀w',w.grownBy w' none->Calls prog 196 #[.pointer (some ⟨T,0,none⟩),.int .i64 (q:Nat),.int .i64 0,.agg #[.string ⟨#[]⟩,.int .i64 (pl:Nat)]] w' (qU B T ns own now q ⟨0,[],[],0,[],pl⟩ w')):=fun q hq h2 w' hg=>zk B T ns own now q 0 [] pl w' (h.gb hg) W hq (fun h3=>by rw[h2]at h3;exact absurd h3 (by decide)) (by omega) (by simp)
 have ku:Hd (gp ns t k pl=match ai ns t k with|none=>.ok (ns.length+1,addN (addN ns t ⟨2,k,[],0,[],pl⟩) ns.length ⟨0,[],[],0,[],pl⟩)|some q=>if ak ns q=2 then .ok (ns.length,addN ns q ⟨0,[],[],0,[],pl⟩) else .error (5,pl)):=rfl;have zn:Hd (∀q,ai ns t k=some q->q<ns.length):=fun q hq=>KX W hq
 have sH:Hd (WF ns own):=W;have nD:Hd (Tr w B T ns own now):=h;have hB:B<=w.heap.size:=h.base;obtain⟨N,c,M,xs,ks,hD⟩:=h;have eX:w.grownBy (w.alloc (.cells #[.string ⟨k.toArray⟩,.int .i64 (pl:Nat)] 213)) none:=World.grownBy_alloc w _ none;have bZ:=heap_alloc_new w (.cells #[.string ⟨k.toArray⟩,.int .i64 (pl:Nat)] 213);obtain⟨K,jg⟩:=zN (w.heap.size);rw[jg]at bZ;have hD1:=hD.keeps (ny eX);have he1:=xY he eX;obtain⟨w1,hw1⟩:=zN (w.alloc (.cells #[.string ⟨k.toArray⟩,.int .i64 (pl:Nat)] 213));rw[hw1]at bZ hD1 eX he1;obtain⟨-,t1,-,-⟩:=hD1.cells;have k0:=(iF bZ).1;have gA:w1.grownBy (w1.alloc (.cells #[.int .i64 0,.bool false] 265)) none:=World.grownBy_alloc w1 _ none;have t1A:=gA.cell t1 (by simp);have k0A:=gA.cell k0 (by simp);have l1:=zl hD1 t k h0 (by omega) hk w1.drew (lg w1);have l2:=zl hD1 t k h0 (by omega) hk (w1.alloc (.cells #[.int .i64 0,.bool false] 265)).drew (pR w1 _)
 have ay:Hd (w.grownBy w1 none):=eX;have kY:Hd (w1.heap[K]?=some (.cells #[.string ⟨k.toArray⟩,.int .i64 (pl:Nat)] 213 (0,0))):=bZ;have HD1:Hd (TrD w1 B T ns now N c M xs ks (ns.length+own.length) (hold ns own)):=hD1;have dP:Hd (∀w' v,FaultV w' v pl (E 5).1 (E 5).2->aV w' v E 5 pl):=fun _ _ h=>h
 have vY:Hd (∀w',w1.grownBy w' none->w'.cell? ⟨3,0,none⟩=some (.iface (E 5).1 (E 5).2)):=fun w' hg=>(xY he1 hg).tw
 obtain⟨ty,hty⟩:=zN ((E 5).1);obtain⟨pv,hpv⟩:=zN ((E 5).2);rw[hty,hpv]at CW dP vY;obtain⟨S,hS⟩:=zN (gp ns t k pl);rw[hS]at ku ⊢;clear hD bZ hD1 eX he1 he hty hpv gA hS W
 cases hq:ai ns t k with
 | none =>
  have az:Hd (S=.ok (ns.length+1,addN (addN ns t ⟨2,k,[],0,[],pl⟩) ns.length ⟨0,[],[],0,[],pl⟩)):=by show S=_;rw[ku.o,hq]
  have BO:Hd (∀w',w.grownBy w' none->Calls prog 196 #[.pointer (some ⟨T,0,none⟩),.int .i64 (t:Nat),.int .i64 2,.agg #[.string ⟨k.toArray⟩,.int .i64 (pl:Nat)]] w' (qU B T ns own now t ⟨2,k,[],0,[],pl⟩ w')):=CA.o hq;have KZ:Hd ((addN ns t ⟨2,k,[],0,[],pl⟩).length=ns.length+1):=dh _ _ _;have HOW:Hd (∀w',Tr w' B T (addN (addN ns t ⟨2,k,[],0,[],pl⟩) ns.length ⟨0,[],[],0,[],pl⟩) own now->Tr w' B T (addN (addN ns t ⟨2,k,[],0,[],pl⟩) ns.length ⟨0,[],[],0,[],pl⟩) ((ns.length+1) :: own) now):=fun w' hh=>by
   have hu:ns.length<(addN ns t ⟨2,k,[],0,[],pl⟩).length:=by rw[dh];omega
   have hw1:=qK ns own t ⟨2,k,[],0,[],pl⟩ rfl ht sH.o;have hm:=Su (addN ns t ⟨2,k,[],0,[],pl⟩) ns.length ⟨0,[],[],0,[],pl⟩ hu;rw[dh]at hm;refine hh.own (qK _ own ns.length ⟨0,[],[],0,[],pl⟩ rfl hu hw1) (p:=ns.length) ?_ hm;rw[fA _ _ _ hu,if_neg (by rw[dh];omega),fA _ _ _ ht,if_pos rfl];exact fun hh=>absurd (show(2:Int)=0 from hh) (by decide)
  rw[hq]at l1 l2;simp only[]at l1 l2;clear hq;go_enter func191,ntmps191;go_upto_region 1 with fail
  go_cut [8,9] from 10 (fun v8 v9 wx=>∃H:Nat,v8=.pointer (some ⟨H,0,none⟩)/\wx.heap[H]?=some (.cells #[.int .i64 0,.bool false] 265 (0,0))/\v9=.bool false/\w1.grownBy wx none/\w1.heap.size<=H)
  case first =>
   go_region
   all_goals (
    go_wp2_with fail;go_meet;exact⟨_,rfl,heap_alloc_new w1 _,rfl,pR w1 _,Nat.le_refl _⟩)
  case rest =>
   obtain⟨H,rfl,hH,rfl,hgc,hHw⟩:=hcut;have zt:Hd (w.heap.size<=H):=Nat.le_trans ay.o.size hHw;have bJ:Hd (w.grownBy wc none):=ah ay.o hgc;obtain⟨kc0,kc1,-⟩:=iF (jy kY.o hgc);have qW:Hd (wc.heap[H]?=some (.cells #[.int .i64 0,.bool false] 265 (0,0))):=hH;have zx:Hd (wc.heap[K]?=some (.cells #[.string ⟨k.toArray⟩,.int .i64 (pl:Nat)] 213 (0,0))):=jy kY.o hgc;clear hgc hH hHw t1 t1A k0 k0A l1 l2;go_wp2_with (go_at_call 196;refine(BO.o _ bJ.o).mono ?_);rintro e w3 ⟨rfl,ht3,hf3⟩;have hH3:=(hf3.oth _ _ _ _ qW.o (by decide) (by decide) (by decide)).trans qW.o;have hK3:=(hf3.oth _ _ _ _ zx.o (by decide) (by decide) (by decide)).trans zx.o;obtain⟨hh0,hh1,sJ⟩:=iF hH3;have Sr:=sJ 0;obtain⟨kk0,kk1,-⟩:=iF hK3;have hkne:¬K=H:=aP hK3 hH3 (by decide);have HT4:Hd (Tr (w3.setCell ⟨H,0,none⟩ (.int .i64 (ns.length:Nat))) B T (addN ns t ⟨2,k,[],0,[],pl⟩) own now):=aaG ht3 hH3 0 _
   have HF3:Hd (Fr B wc w3):=hf3;clear hH3 hK3 ht3 hf3 sJ kc0 kc1;go_wp2_with (go_at_call 196;refine(CB.o _ HT4.o).mono ?_;rintro e w4 ⟨rfl,pU,hf4⟩);refine bodyPost_ret (results_tmp2 (t:=6) (u:=7) rfl _ _ _) rfl ?_;rw[az.o];refine⟨fun t' ns' hh=>(by cases hh;exact⟨by rw[KZ.o];rfl,HOW.o _ pU⟩),fun c p hh=>(by cases hh),(Gq ((Fr.gb bJ.o hB).two HF3.o) hB zt.o 0 _).two hf4⟩
 | some q =>
  have dN:=zn.o q hq;obtain⟨x,hx⟩:=zN (ns[q]);have hkx:ak ns q=x.kd:=by unfold ak;rw[List.getElem?_eq_getElem dN,hx]
  have dZ:Hd (S=if x.kd=2 then .ok (ns.length,addN ns q ⟨0,[],[],0,[],pl⟩) else .error (5,pl)):=by
   show S=_;rw[ku.o,hq];simp only[hkx]
  have BP:Hd (ns[q]=x):=hx;have zy:Hd (ak ns q=x.kd):=hkx;rw[hq]at l1 l2;simp only[]at l1 l2;generalize decide (q∈own)=bb at l1 l2;clear hq hx hkx;go_enter func191,ntmps191;go_upto_region 1 with fail
  go_cut [8,9] from 10 (fun v8 v9 wx=>∃H:Nat,v8=.pointer (some ⟨H,0,none⟩)/\wx.heap[H]?=some (.cells #[.int .i64 (q:Nat),.bool bb] 265 (0,0))/\v9=.bool true/\w1.grownBy wx none)
  case first =>
   go_region
   all_goals (
    go_wp2_with fail;go_meet;exact⟨_,rfl,heap_alloc_new w1 _,rfl,pR w1 _⟩)
  case rest =>
   obtain⟨H,rfl,hH,rfl,hgc⟩:=hcut;have bJ:Hd (w.grownBy wc none):=ah ay.o hgc;obtain⟨kc0,kc1,-⟩:=iF (jy kY.o hgc);have hDc:=HD1.o.keeps (ny hgc);obtain⟨hh0,hh1,sJ⟩:=iF hH;obtain⟨T0,-,-,-⟩:=hDc.cells;obtain⟨n0,-,-,-,-,-,-⟩:=hDc.node q dN;rw[BP.o]at n0;have twc:=vY.o _ hgc;obtain⟨z,hz⟩:=zN (x.kd);rw[hz]at n0 dZ zy;clear hgc hH hDc sJ hz t1 t1A k0 k0A l1 l2
   by_cases hok:z=2
   ·have az:Hd (S=.ok (ns.length,addN ns q ⟨0,[],[],0,[],pl⟩)):=by show S=_;rw[dZ.o,if_pos hok]
    have hzb:(z != 2)=false:=by simp[hok]
    have eY:Hd (ak ns q=2):=zy.o.trans hok;have Lc:Hd (∀w',w.grownBy w' none->Calls prog 196 #[.pointer (some ⟨T,0,none⟩),.int .i64 (q:Nat),.int .i64 0,.agg #[.string ⟨#[]⟩,.int .i64 (pl:Nat)]] w' (qU B T ns own now q ⟨0,[],[],0,[],pl⟩ w')):=CQ.o q dN eY.o;have HOW:Hd (∀w',Tr w' B T (addN ns q ⟨0,[],[],0,[],pl⟩) own now->Tr w' B T (addN ns q ⟨0,[],[],0,[],pl⟩) (ns.length :: own) now):=fun w' hh=>by
     refine hh.own (qK ns own q ⟨0,[],[],0,[],pl⟩ rfl dN sH.o) (p:=q) ?_ (Su ns q _ dN);rw[fA _ _ _ dN,if_neg (by omega),eY.o];exact fun hh=>absurd hh (by decide)
    clear hok;go_upto_region 4 with fail
    go_quiet (fail);go_wp2_with (go_at_call 196;refine(Lc.o _ (aj bJ.o _)).mono ?_;rintro e w4 ⟨rfl,pU,hf4⟩);refine bodyPost_ret (results_tmp2 (t:=6) (u:=7) rfl _ _ _) rfl ?_;rw[az.o];exact⟨fun t' ns' hh=>(by cases hh;exact⟨rfl,HOW.o _ pU⟩),fun c p hh=>(by cases hh),(Fr.gb (aj bJ.o _) hB).two hf4⟩
   ·have az:Hd (S=.error (5,pl)):=by show S=_;rw[dZ.o,if_neg hok]
    have hzb:(z != 2)=true:=by simp[hok]
    clear hok;go_upto_region 4 with fail
    go_quiet (fail);go_wp2_with (go_at_call 195;refine(CW.o _).mono ?_;rintro e w5 ⟨⟨v,rfl,hv⟩,hg5⟩);refine bodyPost_ret (results_tmp2 (t:=6) (u:=7) rfl _ _ _) rfl ?_;rw[az.o];exact⟨fun t' ns' hh=>(by cases hh),fun c p hh=>(by cases hh;exact⟨v,rfl,dP.o _ _ hv,ns,nD.o.gb (ah (aj bJ.o _) hg5)⟩),Fr.gb (ah (aj bJ.o _) hg5) hB⟩
open Go.RowKit Go.Maps Go.WideMaps Go.Joins
structure Lo(B:Nat):Prop where
 te:6<B
 ra:1<B
 ma:2<B
 tw:3<B
theorem yc{w w':World}{B:Nat}(hb:Below B w w')(a:Addr)(h:a.block<B):w'.cell? a=w.cell? a:=World.cell?_of_block (hb.block a.block h)
theorem Es.bel{w w':World}{E:Int->TypeId × Value}{B:Nat}(h:Es w E)(hL:Lo B)(hb:Below B w w'):Es w' E :=
 ⟨(yc hb _ hL.te).trans h.te,(yc hb _ hL.ra).trans h.ra,(yc hb _ hL.ma).trans h.ma,(yc hb _ hL.tw).trans h.tw⟩
def KyR(w:World)(g:Nat)(l:List (List UInt8 × Nat)):Prop:=∃cur:Array Value,w.heap[g]?=some (.cells cur 213 (0,0))/\∀i (hi:i<l.length),cur[i*2]?=some (.string ⟨l[i].1.toArray⟩)/\cur[i*2+1]?=some (.int .i64 (l[i].2:Nat))
theorem KyR.fr{w w':World}{B g:Nat}{l:List (List UInt8 × Nat)}(h:KyR w g l)(hf:Fr B w w'):KyR w' g l:=by
 obtain⟨cur,h1,h2⟩:=h;exact⟨cur,(hf.oth _ _ _ _ h1 (by decide) (by decide) (by decide)).trans h1,h2⟩
theorem KyR.at{w:World}{g:Nat}{l:List (List UInt8 × Nat)}(h:KyR w g l)(i:Nat)(hi:i<l.length):w.cell? ⟨g,i*2,none⟩=some (.string ⟨l[i].1.toArray⟩)/\w.cell? ⟨g,i*2+1,none⟩=some (.int .i64 (l[i].2:Nat)):=by
 obtain⟨cur,h1,h2⟩:=h;obtain⟨a,b⟩:=h2 i hi;exact⟨by rw[af h1];exact a,by rw[af h1];exact b⟩
theorem Sv{w:World}{v:Value}{E:Int->TypeId × Value}{c:Int}{p T o:Nat}{cs:Array Value}{x:Value}(h:aV w v E c p)(hT:w.heap[T]?=some (.cells cs 129 (0,0))):aV (w.setCell ⟨T,o,none⟩ x) v E c p:=by
 obtain⟨F,h1,h2⟩:=h;exact⟨F,h1,(heap_setCell_other _ _ _ _ (aP h2 hT (by decide))).trans h2⟩
def Sz(B T:Nat)(own:List Nat)(E:Int->TypeId × Value)(r:Rs (Nat × List Tn))(w:World)(e:Ending)(w':World):Prop :=
 (∀t ns,r=.ok (t,ns)->e=.returned .nilIface/\Tr w' B T ns (t :: own) t)/\(∀c p,r=.error (c,p)->∃v,e=.returned v/\aV w' v E c p)/\Fr B w w'
theorem Tr.blk{w:World}{B T:Nat}{ns:List Tn}{own:List Nat}{now:Nat}(h:Tr w B T ns own now):(∃cs,w.heap[T]?=some (.cells cs 129 (0,0)))/\B<=T:=by
 obtain⟨N,c,M,xs,ks,hD⟩:=h;exact⟨⟨_,hD.blk⟩,hD.bT⟩
theorem Tr.hand{w:World}{B T:Nat}{ns:List Tn}{own:List Nat}{now:Nat}(h:Tr w B T ns own now)(m:Nat):Tr (w.setCell ⟨T,2,none⟩ (.int .i64 (m:Nat))) B T ns own m:=by
 obtain⟨N,c,M,xs,ks,hD⟩:=h;exact⟨N,c,M,xs,ks,hD.hand m⟩
theorem Fr.hand{w w1:World}{B T:Nat}{cs:Array Value}(h:Fr B w w1)(hT:w1.heap[T]?=some (.cells cs 129 (0,0)))(hB:B<=T)(v:Value):Fr B w (w1.setCell ⟨T,2,none⟩ v):=h.two (Fr.row (iM w1 T 2 v) (Nat.le_of_lt (Nat.lt_of_le_of_lt hB (aB hT))) hB hT (Or.inl rfl))
theorem Tr.two{w:World}{B T:Nat}{ns:List Tn}{own:List Nat}{now:Nat}(h:Tr w B T ns own now):w.cell? ⟨T,2,none⟩=some (.int .i64 (now:Nat))/\w.frozen? ⟨T,2,none⟩=false:=by
 obtain⟨N,c,M,xs,ks,hD⟩:=h;obtain⟨-,-,h2,h3⟩:=hD.cells;exact⟨h2,h3 2⟩
theorem aaI(B T:Nat)(ns:List Tn)(own:List Nat)(now:Nat)(E:Int->TypeId × Value)(l:List (List UInt8 × Nat))(many:Bool)(g c d:Nat)(w:World)(h:Tr w B T ns own now)(J:Jt ns own 0)(hl:l.length=d+1)(hc:d+1<=c)(hK:KyR w g l)(hsz:ns.length+own.length+d<=800000)(hk:∀x∈l,x.1.length<=1048576)(he:Es w E)(hL:Lo B) :
  Calls prog 149 #[.pointer (some ⟨T,0,none⟩),.slice (some ⟨g,0,none⟩) (d+1) c,.bool many] w (Sz B T own E (way many own l 0 ns) w):=by
 have CP:Hd (∀(m:List Tn) (t i:Nat) (hi:i<l.length) w',Tr w' B T m own now->Jt m own t->m.length<=ns.length+d->Fr B w w'->Calls prog 190 #[.pointer (some ⟨T,0,none⟩),.int .i64 (t:Nat),.agg #[.string ⟨l[i].1.toArray⟩,.int .i64 (l[i].2:Nat)]] w' (KW B T own now E (fO m t l[i].1 l[i].2) w')):=fun m t i hi w' h1 j hm hf=>aaD B T m own now t E l[i].1 l[i].2 w' h1 j.wf j.wt j.lt j.kd (by omega) (hk _ (List.getElem_mem hi)) (he.bel hL hf.bel)
 have CT:Hd (∀(m:List Tn) (t i:Nat) (hi:i<l.length) w',Tr w' B T m own now->Jt m own t->m.length<=ns.length+d->Fr B w w'->Calls prog 192 #[.pointer (some ⟨T,0,none⟩),.int .i64 (t:Nat),.agg #[.string ⟨l[i].1.toArray⟩,.int .i64 (l[i].2:Nat)]] w' (zq B T own now E (gm m own t l[i].1 l[i].2) w')):=fun m t i hi w' h1 j hm hf=>aaE B T m own now t E l[i].1 l[i].2 w' h1 j.wf j.lt j.kd (by omega) (hk _ (List.getElem_mem hi)) (he.bel hL hf.bel)
 have CL:Hd (∀(m:List Tn) (t i:Nat) (hi:i<l.length) w',Tr w' B T m own now->Jt m own t->m.length<=ns.length+d->Fr B w w'->Calls prog 191 #[.pointer (some ⟨T,0,none⟩),.int .i64 (t:Nat),.agg #[.string ⟨l[i].1.toArray⟩,.int .i64 (l[i].2:Nat)]] w' (zq B T own now E (gp m t l[i].1 l[i].2) w')):=fun m t i hi w' h1 j hm hf=>aaH B T m own now t E l[i].1 l[i].2 w' h1 j.wf j.lt j.kd (by omega) (hk _ (List.getElem_mem hi)) (he.bel hL hf.bel)
 have hwd:wrap64 (d:Int)=(d:Int):=RZ d (by omega);have hwd2:(wrap64 (d:Int)).toNat=d:=by rw[hwd];exact Int.toNat_natCast d
 have nD:Hd (Tr w B T ns own now):=h;have HB:Hd (B<=w.heap.size):=h.base;have HJ:Hd (Jt ns own 0):=J;have HK:Hd (KyR w g l):=hK;have HL:Hd (l.length=d+1):=hl;have HW1:Hd (∀i (hi:i<l.length) t m,i+1<l.length->way many own (l.drop i) t m=match fO m t l[i].1 l[i].2 with | .error e=>.error e | .ok (t1,ns1)=>way many own (l.drop (i+1)) t1 ns1):=fun i hi t m h2=>by
  rw[List.drop_eq_getElem_cons hi,List.drop_eq_getElem_cons h2];exact A8 many own l[i].1 l[i].2 l[i+1] _ t m
 have HW0:Hd (∀i (hi:i<l.length) t m,i+1=l.length->way many own (l.drop i) t m=if many=true then gp m t l[i].1 l[i].2 else gm m own t l[i].1 l[i].2):=fun i hi t m h2=>by
  rw[List.drop_eq_getElem_cons hi,List.drop_eq_nil_of_le (by omega)];exact A7 many own l[i].1 l[i].2 t m
 obtain⟨S,hS⟩:=zN (way many own l 0 ns);have HS:Hd (way many own l 0 ns=S):=hS;rw[hS];clear h J hK he hk hS hl;go_enter func149,ntmps149;go_wp2;go_loopw [8,21] (fun v8 v21 wr=>∃(i t:Nat) (m:List Tn),v21=.int .i64 (i:Nat)/\v8=.int .i64 (t:Nat)/\i<=d/\Jt m own t/\Tr wr B T m own now/\way many own (l.drop i) t m=S/\m.length<=ns.length+i/\Fr B w wr) (fun _ v21 _=>d-(intOf v21).toNat)
 case atStart=>exact⟨0,0,ns,rfl,rfl,Nat.zero_le _,HJ.o,nD.o,HS.o,Nat.le_refl _,Fr.gb (ax w none) HB.o⟩
 case round =>
  obtain⟨i,t,m,rfl,rfl,hi,hj,htr,gQ,hml,hfr⟩:=hrel;have HJm:Hd (Jt m own t):=hj;have SA:Hd (Tr wr B T m own now):=htr;have sK:Hd (Fr B w wr):=hfr;have hil:i<l.length:=by have:=HL.o;omega
  obtain⟨a1,a2⟩:=(HK.o.fr hfr).at i hil
  by_cases hlt:i<d
  ·rw[HW1.o i hil t m (by have:=HL.o;omega)]at gQ;have wu:Hd ((match fO m t l[i].1 l[i].2 with | .error e=>.error e | .ok (t1,ns1)=>way many own (l.drop (i+1)) t1 ns1)=S):=gQ;have uw:Hd (∀w',Tr w' B T m own now->Fr B w w'->Calls prog 190 #[.pointer (some ⟨T,0,none⟩),.int .i64 (t:Nat),.agg #[.string ⟨l[i].1.toArray⟩,.int .i64 (l[i].2:Nat)]] w' (KW B T own now E (fO m t l[i].1 l[i].2) w')):=fun w' h1 h2=>CP.o m t i hil w' h1 hj (by omega) h2
   have HST:Hd (∀t1 m1,fO m t l[i].1 l[i].2=.ok (t1,m1)->Jt m1 own t1/\m.length<=m1.length/\m1.length<=m.length+1):=fun t1 m1 hs=>AZ hj hs
   obtain⟨x,hx⟩:=zN (l[i]);rw[hx]at a1 a2 uw wu HST;obtain⟨R,hR⟩:=zN (fO m t x.1 x.2);rw[hR]at uw wu HST;have hgA:wr.grownBy (wr.alloc (.cells #[.string ⟨x.1.toArray⟩,.int .i64 (x.2:Nat)] 213)) none:=World.grownBy_alloc wr _ none;have HTA:Hd (Tr (wr.alloc (.cells #[.string ⟨x.1.toArray⟩,.int .i64 (x.2:Nat)] 213)) B T m own now):=htr.gb hgA;have bK:Hd (Fr B w (wr.alloc (.cells #[.string ⟨x.1.toArray⟩,.int .i64 (x.2:Nat)] 213))):=hfr.two (Fr.gb hgA htr.base);clear hj htr gQ hfr hx hR hgA;go_wp2_with (go_at_call 190;refine(uw.o _ HTA.o bK.o).mono ?_);rintro e w2 ⟨p1,p2,p3⟩;have HF2:Hd (Fr B w w2):=bK.o.two p3
   cases R with
   | error ec =>
    obtain⟨ec1,ec2⟩:=ec;obtain⟨v,rfl,F,rfl,hF⟩:=p2 ec1 ec2 rfl;have dU:Hd (aV w2 (.iface 130 (.pointer (some ⟨F,0,none⟩))) E ec1 ec2):=⟨F,rfl,hF⟩;have az:Hd (S=.error (ec1,ec2)):=wu.o.symm;clear p1 p2 p3 hF;go_wp2;refine bodyPost_ret (results_tmp (t:=6) rfl _ _ _) rfl ?_;rw[az.o];exact⟨fun t ns hh=>(by cases hh),fun c p hh=>(by cases hh;exact⟨_,rfl,dU.o⟩),HF2.o⟩
   | ok tm =>
    obtain⟨t1,m1⟩:=tm;obtain⟨rfl,ht1⟩:=p1 t1 m1 rfl;have HT1:Hd (Tr w2 B T m1 own now):=ht1;obtain⟨j1,-,j3⟩:=HST.o t1 m1 rfl;have qF:Hd (Jt m1 own t1):=j1;have az:Hd (way many own (l.drop (i+1)) t1 m1=S):=wu.o;clear p1 p2 p3 ht1 j1;go_wp2;go_roundw
    case rel=>exact⟨i+1,t1,m1,by go_num,rfl,by omega,qF.o,HT1.o,az.o,by omega,HF2.o⟩
    case measure=>simp[intOf];omega
  ·have hid:i=d:=by omega
   subst hid;rw[HW0.o i hil t m (by have:=HL.o;omega)]at gQ;have wu:Hd ((if many=true then gp m t l[i].1 l[i].2 else gm m own t l[i].1 l[i].2)=S):=gQ;have Le:Hd (∀w',Tr w' B T m own now->Fr B w w'->Calls prog 192 #[.pointer (some ⟨T,0,none⟩),.int .i64 (t:Nat),.agg #[.string ⟨l[i].1.toArray⟩,.int .i64 (l[i].2:Nat)]] w' (zq B T own now E (gm m own t l[i].1 l[i].2) w')):=fun w' h1 h2=>CT.o m t i hil w' h1 hj (by omega) h2
   have mi:Hd (∀w',Tr w' B T m own now->Fr B w w'->Calls prog 191 #[.pointer (some ⟨T,0,none⟩),.int .i64 (t:Nat),.agg #[.string ⟨l[i].1.toArray⟩,.int .i64 (l[i].2:Nat)]] w' (zq B T own now E (gp m t l[i].1 l[i].2) w')):=fun w' h1 h2=>CL.o m t i hil w' h1 hj (by omega) h2
   obtain⟨x,hx⟩:=zN (l[i]);rw[hx]at a1 a2 Le mi wu;obtain⟨⟨csT,oN⟩,hBT⟩:=htr.blk;clear hj htr gQ hfr hx oN
   cases many with
   | true =>
    have yg:Hd (gp m t x.1 x.2=S):=wu.o;obtain⟨R,hR⟩:=zN (gp m t x.1 x.2);rw[hR]at mi yg;clear hR;go_wp2_with (go_at_call 191;refine(mi.o _ SA.o sK.o).mono ?_);rintro e w2 ⟨p1,p2,p3⟩;have HF2:Hd (Fr B w w2):=sK.o.two p3
    cases R with
    | error ec =>
     obtain⟨ec1,ec2⟩:=ec;obtain⟨v,rfl,⟨F,rfl,hF⟩,ns0,htr0⟩:=p2 ec1 ec2 rfl;have dU:Hd (aV w2 (.iface 130 (.pointer (some ⟨F,0,none⟩))) E ec1 ec2):=⟨F,rfl,hF⟩;obtain⟨⟨csT,oN⟩,-⟩:=htr0.blk;have nR:Hd (w2.heap[T]?=some (.cells csT 129 (0,0))):=oN;obtain⟨c2,f2⟩:=htr0.two;have az:Hd (S=.error (ec1,ec2)):=yg.o.symm;clear p1 p2 p3 hF oN htr0;go_wp2;refine bodyPost_ret (results_tmp (t:=6) rfl _ _ _) rfl ?_;rw[az.o];exact⟨fun t ns hh=>(by cases hh),fun c p hh=>(by cases hh;exact⟨_,rfl,Sv dU.o nR.o⟩),HF2.o.hand nR.o hBT _⟩
    | ok tm =>
     obtain⟨t1,m1⟩:=tm;obtain⟨rfl,ht1⟩:=p1 t1 m1 rfl;have HT1:Hd (Tr w2 B T m1 (t1 :: own) now):=ht1;obtain⟨⟨csT,oN⟩,-⟩:=ht1.blk;have nR:Hd (w2.heap[T]?=some (.cells csT 129 (0,0))):=oN;obtain⟨c2,f2⟩:=ht1.two;have az:Hd (S=.ok (t1,m1)):=yg.o.symm;clear p1 p2 p3 ht1 oN;go_wp2;refine bodyPost_ret (results_tmp (t:=6) rfl _ _ _) rfl ?_;rw[az.o];exact⟨fun t ns hh=>(by cases hh;exact⟨rfl,HT1.o.hand t1⟩),fun c p hh=>(by cases hh),HF2.o.hand nR.o hBT _⟩
   | false =>
    have yg:Hd (gm m own t x.1 x.2=S):=wu.o;obtain⟨R,hR⟩:=zN (gm m own t x.1 x.2);rw[hR]at Le yg;clear hR;go_wp2_with (go_at_call 192;refine(Le.o _ SA.o sK.o).mono ?_);rintro e w2 ⟨p1,p2,p3⟩;have HF2:Hd (Fr B w w2):=sK.o.two p3
    cases R with
    | error ec =>
     obtain⟨ec1,ec2⟩:=ec;obtain⟨v,rfl,⟨F,rfl,hF⟩,ns0,htr0⟩:=p2 ec1 ec2 rfl;have dU:Hd (aV w2 (.iface 130 (.pointer (some ⟨F,0,none⟩))) E ec1 ec2):=⟨F,rfl,hF⟩;obtain⟨⟨csT,oN⟩,-⟩:=htr0.blk;have nR:Hd (w2.heap[T]?=some (.cells csT 129 (0,0))):=oN;obtain⟨c2,f2⟩:=htr0.two;have az:Hd (S=.error (ec1,ec2)):=yg.o.symm;clear p1 p2 p3 hF oN htr0;go_wp2;refine bodyPost_ret (results_tmp (t:=6) rfl _ _ _) rfl ?_;rw[az.o];exact⟨fun t ns hh=>(by cases hh),fun c p hh=>(by cases hh;exact⟨_,rfl,Sv dU.o nR.o⟩),HF2.o.hand nR.o hBT _⟩
    | ok tm =>
     obtain⟨t1,m1⟩:=tm;obtain⟨rfl,ht1⟩:=p1 t1 m1 rfl;have HT1:Hd (Tr w2 B T m1 (t1 :: own) now):=ht1;obtain⟨⟨csT,oN⟩,-⟩:=ht1.blk;have nR:Hd (w2.heap[T]?=some (.cells csT 129 (0,0))):=oN;obtain⟨c2,f2⟩:=ht1.two;have az:Hd (S=.ok (t1,m1)):=yg.o.symm;clear p1 p2 p3 ht1 oN;go_wp2;refine bodyPost_ret (results_tmp (t:=6) rfl _ _ _) rfl ?_;rw[az.o];exact⟨fun t ns hh=>(by cases hh;exact⟨rfl,HT1.o.hand t1⟩),fun c p hh=>(by cases hh),HF2.o.hand nR.o hBT _⟩
open Go.RowKit Go.Joins
theorem aaJ(l:List UInt8)(i n j:Nat)(hi:i<l.length)(h:l7 l i=.ok (n,j)):(gz n).length+i<=j:=by
 have h0:=h;unfold l7 at h;split at h
 ·rename_i hx;have hlt:i+1<l.length:=bH (by rw[hx];decide);unfold um at h
  cases hf:four l 4 (i+2) 0 with
  | error e=>rw[hf]at h;cases h
  | ok q =>
   obtain⟨m,k⟩:=q;rw[hf]at h;have h2:(if nO m=true then Except.error (2,i) else Except.ok (m,k):Rs (Nat × Nat))=.ok (n,j):=h;split at h2
   ·cases h2
   ·cases h2
    obtain⟨h3,h4,h5⟩:=KA l 4 (i+2) 0 n j (by omega) hf;have:=FQ n;omega
 ·cases hc:lZ (nx l (i+1)) with
  | none=>rw[hc]at h;cases h
  | some m =>
   rw[hc]at h
   cases h
   obtain⟨h1,h2⟩:=Rk _ _ hc;unfold gz;rw[if_pos h1];simp;omega
theorem Gv(l:List UInt8):∀(f i:Nat) (acc t:List UInt8) (j:Nat),i<=l.length->str l f i acc=.ok (t,j)->i<j/\j<=l.length/\t.length+i<=acc.length+j:=by
 intro f
 induction f with
 | zero=>intro i acc t j hi h;cases h
 | succ f ih =>
  intro i acc t j hi h;rw[BD]at h;split at h
  ·rename_i hx;have:=bH (l:=l) (i:=i) (by rw[hx];decide)
   cases h
   exact⟨by omega,by omega,by omega⟩
  ·split at h
   ·rename_i hx;have hlt:=bH (l:=l) (i:=i) (by rw[hx];decide);rw[Ky]at h
    cases he:l7 l i with
    | error e=>rw[he]at h;cases h
    | ok q =>
     obtain⟨n,k⟩:=q;rw[he]at h;have h2:str l f k (acc++gz n)=.ok (t,j):=h;obtain⟨-,-,e3,e4⟩:=KC l i n k hlt he;have e5:=aaJ l i n k hlt he;obtain⟨a,b,c⟩:=ih k _ t j e4 h2;rw[List.length_append]at c;exact⟨by omega,b,by omega⟩
   ·split at h
    ·cases h
    ·split at h
     ·cases h
     ·rename_i hs;have hk:=KE l i hi;obtain⟨a,b,c⟩:=ih (i+aJ l i) _ t j hk h;have hl:(ag l i (aJ l i)).length<=aJ l i:=by
       unfold ag;simp;omega
      rw[List.length_append]at c;exact⟨by omega,b,by omega⟩
theorem ww(l:List UInt8)(i:Nat)(k:List UInt8)(j:Nat)(hi:i<=l.length)(h:bY l i=.ok (k,j)):i<j/\j<=l.length/\k.length<=l.length:=by
 unfold bY at h;split at h
 ·rename_i hx;have hlt:=bH (l:=l) (i:=i) (by rw[hx];decide);obtain⟨a,b,c⟩:=Gv l _ (i+1) [] k j (by omega) h;simp at c;exact⟨by omega,b,by omega⟩
 ·split at h
  ·cases h
  ·rename_i hn;have:=pI aO l i hi
   cases h
   refine⟨by omega,by omega,?_⟩;unfold ag;simp;omega
open Go.RowKit Go.Maps Go.WideMaps Go.Joins
structure Gl(w:World)(B:Nat)(E:Int->TypeId × Value):Prop where
 es:Es w E
 lo:Lo B
 tabs:Lib.Utf8Tabs 10 11 w
 t3:10<B
 t4:11<B
theorem Gl.bel{w w':World}{B:Nat}{E:Int->TypeId × Value}(h:Gl w B E)(hb:Below B w w'):Gl w' B E :=
 ⟨h.es.bel h.lo hb,h.lo,⟨fun c hc=>(yc hb _ h.t3).trans (h.tabs.1 c hc),fun i hi=>⟨(yc hb _ h.t4).trans (h.tabs.2 i hi).1,(yc hb _ h.t4).trans (h.tabs.2 i hi).2⟩⟩,h.t3,h.t4⟩
theorem kz{w w':World}{B R:Nat}(hg:w.grownBy w' (some R))(hR:B<=R)(hB:B<=w.heap.size):Below B w w':=⟨hg.os,hg.tape,hg.output,hg.size,fun k hk=>hg.block k (by omega) (by simp;omega)⟩
theorem Gl.gb{w w':World}{B R:Nat}{E:Int->TypeId × Value}(h:Gl w B E)(hg:w.grownBy w' (some R))(hR:B<=R)(hB:B<=w.heap.size):Gl w' B E:=h.bel (kz hg hR hB)
theorem zA{B R:Nat}(h:Lo B)(hR:B<=R):Far R:=⟨by have:=h.te;omega,by have:=h.ra;omega,by have:=h.ma;omega,by have:=h.tw;omega⟩
theorem wF{w W:World}{r:Option Nat}{b:Nat}(h:w.grownBy W r)(hb:w.heap.size<=b)(o:Nat)(v:Value):w.grownBy (W.setCell ⟨b,o,none⟩ v) r :=
 ⟨h.os,h.tape,h.output,by have:=h.size;simpa [World.setCell] using this,fun k hk hn=>(heap_setCell_other _ _ _ _ (by simp;omega)).trans (h.block k hk hn)⟩
theorem Gw{P:Program}{fn:Func}{p u:Tmp}{ty:TypeId}(h:fn.results=#[.cell p ty,.tmp u])(tmps:Array Value)(w:World)(g:Nat)(t:TypeId)(cs:Array Value)(fr:Nat × Nat)(d:TypeDesc)
  (hp:tmps.getD p undef=.pointer (some ⟨g,0,none⟩)) (hg:w.heap[g]?=some (.cells cs t fr))
  (hu:P.underlying ty=some d) (hd:(match d with | .struct _ | .array _ _=>true|_=>false)=true) (hi:(P.info? ty).map (·.size)=some cs.size) :
  (results fn tmps).run P w=.ok (.tuple #[.agg cs,tmps.getD u undef]) w:=by
 have hp':tmps[p]?.getD undef=.pointer (some ⟨g,0,none⟩):=by simpa using hp
 rw[results_cell_tmp h];simp[hp',asAddr,run_loadVar_row w g t ty cs fr d hg hu hd hi,Result.andThen]
def Gx(R:Nat)(s:ByteArray)(T:Nat)(E:Int->TypeId × Value)(i:Nat)(g:Rs (List UInt8 × Nat))(w:World)(e:Ending)(w':World):Prop :=
 (∀k j,g=.ok (k,j)->e=.returned (.tuple #[.agg #[.string ⟨k.toArray⟩,.int .i64 (i:Nat)],.nilIface])/\Rd w' R s j T)/\(∀c p,g=.error (c,p)->∃(a:ByteArray) (b:Int) (v:Value),e=.returned (.tuple #[.agg #[.string a,.int .i64 b],v])/\aV w' v E c p)/\w.grownBy w' (some R)
theorem Gy{w:World}{v:Value}{E:Int->TypeId × Value}{c:Int}{p Z o:Nat}{cs:Array Value}{x:Value}(h:aV w v E c p)(hZ:w.heap[Z]?=some (.cells cs 213 (0,0))):aV (w.setCell ⟨Z,o,none⟩ x) v E c p:=by
 obtain⟨F,h1,h2⟩:=h;exact⟨F,h1,(heap_setCell_other _ _ _ _ (aP h2 hZ (by decide))).trans h2⟩
theorem Rd.new{w:World}{R:Nat}{s:ByteArray}{i T Z o:Nat}{cs:Array Value}{x:Value}(h:Rd w R s i T)(hZ:w.heap[Z]?=some (.cells cs 213 (0,0))):Rd (w.setCell ⟨Z,o,none⟩ x) R s i T:=(heap_setCell_other _ _ _ _ (aP h hZ (by decide))).trans h
theorem Gz{w:World}{Z:Nat}{a b x y:Value}(h:w.heap[Z]?=some (.cells #[a,b] 213 (0,0))):((w.setCell ⟨Z,0,none⟩ x).setCell ⟨Z,1,none⟩ y).heap[Z]?=some (.cells #[x,y] 213 (0,0)):=block_setCell (i:=1) (block_setCell (i:=0) h x) y
theorem SB(R:Nat)(s:ByteArray)(i T B:Nat)(E:Int->TypeId × Value)(w:World)(h:Rd w R s i T)(hi:i<=s.size)(hs:s.size<=1048576)(G:Gl w B E)(hR:B<=R)(hBw:B<=w.heap.size) :
  Calls prog 152 #[.pointer (some ⟨R,0,none⟩)] w (Gx R s T E i (bY s.data.toList i) w):=by
 have CN:Hd (∀k w,Rd w R s k T->k<=s.size->Calls prog 104 #[.pointer (some ⟨R,0,none⟩)] w fun e w'=>e=.returned (.int .i64 (nx s.data.toList k))/\w.grownBy w' none):=fun k w h1 h2=>mV R s k T w h1 h2 hs
 have CB:Hd (∀c w,Calls prog 106 #[.int .i64 c] w fun e w'=>e=.returned (.bool (aO c))/\w'=w):=QX;have CH:Hd (∀k w',w.grownBy w' (some R)->Rd w' R s k T->Calls prog 156 #[.pointer (some ⟨R,0,none⟩)] w' fun e w''=>(∃v,e=.returned v/\aV w'' v E 2 k)/\w'.grownBy w'' none):=fun k w' hg hr=>(vO R s k T (E 2).1 (E 2).2 w' hr (G.gb hg hR hBw).es.te).mono fun e w'' h=>h
 have CQ:Hd (i<s.size->∀w',w.grownBy w' (some R)->Rd w' R s i T->Calls prog 193 #[.pointer (some ⟨R,0,none⟩)] w' (F7 R s T E (str s.data.toList (s.data.toList.length+1) (i+1) []) w')):=fun hlt w' hg hr=>RG R s i T E w' hr hlt hs (G.gb hg hR hBw).es (zA G.lo hR) (G.gb hg hR hBw).tabs (by have:=G.t3;omega) (by have:=G.t4;omega)
 have CC:Hd (∀(t:ByteArray) w,t.size<=1048576->Calls prog 194 #[.string t] w fun e w'=>e=.returned (.string t)/\w.grownBy w' none):=fun t w ht=>clone_any t w (by omega)
 have hl:s.data.toList.length=s.size:=by simp
 have SC:Hd (nx s.data.toList i=34->i<s.size):=fun hx=>by
  have:=bH (l:=s.data.toList) (i:=i) (by rw[hx];decide);omega
 have HST:Hd (∀k,k<s.size->aO (nx s.data.toList k)=true->toR aO s.data.toList k=toR aO s.data.toList (k+1)):=fun k hk hb=>qH aO _ k (by omega) hb
 have jO:Hd (∀k,aO (nx s.data.toList k)=false->toR aO s.data.toList k=k):=fun k hb=>lX aO _ k hb
 have cZ:Hd (∀k,k<=s.size->aO (nx s.data.toList k)=true->k<s.size):=fun k hk hb=>by
  apply Classical.byContradiction;intro hn;rw[jG _ _ (by omega)]at hb;exact absurd hb (by decide)
 have kM:Hd (bY s.data.toList i=if nx s.data.toList i=34 then str s.data.toList (s.data.toList.length+1) (i+1) [] else if toR aO s.data.toList i=i then .error (2,i) else .ok (ag s.data.toList i (toR aO s.data.toList i-i),toR aO s.data.toList i)):=rfl;have hij:=pI aO s.data.toList i (by omega);rw[hl]at hij;obtain⟨J,hJ⟩:=zN (toR aO s.data.toList i);have HJ:Hd (toR aO s.data.toList i=J):=hJ;rw[hJ]at kM hij;obtain⟨hij1,hij2⟩:=hij;obtain⟨X,hX⟩:∃X:ByteArray,X=⟨(ag s.data.toList i (J-i)).toArray⟩:=⟨_,rfl⟩;have s1:∀wx,(Instr.slice 9 (.string s) (some (.int .i64 (i:Int))) (some (.int .i64 (J:Int))) none).run prog wx=.ok (.string X) wx:=fun wx=>by rw[hX];exact lC s i J hij1 hij2 wx
 have uk:Hd (X=⟨(ag s.data.toList i (J-i)).toArray⟩):=hX;have HXS:Hd (X.size<=1048576):=by
  show _<=_;rw[hX];show(ag s.data.toList i (J-i)).toArray.size<=_;unfold ag;simp;omega
 obtain⟨SQ,BZ⟩:=zN (str s.data.toList (s.data.toList.length+1) (i+1) []);rw[BZ]at CQ kM;obtain⟨G0,hG0⟩:=zN (bY s.data.toList i);rw[hG0]at kM ⊢;have Lh:w.grownBy (w.alloc (.cells #[.string ⟨#[]⟩,.int .i64 0] 213)) (some R):=World.grownBy_alloc w _ _;have Lj:w.grownBy (w.alloc (.cells #[.string ⟨#[]⟩,.int .i64 0] 213)) none:=World.grownBy_alloc w _ _;have Cb:=heap_alloc_new w (.cells #[.string ⟨#[]⟩,.int .i64 0] 213);obtain⟨Z,hZ⟩:=zN (w.heap.size);rw[hZ]at Cb;obtain⟨w1,hw1⟩:=zN (w.alloc (.cells #[.string ⟨#[]⟩,.int .i64 0] 213));rw[hw1]at Lh Lj Cb;have ay:Hd (w.grownBy w1 (some R)):=Lh;have HZ1:Hd (w1.heap[Z]?=some (.cells #[.string ⟨#[]⟩,.int .i64 0] 213 (0,0))):=Cb;have H1:Hd (Rd w1 R s i T):=h.grow Lj;have SE:Hd (¬Z=R):=aP Cb H1.o (by decide);obtain⟨c0,c1,-,-⟩:=H1.o.cells;have C1:Hd (Calls prog 104 #[.pointer (some ⟨R,0,none⟩)] w1 fun e w'=>e=.returned (.int .i64 (nx s.data.toList i))/\w1.grownBy w' none):=CN.o i w1 H1.o hi
 obtain⟨x,hx⟩:=zN (nx s.data.toList i);rw[hx]at C1 kM SC;have wG:Hd (w.heap.size<=Z):=by show _<=_;omega
 clear h hJ hX BZ hG0 Lh Lj Cb hx G;go_enter func152,ntmps152;go_wp2_with (go_at_call 104;refine C1.o.mono ?_);rintro e w2 ⟨rfl,hg2⟩;have HG2:Hd (w.grownBy w2 (some R)):=aG ay.o hg2;have HR2:Hd (Rd w2 R s i T):=H1.o.grow hg2;have HZ2:Hd (w2.heap[Z]?=some (.cells #[.string ⟨#[]⟩,.int .i64 0] 213 (0,0))):=jy HZ1.o hg2;clear hg2 c0 c1
 by_cases hx34:x=34
 ·have hb:(x == 34)=true:=by simp[hx34]
  have hil:=SC.o hx34;have pV:Hd (G0=SQ):=by show _=_;rw[kM.o,if_pos hx34]
  clear hx34;go_wp2_with (go_at_call 193;refine(CQ.o hil _ HG2.o HR2.o).mono ?_);rintro e w3 ⟨p1,p2,p3⟩;have aK:Hd (w.grownBy w3 (some R)):=dH HG2.o p3;have hZ3:w3.heap[Z]?=some (.cells #[.string ⟨#[]⟩,.int .i64 0] 213 (0,0)):=(p3.block Z (aB HZ2.o) (by simp only[ne_eq,Option.some.injEq];exact SE.o)).trans HZ2.o;have HZ3:Hd (w3.heap[Z]?=some (.cells #[.string ⟨#[]⟩,.int .i64 0] 213 (0,0))):=hZ3;obtain⟨z0,z1,zf⟩:=iF hZ3;have zf0:=zf 0;have zf1:=zf 1
  cases SQ with
  | error ec =>
   obtain⟨ec1,ec2⟩:=ec;obtain⟨v,rfl,hv,-⟩:=p2 ec1 ec2 rfl;have dU:Hd (aV w3 v E ec1 ec2):=hv;clear p1 p2 p3 hv hZ3 zf;go_wp2;refine bodyPost_ret (Gw rfl _ _ Z 213 #[.string ⟨#[]⟩,.int .i64 (i:Nat)] (0,0) _ rfl (Gz HZ3.o) underlying213 rfl (by kernel_rfl)) rfl ?_;rw[pV.o];exact⟨fun k j hh=>(by cases hh),fun c p hh=>(by cases hh;exact⟨_,_,v,rfl,Gy (Gy dU.o HZ3.o) (block_setCell (i:=0) HZ3.o _)⟩),wF (wF aK.o wG.o 0 _) wG.o 1 _⟩
  | ok q =>
   obtain⟨tx,j⟩:=q;obtain⟨rfl,hr3⟩:=p1 tx j rfl;have HR3:Hd (Rd w3 R s j T):=hr3;clear p1 p2 p3 hr3 hZ3 zf;go_wp2;refine bodyPost_ret (Gw rfl _ _ Z 213 #[.string ⟨tx.toArray⟩,.int .i64 (i:Nat)] (0,0) _ rfl (Gz HZ3.o) underlying213 rfl (by kernel_rfl)) rfl ?_;rw[pV.o];exact⟨fun k j hh=>(by cases hh;exact⟨rfl,(HR3.o.new HZ3.o).new (block_setCell (i:=0) HZ3.o _)⟩),fun c p hh=>(by cases hh),wF (wF aK.o wG.o 0 _) wG.o 1 _⟩
 ·have hb:(x == 34)=false:=by simp[hx34]
  have pV:Hd (G0=if J=i then .error (2,i) else .ok (ag s.data.toList i (J-i),J)):=by show _=_;rw[kM.o,if_neg hx34]
  clear hx34;go_wp2;go_loopw [] (fun wr=>∃k:Nat,Rd wr R s k T/\k<=s.size/\toR aO s.data.toList k=J/\w.grownBy wr (some R)/\wr.heap[Z]?=some (.cells #[.string ⟨#[]⟩,.int .i64 0] 213 (0,0))) (fun wr=>s.size-(match wr.cell? ⟨R,1,none⟩ with|some (.int _ k)=>k.toNat|_=>0))
  case atStart=>exact⟨i,HR2.o,hi,HJ.o,HG2.o,HZ2.o⟩
  case round =>
   obtain⟨k,hrd,hk,hbl,hg,SG⟩:=hrel;have dB:Hd (Rd wr R s k T):=hrd;have fQ:Hd (toR aO s.data.toList k=J):=hbl;have HG:Hd (w.grownBy wr (some R)):=hg;have SH:Hd (wr.heap[Z]?=some (.cells #[.string ⟨#[]⟩,.int .i64 0] 213 (0,0))):=SG;have Ck:Hd (Calls prog 104 #[.pointer (some ⟨R,0,none⟩)] wr fun e w'=>e=.returned (.int .i64 (nx s.data.toList k))/\wr.grownBy w' none):=CN.o k wr hrd hk;have gK:Hd ((match wr.cell? ⟨R,1,none⟩ with|some (.int _ k)=>k.toNat|_=>0)=k):=by show _=_;rw[hrd.cells.2.1];simp
   have dZ:Hd (aO (nx s.data.toList k)=true->toR aO s.data.toList k=toR aO s.data.toList (k+1)):=fun hb=>HST.o k (cZ.o k hk hb) hb
   have HS2:Hd (aO (nx s.data.toList k)=false->toR aO s.data.toList k=k):=jO.o k;have HL2:Hd (aO (nx s.data.toList k)=true->k<s.size):=cZ.o k hk;obtain⟨c,hc⟩:=zN (nx s.data.toList k);rw[hc]at Ck dZ HS2 HL2;have iK:Hd (∀w,Calls prog 106 #[.int .i64 c] w fun e w'=>e=.returned (.bool (aO c))/\w'=w):=fun w=>CB.o c w
   obtain⟨b,hb⟩:=zN (aO c);rw[hb]at iK dZ HS2 HL2;clear hrd hbl hg SG hc hb
   cases b with
   | true =>
    have hkl:k<s.size:=HL2.o (by trivial);have HN:Hd (toR aO s.data.toList (k+1)=J):=(dZ.o (by trivial)).symm.trans fQ.o;go_wp2_with (first|(go_at_call 104;refine Ck.o.mono ?_;rintro e w3 ⟨rfl,hg3⟩;obtain⟨-,d1,-,df⟩:=(dB.o.grow hg3).cells;have df1:=df 1)|(go_at_call 106;refine(iK.o _).mono ?_;rintro e w' ⟨rfl,rfl⟩));have jH:Hd (Rd (w'.setCell ⟨R,1,none⟩ (.int .i64 ((k:Int)+1))) R s (k+1) T):=(dB.o.grow hg3).set (k+1);refine⟨⟨k+1,jH.o,by omega,HN.o,aQ (aG HG.o hg3) 1 _,(heap_setCell_other _ _ _ _ (by simp only[];exact SE.o)).trans (jy SH.o hg3)⟩,?_⟩;rw[gK.o,jH.o.cells.2.1];simp;omega
   | false =>
    have uh:Hd (k=J):=(HS2.o (by trivial)).symm.trans fQ.o;go_wp2_with (go_at_call 104;refine Ck.o.mono ?_);rintro e w3 rfl hg3;have HR3:Hd (Rd w3 R s J T):=by rw[<-uh.o];exact dB.o.grow hg3
    have aK:Hd (w.grownBy w3 (some R)):=aG HG.o hg3;have HZ3:Hd (w3.heap[Z]?=some (.cells #[.string ⟨#[]⟩,.int .i64 0] 213 (0,0))):=jy SH.o hg3;obtain⟨d0,d1,-,-⟩:=HR3.o.cells;clear hg3
    by_cases hJi:J=i
    ·have hbj:((J:Int) == (i:Int))=true:=by simp[hJi]
     have gX:Hd (G0=.error (2,J)):=by show _=_;rw[pV.o,if_pos hJi,hJi]
     have rZ:Hd (Calls prog 156 #[.pointer (some ⟨R,0,none⟩)] w3 fun e w''=>(∃v,e=.returned v/\aV w'' v E 2 J)/\w3.grownBy w'' none):=CH.o J _ aK.o HR3.o;clear hJi;go_wp2_with (first|(go_at_call 106;refine(iK.o _).mono ?_;rintro e w' ⟨rfl,rfl⟩)|(go_at_call 156;refine rZ.o.mono ?_;rintro e w4 ⟨⟨v,rfl,hv⟩,hg4⟩;obtain⟨z0,z1,zf⟩:=iF (jy HZ3.o hg4);have zf0:=zf 0;have zf1:=zf 1));have yh:=jy HZ3.o hg4;refine bodyPost_ret (Gw rfl _ _ Z 213 #[.string ⟨#[]⟩,.int .i64 0] (0,0) _ rfl (Gz yh) underlying213 rfl (by kernel_rfl)) rfl ?_;rw[gX.o];exact⟨fun k j hh=>(by cases hh),fun c p hh=>(by cases hh;exact⟨_,_,v,rfl,Gy (Gy hv yh) (block_setCell (i:=0) yh _)⟩),wF (wF (aG aK.o hg4) wG.o 0 _) wG.o 1 _⟩
    ·have hbj:((J:Int) == (i:Int))=false:=by rw[beq_eq_false_iff_ne];omega
     have gX:Hd (G0=.ok (ag s.data.toList i (J-i),J)):=by show _=_;rw[pV.o,if_neg hJi]
     have CC1:Hd (∀w,Calls prog 194 #[.string X] w fun e w'=>e=.returned (.string X)/\w.grownBy w' none):=fun w=>CC.o X w HXS.o
     clear hJi;go_wp2_with (go_at_call 106;refine(iK.o _).mono ?_;rintro e w' ⟨rfl,rfl⟩);go_region_with (first|(go_at_call 194;refine(CC1.o _).mono ?_;rintro e w6 ⟨rfl,dK⟩;have kZ:w'.grownBy w6 none:=⟨dK.os,dK.tape,dK.output,dK.size,dK.block⟩;obtain⟨z0,z1,zf⟩:=iF (jy HZ3.o kZ);have zf0:=zf 0;have zf1:=zf 1))
     all_goals (
      have yh:=jy HZ3.o kZ;go_wp2;refine bodyPost_ret (Gw rfl _ _ Z 213 #[.string X,.int .i64 (i:Nat)] (0,0) _ rfl (Gz yh) underlying213 rfl (by kernel_rfl)) rfl ?_;rw[gX.o];exact⟨fun k j hh=>(by cases hh;rw[<-uk.o];exact⟨rfl,((HR3.o.grow kZ).new yh).new (block_setCell (i:=0) yh _)⟩),fun c p hh=>(by cases hh),wF (wF (aG aK.o kZ) wG.o 0 _) wG.o 1 _⟩)
open Go.RowKit Go.Joins
theorem wH(l:List UInt8):∀(f i j:Nat),i<=l.length->gap l f i=.ok j->i<=j/\j<=l.length:=by
 intro f
 induction f with
 | zero=>intro i j hi h;cases h
 | succ f ih =>
  intro i j hi h;rw[ui]at h;have h1:=jP l i hi;have h2:=Bh l (bl l i) h1.2;split at h
  ·cases h
  ·split at h
   ·rename_i hx;have h3:=bH (l:=l) (i:=(bu l (bl l i)).2) (by rw[hx];decide);have:=ih _ j (by omega) h;omega
   ·cases h
    omega
theorem SK(l:List UInt8)(i:Nat)(n:Int)(j:Nat)(hi:i<l.length)(h:jf l i=.ok (n,j)):i<j/\j<=l.length:=by
 unfold jf at h;simp only[]at h;have ha:i<=(if au (nx l i)=true then i else i+1)/\(if au (nx l i)=true then i else i+1)<=l.length:=by split<;>omega
 generalize (if au (nx l i)=true then i else i+1)=a at h ha;have hj:=pI au l a ha.2;split at h
 ·cases h
 ·rename_i hn;split at h
  ·cases h
  ·have hne:¬toR au l a=a:=fun e=>hn (Or.inl e)
   cases h
   omega
theorem SN(l:List UInt8)(i:Nat)(n:Int)(j:Nat)(hi:i<=l.length)(h:kU l i=.ok (n,j)):i<j/\j<=l.length:=by
 rw[FK]at h;have hj:=pI bi l i hi;have key:∀t:List UInt8,ag l i (toR bi l i-i)=t->t≠[]->i<toR bi l i:=fun t e ht=>by
  apply Classical.byContradiction;intro hn;apply ht;rw[<-e];unfold ag;rw[show toR bi l i-i=0 by omega];simp
 split at h
 ·rename_i e;have:=key _ e (by simp)
  cases h
  omega
 ·split at h
  ·rename_i e;have:=key _ e (by simp)
   cases h
   omega
  ·cases h
structure Ad(ns ns':List Tn)(own:List Nat)(i j n:Nat):Prop where
 wf:WF ns' own
 wt:WT ns'
 lo:ns.length<=ns'.length
 hi:ns'.length+i<=ns.length+j
 kd:∀q,q<ns.length->ak ns' q=ak ns q
 fw:i<j
 en:j<=n
theorem zB{ns:List Tn}{own:List Nat}{up i j n:Nat}{x:Tn}(W:WF ns own)(V:WT ns)(hu:up<ns.length)(h2:¬ak ns up=2)(hx:x.ks=[])(hk:¬x.kd=2)(hij:i<j)(hjn:j<=n):Ad ns (addN ns up x) own i j n :=
 ⟨qK ns own up x hx hu W,JW ns own W up x hu V hk (Or.inl h2),by rw[dh];omega,by rw[dh];omega,fun q hq=>by rw[fA ns up x hu,if_neg (by omega)],hij,hjn⟩
theorem Ad.trans{a b c:List Tn}{own:List Nat}{i j k n:Nat}(h:Ad a b own i j n)(h':Ad b c own j k n):Ad a c own i k n :=
 ⟨h'.wf,h'.wt,Nat.le_trans h.lo h'.lo,by have:=h.hi;have:=h'.hi;omega,fun q hq=>(h'.kd q (Nat.lt_of_lt_of_le hq h.lo)).trans (h.kd q hq),Nat.lt_trans h.fw h'.fw,h'.en⟩
theorem sN(l:List UInt8)(f i up:Nat)(k:List UInt8)(p d:Nat)(ns:List Tn):val l (f+1) i up k p d ns =
  if nx l i=34 then(match str l (l.length+1) (i+1) [] with | .error e=>.error e | .ok (t,j)=>.ok (j,addN ns up ⟨3,k,t,0,[],p⟩))
  else if nx l i=43\/nx l i=45\/au (nx l i)=true then(match jf l i with | .error e=>.error e | .ok (n,j)=>.ok (j,addN ns up ⟨4,k,[],n,[],p⟩))
  else if nx l i=116\/nx l i=102 then(match kU l i with | .error e=>.error e | .ok (n,j)=>.ok (j,addN ns up ⟨5,k,[],n,[],p⟩))
  else if nx l i=91 then(if d=8 then .error (4,i) else lst l f (i+1) ns.length (d+1) (addN ns up ⟨1,k,[],0,[],p⟩))
  else .error (2,i):=by
 rw[val];rfl
theorem Cc(l:List UInt8)(f i up d:Nat)(ns:List Tn):lst l (f+1) i up d ns =
  match gap l (l.length+1) i with
  | .error e=>.error e
  | .ok j =>
   if nx l j=93 then .ok (j+1,ns)
   else match val l f j up [] j d ns with
    | .error e=>.error e
    | .ok (j1,ns1)=>match gap l (l.length+1) j1 with
     | .error e=>.error e
     | .ok j2=>if nx l j2=44 then lst l f (j2+1) up d ns1 else if nx l j2=93 then .ok (j2+1,ns1) else .error (2,j2):=by
 rw[lst];rfl
theorem GG(l:List UInt8)(own:List Nat):∀f:Nat,(∀i up k p d ns j ns',i<=l.length->WF ns own->WT ns->up<ns.length->¬ak ns up=2->val l f i up k p d ns=.ok (j,ns')->Ad ns ns' own i j l.length)/\(∀i up d ns j ns',i<=l.length->WF ns own->WT ns->up<ns.length->¬ak ns up=2->lst l f i up d ns=.ok (j,ns')->WF ns' own/\WT ns'/\ns.length<=ns'.length/\ns'.length+i<=ns.length+j/\(∀q,q<ns.length->ak ns' q=ak ns q)/\i<j/\j<=l.length):=by
 intro f
 induction f with
 | zero =>
  refine⟨fun i up k p d ns j ns' _ _ _ _ _ h=>?_,fun i up d ns j ns' _ _ _ _ _ h=>?_⟩
  ·rw[val]at h;cases h
  ·rw[lst]at h;cases h
 | succ f ih =>
  refine⟨fun i up k p d ns j ns' hi W V hu h2 h=>?_,fun i up d ns j ns' hi W V hu h2 h=>?_⟩
  ·rw[sN]at h;split at h
   ·rename_i hx;have hlt:=bH (l:=l) (i:=i) (by rw[hx];decide)
    cases hs:str l (l.length+1) (i+1) [] with
    | error e=>rw[hs]at h;cases h
    | ok q =>
     obtain⟨t,j'⟩:=q;rw[hs]at h;obtain⟨a,b,-⟩:=Gv l _ (i+1) [] t j' (by omega) hs
     cases h
     exact zB W V hu h2 rfl (fun e=>absurd (show(3:Int)=2 from e) (by decide)) (by omega) b
   ·split at h
    ·rename_i hx;have hlt:i<l.length:=by
      apply bH
      rcases hx with hx|hx|hx
      ·rw[hx];decide
      ·rw[hx];decide
      ·have:=of_decide_eq_true hx;omega
     cases hs:jf l i with
     | error e=>rw[hs]at h;cases h
     | ok q =>
      obtain⟨t,j'⟩:=q;rw[hs]at h;obtain⟨a,b⟩:=SK l i t j' hlt hs
      cases h
      exact zB W V hu h2 rfl (fun e=>absurd (show(4:Int)=2 from e) (by decide)) a b
    ·split at h
     ·cases hs:kU l i with
      | error e=>rw[hs]at h;cases h
      | ok q =>
       obtain⟨t,j'⟩:=q;rw[hs]at h;obtain⟨a,b⟩:=SN l i t j' hi hs
       cases h
       exact zB W V hu h2 rfl (fun e=>absurd (show(5:Int)=2 from e) (by decide)) a b
     ·split at h
      ·rename_i hx;have hlt:=bH (l:=l) (i:=i) (by rw[hx];decide);split at h
       ·cases h
       ·have A:=zB (i:=i) (j:=i+1) (n:=l.length) (x:=⟨1,k,[],0,[],p⟩) W V hu h2 rfl (fun e=>absurd (show(1:Int)=2 from e) (by decide)) (by omega) (by omega);obtain⟨a1,a2,a3,a4,a5,a6,a7⟩:=ih.2 (i+1) ns.length (d+1) _ j ns' (by omega) A.wf A.wt (by rw[dh];omega) (by rw[fA ns up _ hu,if_pos rfl];exact fun e=>absurd (show(1:Int)=2 from e) (by decide)) h;have e1:=A.hi;have e2:=A.lo;exact⟨a1,a2,by omega,by omega,fun q hq=>(a5 q (by omega)).trans (A.kd q hq),by omega,a7⟩
      ·cases h
  ·rw[Cc]at h
   cases hg:gap l (l.length+1) i with
   | error e=>rw[hg]at h;cases h
   | ok j0 =>
    rw[hg]at h;simp only[]at h;obtain⟨g1,g2⟩:=wH l _ i j0 hi hg;split at h
    ·rename_i hx;have hlt:=bH (l:=l) (i:=j0) (by rw[hx];decide)
     cases h
     exact⟨W,V,Nat.le_refl _,by omega,fun _ _=>rfl,by omega,by omega⟩
    ·cases hv:val l f j0 up [] j0 d ns with
     | error e=>rw[hv]at h;cases h
     | ok q =>
      obtain⟨j1,ns1⟩:=q;rw[hv]at h;simp only[]at h;have A:=ih.1 j0 up [] j0 d ns j1 ns1 g2 W V hu h2 hv;have e1:=A.hi;have e2:=A.lo;have e3:=A.fw;have e4:=A.en
      cases hg2:gap l (l.length+1) j1 with
      | error e=>rw[hg2]at h;cases h
      | ok j2 =>
       rw[hg2]at h;simp only[]at h;obtain⟨g3,g4⟩:=wH l _ j1 j2 A.en hg2;split at h
       ·rename_i hx;have hlt:=bH (l:=l) (i:=j2) (by rw[hx];decide);obtain⟨a1,a2,a3,a4,a5,a6,a7⟩:=ih.2 (j2+1) up d ns1 j ns' (by omega) A.wf A.wt (by omega) (by rw[A.kd up hu];exact h2) h;exact⟨a1,a2,by omega,by omega,fun q hq=>(a5 q (by omega)).trans (A.kd q hq),by omega,a7⟩
       ·split at h
        ·rename_i hx;have hlt:=bH (l:=l) (i:=j2) (by rw[hx];decide)
         cases h
         exact⟨A.wf,A.wt,A.lo,by omega,A.kd,by omega,by omega⟩
        ·cases h
end Go.Proofs.YtnnbgjaphfhibaaGreatDoor
namespace Go.Proofs
open Go.Shelf
def Tryz.lays172_ren:Go.Shelf.Ren:=⟨fun|129=>139|171=>43|172=>218|205=>248|243=>67|244=>232|245=>233|246=>98|247=>241|279=>242|280=>243|281=>244|282=>245|283=>140|284=>141|285=>142|286=>143|287=>247|316=>217|317=>176|318=>177|319=>178|320=>179|321=>249|322=>250|337=>209|338=>210|n=>n,fun|22=>244|24=>150|25=>151|27=>87|28=>43|30=>76|32=>153|33=>113|37=>90|40=>300|41=>110|42=>274|46=>157|47=>156|48=>185|49=>338|51=>199|52=>198|53=>201|54=>200|55=>297|67=>120|69=>98|70=>89|71=>91|72=>92|73=>162|74=>93|75=>94|76=>95|77=>96|79=>288|80=>100|81=>164|83=>97|84=>160|85=>306|86=>307|100=>161|101=>49|103=>152|104=>34|105=>289|106=>290|108=>315|111=>165|114=>251|119=>301|126=>298|127=>121|128=>299|131=>80|135=>207|137=>302|138=>303|139=>304|143=>317|144=>318|145=>319|164=>158|165=>159|166=>260|167=>305|168=>308|169=>309|170=>310|171=>202|172=>203|173=>204|174=>205|175=>311|176=>312|182=>192|183=>193|188=>255|189=>256|190=>257|191=>258|192=>259|209=>313|210=>314|211=>252|212=>253|213=>254|214=>316|218=>245|219=>246|220=>247|222=>249|224=>284|225=>285|228=>281|229=>282|231=>295|232=>293|233=>294|238=>320|239=>321|240=>322|241=>323|242=>324|243=>326|244=>174|245=>327|246=>328|247=>329|248=>330|249=>331|n=>n,fun|1=>7|3=>10|4=>11|15=>12|16=>13|17=>5|18=>8|19=>9|n=>n⟩
theorem Tryz.lays172:Go.Proofs.LaysC.n172 prog Tryz.lays172_ren:={
 mixed:=by kernel_rfl
 f129:=func139.trans (congrArg some (by kernel_rfl))
 f171:=func43.trans (congrArg some (by kernel_rfl))
 f172:=func218.trans (congrArg some (by kernel_rfl))
 f205:=func248.trans (congrArg some (by kernel_rfl))
 f243:=func67.trans (congrArg some (by kernel_rfl))
 f244:=func232.trans (congrArg some (by kernel_rfl))
 f245:=func233.trans (congrArg some (by kernel_rfl))
 f246:=func98.trans (congrArg some (by kernel_rfl))
 f247:=func241.trans (congrArg some (by kernel_rfl))
 f279:=func242.trans (congrArg some (by kernel_rfl))
 f280:=func243.trans (congrArg some (by kernel_rfl))
 f281:=func244.trans (congrArg some (by kernel_rfl))
 f282:=func245.trans (congrArg some (by kernel_rfl))
 f283:=func140.trans (congrArg some (by kernel_rfl))
 f284:=func141.trans (congrArg some (by kernel_rfl))
 f285:=func142.trans (congrArg some (by kernel_rfl))
 f286:=func143.trans (congrArg some (by kernel_rfl))
 f287:=func247.trans (congrArg some (by kernel_rfl))
 f316:=func217.trans (congrArg some (by kernel_rfl))
 f317:=func176.trans (congrArg some (by kernel_rfl))
 f318:=func177.trans (congrArg some (by kernel_rfl))
 f319:=func178.trans (congrArg some (by kernel_rfl))
 f320:=func179.trans (congrArg some (by kernel_rfl))
 f321:=func249.trans (congrArg some (by kernel_rfl))
 f322:=func250.trans (congrArg some (by kernel_rfl))
 f337:=func209.trans (congrArg some (by kernel_rfl))
 f338:=func210.trans (congrArg some (by kernel_rfl))
 t0:=underlying0
 a0:=isAgg0
 z0:=sizeOf0
 v0:=zeroValue0
 t2:=underlying2
 a2:=isAgg2
 z2:=sizeOf2
 v2:=zeroValue2
 t3:=underlying3
 a3:=isAgg3
 z3:=sizeOf3
 v3:=zeroValue3
 t4:=underlying4
 a4:=isAgg4
 z4:=sizeOf4
 v4:=zeroValue4
 t5:=underlying5
 a5:=isAgg5
 z5:=sizeOf5
 v5:=zeroValue5
 t9:=underlying9
 a9:=isAgg9
 z9:=sizeOf9
 v9:=zeroValue9
 t20:=underlying20
 a20:=isAgg20
 z20:=sizeOf20
 v20:=zeroValue20
 t21:=underlying21
 a21:=isAgg21
 z21:=sizeOf21
 v21:=zeroValue21
 t37:=underlying90
 a37:=isAgg90
 z37:=sizeOf90
 v37:=zeroValue90
 t46:=underlying157
 a46:=isAgg157
 z46:=sizeOf157
 v46:=zeroValue157
 t51:=underlying199
 a51:=isAgg199
 z51:=sizeOf199
 v51:=zeroValue199
 t53:=underlying201
 a53:=isAgg201
 z53:=sizeOf201
 v53:=zeroValue201
 t75:=underlying94
 a75:=isAgg94
 z75:=sizeOf94
 v75:=zeroValue94
 t76:=underlying95
 a76:=isAgg95
 z76:=sizeOf95
 v76:=zeroValue95
 t85:=underlying306
 a85:=isAgg306
 z85:=sizeOf306
 v85:=zeroValue306
 t127:=underlying121
 a127:=isAgg121
 z127:=sizeOf121
 v127:=zeroValue121
 t143:=underlying317
 a143:=isAgg317
 z143:=sizeOf317
 v143:=zeroValue317
 t145:=underlying319
 a145:=isAgg319
 z145:=sizeOf319
 v145:=zeroValue319
 t167:=underlying305
 a167:=isAgg305
 z167:=sizeOf305
 v167:=zeroValue305
 t168:=underlying308
 a168:=isAgg308
 z168:=sizeOf308
 v168:=zeroValue308
 t171:=underlying202
 a171:=isAgg202
 z171:=sizeOf202
 v171:=zeroValue202
 t173:=underlying204
 a173:=isAgg204
 z173:=sizeOf204
 v173:=zeroValue204
 t175:=underlying311
 a175:=isAgg311
 z175:=sizeOf311
 v175:=zeroValue311
 t210:=underlying314
 a210:=isAgg314
 z210:=sizeOf314
 v210:=zeroValue314
 t212:=underlying253
 a212:=isAgg253
 z212:=sizeOf253
 v212:=zeroValue253
 t213:=underlying254
 a213:=isAgg254
 z213:=sizeOf254
 t232:=underlying293
 a232:=isAgg293
 z232:=sizeOf293
 v232:=zeroValue293
 t233:=underlying294
 a233:=isAgg294
 z233:=sizeOf294
 v233:=zeroValue294
 g15:=by kernel_rfl
 g16:=by kernel_rfl
 g17:=by kernel_rfl
 g18:=by kernel_rfl
 g19:=by kernel_rfl
 t80:=underlying100
 a80:=isAgg100
 z80:=sizeOf100
 v80:=zeroValue100
 i0:=by kernel_rfl
 i2:=by kernel_rfl
 i3:=by kernel_rfl
 i4:=by kernel_rfl
 i5:=by kernel_rfl
 i9:=by kernel_rfl
 i20:=by kernel_rfl
 i21:=by kernel_rfl
 i37:=by kernel_rfl
 i46:=by kernel_rfl
 i51:=by kernel_rfl
 i53:=by kernel_rfl
 i75:=by kernel_rfl
 i76:=by kernel_rfl
 i80:=by kernel_rfl
 i85:=by kernel_rfl
 i127:=by kernel_rfl
 i143:=by kernel_rfl
 i145:=by kernel_rfl
 i167:=by kernel_rfl
 i168:=by kernel_rfl
 i171:=by kernel_rfl
 i173:=by kernel_rfl
 i175:=by kernel_rfl
 i210:=by kernel_rfl
 i212:=by kernel_rfl
 i232:=by kernel_rfl
 i233:=by kernel_rfl
 m15:=by kernel_rfl
 m16:=by kernel_rfl
 m17:=by kernel_rfl
 m18:=by kernel_rfl
 m19:=by kernel_rfl
 c0:=by kernel_rfl
 c2:=by kernel_rfl
 c3:=by kernel_rfl
 c4:=by kernel_rfl
 c5:=by kernel_rfl
 c9:=by kernel_rfl
 c20:=by kernel_rfl
 c21:=by kernel_rfl
 c37:=by kernel_rfl
 c46:=by kernel_rfl
 c51:=by kernel_rfl
 c53:=by kernel_rfl
 c75:=by kernel_rfl
 c76:=by kernel_rfl
 c80:=by kernel_rfl
 c85:=by kernel_rfl
 c127:=by kernel_rfl
 c143:=by kernel_rfl
 c145:=by kernel_rfl
 c167:=by kernel_rfl
 c168:=by kernel_rfl
 c171:=by kernel_rfl
 c173:=by kernel_rfl
 c175:=by kernel_rfl
 c210:=by kernel_rfl
 c212:=by kernel_rfl
 c213:=by kernel_rfl
 c232:=by kernel_rfl
 c233:=by kernel_rfl }
end Go.Proofs
namespace Go.Proofs.YtnnbgjaphfhibaaGreatDoor
open Go.RowKit Go.Joins
theorem aaK:∀(d:List UInt8) (n:Nat),(∀c∈d,au (c.toNat:Int)=true)->Lib.decFrom n d=some (iq d n):=by
 intro d
 induction d with
 | nil=>intro n _;rfl
 | cons c r ih =>
  intro n h;have hc:=of_decide_eq_true (h c (by simp));have h1:48<=c.toNat/\c.toNat<=57:=by omega
  have e:Lib.digitVal c=some (c.toNat - 48):=by unfold Lib.digitVal;rw[if_pos h1]
  have:=ih (10*n+(c.toNat - 48)) (fun x hx=>h x (by simp[hx]));show(match Lib.digitVal c with|some d=>Lib.decFrom (n*10+d) r|none=>none)=some (iq r (10*n+(c.toNat - 48)));rw[e,<-this,Nat.mul_comm 10 n]
theorem Ll(d:List UInt8)(hd:d≠[])(h:∀c∈d,au (c.toNat:Int)=true):Lib.decNat d=some (iq d 0):=by
 unfold Lib.decNat
 cases d with
 | nil=>exact absurd rfl hd
 | cons c r=>simpa using aaK (c :: r) 0 h
theorem aaL(d:List UInt8)(hd:d≠[])(hl:d.length<=18)(h:∀c∈d,au (c.toNat:Int)=true):Lib.atoiAll d=.ok (iq d 0:Int):=by
 cases d with
 | nil=>exact absurd rfl hd
 | cons c r =>
  have hc:=of_decide_eq_true (h c (by simp));rw[Lib.atoiAll_plain c r (by omega) (by omega),Lib.signless_short hl,Ll _ hd h];rfl
theorem aaM(d:List UInt8)(hd:d≠[])(hl:d.length<=18)(h:∀c∈d,au (c.toNat:Int)=true):Lib.atoiAll (43 :: d)=.ok (iq d 0:Int):=by
 rw[Lib.atoiAll_plus,Lib.signless_short hl,Ll _ hd h];rfl
theorem aaN(d:List UInt8)(hd:d≠[])(hl:d.length<=18)(h:∀c∈d,au (c.toNat:Int)=true):Lib.atoiAll (45 :: d)=.ok (-(iq d 0:Int)):=by
 rw[Lib.atoiAll_minus,Lib.signed_short hl,Ll _ hd h];rfl
end Go.Proofs.YtnnbgjaphfhibaaGreatDoor
