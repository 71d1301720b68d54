import Derived.Test.YtnnbgjaphfhibaaGreatDoorE31
import Derived.Test.YtnnbgjaphfhibaaGreatDoorE32
import Derived.Test.YtnnbgjaphfhibaaGreatDoorE28
set_option linter.all false
set_option maxRecDepth 100000
set_option maxHeartbeats 0
open Go.Proofs.Tryz
namespace Go.Proofs.YtnnbgjaphfhibaaGreatDoor
open Go.RowKit Go.Maps Go.WideMaps Go.Joins
theorem ag5(E:Int->TypeId × Value)(b:Int->Addr)(w:World)(S:Sn w E b) :
  Calls prog 48 #[.iface (E 1).1 (E 1).2] w fun e w'=>e=.returned (.tuple #[.int .i64 1,.int .i64 0])/\w.grownBy w' none:=by
 have vZ:w.grownBy (w.alloc (.cells #[.pointer none] 130)) none:=World.grownBy_alloc _ _ none;have hT:=heap_alloc_new w (.cells #[.pointer none] 130);have e1:=S.ptr 1 (by decide) (by decide);have hlo:=S.lo;rw[e1]at hlo ⊢;have CA:Hd (Calls prog 73 #[.iface 317 (.pointer (some (b 1))),.iface 132 (.pointer (some ⟨w.heap.size,0,none⟩))] (w.alloc (.cells #[.pointer none] 130)) fun ev w2=>ev=.returned (.bool false)/\w.grownBy w2 none/\w2.cell? ⟨0,0,none⟩=some (.iface 317 (.pointer (some (b 1))))):=by
  refine(acu (b 1) ⟨w.heap.size,0,none⟩ (.pointer none) _ (S.grow vZ).ty (by rw[ag hT];rfl) (Lib.frozen_of_heap hT 0)).mono ?_;rintro e w2 ⟨rfl,hg⟩;have g2:=ai vZ hg;exact⟨rfl,g2,g2.cell hlo (by simp)⟩
 have CI:=ae (is_same (b 1));obtain⟨x,hx⟩:=zN (b 1);rw[hx]at CA CI ⊢;clear vZ hT e1 S hlo hx;go_enter func48,ntmps48;go_wp2_with (go_at_call 73;refine CA.o.mono ?_);rintro e w2 ⟨rfl,hg2,y1⟩;have HG2:=ae hg2;clear hg2 CA;go_wp2_with (go_at_call 74;refine(CI.o _).mono ?_)
 first|rintro e w' rfl rfl|rintro e w' ⟨rfl,rfl⟩
 go_wp2;refine bodyPost_ret (results_tmp2 (t:=2) (u:=3) rfl _ _ _) rfl ?_;exact⟨rfl,HG2.o⟩
def ag6(r:Rs (List Tn))(w:World)(e:Ending)(w':World):Prop :=
 (∀ns,r=.ok ns->∃N c M T xs ks now n f,e=.returned (.tuple #[.slice (some ⟨N,0,none⟩) ns.length c,.int .i64 0,.int .i64 0])/\TrD w' w.heap.size T ns now N c M xs ks n f) ∧
 (∀c p,r=.error (c,p)->e=.returned (.tuple #[.slice none 0 0,.int .i64 c,.int .i64 (p:Nat)]))/\w.grownBy w' none
theorem ag7(s:ByteArray)(E:Int->TypeId × Value)(b:Int->Addr)(w:World)(G:Gl w w.heap.size E)(S:Sn w E b)(hmx:s.size<2 ^ 62) :
  Calls prog 20 #[.string s] w (ag6 (jK s.data.toList) w):=by
 have CR:=ae (afU s E w G S.lo hmx);have jw:Hd (∀c p,jK s.data.toList=.error (c,p)->(c=1/\p=0)\/(2<=c/\c<=5)):=PE _;have P5:=ae (fun w' (hg:w.grownBy w' none)=>ag5 E b w' (S.grow hg));have P6:Hd (∀w' F (c:Int) p,w.grownBy w' none->1<=c->c<=5->w'.heap[F]?=some (.cells #[.int .i64 (p:Nat),.iface (E c).1 (E c).2] 134 (0,0))->Calls prog 48 #[.iface 130 (.pointer (some ⟨F,0,none⟩))] w' fun e w''=>e=.returned (.tuple #[.int .i64 c,.int .i64 (p:Nat)])/\w'.grownBy w'' none):=fun w' F c p hg h1 h2 hF=>by
  have G1:=G.bel (Gj hg);have hsz:=hg.size;exact afX E b w' F c p ⟨G1.es,⟨Nat.lt_of_lt_of_le G1.lo.te hsz,Nat.lt_of_lt_of_le G1.lo.ra hsz,Nat.lt_of_lt_of_le G1.lo.ma hsz,Nat.lt_of_lt_of_le G1.lo.tw hsz⟩,G1.tabs,Nat.lt_of_lt_of_le G1.t3 hsz,Nat.lt_of_lt_of_le G1.t4 hsz⟩ (S.grow hg) h1 h2 hF
 have jC:=ae (S.ptr 1 (by decide) (by decide));obtain⟨X,hX⟩:=zN (jK s.data.toList);rw[hX]at CR jw ⊢;clear G S hX;go_enter func20,ntmps20;go_wp2_with (go_at_call 47;refine CR.o.mono ?_);rintro e w2 ⟨h1,h2,hg2⟩;have HG2:=ae hg2;clear hg2
 match X,h1,h2,jw with
 | .ok ns,h1,_,_ =>
  obtain⟨N,c,M,T,xs,ks,now,n,f,rfl,hD⟩:=h1 ns rfl;have HD:=ae hD;clear h1 h2 hD;go_wp2;refine bodyPost_ret (results_tmp3 (t:=2) (u:=3) (v:=4) rfl _ _ _) rfl ?_;exact⟨fun ns' hh=>(by injection hh with hh;subst hh;exact⟨N,c,M,T,xs,ks,now,n,f,rfl,HD.o⟩),fun c p hh=>(by cases hh),HG2.o⟩
 | .error (c,p),_,h2,jw =>
  obtain⟨v,rfl,hor⟩:=h2 c p rfl;have hrg:=jw.o c p rfl
  rcases hor with⟨hc1,hv⟩|⟨F,hv,hF⟩
  ·obtain⟨-,hp0⟩:c=1/\p=0:=by rcases hrg with h|h;exact h;omega
   subst hc1 hp0;have CT:Hd (Calls prog 48 #[.iface 317 (.pointer (some (b 1)))] w2 fun e w''=>e=.returned (.tuple #[.int .i64 1,.int .i64 0])/\w2.grownBy w'' none):=by
    have:=P5.o w2 HG2.o;rw[jC.o]at this;exact this
   rw[jC.o]at hv;obtain rfl:=hv;clear h1 h2 hrg P6 P5;go_wp2_with (go_at_call 48;refine CT.o.mono ?_;rintro e w3 ⟨rfl,hg3⟩);refine bodyPost_ret (results_tmp3 (t:=2) (u:=3) (v:=4) rfl _ _ _) rfl ?_;exact⟨fun ns' hh=>(by cases hh),fun c p hh=>(by cases hh;rfl),ai HG2.o hg3⟩
  ·have CT:=ae (P6.o w2 F c p HG2.o (by omega) (by omega) hF);obtain rfl:=hv;clear h1 h2 hrg P6 P5 hF;go_wp2_with (go_at_call 48;refine CT.o.mono ?_;rintro e w3 ⟨rfl,hg3⟩);refine bodyPost_ret (results_tmp3 (t:=2) (u:=3) (v:=4) rfl _ _ _) rfl ?_;exact⟨fun ns' hh=>(by cases hh),fun c' p' hh=>(by injection hh with hh;injection hh with e1 e2;subst e1 e2;rfl),ai HG2.o hg3⟩
open Go.RowKit Go.Maps Go.WideMaps Go.Joins
def Kt(t:TypeId)(w w':World):Prop:=∀(b:Nat) (cs:Array Value) (fz:Nat × Nat),w.heap[b]?=some (.cells cs t fz)->w'.heap[b]?=w.heap[b]?
theorem aV{t:TypeId}{w w':World}(hg:w.grownBy w' none):Kt t w w':=fun b cs fz hb=>hg.block b (aB hb) (by simp)
theorem ag8{t X:TypeId}{w w':World}{g:Nat}{c:Array Value}{fz:Nat × Nat}(hg:w.grownBy w' (some g))(hX:w.heap[g]?=some (.cells c X fz))(hne:¬t=X):Kt t w w':=fun b cs fz' hb=>hg.block b (aB hb) (by
 simp only[ne_eq,Option.some.injEq];exact aO hb hX hne)
theorem zB{t X:TypeId}{w w':World}{B s n:Nat}{v:Value}{xs:List Value}(hr:w.ownsRow B X s v n xs)(hg:w.grownBy w' v.ownBlock)(hne:¬t=X):Kt t w w':=fun b cs fz hb=>hg.block b (aB hb) (fun e=>by
 obtain⟨-,cur,hc⟩:=bH hr e.symm;exact aO hb hc hne rfl)
theorem iO{t X:TypeId}{w:World}{g o:Nat}{c:Array Value}{fz:Nat × Nat}(v:Value)(hX:w.heap[g]?=some (.cells c X fz))(hne:¬t=X):Kt t w (w.setCell ⟨g,o,none⟩ v):=ag8 (iL w g o v) hX hne
theorem Kt.two{t:TypeId}{a b c:World}(h:Kt t a b)(h':Kt t b c):Kt t a c:=fun x cs fz hx=>(h' x cs fz ((h x cs fz hx).trans hx)).trans (h x cs fz hx)
theorem Kt.blk{t:TypeId}{w w':World}(h:Kt t w w'){b:Nat}{cs:Array Value}{fz:Nat × Nat}(hb:w.heap[b]?=some (.cells cs t fz)):w'.heap[b]?=some (.cells cs t fz):=(h b cs fz hb).trans hb
theorem Kt.row{t:TypeId}{w w':World}(h:Kt t w w'){B s n:Nat}{v:Value}{xs:List Value}(hr:w.ownsRow B t s v n xs):w'.ownsRow B t s v n xs:=bZ hr fun g cur _ hc=>h g cur _ hc
def LkV(w:World)(D T:Nat)(v:Value):Option iw->Prop
 | none=>v=.nilFunc
 | some .root=>∃a b,v=.func (.func 24) #[] #[.pointer (some ⟨a,0,none⟩),.pointer (some ⟨b,0,none⟩)]/\w.heap[a]?=some (.cells #[.pointer (some ⟨D,0,none⟩)] 59 (0,0))/\w.heap[b]?=some (.cells #[.pointer (some ⟨T,0,none⟩)] 57 (0,0))
 | some .tabs=>∃a,v=.func (.func 49) #[] #[.pointer (some ⟨a,0,none⟩)]/\w.heap[a]?=some (.cells #[.pointer (some ⟨D,0,none⟩)] 59 (0,0))
 | some (.key e)=>∃a b,v=.func (.func 75) #[] #[.pointer (some ⟨a,0,none⟩),.pointer (some ⟨b,0,none⟩)]/\w.heap[a]?=some (.cells #[.pointer (some ⟨D,0,none⟩)] 59 (0,0))/\w.heap[b]?=some (.cells #[.int .i64 (e:Nat)] 3 (0,0))
 | some (.val e)=>∃a b,v=.func (.func 118) #[] #[.pointer (some ⟨a,0,none⟩),.pointer (some ⟨b,0,none⟩)]/\w.heap[a]?=some (.cells #[.pointer (some ⟨D,0,none⟩)] 59 (0,0))/\w.heap[b]?=some (.cells #[.int .i64 (e:Nat)] 3 (0,0))
structure Bx(w w':World):Prop where
 d:Kt 59 w w'
 t:Kt 57 w w'
 i:Kt 3 w w'
theorem LkV.keep{w w':World}{D T:Nat}{v:Value}{k:Option iw}(h:LkV w D T v k)(hk:Bx w w'):LkV w' D T v k:=by
 match k,h with
 | none,h=>exact h
 | some .root,⟨a,b,h1,h2,h3⟩=>exact⟨a,b,h1,hk.d.blk h2,hk.t.blk h3⟩
 | some .tabs,⟨a,h1,h2⟩=>exact⟨a,h1,hk.d.blk h2⟩
 | some (.key e),⟨a,b,h1,h2,h3⟩=>exact⟨a,b,h1,hk.d.blk h2,hk.i.blk h3⟩
 | some (.val e),⟨a,b,h1,h2,h3⟩=>exact⟨a,b,h1,hk.d.blk h2,hk.i.blk h3⟩
def YC(w:World)(D T:Nat):Prop:=w.heap[D+1]?=some (.cells #[.pointer (some ⟨D,0,none⟩)] 59 (0,0))/\w.heap[D-1]?=some (.cells #[.pointer (some ⟨T,0,none⟩)] 57 (0,0))
def LoB(w:World)(D T Lb n:Nat)(lk:Nat->Option iw):Prop:=∃cs:Array Value,w.heap[Lb]?=some (.cells cs 67 (0,0))/\cs.size=n/\(∀q (hq:q<cs.size),LkV w D T cs[q] (lk q))/\YC w D T
theorem LoB.keep{w w':World}{D T Lb n:Nat}{lk:Nat->Option iw}(h:LoB w D T Lb n lk)(hl:Kt 67 w w')(hk:Bx w w'):LoB w' D T Lb n lk:=by
 obtain⟨cs,h1,h2,h3,h4⟩:=h;exact⟨cs,hl.blk h1,h2,fun q hq=>(h3 q hq).keep hk,hk.d.blk h4.1,hk.t.blk h4.2⟩
theorem LoB.set{w:World}{D T Lb n:Nat}{lk:Nat->Option iw}(h:LoB w D T Lb n lk)(q:Nat)(hq:q<n)(v:Value)(k:iw)(hv:LkV w D T v (some k)):LoB (w.setCell ⟨Lb,q,none⟩ v) D T Lb n (fun p=>if p=q then some k else lk p):=by
 obtain⟨cs,h1,h2,h3,h4⟩:=h;have hb:Bx w (w.setCell ⟨Lb,q,none⟩ v):=⟨iO v h1 (by decide),iO v h1 (by decide),iO v h1 (by decide)⟩;refine⟨cs.setIfInBounds q v,block_setCell h1 _,by simpa using h2,fun p hp=>?_,hb.d.blk h4.1,hb.t.blk h4.2⟩;have hp':p<cs.size:=by simpa using hp
 show LkV _ D T _ (if p=q then some k else lk p)
 by_cases e:p=q
 ·subst e;rw[if_pos rfl,Array.getElem_setIfInBounds_self];exact hv.keep hb
 ·rw[if_neg e,Array.getElem_setIfInBounds_ne hp' (fun h=>e h.symm)];exact(h3 p hp').keep hb
structure EnB(B:Nat)(w:World)(es:List En)(ve:Value)(xs:List Value)(vs:Nat->Value):Prop where
 row:w.ownsRow B 33 4 ve es.length xs
 cel:∀i (hi:i<es.length),xs[i*4]?=some (.string es[i].nm)/\xs[i*4+1]?=some (.string es[i].ve)/\xs[i*4+2]?=some (.string es[i].dg)/\xs[i*4+3]?=some (vs i)
 nee:∀i (hi:i<es.length),w.ownsRow B 9 1 (vs i) es[i].nd.length (es[i].nd.map Value.string)
 apa:∀i j g,i<es.length->j<es.length->(vs i).ownBlock=some g->(vs j).ownBlock=some g->i=j
section
variable {B:Nat} {w w':World} {es:List En} {ve:Value} {xs:List Value} {vs:Nat->Value}
theorem EnB.keep(h:EnB B w es ve xs vs)(h1:Kt 33 w w')(h2:Kt 9 w w'):EnB B w' es ve xs vs:=⟨h1.row h.row,h.cel,fun i hi=>h2.row (h.nee i hi),h.apa⟩
theorem EnB.at(h:EnB B w es ve xs vs){i:Nat}(hi:i<es.length):∃E c,ve=.slice (some ⟨E,0,none⟩) es.length c/\B<=E/\(∃cur,w.heap[E]?=some (.cells cur 33 (0,0)))/\w.cell? ⟨E,i*4,none⟩=some (.string es[i].nm)/\w.cell? ⟨E,i*4+1,none⟩=some (.string es[i].ve)/\w.cell? ⟨E,i*4+2,none⟩=some (.string es[i].dg)/\w.cell? ⟨E,i*4+3,none⟩=some (vs i)/\es.length<=c:=by
 rcases h.row.2 with⟨e1,e2⟩|⟨g,cap,cu,e1,hb,hgg,hn,hm,hs,ht⟩
 ·exact absurd e2 (by omega)
 ·obtain⟨h0,h1,h2,h3⟩:=h.cel i hi;have key:∀j u,xs[j]?=some u->w.cell? ⟨g,j,none⟩=some u:=fun j u hu=>by
   have:=h.row.cells (g:=g) (by rw[e1];rfl) j u hu;rw[nC]at this;exact this
  exact⟨g,cap,e1,hb,⟨cu,hgg⟩,key _ _ h0,key _ _ h1,key _ _ h2,key _ _ h3,hn⟩
theorem EnB.ens(h:EnB B w es ve xs vs):EnS w ve es:=by
 rcases h.row.2 with⟨e1,e2⟩|⟨g,cap,cu,e1,hb,hgg,hn,hm,hs,ht⟩
 ·refine Or.inl ⟨e1,?_⟩;exact List.eq_nil_of_length_eq_zero (by omega)
 ·refine Or.inr ⟨⟨g,0,none⟩,cap,e1,hn,fun i hi=>?_⟩;obtain⟨E,c,e2,-,-,c0,c1,c2,c3,-⟩:=h.at hi;rw[e1]at e2
  cases e2
  unfold EnAt;rw[nC];exact⟨c0,c1,c2,vs i,c3,Nh (base:=B) rfl (h.nee i hi)⟩
theorem YD{t:TypeId}{s E n c k:Nat}(h:w.ownsRow B t s (.slice (some ⟨E,0,none⟩) n c) n xs)(v:Value):(w.setCell ⟨E,k,none⟩ v).ownsRow B t s (.slice (some ⟨E,0,none⟩) n c) n (xs.set k v):=by
 refine⟨by rw[List.length_set];exact h.1,?_⟩
 rcases h.2 with⟨e1,_⟩|⟨g',cap',cu,e1,hb,hgg,hn,hm,hs,ht⟩
 ·cases e1
 ·cases e1
  refine Or.inr ⟨E,c,cu.setIfInBounds k v,rfl,hb,block_setCell hgg _,hn,hm,by simpa using hs,?_⟩;rw[Array.toList_setIfInBounds,List.take_set,ht]
def zE:List Value:=[.string ⟨#[]⟩,.string ⟨#[]⟩,.string ⟨#[]⟩,.slice none 0 0]
theorem EnB.push(h:EnB B w es ve xs vs){v':Value}(ho:w'.ownsRow B 33 4 v' (es.length+1) (xs++zE))(hg:w.grownBy w' ve.ownBlock):EnB B w' (es++[en0]) v' (xs++zE) (fun i=>if i=es.length then .slice none 0 0 else vs i):=by
 have hxl:=h.row.1;have hl:(es++[en0]).length=es.length+1:=by simp
 refine⟨by rw[hl];exact ho,fun i hi=>?_,fun i hi=>?_,fun i j g hi hj h1 h2=>?_⟩
 ·by_cases e:i=es.length
  ·subst e;have ge:(es++[en0])[es.length]=en0:=by simp
   have gx:∀k,(xs++zE)[es.length*4+k]?=zE[k]?:=fun k=>by rw[List.getElem?_append_right (by omega),show es.length*4+k-xs.length=k by omega]
   rw[ge,if_pos rfl];exact⟨gx 0,gx 1,gx 2,gx 3⟩
  ·have hi':i<es.length:=by omega
   have ge:(es++[en0])[i]=es[i]:=List.getElem_append_left hi';rw[ge,if_neg e];obtain⟨h0,h1,h2,h3⟩:=h.cel i hi';have gx:∀k,k<4->(xs++zE)[i*4+k]?=xs[i*4+k]?:=fun k hk=>List.getElem?_append_left (by omega)
   exact⟨(gx 0 (by omega)).trans h0,(gx 1 (by omega)).trans h1,(gx 2 (by omega)).trans h2,(gx 3 (by omega)).trans h3⟩
 ·by_cases e:i=es.length
  ·subst e;have ge:(es++[en0])[es.length]=en0:=by simp
   rw[ge,if_pos rfl];exact⟨rfl,Or.inl ⟨rfl,rfl⟩⟩
  ·have hi':i<es.length:=by omega
   have ge:(es++[en0])[i]=es[i]:=List.getElem_append_left hi';rw[ge,if_neg e];exact(zB h.row hg (by decide)).row (h.nee i hi')
 ·by_cases e:i=es.length
  ·rw[if_pos e]at h1;cases h1
  ·by_cases e2:j=es.length
   ·rw[if_pos e2]at h2;cases h2
   ·rw[if_neg e]at h1;rw[if_neg e2]at h2;exact h.apa i j g (by omega) (by omega) h1 h2
theorem YE(ys:List Value)(k:Nat)(u:Value)(hk:k<ys.length)(m:Nat):(ys.set k u)[m]?=if m=k then some u else ys[m]?:=by
 by_cases e:m=k
 ·subst e;rw[if_pos rfl,List.getElem?_set_self hk]
 ·rw[if_neg e,List.getElem?_set_ne (fun h=>e h.symm)]
theorem EnB.txt{E n c:Nat}(h:EnB B w es (.slice (some ⟨E,0,none⟩) n c) xs vs){i:Nat}(hi:i<es.length)(o:Nat)(ho:o<3)(s:ByteArray)(y:En)(h0:y.nm=if o=0 then s else es[i].nm)(h1:y.ve=if o=1 then s else es[i].ve)(h2:y.dg=if o=2 then s else es[i].dg)(h3:y.nd=es[i].nd):EnB B (w.setCell ⟨E,i*4+o,none⟩ (.string s)) (es.set i y) (.slice (some ⟨E,0,none⟩) n c) (xs.set (i*4+o) (.string s)) vs:=by
 have hxl:=h.row.1;obtain⟨cur,hE⟩:=(bH h.row rfl).2;obtain rfl:n=es.length:=by
  rcases h.row.2 with⟨e1,_⟩|⟨g',cap',cu,e1,_⟩
  ·cases e1
  ·cases e1;rfl
 have gx:=YE xs (i*4+o) (.string s) (by omega);refine⟨by rw[List.length_set];exact YD h.row _,fun j hj=>?_,fun j hj=>?_,fun a b g ha hb=>?_⟩
 ·have hj':j<es.length:=by rw[List.length_set]at hj;exact hj
  obtain⟨c0,c1,c2,c3⟩:=h.cel j hj';simp only[gx]
  by_cases e:j=i
  ·subst e;simp only[List.getElem_set_self,h0,h1,h2];rw[if_neg (show ¬j*4+3=j*4+o by omega)];refine⟨?_,?_,?_,c3⟩
   ·by_cases e:o=0
    ·rw[if_pos (by omega),if_pos e]
    ·rw[if_neg (by omega),if_neg e];exact c0
   ·by_cases e:o=1
    ·rw[if_pos (by omega),if_pos e]
    ·rw[if_neg (by omega),if_neg e];exact c1
   ·by_cases e:o=2
    ·rw[if_pos (by omega),if_pos e]
    ·rw[if_neg (by omega),if_neg e];exact c2
  ·simp only[List.getElem_set_ne (fun h=>e h.symm:¬i=j)];rw[if_neg (by omega),if_neg (by omega),if_neg (by omega),if_neg (by omega)];exact⟨c0,c1,c2,c3⟩
 ·have hj':j<es.length:=by rw[List.length_set]at hj;exact hj
  have kt:Kt 9 w (w.setCell ⟨E,i*4+o,none⟩ (.string s)):=iO _ hE (by decide)
  by_cases e:j=i
  ·subst e;simp only[List.getElem_set_self,h3];exact kt.row (h.nee j hj')
  ·simp only[List.getElem_set_ne (fun h=>e h.symm:¬i=j)];exact kt.row (h.nee j hj')
 ·rw[List.length_set]at ha hb;exact h.apa a b g ha hb
theorem EnB.need{E n c:Nat}(h:EnB B w es (.slice (some ⟨E,0,none⟩) n c) xs vs){i:Nat}(hi:i<es.length)(s:ByteArray){v':Value}(ho:w'.ownsRow B 9 1 v' (es[i].nd.length+1) (es[i].nd.map Value.string++[.string s]))(hg:w.grownBy w' (vs i).ownBlock)(hat:v'.ownBlock=(vs i).ownBlock\/v'.ownBlock=some w.heap.size\/∃g,v'.ownBlock=some g/\w.heap.size<=g) :
  EnB B (w'.setCell ⟨E,i*4+3,none⟩ v') (es.set i ⟨es[i].nm,es[i].ve,es[i].dg,es[i].nd++[s]⟩) (.slice (some ⟨E,0,none⟩) n c) (xs.set (i*4+3) v') (fun j=>if j=i then v' else vs j):=by
 have hxl:=h.row.1;obtain rfl:n=es.length:=by
  rcases h.row.2 with⟨e1,_⟩|⟨g',cap',cu,e1,_⟩
  ·cases e1
  ·cases e1;rfl
 have k1:Kt 33 w w':=zB (h.nee i hi) hg (by decide);have r1:=k1.row h.row;obtain⟨cur,hE⟩:=(bH r1 rfl).2;have kt:Kt 9 w' (w'.setCell ⟨E,i*4+3,none⟩ v'):=iO _ hE (by decide);have gx:=YE xs (i*4+3) v' (by omega);refine⟨by rw[List.length_set];exact YD r1 _,fun j hj=>?_,fun j hj=>?_,fun a b g ha hb h1 h2=>?_⟩
 ·have hj':j<es.length:=by rw[List.length_set]at hj;exact hj
  obtain⟨c0,c1,c2,c3⟩:=h.cel j hj';simp only[gx]
  by_cases e:j=i
  ·subst e;simp only[List.getElem_set_self,if_true];rw[if_neg (by omega),if_neg (by omega),if_neg (by omega)];exact⟨c0,c1,c2,trivial⟩
  ·simp only[List.getElem_set_ne (fun h=>e h.symm:¬i=j)];rw[if_neg (by omega),if_neg (by omega),if_neg (by omega),if_neg (by omega),if_neg e];exact⟨c0,c1,c2,c3⟩
 ·have hj':j<es.length:=by rw[List.length_set]at hj;exact hj
  by_cases e:j=i
  ·subst e;simp only[List.getElem_set_self,if_true,List.length_append,List.map_append,List.length_cons,List.length_nil];exact kt.row ho
  ·simp only[List.getElem_set_ne (fun h=>e h.symm:¬i=j),if_neg e];refine kt.row (bZ (h.nee j hj') fun g cur hgo hc=>hg.block g (aB hc) (fun e2=>e (h.apa j i g hj' hi hgo e2.symm)))
 ·rw[List.length_set]at ha hb;have fresh:∀k,k<es.length->¬k=i->(vs k).ownBlock=some g->v'.ownBlock=some g->False:=fun k hk hne e1 e2=>by
   rcases hat with e3|e3|⟨g2,e3,hge⟩
   ·rw[e3]at e2;exact hne (h.apa k i g hk hi e1 e2)
   ·rw[e3]at e2
    cases e2
    obtain⟨-,cc,hcc⟩:=bH (h.nee k hk) e1;exact absurd (aB hcc) (by omega)
   ·rw[e3]at e2
    cases e2
    obtain⟨-,cc,hcc⟩:=bH (h.nee k hk) e1;exact absurd (aB hcc) (by omega)
  by_cases ea:a=i
  ·by_cases eb:b=i
   ·rw[ea,eb]
   ·simp only[if_pos ea]at h1;simp only[if_neg eb]at h2;exact(fresh b hb eb h2 h1).elim
  ·by_cases eb:b=i
   ·simp only[if_neg ea]at h1;simp only[if_pos eb]at h2;exact(fresh a ha ea h1 h2).elim
   ·simp only[if_neg ea]at h1;simp only[if_neg eb]at h2;exact h.apa a b g ha hb h1 h2
end
open Go.RowKit Go.Maps Go.WideMaps Go.Joins
def dQ(x:Tn)(k:Value):Array Value:=#[.int .i64 x.kd,.string ⟨x.ky.toArray⟩,.string ⟨x.tx.toArray⟩,.int .i64 x.nu,k,.int .i64 (x.pl:Nat)]
def pO(kv:Nat->Value)(ns:List Tn)(q:Nat):List Value:=match ns[q]? with|some x=>(dQ x (kv q)).toList|none=>[]
def yt(y:ByteArray × Nat):List Value:=[.string y.1,.int .i64 (y.2:Nat)]
structure Nd(w0:World)(N c:Nat)(kv:Nat->Value)(ns:List Tn):Prop where
 cel:∀i (hi:i<ns.length),w0.cell? ⟨N,i*6,none⟩=some (.int .i64 ns[i].kd)/\w0.cell? ⟨N,i*6+1,none⟩=some (.string ⟨ns[i].ky.toArray⟩)/\w0.cell? ⟨N,i*6+2,none⟩=some (.string ⟨ns[i].tx.toArray⟩)/\w0.cell? ⟨N,i*6+3,none⟩=some (.int .i64 ns[i].nu)/\w0.cell? ⟨N,i*6+4,none⟩=some (kv i)/\w0.cell? ⟨N,i*6+5,none⟩=some (.int .i64 (ns[i].pl:Nat))
 kid:∀i (hi:i<ns.length),NuS w0 (kv i) ns[i].ks
 rng:∀i (hi:i<ns.length),∀q∈ns[i].ks,q<ns.length
 num:∀i (hi:i<ns.length),ns[i].ks.length<=1000000
 len:ns.length<=1000000
 pos:0<ns.length
 tex:∀i (hi:i<ns.length),ns[i].tx.length<2 ^ 60
structure Dm(w0:World)(T D Lb:Nat)(nv:Value)(kv:Nat->Value)(ns:List Tn)(d:Dr)(w:World)(vt ve vw:Value)(xs:List Value)(vs:Nat->Value):Prop where
 gb:w0.grownBy w none
 tre:w.heap[T]?=some (.cells #[nv,.slice (some ⟨Lb,0,none⟩) ns.length ns.length] 106 (0,0))
 dra:w.heap[D]?=some (.cells #[.pointer (some ⟨T,0,none⟩),.bool d.fm,vt,ve,vw] 62 (0,0))
 lok:LoB w D T Lb ns.length d.lk
 tab:w.ownsRow w0.heap.size 64 6 vt d.tb.length (d.tb.flatMap (pO kv ns))
 ent:EnB w0.heap.size w d.es ve xs vs
 wan:w.ownsRow w0.heap.size 109 2 vw d.wt.length (d.wt.flatMap yt)
 bD:w0.heap.size<=D
 bL:w0.heap.size<=Lb
section
variable {w0:World} {T D Lb:Nat} {nv:Value} {kv:Nat->Value} {ns:List Tn} {d:Dr} {w w':World} {vt ve vw:Value} {xs:List Value} {vs:Nat->Value}
theorem ag9(hg:w.grownBy w' none):Bx w w':=⟨aV hg,aV hg,aV hg⟩
theorem aha{g o:Nat}{c:Array Value}{X:TypeId}{fz:Nat × Nat}(v:Value)(hX:w.heap[g]?=some (.cells c X fz))(h1:¬59=X)(h2:¬57=X)(h3:¬3=X):Bx w (w.setCell ⟨g,o,none⟩ v):=⟨iO v hX h1,iO v hX h2,iO v hX h3⟩
theorem Dm.grow(h:Dm w0 T D Lb nv kv ns d w vt ve vw xs vs)(hg:w.grownBy w' none):Dm w0 T D Lb nv kv ns d w' vt ve vw xs vs :=
 ⟨ai h.gb hg,(aV hg).blk h.tre,(aV hg).blk h.dra,h.lok.keep (aV hg) (ag9 hg),(aV hg).row h.tab,h.ent.keep (aV hg) (aV hg),(aV hg).row h.wan,h.bD,h.bL⟩
theorem Dm.look(h:Dm w0 T D Lb nv kv ns d w vt ve vw xs vs)(q:Nat)(hq:q<ns.length)(v:Value)(k:iw)(hv:LkV w D T v (some k)):Dm w0 T D Lb nv kv ns ⟨fun p=>if p=q then some k else d.lk p,d.fm,d.tb,d.es,d.wt⟩ (w.setCell ⟨Lb,q,none⟩ v) vt ve vw xs vs:=by
 obtain⟨cs,hc,-,-⟩:=h.lok;exact⟨nR h.gb (iL w Lb q v) h.bL,(iO v hc (by decide)).blk h.tre,(iO v hc (by decide)).blk h.dra,h.lok.set q hq v k hv,(iO v hc (by decide)).row h.tab,h.ent.keep (iO v hc (by decide)) (iO v hc (by decide)),(iO v hc (by decide)).row h.wan,h.bD,h.bL⟩
theorem Dm.fmt(h:Dm w0 T D Lb nv kv ns d w vt ve vw xs vs)(b:Bool):Dm w0 T D Lb nv kv ns ⟨d.lk,b,d.tb,d.es,d.wt⟩ (w.setCell ⟨D,1,none⟩ (.bool b)) vt ve vw xs vs:=by
 have hc:=h.dra;exact⟨nR h.gb (iL w D 1 _) h.bD,(iO _ hc (by decide)).blk h.tre,block_setCell (i:=1) hc _,h.lok.keep (iO _ hc (by decide)) (aha _ hc (by decide) (by decide) (by decide)),(iO _ hc (by decide)).row h.tab,h.ent.keep (iO _ hc (by decide)) (iO _ hc (by decide)),(iO _ hc (by decide)).row h.wan,h.bD,h.bL⟩
theorem Dm.cells(h:Dm w0 T D Lb nv kv ns d w vt ve vw xs vs):w.cell? ⟨T,0,none⟩=some nv/\w.cell? ⟨T,1,none⟩=some (.slice (some ⟨Lb,0,none⟩) ns.length ns.length)/\w.cell? ⟨D,0,none⟩=some (.pointer (some ⟨T,0,none⟩))/\w.cell? ⟨D,1,none⟩=some (.bool d.fm)/\w.cell? ⟨D,2,none⟩=some vt/\w.cell? ⟨D,3,none⟩=some ve/\w.cell? ⟨D,4,none⟩=some vw/\∀k,w.frozen? ⟨D,k,none⟩=false :=
 ⟨by rw[ag h.tre];rfl,by rw[ag h.tre];rfl,by rw[ag h.dra];rfl,by rw[ag h.dra];rfl,by rw[ag h.dra];rfl,by rw[ag h.dra];rfl,by rw[ag h.dra];rfl,fun k=>Lib.frozen_of_heap h.dra k⟩
theorem Dm.lcell(h:Dm w0 T D Lb nv kv ns d w vt ve vw xs vs){q:Nat}(hq:q<ns.length):∃v,w.cell? ⟨Lb,q,none⟩=some v/\LkV w D T v (d.lk q)/\w.frozen? ⟨Lb,q,none⟩=false:=by
 obtain⟨cs,h1,h2,h3,-⟩:=h.lok;refine⟨cs[q]'(by omega),?_,h3 q (by omega),Lib.frozen_of_heap h1 q⟩;rw[ag h1];exact Array.getElem?_eq_getElem (by omega)
theorem ahb(d:Dr)(ks:List Nat)(k:iw)(i:Nat)(hi:i<ks.length):keepD d (ks.take (i+1)) k=⟨fun p=>if p=ks[i] then some k else(keepD d (ks.take i) k).lk p,d.fm,d.tb,d.es,d.wt⟩:=by
 unfold keepD;congr 1;funext p;rw[List.take_succ_eq_append_getElem hi];simp only[List.mem_append,List.mem_singleton]
 by_cases h1:p=ks[i]
 ·rw[if_pos (Or.inr h1),if_pos h1]
 ·by_cases h2:p∈ks.take i
  ·rw[if_pos (Or.inl h2),if_neg h1,if_pos h2]
  ·rw[if_neg (by rintro(h|h);exact h2 h;exact h1 h),if_neg h1,if_neg h2]
theorem keep_any(h:Dm w0 T D Lb nv kv ns d w vt ve vw xs vs)(x:Tn)(k:Value)(hk:NuS w0 k x.ks)(hr:∀q∈x.ks,q<ns.length)(hl:x.ks.length<=1000000)(F:Nat)(cp:Array Value)(kp:iw)(hv:LkV w D T (.func (.func F) #[] cp) (some kp)) :
  Calls prog 22 #[.pointer (some ⟨T,0,none⟩),.agg (dQ x k),.func (.func F) #[] cp] w fun e w'=>e=.returned (.tuple #[])/\Dm w0 T D Lb nv kv ns (keepD d x.ks kp) w' vt ve vw xs vs/\∀t,¬t=67->Kt t w w':=by
 obtain⟨o,c,rfl,HK⟩:=hk;have HKh:=ae HK;have HR:=ae hr;have HV:=ae hv;have HD:=ae h;obtain⟨m,hm⟩:=zN (x.ks.length);have HM:=ae hm;unfold dQ;rw[hm]at hl ⊢;have hst:=fun(w:World) a m=>run_store prog w a (.func (.func F) #[] cp) m rfl
 clear HK hr hv h hm;go_enter func22,ntmps22;go_wp2;obtain⟨W,hW⟩:=zN (w.alloc (.cells #[.int .i64 x.kd,.string ⟨x.ky.toArray⟩,.string ⟨x.tx.toArray⟩,.int .i64 x.nu,.slice o m c,.int .i64 (x.pl:Nat)] 64));have HW:=ae (hW ▸ bC (au w none) _)
 try rw[hW]
 clear hW;go_loopw [11] (fun vi wr=>∃i:Nat,vi=.int .i64 (i:Nat)/\i<=m/\Dm w0 T D Lb nv kv ns (keepD d (x.ks.take i) kp) wr vt ve vw xs vs/\∀t,¬t=67->Kt t w wr) (fun vi _=>m-(intOf vi).toNat)
 case atStart =>
  refine⟨0,rfl,by omega,?_,fun t _=>aV HW.o⟩;have:keepD d (x.ks.take 0) kp=d:=by unfold keepD;simp
  rw[this];exact HD.o.grow HW.o
 case round =>
  obtain⟨i,rfl,hi,hd,hb⟩:=hrel;have wu:=ae hd;have HB:=ae hb;obtain⟨-,c1,-,-,-,-,-,-⟩:=hd.cells
  by_cases hlt:i<m
  ·have hin:i<x.ks.length:=by rw[HM.o];exact hlt
   obtain⟨g,rfl,hc0⟩:=HKh.o i hin;have hc:=hd.gb.cell hc0 (by simp);have dU:=HR.o _ (List.getElem_mem hin);obtain⟨v,hlc,-,hfz⟩:=hd.lcell dU;have HN:=ae (ahb d x.ks kp i hin);have HL:Hd (Dm w0 T D Lb nv kv ns (keepD d (x.ks.take (i+1)) kp) (wr.setCell ⟨Lb,x.ks[i],none⟩ (.func (.func F) #[] cp)) vt ve vw xs vs):=by
    rw[HN.o];exact hd.look _ dU _ kp (HV.o.keep ⟨hb _ (by decide),hb _ (by decide),hb _ (by decide)⟩)
   have HB2:Hd (∀t,¬t=67->Kt t w (wr.setCell ⟨Lb,x.ks[i],none⟩ (.func (.func F) #[] cp))):=fun t ht=>by
    obtain⟨cs,hcs,-,-⟩:=hd.lok;exact(hb t ht).two (iO _ hcs ht)
   obtain⟨q,hq⟩:=zN (x.ks[i]);rw[hq]at hc hlc hfz HL HB2 dU;have hqi:((q:Int)<0)=False:=by simp
   clear hd hb HN hq;go_wp2;exact⟨⟨i+1,by go_num,by omega,HL.o,HB2.o⟩,by simp[intOf];omega⟩
  ·have him:i=m:=by omega
   have HF:Hd (Dm w0 T D Lb nv kv ns (keepD d x.ks kp) wr vt ve vw xs vs):=by
    have:=wu.o;rw[him,<-HM.o,List.take_length]at this;exact this
   clear hd hb;go_wp2;exact bodyPost_end (results_none rfl _ _ _) rfl ⟨rfl,HF.o,HB.o⟩
end
open Go.RowKit Go.Maps Go.WideMaps Go.Joins
theorem ahc:(prog.info? 67).map (fun i=>(i.zero,i.size,i.bytes))=some (some .nilFunc,1,8):=by kernel_rfl
theorem ahe(n:Nat):madeCells #[Value.nilFunc] n=Array.replicate n .nilFunc:=by
 unfold madeCells;apply Array.ext';simp;apply List.ext_getElem?;intro i;simp
 by_cases h:i<n
 ·simp[h,Nat.mod_one]
 ·simp[h]
theorem ahf(n:Nat)(hn:n<=1048576)(W:World):(Instr.makeSlice 104 (.int .i64 (n:Int)) (.int .i64 (n:Int))).run prog W=.ok (.slice (some ⟨W.heap.size,0,none⟩) n n) (W.alloc (.cells (Array.replicate n .nilFunc) 67)):=by
 obtain⟨i0,hi0,hii⟩:=Option.map_eq_some_iff.1 ahc;simp only[Prod.mk.injEq]at hii;obtain⟨hz0,hz1,hzb⟩:=hii;have:=run_make W 104 67 i0 .nilFunc underlying104 hi0 hz0 .i64 .i64 (n:Int) (n:Int) (by omega) (Int.le_refl _) (by rw[hzb];omega) (by omega);rw[this,hz1];have e:((n:Int)).toNat=n:=by omega
 rw[e,Nat.mul_one];have e2:(Value.nilFunc).cells=#[.nilFunc]:=rfl;rw[e2,ahe]
theorem ahg(N c n:Nat)(w:World)(hn:n<=1048576) :
  Calls prog 21 #[.slice (some ⟨N,0,none⟩) n c] w fun e w'=>e=.returned (.pointer (some ⟨w.heap.size+1,0,none⟩))/\w'=(w.alloc (.cells (Array.replicate n .nilFunc) 67)).alloc (.cells #[.slice (some ⟨N,0,none⟩) n c,.slice (some ⟨w.heap.size,0,none⟩) n n] 106):=by
 have hmk:=ahf n hn w;go_enter func21,ntmps21;go_wp2;go_ret;exact⟨rfl,rfl⟩
theorem ahh(D:Nat)(w:World):Calls prog 26 #[.pointer (some ⟨D,0,none⟩)] w fun e w'=>e=.returned (.func (.func 49) #[] #[.pointer (some ⟨w.heap.size,0,none⟩)])/\w'=w.alloc (.cells #[.pointer (some ⟨D,0,none⟩)] 59):=by
 go_enter func26,ntmps26;go_wp2;go_ret;exact⟨rfl,rfl⟩
theorem ahi(D:Nat)(e:Int)(w:World):Calls prog 50 #[.pointer (some ⟨D,0,none⟩),.int .i64 e] w fun e' w'=>e'=.returned (.func (.func 75) #[] #[.pointer (some ⟨w.heap.size,0,none⟩),.pointer (some ⟨w.heap.size+1,0,none⟩)])/\w'=(w.alloc (.cells #[.pointer (some ⟨D,0,none⟩)] 59)).alloc (.cells #[.int .i64 e] 3):=by
 go_enter func50,ntmps50;go_wp2;go_ret;exact⟨rfl,rfl⟩
theorem ahj(D:Nat)(e:Int)(w:World):Calls prog 78 #[.pointer (some ⟨D,0,none⟩),.int .i64 e] w fun e' w'=>e'=.returned (.func (.func 118) #[] #[.pointer (some ⟨w.heap.size,0,none⟩),.pointer (some ⟨w.heap.size+1,0,none⟩)])/\w'=(w.alloc (.cells #[.pointer (some ⟨D,0,none⟩)] 59)).alloc (.cells #[.int .i64 e] 3):=by
 go_enter func78,ntmps78;go_wp2;go_ret;exact⟨rfl,rfl⟩
section
variable {w0:World} {T D Lb:Nat} {nv:Value} {kv:Nat->Value} {ns:List Tn} {d:Dr} {w w':World} {vt ve vw:Value} {xs:List Value} {vs:Nat->Value}
theorem ahk(h:Dm w0 T D Lb nv kv ns d w vt ve vw xs vs)(x:Tn)(o:Option Addr)(m c:Nat) :
  Calls prog 25 #[.pointer (some ⟨D,0,none⟩),.agg (dQ x (.slice o m c))] w fun e w'=>(¬x.kd=4->e=.returned (.int .i64 7)/\w.grownBy w' none)/\(x.kd=4->¬x.nu=1->e=.returned (.int .i64 3)/\w.grownBy w' none)/\(x.kd=4->x.nu=1->e=.returned (.int .i64 0)/\Dm w0 T D Lb nv kv ns ⟨d.lk,true,d.tb,d.es,d.wt⟩ w' vt ve vw xs vs):=by
 unfold dQ;obtain⟨kd,ky,tx,nu,ks,pl⟩:=x;simp only[];obtain⟨W,hW⟩:=zN (w.alloc (.cells #[.int .i64 kd,.string ⟨ky.toArray⟩,.string ⟨tx.toArray⟩,.int .i64 nu,.slice o m c,.int .i64 (pl:Nat)] 64));have HG:=ae (hW ▸ bC (au w none) _);have HD:=ae (h.grow HG.o);have hB:W.heap[w.heap.size]?=some (.cells #[.int .i64 kd,.string ⟨ky.toArray⟩,.string ⟨tx.toArray⟩,.int .i64 nu,.slice o m c,.int .i64 (pl:Nat)] 64 (0,0)):=by rw[<-hW];exact heap_alloc_new _ _
 have c0:W.cell? ⟨w.heap.size,0,none⟩=some (.int .i64 kd):=by rw[ag hB];rfl
 have c3:W.cell? ⟨w.heap.size,3,none⟩=some (.int .i64 nu):=by rw[ag hB];rfl
 obtain⟨-,-,-,d1,-,-,-,hfz⟩:=HD.o.cells;have hf1:=hfz 1;clear hB hfz h
 by_cases h4:kd=4
 ·by_cases h1:nu=1
  ·have HF:=ae (HD.o.fmt true);subst h4 h1;go_enter func25,ntmps25;go_wp2;go_ret;exact⟨fun h=>(h (by first|exact trivial|rfl)).elim,fun _ h=>(h (by first|exact trivial|rfl)).elim,fun _ _=>⟨rfl,HF.o⟩⟩
  ·have hb:(nu != 1)=true:=by simpa using h1
   subst h4;go_enter func25,ntmps25;go_wp2;go_ret;exact⟨fun h=>(h (by first|exact trivial|rfl)).elim,fun _ _=>⟨rfl,HG.o⟩,fun _ h=>absurd h h1⟩
 ·have hb:(kd != 4)=true:=by simpa using h4
  go_enter func25,ntmps25;go_wp2;go_ret;exact⟨fun _=>⟨rfl,HG.o⟩,fun h=>absurd h h4,fun h=>absurd h h4⟩
def P7(x:Tn)(ok:Bool)(a:Addr)(w:World)(e:Ending)(w':World):Prop:=(¬x.kd=3->e=.returned (.int .i64 7)/\w.grownBy w' none)/\(x.kd=3->ok=false->e=.returned (.int .i64 2)/\w.grownBy w' none)/\(x.kd=3->ok=true->e=.returned (.int .i64 0)/\∃w1,w.grownBy w1 none/\w'=w1.setCell a (.string ⟨x.tx.toArray⟩))
theorem P8(x:Tn)(o:Option Addr)(m c F g k:Nat)(ok:Bool)(w:World)(eF:∀args w,(callFunc F args).run prog w=.ok (.enter F args) w)(CF:∀w',Calls prog F #[.string ⟨x.tx.toArray⟩] w' fun e w''=>e=.returned (.bool ok)/\w'.grownBy w'' none)(cs:Array Value)(t:TypeId)(hgb:w.heap[g]?=some (.cells cs t (0,0)))(v0:Value)(hk:cs[k]?=some v0) :
  Calls prog 77 #[.agg (dQ x (.slice o m c)),.func (.func F) #[] #[],.pointer (some ⟨g,k,none⟩)] w (P7 x ok ⟨g,k,none⟩ w):=by
 unfold dQ;obtain⟨kd,ky,tx,nu,ks,pl⟩:=x;simp only[]at CF ⊢;have mg:=ae CF;obtain⟨tB,P9⟩:∃t:ByteArray,⟨tx.toArray⟩=t:=⟨_,rfl⟩;have JE:=ae P9;rw[P9]at mg ⊢;obtain⟨W,hW⟩:=zN (w.alloc (.cells #[.int .i64 kd,.string ⟨ky.toArray⟩,.string tB,.int .i64 nu,.slice o m c,.int .i64 (pl:Nat)] 64));have HG:=ae (hW ▸ bC (au w none) _);have hB:W.heap[w.heap.size]?=some (.cells #[.int .i64 kd,.string ⟨ky.toArray⟩,.string tB,.int .i64 nu,.slice o m c,.int .i64 (pl:Nat)] 64 (0,0)):=by rw[<-hW];exact heap_alloc_new _ _
 have c0:W.cell? ⟨w.heap.size,0,none⟩=some (.int .i64 kd):=by rw[ag hB];rfl
 have c2:W.cell? ⟨w.heap.size,2,none⟩=some (.string tB):=by rw[ag hB];rfl
 have aH:=ae ((aV HG.o).blk hgb);clear hB CF P9 hgb
 by_cases h3:kd=3
 ·subst h3;go_enter func77,ntmps77;go_wp2_with (first|(refine(mg.o _).mono ?_));rintro e w2 ⟨rfl,hg2⟩;have c22:=hg2.cell c2 (by simp);have Qa:=(aV hg2).blk aH.o;have hc2:w2.cell? ⟨g,k,none⟩=some v0:=by rw[ag Qa];exact hk
  have hf2:=Lib.frozen_of_heap Qa k;clear Qa;have HG2:=ae (ai HG.o hg2);clear hg2
  cases ok with
  | true =>
   go_wp2;go_ret;refine⟨fun h=>(h (by first|exact trivial|rfl)).elim,fun _ h=>(by cases h),fun _ _=>⟨rfl,w2,HG2.o,?_⟩⟩;rw[JE.o]
  | false =>
   go_wp2;go_ret;exact⟨fun h=>(h (by first|exact trivial|rfl)).elim,fun _ _=>⟨rfl,HG2.o⟩,fun _ h=>(by cases h)⟩
 ·have hb:(kd != 3)=true:=by simpa using h3
  go_enter func77,ntmps77;go_wp2;go_ret;exact⟨fun _=>⟨rfl,HG.o⟩,fun h=>absurd h h3,fun h=>absurd h h3⟩
theorem ahl(N c:Nat)(h:Dm w0 T D Lb (.slice (some ⟨N,0,none⟩) ns.length c) kv ns d w vt ve vw xs vs)(H:Nd w0 N c kv ns) :
  Calls prog 23 #[.pointer (some ⟨T,0,none⟩)] w fun e w'=>e=.returned (.agg (dQ (ns[0]'H.pos) (kv 0)))/\w.grownBy w' none:=by
 obtain⟨c0,c1,c2,c3,c4,c5⟩:=H.cel 0 H.pos;obtain⟨o4,m4,hk4,-⟩:=H.kid 0 H.pos;obtain⟨x,hx⟩:=zN (ns[0]'H.pos);rw[hx]at c0 c1 c2 c3 c5 hk4 ⊢;rw[hk4]at c4 ⊢;obtain⟨kd,ky,tx,nu,ks,pl⟩:=x;unfold dQ;simp only[]at c0 c1 c2 c3 c4 c5 ⊢;obtain⟨t0,-,-,-,-,-,-,-⟩:=h.cells;have hp:=H.pos;obtain⟨n,hn⟩:=zN (ns.length);rw[hn]at t0 hp;have HG:=ae h.gb;have HW:Hd (w.grownBy (w.alloc (.cells #[.int .i64 0,.string ⟨#[]⟩,.string ⟨#[]⟩,.int .i64 0,.slice none 0 0,.int .i64 0] 64)) none):=bC (au w none) _;have qN:=ai HG.o HW.o;have d0:=qN.cell c0 (by simp);have d1:=qN.cell c1 (by simp);have d2:=qN.cell c2 (by simp);have d3:=qN.cell c3 (by simp);have d4:=qN.cell c4 (by simp);have d5:=qN.cell c5 (by simp);have tW:=HW.o.cell t0 (by simp);clear c0 c1 c2 c3 c4 c5 h H hx hk4 hn qN t0;have hlt:(0:Int)<(n:Int):=by omega
 go_enter func23,ntmps23;go_wp2;refine bodyPost_ret (results_cell_row rfl _ _ w.heap.size 64 #[.int .i64 kd,.string ⟨ky.toArray⟩,.string ⟨tx.toArray⟩,.int .i64 nu,.slice o4 ks.length m4,.int .i64 (pl:Nat)] (0,0) _ rfl ?_ underlying64 rfl (by kernel_rfl)) rfl ⟨rfl,bC (au w none) _⟩;exact heap_alloc_new _ _
end
open Go.RowKit Go.Maps Go.WideMaps Go.Joins
def sK(w0:World)(T D Lb:Nat)(nv:Value)(kv:Nat->Value)(ns:List Tn)(r:Except Int Dr)(w:World)(e:Ending)(w':World):Prop :=
 (∀d',r=.ok d'->e=.returned (.int .i64 0)/\∃vt ve vw xs vs,Dm w0 T D Lb nv kv ns d' w' vt ve vw xs vs)/\(∀c,r=.error c->e=.returned (.int .i64 c)/\¬c=0/\w.grownBy w' none)
theorem yu{w0:World}{T D Lb:Nat}{nv:Value}{kv:Nat->Value}{ns:List Tn}{d':Dr}{w w':World}{vt ve vw:Value}{xs:List Value}{vs:Nat->Value}(h:Dm w0 T D Lb nv kv ns d' w' vt ve vw xs vs):sK w0 T D Lb nv kv ns (.ok d') w (.returned (.int .i64 0)) w' :=
 ⟨fun d e=>(by cases e;exact⟨rfl,_,_,_,_,_,h⟩),fun c e=>(by cases e)⟩
theorem mW{w0:World}{T D Lb:Nat}{nv:Value}{kv:Nat->Value}{ns:List Tn}{c:Int}{w w':World}(hc:¬c=0)(h:w.grownBy w' none):sK w0 T D Lb nv kv ns (.error c) w (.returned (.int .i64 c)) w' :=
 ⟨fun d e=>(by cases e),fun c' e=>(by cases e;exact⟨rfl,hc,h⟩)⟩
theorem jy{ky k:List UInt8}{KY:ByteArray}(h:(⟨ky.toArray⟩:ByteArray)=KY):(ky=k->(KY.toList == k)=true)/\(¬ky=k->(KY.toList == k)=false):=by
 subst h;have e:(⟨ky.toArray⟩:ByteArray).toList=ky:=by rw[ByteArray.toList_eq]
 rw[e];exact⟨fun h=>by rw[h];simp,fun h=>by simpa using h⟩
theorem Qb{w w':World}{a b bx:Nat}{va vb v0 v1 v2 v3 v4 v5:Value}(hg:w.grownBy w' none)(h:w.cell? ⟨a,0,none⟩=some va/\w.cell? ⟨b,0,none⟩=some vb/\w.cell? ⟨bx,0,none⟩=some v0/\w.cell? ⟨bx,1,none⟩=some v1/\w.cell? ⟨bx,2,none⟩=some v2/\w.cell? ⟨bx,3,none⟩=some v3/\w.cell? ⟨bx,4,none⟩=some v4/\w.cell? ⟨bx,5,none⟩=some v5):w'.cell? ⟨a,0,none⟩=some va/\w'.cell? ⟨b,0,none⟩=some vb/\w'.cell? ⟨bx,0,none⟩=some v0/\w'.cell? ⟨bx,1,none⟩=some v1/\w'.cell? ⟨bx,2,none⟩=some v2/\w'.cell? ⟨bx,3,none⟩=some v3/\w'.cell? ⟨bx,4,none⟩=some v4/\w'.cell? ⟨bx,5,none⟩=some v5 :=
 ⟨hg.cell h.1 (by simp),hg.cell h.2.1 (by simp),hg.cell h.2.2.1 (by simp),hg.cell h.2.2.2.1 (by simp),hg.cell h.2.2.2.2.1 (by simp),hg.cell h.2.2.2.2.2.1 (by simp),hg.cell h.2.2.2.2.2.2.1 (by simp),hg.cell h.2.2.2.2.2.2.2 (by simp)⟩
section
variable {w0:World} {T D Lb:Nat} {nv:Value} {kv:Nat->Value} {ns:List Tn} {d:Dr} {w w':World} {vt ve vw:Value} {xs:List Value} {vs:Nat->Value}
theorem ahm(h:Dm w0 T D Lb nv kv ns d w vt ve vw xs vs)(q:Nat)(x:Tn)(k:Value)(hk:NuS w0 k x.ks)(hr:∀q∈x.ks,q<ns.length)(hl:x.ks.length<=1000000)(a b:Nat)(ha:w.heap[a]?=some (.cells #[.pointer (some ⟨D,0,none⟩)] 59 (0,0)))(hb:w.heap[b]?=some (.cells #[.pointer (some ⟨T,0,none⟩)] 57 (0,0))) :
  Calls prog 24 #[.agg (dQ x k),.pointer (some ⟨a,0,none⟩),.pointer (some ⟨b,0,none⟩)] w (sK w0 T D Lb nv kv ns (eQ d q x .root) w):=by
 have kG:=ae hk;obtain⟨o,c,hk0,-⟩:=hk;have HR:=ae hr;obtain⟨kd,ky,tx,nu,ks,pl⟩:=x;obtain⟨KY,iC⟩:∃t:ByteArray,⟨ky.toArray⟩=t:=⟨_,rfl⟩;have eP:=ae iC;obtain⟨m,hm⟩:=zN (ks.length);have hk1:k=.slice o m c:=by rw[hk0];show Value.slice o ks.length c=_;rw[hm]
 obtain⟨bx,hbx⟩:=zN (w.heap.size);obtain⟨W,hW⟩:=zN (w.alloc (.cells #[.int .i64 kd,.string KY,.string ⟨tx.toArray⟩,.int .i64 nu,.slice o m c,.int .i64 (pl:Nat)] 64));have HG:=ae (hW ▸ bC (au w none) _);have HD:=ae (h.grow HG.o);have hB:W.heap[bx]?=some (.cells #[.int .i64 kd,.string KY,.string ⟨tx.toArray⟩,.int .i64 nu,.slice o m c,.int .i64 (pl:Nat)] 64 (0,0)):=by rw[<-hW,<-hbx];exact heap_alloc_new _ _
 have ww:=(aV HG.o).blk ha;have hbW:=(aV HG.o).blk hb;have kH:Hd (W.heap[bx]?=some (.cells #[.int .i64 kd,.string KY,.string ⟨tx.toArray⟩,.int .i64 nu,.slice o m c,.int .i64 (pl:Nat)] 64 (0,0))/\W.heap[a]?=some (.cells #[.pointer (some ⟨D,0,none⟩)] 59 (0,0))/\W.heap[b]?=some (.cells #[.pointer (some ⟨T,0,none⟩)] 57 (0,0))):=⟨hB,ww,hbW⟩;have c0:W.cell? ⟨bx,0,none⟩=some (.int .i64 kd):=by rw[ag hB];rfl
 have c1:W.cell? ⟨bx,1,none⟩=some (.string KY):=by rw[ag hB];rfl
 have c2:W.cell? ⟨bx,2,none⟩=some (.string ⟨tx.toArray⟩):=by rw[ag hB];rfl
 have c3:W.cell? ⟨bx,3,none⟩=some (.int .i64 nu):=by rw[ag hB];rfl
 have c4:W.cell? ⟨bx,4,none⟩=some (.slice o m c):=by rw[ag hB];rfl
 have c5:W.cell? ⟨bx,5,none⟩=some (.int .i64 (pl:Nat)):=by rw[ag hB];rfl
 have ca:W.cell? ⟨a,0,none⟩=some (.pointer (some ⟨D,0,none⟩)):=by rw[ag ww];rfl
 have cb:W.cell? ⟨b,0,none⟩=some (.pointer (some ⟨T,0,none⟩)):=by rw[ag hbW];rfl
 have HW:Hd (w.alloc (.cells #[.int .i64 kd,.string KY,.string ⟨tx.toArray⟩,.int .i64 nu,.slice o m c,.int .i64 (pl:Nat)] 64)=W/\w.heap.size=bx):=⟨hW,hbx⟩;rw[hk1]at kG ⊢;unfold dQ eQ;simp only[]at kG HR hl ⊢;rw[iC];have CF:Hd (Calls prog 25 #[.pointer (some ⟨D,0,none⟩),.agg #[.int .i64 kd,.string KY,.string ⟨tx.toArray⟩,.int .i64 nu,.slice o m c,.int .i64 (pl:Nat)]] W fun e w'=>(¬kd=4->e=.returned (.int .i64 7)/\W.grownBy w' none)/\(kd=4->¬nu=1->e=.returned (.int .i64 3)/\W.grownBy w' none)/\(kd=4->nu=1->e=.returned (.int .i64 0)/\Dm w0 T D Lb nv kv ns ⟨d.lk,true,d.tb,d.es,d.wt⟩ w' vt ve vw xs vs)):=by
  have:=ahk HD.o ⟨kd,ky,tx,nu,ks,pl⟩ o m c;unfold dQ at this;simp only[]at this;rw[iC]at this;exact this
 clear h hr hk0 ha hb hB ww hbW hW hbx iC hm hk1
 by_cases e1:ky=fM
 ·have hb1:(KY.toList == [102,111,114,109,97,116])=true:=(jy eP.o).1 e1;rw[if_pos e1]
  by_cases g1:kd=4
  ·by_cases g2:nu=1
   ·rw[if_neg (by simpa using g1),if_neg (by simpa using g2)];have CG:Hd (Calls prog 25 #[.pointer (some ⟨D,0,none⟩),.agg #[.int .i64 kd,.string KY,.string ⟨tx.toArray⟩,.int .i64 nu,.slice o m c,.int .i64 (pl:Nat)]] W fun e w'=>e=.returned (.int .i64 0)/\Hd (Dm w0 T D Lb nv kv ns ⟨d.lk,true,d.tb,d.es,d.wt⟩ w' vt ve vw xs vs)):=CF.o.mono fun e w' h=>h.2.2 g1 g2
    clear e1 CF g1 g2;go_enter func24,ntmps24;go_upto_region 1 with fail
    try rw[HW.o.1]
    try rw[HW.o.2]
    go_wp2_with (go_at_call 25;refine CG.o.mono ?_);rintro e w2 ⟨rfl,h2⟩;go_wp2;go_ret;exact yu h2.o
   ·rw[if_neg (by simpa using g1),if_pos g2];have CG:Hd (Calls prog 25 #[.pointer (some ⟨D,0,none⟩),.agg #[.int .i64 kd,.string KY,.string ⟨tx.toArray⟩,.int .i64 nu,.slice o m c,.int .i64 (pl:Nat)]] W fun e w'=>e=.returned (.int .i64 3)/\Hd (W.grownBy w' none)):=CF.o.mono fun e w' h=>h.2.1 g1 g2
    clear e1 CF g1 g2;go_enter func24,ntmps24;go_upto_region 1 with fail
    try rw[HW.o.1]
    try rw[HW.o.2]
    go_wp2_with (go_at_call 25;refine CG.o.mono ?_);rintro e w2 ⟨rfl,h2⟩;go_wp2;go_ret;exact mW (by decide) (ai HG.o h2.o)
  ·rw[if_pos g1];have CG:Hd (Calls prog 25 #[.pointer (some ⟨D,0,none⟩),.agg #[.int .i64 kd,.string KY,.string ⟨tx.toArray⟩,.int .i64 nu,.slice o m c,.int .i64 (pl:Nat)]] W fun e w'=>e=.returned (.int .i64 7)/\Hd (W.grownBy w' none)):=CF.o.mono fun e w' h=>h.1 g1
   clear e1 CF g1;go_enter func24,ntmps24;go_upto_region 1 with fail
   try rw[HW.o.1]
   try rw[HW.o.2]
   go_wp2_with (go_at_call 25;refine CG.o.mono ?_);rintro e w2 ⟨rfl,h2⟩;go_wp2;go_ret;exact mW (by decide) (ai HG.o h2.o)
 ·have hb1:(KY.toList == [102,111,114,109,97,116])=false:=(jy eP.o).2 e1;rw[if_neg e1]
  by_cases e2:ky=dN
  ·have hb2:(KY.toList == [112,97,99,107,97,103,101])=true:=(jy eP.o).1 e2
   by_cases e3:kd=2
   ·have hb3:(kd == 2)=true:=by simpa using e3
    rw[if_pos ⟨e2,e3⟩];have iy:Hd (W.grownBy W.drew none):=ay (au W none) 1;have CT:Hd (Calls prog 26 #[.pointer (some ⟨D,0,none⟩)] W.drew fun e w'=>∃A,e=.returned (.func (.func 49) #[] #[.pointer (some ⟨A,0,none⟩)])/\w'.heap[A]?=some (.cells #[.pointer (some ⟨D,0,none⟩)] 59 (0,0))/\W.drew.grownBy w' none):=(ahh D W.drew).mono fun e w' ⟨a1,a2⟩=>⟨_,a1,by rw[a2];exact heap_alloc_new _ _,by rw[a2];exact bC (au _ none) _⟩
    have CK:Hd (∀A w2,W.drew.grownBy w2 none->w2.heap[A]?=some (.cells #[.pointer (some ⟨D,0,none⟩)] 59 (0,0))->Calls prog 22 #[.pointer (some ⟨T,0,none⟩),.agg #[.int .i64 kd,.string KY,.string ⟨tx.toArray⟩,.int .i64 nu,.slice o m c,.int .i64 (pl:Nat)],.func (.func 49) #[] #[.pointer (some ⟨A,0,none⟩)]] w2 fun e w3=>e=.returned (.tuple #[])/\Hd (Dm w0 T D Lb nv kv ns (keepD d ks .tabs) w3 vt ve vw xs vs)/\w3.cell? ⟨a,0,none⟩=some (.pointer (some ⟨D,0,none⟩))/\w3.cell? ⟨b,0,none⟩=some (.pointer (some ⟨T,0,none⟩))/\w3.cell? ⟨bx,0,none⟩=some (.int .i64 kd)/\w3.cell? ⟨bx,1,none⟩=some (.string KY)/\w3.cell? ⟨bx,2,none⟩=some (.string ⟨tx.toArray⟩)/\w3.cell? ⟨bx,3,none⟩=some (.int .i64 nu)/\w3.cell? ⟨bx,4,none⟩=some (.slice o m c)/\w3.cell? ⟨bx,5,none⟩=some (.int .i64 (pl:Nat))):=fun A w2 hg hA=>by
     have hgW:=ai iy.o hg;have:=keep_any (HD.o.grow hgW) ⟨kd,ky,tx,nu,ks,pl⟩ (.slice o m c) kG.o HR.o hl 49 #[.pointer (some ⟨A,0,none⟩)] .tabs ⟨A,rfl,hA⟩;unfold dQ at this;simp only[]at this;rw[eP.o]at this;refine this.mono fun e w3 ⟨a1,a2,a3⟩=>?_
     have y1:=(a3 _ (by decide)).blk ((aV hgW).blk kH.o.1);have y2:=(a3 _ (by decide)).blk ((aV hgW).blk kH.o.2.1);have y3:=(a3 _ (by decide)).blk ((aV hgW).blk kH.o.2.2);exact⟨a1,a2,by rw[ag y2];rfl,by rw[ag y3];rfl,by rw[ag y1];rfl,by rw[ag y1];rfl,by rw[ag y1];rfl,by rw[ag y1];rfl,by rw[ag y1];rfl,by rw[ag y1];rfl⟩
    clear e1 e2 e3 CF;go_enter func24,ntmps24;go_upto_region 1 with fail
    try rw[HW.o.1]
    try rw[HW.o.2]
    go_wp2
    go_region_held3 (fun u=>u.cell? ⟨a,0,none⟩=some (.pointer (some ⟨D,0,none⟩))/\u.cell? ⟨b,0,none⟩=some (.pointer (some ⟨T,0,none⟩))/\u.cell? ⟨bx,0,none⟩=some (.int .i64 kd)/\u.cell? ⟨bx,1,none⟩=some (.string KY)/\u.cell? ⟨bx,2,none⟩=some (.string ⟨tx.toArray⟩)/\u.cell? ⟨bx,3,none⟩=some (.int .i64 nu)/\u.cell? ⟨bx,4,none⟩=some (.slice o m c)/\u.cell? ⟨bx,5,none⟩=some (.int .i64 (pl:Nat))) ((first|assumption|exact Qb (by assumption) (by assumption)|go_keep)) (first|(go_at_call 26;refine CT.o.mono ?_;rintro e w6 ⟨A,rfl,Fz,eY⟩)|(go_at_call 22;refine(CK.o _ _ eY Fz).mono ?_;rintro e w7 ⟨rfl,hall,hcl⟩))
    go_wp2;go_ret;exact yu hall.o
   ·have hb3:(kd == 2)=false:=by simpa using e3
    rw[if_neg (fun h=>e3 h.2)];have aC:=ae HG.o;clear e1 e2 e3 CF;go_enter func24,ntmps24;go_upto_region 1 with fail
    try rw[HW.o.1]
    try rw[HW.o.2]
    go_wp2;go_ret;exact mW (by decide) aC.o
  ·have hb2:(KY.toList == [112,97,99,107,97,103,101])=false:=(jy eP.o).2 e2;rw[if_neg (fun h=>e2 h.1)];have aC:=ae HG.o;clear e1 e2 CF;go_enter func24,ntmps24;go_upto_region 1 with fail
   try rw[HW.o.1]
   try rw[HW.o.2]
   go_wp2;go_ret;exact mW (by decide) aC.o
end
open Go.RowKit Go.Maps Go.WideMaps Go.Joins
section
variable {w0:World} {T D Lb:Nat} {nv:Value} {kv:Nat->Value} {ns:List Tn} {d:Dr} {w w':World} {vt ve vw:Value} {xs:List Value} {vs:Nat->Value}
theorem Dm.txt{E n c:Nat}(h:Dm w0 T D Lb nv kv ns d w vt (.slice (some ⟨E,0,none⟩) n c) vw xs vs){i:Nat}(hi:i<d.es.length)(o:Nat)(ho:o<3)(s:ByteArray)(y:En)(h0:y.nm=if o=0 then s else d.es[i].nm)(h1:y.ve=if o=1 then s else d.es[i].ve)(h2:y.dg=if o=2 then s else d.es[i].dg)(h3:y.nd=d.es[i].nd):Dm w0 T D Lb nv kv ns (setD d i y) (w.setCell ⟨E,i*4+o,none⟩ (.string s)) vt (.slice (some ⟨E,0,none⟩) n c) vw (xs.set (i*4+o) (.string s)) vs:=by
 obtain⟨Qc,cur,hE⟩:=bH h.ent.row rfl;have k:∀t,¬t=33->Kt t w (w.setCell ⟨E,i*4+o,none⟩ (.string s)):=fun t ht=>iO _ hE ht
 exact⟨nR h.gb (iL w E _ _) Qc,(k _ (by decide)).blk h.tre,(k _ (by decide)).blk h.dra,h.lok.keep (k _ (by decide)) ⟨k _ (by decide),k _ (by decide),k _ (by decide)⟩,(k _ (by decide)).row h.tab,h.ent.txt hi o ho s y h0 h1 h2 h3,(k _ (by decide)).row h.wan,h.bD,h.bL⟩
theorem qO{es:List En}{e:Nat}(he:e<es.length):aW es e=es[e]:=by
 unfold aW;rw[List.getElem?_eq_getElem he];rfl
theorem Dm.entry(h:Dm w0 T D Lb nv kv ns d w vt ve vw xs vs){e:Nat}(he:e<d.es.length):∃E c,ve=.slice (some ⟨E,0,none⟩) d.es.length c/\d.es.length<=c/\(∃cur,w.heap[E]?=some (.cells cur 33 (0,0))/\cur[e*4]?=some (.string d.es[e].nm)/\cur[e*4+1]?=some (.string d.es[e].ve)/\cur[e*4+2]?=some (.string d.es[e].dg)/\cur[e*4+3]?=some (vs e)):=by
 obtain⟨E,c,e1,-,⟨cur,hc⟩,c0,c1,c2,c3,hle⟩:=h.ent.at he;refine⟨E,c,e1,hle,cur,hc,?_,?_,?_,?_⟩
 ·rw[ag hc]at c0;exact c0
 ·rw[ag hc]at c1;exact c1
 ·rw[ag hc]at c2;exact c2
 ·rw[ag hc]at c3;exact c3
theorem YF:∀args w,(callFunc 58 args).run prog w=.ok (.enter 58 args) w:=enters_of func58 (by kernel_rfl) rfl
theorem egV:∀args w,(callFunc 59 args).run prog w=.ok (.enter 59 args) w:=enters_of func59 (by kernel_rfl) rfl
theorem egD:∀args w,(callFunc 60 args).run prog w=.ok (.enter 60 args) w:=enters_of func60 (by kernel_rfl) rfl
theorem ahn(h:Dm w0 T D Lb nv kv ns d w vt ve vw xs vs)(x:Tn)(o:Option Addr)(m c e E n c3:Nat)(he:e<d.es.length)(sN:ve=.slice (some ⟨E,0,none⟩) n c3)(hel:d.es.length<=1000)(htx:x.tx.length<2 ^ 60) :
  Calls prog 76 #[.pointer (some ⟨D,0,none⟩),.agg (dQ x (.slice o m c)),.pointer (some ⟨E,e*4,none⟩)] w (sK w0 T D Lb nv kv ns (if takeD x nameB=0 then if aT d.es (bW x)=true then .error 5 else .ok (setD d e ⟨bW x,(aW d.es e).ve,(aW d.es e).dg,(aW d.es e).nd⟩) else .error (takeD x nameB)) w):=by
 subst sN;obtain⟨kd,ky,tx,nu,ks,pl⟩:=x;obtain⟨KY,iC⟩:∃t:ByteArray,⟨ky.toArray⟩=t:=⟨_,rfl⟩;obtain⟨TX,eH⟩:∃t:ByteArray,⟨tx.toArray⟩=t:=⟨_,rfl⟩;obtain⟨bx,hbx⟩:=zN (w.heap.size);obtain⟨W,hW⟩:=zN ((w.alloc (.cells #[.int .i64 kd,.string KY,.string TX,.int .i64 nu,.slice o m c,.int .i64 (pl:Nat)] 64)).alloc (.cells #[.string ⟨#[]⟩] 9));have HG:=ae (hW ▸ bC (bC (au w none) _) _);have HD0:=ae h;have hB:W.heap[bx]?=some (.cells #[.int .i64 kd,.string KY,.string TX,.int .i64 nu,.slice o m c,.int .i64 (pl:Nat)] 64 (0,0)):=by rw[<-hW,<-hbx,Lib.alloc_old _ _ _ (by simp)];exact heap_alloc_new _ _
 have hN:W.heap[bx+1]?=some (.cells #[.string ⟨#[]⟩] 9 (0,0)):=by
  rw[<-hW,<-hbx];have:=heap_alloc_new (w.alloc (.cells #[.int .i64 kd,.string KY,.string TX,.int .i64 nu,.slice o m c,.int .i64 (pl:Nat)] 64)) (.cells #[.string ⟨#[]⟩] 9)
  rwa [World.size_alloc]at this
 have b0:W.cell? ⟨bx,0,none⟩=some (.int .i64 kd):=by rw[ag hB];rfl
 have b1:W.cell? ⟨bx,1,none⟩=some (.string KY):=by rw[ag hB];rfl
 have b2:W.cell? ⟨bx,2,none⟩=some (.string TX):=by rw[ag hB];rfl
 have b3:W.cell? ⟨bx,3,none⟩=some (.int .i64 nu):=by rw[ag hB];rfl
 have b4:W.cell? ⟨bx,4,none⟩=some (.slice o m c):=by rw[ag hB];rfl
 have b5:W.cell? ⟨bx,5,none⟩=some (.int .i64 (pl:Nat)):=by rw[ag hB];rfl
 have hsz:(⟨tx.toArray⟩:ByteArray).size<2 ^ 62:=by
  show tx.toArray.size<2 ^ 62;rw[List.size_toArray];have:tx.length<2 ^ 60:=htx;omega
 have CT:Hd (Calls prog 77 #[.agg #[.int .i64 kd,.string KY,.string TX,.int .i64 nu,.slice o m c,.int .i64 (pl:Nat)],.func (.func 58) #[] #[],.pointer (some ⟨bx+1,0,none⟩)] W (P7 ⟨kd,ky,tx,nu,ks,pl⟩ (nameB TX) ⟨bx+1,0,none⟩ W)):=by
  have:=P8 ⟨kd,ky,tx,nu,ks,pl⟩ o m c 58 (bx+1) 0 (nameB ⟨tx.toArray⟩) W YF (fun w'=>(name_any _ w' hsz).mono fun e w'' h=>⟨h.1,h.2 ▸ au _ none⟩) #[.string ⟨#[]⟩] 9 hN _ rfl;unfold dQ at this;simp only[]at this;rw[iC,eH]at this;exact this
 have HT:=ae eH;have HW:Hd ((w.alloc (.cells #[.int .i64 kd,.string KY,.string TX,.int .i64 nu,.slice o m c,.int .i64 (pl:Nat)] 64)).alloc (.cells #[.string ⟨#[]⟩] 9)=W/\w.heap.size=bx):=⟨hW,hbx⟩;have HN:=ae hN;have htk:takeD ⟨kd,ky,tx,nu,ks,pl⟩ nameB=if ¬kd=3 then 7 else if nameB TX=true then 0 else 2:=by
  unfold takeD bW;simp only[];rw[eH]
 have htb:bW ⟨kd,ky,tx,nu,ks,pl⟩=TX:=eH;unfold dQ;simp only[];rw[iC,eH,htk,htb];clear htk htb hsz htx;clear hW hbx hB hN iC eH h
 by_cases g1:kd=3
 ·rw[if_neg (show ¬¬kd=3 by simpa using g1)]
  by_cases g2:nameB TX=true
  ·rw[if_pos g2,if_pos rfl];have CG:Hd (Calls prog 77 #[.agg #[.int .i64 kd,.string KY,.string TX,.int .i64 nu,.slice o m c,.int .i64 (pl:Nat)],.func (.func 58) #[] #[],.pointer (some ⟨bx+1,0,none⟩)] W fun e w'=>e=.returned (.int .i64 0)/\w'.heap[bx+1]?=some (.cells #[.string TX] 9 (0,0))/\w.grownBy w' none):=CT.o.mono fun e w' h=>by
    obtain⟨h1,w1,h2,h3⟩:=h.2.2 g1 g2;refine⟨h1,?_,?_⟩
    ·rw[h3,HT.o];exact block_setCell (i:=0) ((aV h2).blk HN.o) _
    ·rw[h3];exact nR (ai HG.o h2) (iL w1 _ 0 _) (by rw[HW.o.2];omega)
   clear CT g1 g2;obtain⟨q,hq⟩:=zN (aT d.es TX);have HQ:=ae hq;rw[hq];obtain⟨R,hR⟩:∃R:Except Int Dr,(if q=true then .error 5 else .ok (setD d e ⟨TX,(aW d.es e).ve,(aW d.es e).dg,(aW d.es e).nd⟩))=R:=⟨_,rfl⟩;rw[hR];have HR:=ae hR;clear hq hR;go_enter func76,ntmps76;go_upto_region 2 with fail
   try rw[HW.o.1]
   try rw[HW.o.2]
   go_wp2_with (go_at_call 77;refine CG.o.mono ?_)
   first|rintro e2 w2 rfl hn2 hg2|rintro e2 w2 ⟨rfl,hn2,hg2⟩
   have HD2:=ae (HD0.o.grow hg2);have c0:w2.cell? ⟨bx+1,0,none⟩=some (.string TX):=by rw[ag hn2];rfl
   obtain⟨-,-,-,-,-,d3,-,-⟩:=HD2.o.cells;have hnn:n=d.es.length:=by
    obtain⟨E',c',e1,-⟩:=HD2.o.entry he
    cases e1;rfl
   have CC:Hd (Calls prog 116 #[.slice (some ⟨E,0,none⟩) n c3,.func (.func 117) #[] #[.pointer (some ⟨bx+1,0,none⟩)]] w2 fun e w'=>e=.returned (.bool q)/\w2.grownBy w' none):=by
    have:=afs (some ⟨E,0,none⟩) n c3 (bx+1) TX d.es w2 hnn HD2.o.ent.ens (by omega) c0;rw[HQ.o]at this;exact this
   have tV:=ae hn2;have fJ:=ae hg2;clear hn2 hg2 HD0 CG HN HG hnn;go_wp2_with (go_at_call 116;refine CC.o.mono ?_)
   first|rintro e3 w3 rfl hg3|rintro e3 w3 ⟨rfl,hg3⟩
   have HD3:=ae (HD2.o.grow hg3);have c03:=hg3.cell c0 (by simp);replace fJ:=ae (ai fJ.o hg3);clear hg3
   cases q with
   | true =>
    go_wp2;go_ret;rw[show R=.error 5 from HR.o.symm];exact mW (by decide) fJ.o
   | false =>
    obtain⟨E',c',e1,-,cur,yw,q0,-,-,-⟩:=HD3.o.entry he
    cases e1
    have cE:w3.cell? ⟨E,e*4,none⟩=some (.string d.es[e].nm):=by rw[ag yw];exact q0
    have fE:w3.frozen? ⟨E,e*4,none⟩=false:=Lib.frozen_of_heap yw _;have HF:Hd (Dm w0 T D Lb nv kv ns (setD d e ⟨TX,(aW d.es e).ve,(aW d.es e).dg,(aW d.es e).nd⟩) (w3.setCell ⟨E,e*4,none⟩ (.string TX)) vt (.slice (some ⟨E,0,none⟩) d.es.length c3) vw (xs.set (e*4+0) (.string TX)) vs):=by
     rw[qO he];exact HD3.o.txt he 0 (by decide) TX _ rfl rfl rfl rfl
    clear yw q0 HD2 HD3 tV;go_wp2;go_ret;rw[show R=.ok (setD d e ⟨TX,(aW d.es e).ve,(aW d.es e).dg,(aW d.es e).nd⟩) from HR.o.symm];exact yu HF.o
  ·have g2':nameB TX=false:=by simpa using g2
   rw[if_neg g2,if_neg (show ¬(2:Int)=0 by decide)];have CG:=ae (CT.o.mono fun e w' h=>h.2.1 g1 g2');clear CT g1 g2 g2';go_enter func76,ntmps76;go_upto_region 2 with fail
   try rw[HW.o.1]
   try rw[HW.o.2]
   go_wp2_with (go_at_call 77;refine CG.o.mono ?_)
   first|rintro e2 w2 rfl hg2|rintro e2 w2 ⟨rfl,hg2⟩
   have HG2:=ae (ai HG.o hg2);clear hg2;go_wp2;go_ret;exact mW (by decide) HG2.o
 ·rw[if_pos g1,if_neg (show ¬(7:Int)=0 by decide)];have CG:=ae (CT.o.mono fun e w' h=>h.1 g1);clear CT g1;go_enter func76,ntmps76;go_upto_region 2 with fail
  try rw[HW.o.1]
  try rw[HW.o.2]
  go_wp2_with (go_at_call 77;refine CG.o.mono ?_)
  first|rintro e2 w2 rfl hg2|rintro e2 w2 ⟨rfl,hg2⟩
  have HG2:=ae (ai HG.o hg2);clear hg2;go_wp2;go_ret;exact mW (by decide) HG2.o
end
end Go.Proofs.YtnnbgjaphfhibaaGreatDoor
