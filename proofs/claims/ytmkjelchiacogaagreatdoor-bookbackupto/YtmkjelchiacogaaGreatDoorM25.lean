import Derived.Test.YtmkjelchiacogaaGreatDoorM24
import Derived.Test.YtmkjelchiacogaaGreatDoorM23
import Derived.Test.YtmkjelchiacogaaGreatDoorM15
import Derived.Deep.RegionHeld3
import Derived.Test.YtmkjelchiacogaaGreatDoorM21
set_option linter.unusedVariables false
set_option linter.unusedSimpArgs false
set_option maxRecDepth 100000
set_option maxHeartbeats 6400000
open Go.Proofs.Tryz
namespace Go.Proofs.YtmkjelchiacogaaGreatDoor
open Go.RowKit Go.Maps Go.WideMaps Go.Joins
theorem XD(E:Int->TypeId × Value)(b:Int->Addr)(w:World)(S:Sn w E b) :
  Calls prog 19 #[.iface (E 1).1 (E 1).2] w fun e w'=>e=.returned (.tuple #[.int .i64 1,.int .i64 0])/\w.grownBy w' none:=by
 have uP:w.grownBy (w.alloc (.cells #[.pointer none] 104)) none:=World.grownBy_alloc _ _ none;have hT:=heap_alloc_new w (.cells #[.pointer none] 104);have e1:=S.ptr 1 (by decide) (by decide);have hlo:=S.lo;rw[e1]at hlo ⊢;have CA:Hd (Calls prog 49 #[.iface 330 (.pointer (some (b 1))),.iface 106 (.pointer (some ⟨w.heap.size,0,none⟩))] (w.alloc (.cells #[.pointer none] 104)) fun ev w2=>ev=.returned (.bool false)/\w.grownBy w2 none/\w2.cell? ⟨0,0,none⟩=some (.iface 330 (.pointer (some (b 1))))):=by
  refine(aeR (b 1) ⟨w.heap.size,0,none⟩ (.pointer none) _ (S.grow uP).ty (by rw[ae hT];rfl) (Lib.frozen_of_heap hT 0)).mono ?_;rintro e w2 ⟨rfl,hg⟩;have g2:=af uP hg;exact⟨rfl,g2,g2.cell hlo (by simp)⟩
 have CI:Hd (∀w,Calls prog 50 #[.iface 330 (.pointer (some (b 1))),.iface 330 (.pointer (some (b 1)))] w fun e w'=>e=.returned (.bool true)/\w'=w):=is_same (b 1);obtain⟨x,hx⟩:=zN (b 1);rw[hx]at CA CI ⊢;clear uP hT e1 S hlo hx;go_enter func19,ntmps19;go_wp2_with (go_at_call 49;refine CA.o.mono ?_);rintro e w2 ⟨rfl,hg2,y1⟩;have HG2:Hd (w.grownBy w2 none):=hg2;clear hg2 CA;go_wp2_with (go_at_call 50;refine(CI.o _).mono ?_)
 first|rintro e w' rfl rfl|rintro e w' ⟨rfl,rfl⟩
 go_wp2;refine bodyPost_ret (results_tmp2 (t:=2) (u:=3) rfl _ _ _) rfl ?_;exact⟨rfl,HG2.o⟩
def ae5(r:Rs (List Tn))(w:World)(e:Ending)(w':World):Prop :=
 (∀ns,r=.ok ns->∃N c M T xs ks now n f,e=.returned (.tuple #[.slice (some ⟨N,0,none⟩) ns.length c,.int .i64 0,.int .i64 0])/\TrD w' w.heap.size T ns now N c M xs ks n f) ∧
 (∀c p,r=.error (c,p)->e=.returned (.tuple #[.slice none 0 0,.int .i64 c,.int .i64 (p:Nat)]))/\w.grownBy w' none
theorem ae6(s:ByteArray)(E:Int->TypeId × Value)(b:Int->Addr)(w:World)(G:Gl w w.heap.size E)(S:Sn w E b)(hmx:s.size<2 ^ 62) :
  Calls prog 38 #[.string s] w (ae5 (jf s.data.toList) w):=by
 have CR:Hd (Calls prog 18 #[.string s] w (KC s E (jf s.data.toList) w)):=SG s E w G S.lo hmx;have rJ:Hd (∀c p,jf s.data.toList=.error (c,p)->(c=1/\p=0)\/(2<=c/\c<=5)):=XC _;have yP:Hd (∀w',w.grownBy w' none->Calls prog 19 #[.iface (E 1).1 (E 1).2] w' fun e w''=>e=.returned (.tuple #[.int .i64 1,.int .i64 0])/\w'.grownBy w'' none):=fun w' hg=>XD E b w' (S.grow hg)
 have yQ:Hd (∀w' F (c:Int) p,w.grownBy w' none->1<=c->c<=5->w'.heap[F]?=some (.cells #[.int .i64 (p:Nat),.iface (E c).1 (E c).2] 108 (0,0))->Calls prog 19 #[.iface 104 (.pointer (some ⟨F,0,none⟩))] w' fun e w''=>e=.returned (.tuple #[.int .i64 c,.int .i64 (p:Nat)])/\w'.grownBy w'' none):=fun w' F c p hg h1 h2 hF=>by
  have G1:Gl w' w.heap.size E:=G.bel (uf hg);have hsz:=hg.size;exact Xw E b w' F c p ⟨G1.es,⟨Nat.lt_of_lt_of_le G1.lo.te hsz,Nat.lt_of_lt_of_le G1.lo.ra hsz,Nat.lt_of_lt_of_le G1.lo.ma hsz,Nat.lt_of_lt_of_le G1.lo.tw hsz⟩,G1.tabs,Nat.lt_of_lt_of_le G1.t3 hsz,Nat.lt_of_lt_of_le G1.t4 hsz⟩ (S.grow hg) h1 h2 hF
 have sJ:Hd (E 1=(330,.pointer (some (b 1)))):=S.ptr 1 (by decide) (by decide);obtain⟨X,hX⟩:=zN (jf s.data.toList);rw[hX]at CR rJ ⊢;clear G S hX;go_enter func38,ntmps38;go_wp2_with (go_at_call 18;refine CR.o.mono ?_);rintro e w2 ⟨h1,h2,hg2⟩;have HG2:Hd (w.grownBy w2 none):=hg2;clear hg2
 match X,h1,h2,rJ with
 | .ok ns,h1,_,_ =>
  obtain⟨N,c,M,T,xs,ks,now,n,f,rfl,hD⟩:=h1 ns rfl;have HD:Hd (TrD w2 w.heap.size T ns now N c M xs ks n f):=hD;clear h1 h2 hD;go_wp2;refine bodyPost_ret (results_tmp3 (t:=2) (u:=3) (v:=4) rfl _ _ _) rfl ?_;exact⟨fun ns' hh=>(by injection hh with hh;subst hh;exact⟨N,c,M,T,xs,ks,now,n,f,rfl,HD.o⟩),fun c p hh=>(by cases hh),HG2.o⟩
 | .error (c,p),_,h2,rJ =>
  obtain⟨v,rfl,hor⟩:=h2 c p rfl;have hrg:=rJ.o c p rfl
  rcases hor with⟨hc1,hv⟩|⟨F,hv,hF⟩
  ·obtain⟨-,hp0⟩:c=1/\p=0:=by rcases hrg with h|h;exact h;omega
   subst hc1 hp0;have CT:Hd (Calls prog 19 #[.iface 330 (.pointer (some (b 1)))] w2 fun e w''=>e=.returned (.tuple #[.int .i64 1,.int .i64 0])/\w2.grownBy w'' none):=by
    have:=yP.o w2 HG2.o;rw[sJ.o]at this;exact this
   rw[sJ.o]at hv;obtain rfl:=hv;clear h1 h2 hrg yQ yP;go_wp2_with (go_at_call 19;refine CT.o.mono ?_;rintro e w3 ⟨rfl,hg3⟩);refine bodyPost_ret (results_tmp3 (t:=2) (u:=3) (v:=4) rfl _ _ _) rfl ?_;exact⟨fun ns' hh=>(by cases hh),fun c p hh=>(by cases hh;rfl),af HG2.o hg3⟩
  ·have CT:Hd (Calls prog 19 #[.iface 104 (.pointer (some ⟨F,0,none⟩))] w2 fun e w''=>e=.returned (.tuple #[.int .i64 c,.int .i64 (p:Nat)])/\w2.grownBy w'' none):=yQ.o w2 F c p HG2.o (by omega) (by omega) hF;obtain rfl:=hv;clear h1 h2 hrg yQ yP hF;go_wp2_with (go_at_call 19;refine CT.o.mono ?_;rintro e w3 ⟨rfl,hg3⟩);refine bodyPost_ret (results_tmp3 (t:=2) (u:=3) (v:=4) rfl _ _ _) rfl ?_;exact⟨fun ns' hh=>(by cases hh),fun c' p' hh=>(by injection hh with hh;injection hh with e1 e2;subst e1 e2;rfl),af HG2.o hg3⟩
open Go.RowKit Go.Maps Go.WideMaps Go.Joins Go.Shelf
theorem ae7{w:World}{B T:Nat}{ns:List Tn}{now N c M:Nat}{xs:List Value}{ks:Nat->Value}{n:Nat}{f:Nat->List UInt8->Option (Nat × Bool)}(h:TrD w B T ns now N c M xs ks n f):Nv w (.slice (some ⟨N,0,none⟩) ns.length c) N c ns:=by
 refine⟨rfl,fun i hi=>?_⟩;obtain⟨h0,h1,h2,h3,h4,h5,-⟩:=h.node i hi;exact⟨ks i,h0,h1,h2,h3,h4,h5,NuS.of (h.kid i hi)⟩
def ae8(r:Rs (List Tn))(w:World)(e:Ending)(w':World):Prop :=
 (∀ns,r=.ok ns->e=.returned (.tuple #[.string ⟨(oQ ns).toArray⟩,.int .i64 0,.int .i64 0])) ∧
 (∀c p,r=.error (c,p)->e=.returned (.tuple #[.string ⟨#[]⟩,.int .i64 c,.int .i64 (p:Nat)]))/\w.grownBy w' none
theorem ae9(s:ByteArray)(E:Int->TypeId × Value)(b:Int->Addr)(w:World)(G:Gl w w.heap.size E)(S:Sn w E b)(TB:Tab w)(hmx:s.size<2 ^ 62) :
  Calls prog 9 #[.string s] w (ae8 (jf s.data.toList) w):=by
 have CR:Hd (Calls prog 18 #[.string s] w (KC s E (jf s.data.toList) w)):=SG s E w G S.lo hmx;have rJ:Hd (∀c p,jf s.data.toList=.error (c,p)->(c=1/\p=0)\/(2<=c/\c<=5)):=XC _;have yP:Hd (∀w',w.grownBy w' none->Calls prog 19 #[.iface (E 1).1 (E 1).2] w' fun e w''=>e=.returned (.tuple #[.int .i64 1,.int .i64 0])/\w'.grownBy w'' none):=fun w' hg=>XD E b w' (S.grow hg)
 have yQ:Hd (∀w' F (c:Int) p,w.grownBy w' none->1<=c->c<=5->w'.heap[F]?=some (.cells #[.int .i64 (p:Nat),.iface (E c).1 (E c).2] 108 (0,0))->Calls prog 19 #[.iface 104 (.pointer (some ⟨F,0,none⟩))] w' fun e w''=>e=.returned (.tuple #[.int .i64 c,.int .i64 (p:Nat)])/\w'.grownBy w'' none):=fun w' F c p hg h1 h2 hF=>by
  have G1:Gl w' w.heap.size E:=G.bel (uf hg);have hsz:=hg.size;exact Xw E b w' F c p ⟨G1.es,⟨Nat.lt_of_lt_of_le G1.lo.te hsz,Nat.lt_of_lt_of_le G1.lo.ra hsz,Nat.lt_of_lt_of_le G1.lo.ma hsz,Nat.lt_of_lt_of_le G1.lo.tw hsz⟩,G1.tabs,Nat.lt_of_lt_of_le G1.t3 hsz,Nat.lt_of_lt_of_le G1.t4 hsz⟩ (S.grow hg) h1 h2 hF
 have sJ:Hd (E 1=(330,.pointer (some (b 1)))):=S.ptr 1 (by decide) (by decide);have IP:Hd (∀ns,jf s.data.toList=.ok ns->∀w' N c,w.grownBy w' none->Nv w' (.slice (some ⟨N,0,none⟩) ns.length c) N c ns->Calls prog 20 #[.slice (some ⟨N,0,none⟩) ns.length c] w' fun e w''=>e=.returned (.string ⟨(oQ ns).toArray⟩)/\w'.grownBy w'' none):=fun ns h w' N c hg hnv=>by
  obtain⟨T,own,W,hn⟩:=LK _ ns h;have F:Ef ns own:=⟨W,T.gt,T.nod,T.kdd,T.two,T.root,fun i hi=>by have:=(T.txt ns[i] (List.getElem_mem hi)).1;omega⟩;refine aeB ⟨hnv,W,T.gt,by omega,fun i hi=>?_,fun i hi=>?_,KP TB hg⟩ F (aeq F T hn)
  ·have:=T.txt ns[i] (List.getElem_mem hi);omega
  ·have:=T.txt ns[i] (List.getElem_mem hi);omega
 obtain⟨X,hX⟩:=zN (jf s.data.toList);rw[hX]at CR rJ IP ⊢;clear G S hX TB;go_enter func9,ntmps9;go_wp2_with (go_at_call 18;refine CR.o.mono ?_);rintro e w2 ⟨h1,h2,hg2⟩;have HG2:Hd (w.grownBy w2 none):=hg2;clear hg2
 match X,h1,h2,rJ,IP with
 | .ok ns,h1,_,_,IP =>
  obtain⟨N,c,M,T,xs,ks,now,n,f,rfl,hD⟩:=h1 ns rfl;have HD:Hd (TrD w2 w.heap.size T ns now N c M xs ks n f):=hD;have CF:Hd (Calls prog 20 #[.slice (some ⟨N,0,none⟩) ns.length c] w2 fun e w'=>e=.returned (.string ⟨(oQ ns).toArray⟩)/\w2.grownBy w' none):=IP.o ns rfl w2 N c HG2.o (ae7 hD);clear h1 h2 hD HD;go_wp2_with (go_at_call 20;refine CF.o.mono ?_;rintro e w3 ⟨rfl,hg3⟩);refine bodyPost_ret (results_tmp3 (t:=2) (u:=3) (v:=4) rfl _ _ _) rfl ?_;exact⟨fun ns' hh=>(by injection hh with hh;subst hh;rfl),fun c p hh=>(by cases hh),af HG2.o hg3⟩
 | .error (c,p),_,h2,rJ,_ =>
  obtain⟨v,rfl,hor⟩:=h2 c p rfl;have hrg:=rJ.o c p rfl
  rcases hor with⟨hc1,hv⟩|⟨F,hv,hF⟩
  ·obtain⟨-,hp0⟩:c=1/\p=0:=by rcases hrg with h|h;exact h;omega
   subst hc1 hp0;have CT:Hd (Calls prog 19 #[.iface 330 (.pointer (some (b 1)))] w2 fun e w''=>e=.returned (.tuple #[.int .i64 1,.int .i64 0])/\w2.grownBy w'' none):=by
    have:=yP.o w2 HG2.o;rw[sJ.o]at this;exact this
   rw[sJ.o]at hv;obtain rfl:=hv;clear h1 h2 hrg yQ yP;go_wp2_with (go_at_call 19;refine CT.o.mono ?_;rintro e w3 ⟨rfl,hg3⟩);refine bodyPost_ret (results_tmp3 (t:=2) (u:=3) (v:=4) rfl _ _ _) rfl ?_;exact⟨fun ns' hh=>(by cases hh),fun c p hh=>(by cases hh;rfl),af HG2.o hg3⟩
  ·have CT:Hd (Calls prog 19 #[.iface 104 (.pointer (some ⟨F,0,none⟩))] w2 fun e w''=>e=.returned (.tuple #[.int .i64 c,.int .i64 (p:Nat)])/\w2.grownBy w'' none):=yQ.o w2 F c p HG2.o (by omega) (by omega) hF;obtain rfl:=hv;clear h1 h2 hrg yQ yP hF;go_wp2_with (go_at_call 19;refine CT.o.mono ?_;rintro e w3 ⟨rfl,hg3⟩);refine bodyPost_ret (results_tmp3 (t:=2) (u:=3) (v:=4) rfl _ _ _) rfl ?_;exact⟨fun ns' hh=>(by cases hh),fun c' p' hh=>(by injection hh with hh;injection hh with e1 e2;subst e1 e2;rfl),af HG2.o hg3⟩
open Go.RowKit Go.Maps Go.WideMaps Go.Joins
def Kt(t:TypeId)(w w':World):Prop:=∀(b:Nat) (cs:Array Value) (fz:Nat × Nat),w.heap[b]?=some (.cells cs t fz)->w'.heap[b]?=w.heap[b]?
theorem aU{t:TypeId}{w w':World}(hg:w.grownBy w' none):Kt t w w':=fun b cs fz hb=>hg.block b (aA hb) (by simp)
theorem afa{t X:TypeId}{w w':World}{g:Nat}{c:Array Value}{fz:Nat × Nat}(hg:w.grownBy w' (some g))(hX:w.heap[g]?=some (.cells c X fz))(hne:¬t=X):Kt t w w':=fun b cs fz' hb=>hg.block b (aA hb) (by
 simp only[ne_eq,Option.some.injEq];exact aY hb hX hne)
theorem AC{t X:TypeId}{w w':World}{B s n:Nat}{v:Value}{xs:List Value}(hr:w.ownsRow B X s v n xs)(hg:w.grownBy w' v.ownBlock)(hne:¬t=X):Kt t w w':=fun b cs fz hb=>hg.block b (aA hb) (fun e=>by
 obtain⟨-,cur,hc⟩:=dV hr e.symm;exact aY hb hc hne rfl)
theorem iJ{t X:TypeId}{w:World}{g o:Nat}{c:Array Value}{fz:Nat × Nat}(v:Value)(hX:w.heap[g]?=some (.cells c X fz))(hne:¬t=X):Kt t w (w.setCell ⟨g,o,none⟩ v):=afa (jL w g o v) hX hne
theorem Kt.two{t:TypeId}{a b c:World}(h:Kt t a b)(h':Kt t b c):Kt t a c:=fun x cs fz hx=>(h' x cs fz ((h x cs fz hx).trans hx)).trans (h x cs fz hx)
theorem Kt.blk{t:TypeId}{w w':World}(h:Kt t w w'){b:Nat}{cs:Array Value}{fz:Nat × Nat}(hb:w.heap[b]?=some (.cells cs t fz)):w'.heap[b]?=some (.cells cs t fz):=(h b cs fz hb).trans hb
theorem Kt.row{t:TypeId}{w w':World}(h:Kt t w w'){B s n:Nat}{v:Value}{xs:List Value}(hr:w.ownsRow B t s v n xs):w'.ownsRow B t s v n xs:=bW hr fun g cur _ hc=>h g cur _ hc
def LkV(w:World)(D T:Nat)(v:Value):Option jh->Prop
 | none=>v=.nilFunc
 | some .root=>∃a b,v=.func (.func 42) #[] #[.pointer (some ⟨a,0,none⟩),.pointer (some ⟨b,0,none⟩)]/\w.heap[a]?=some (.cells #[.pointer (some ⟨D,0,none⟩)] 83 (0,0))/\w.heap[b]?=some (.cells #[.pointer (some ⟨T,0,none⟩)] 81 (0,0))
 | some .tabs=>∃a,v=.func (.func 71) #[] #[.pointer (some ⟨a,0,none⟩)]/\w.heap[a]?=some (.cells #[.pointer (some ⟨D,0,none⟩)] 83 (0,0))
 | some (.key e)=>∃a b,v=.func (.func 112) #[] #[.pointer (some ⟨a,0,none⟩),.pointer (some ⟨b,0,none⟩)]/\w.heap[a]?=some (.cells #[.pointer (some ⟨D,0,none⟩)] 83 (0,0))/\w.heap[b]?=some (.cells #[.int .i64 (e:Nat)] 3 (0,0))
 | some (.val e)=>∃a b,v=.func (.func 159) #[] #[.pointer (some ⟨a,0,none⟩),.pointer (some ⟨b,0,none⟩)]/\w.heap[a]?=some (.cells #[.pointer (some ⟨D,0,none⟩)] 83 (0,0))/\w.heap[b]?=some (.cells #[.int .i64 (e:Nat)] 3 (0,0))
structure Bx(w w':World):Prop where
 d:Kt 83 w w'
 t:Kt 81 w w'
 i:Kt 3 w w'
theorem LkV.keep{w w':World}{D T:Nat}{v:Value}{k:Option jh}(h:LkV w D T v k)(hk:Bx w w'):LkV w' D T v k:=by
 match k,h with
 | none,h=>exact h
 | some .root,⟨a,b,h1,h2,h3⟩=>exact⟨a,b,h1,hk.d.blk h2,hk.t.blk h3⟩
 | some .tabs,⟨a,h1,h2⟩=>exact⟨a,h1,hk.d.blk h2⟩
 | some (.key e),⟨a,b,h1,h2,h3⟩=>exact⟨a,b,h1,hk.d.blk h2,hk.i.blk h3⟩
 | some (.val e),⟨a,b,h1,h2,h3⟩=>exact⟨a,b,h1,hk.d.blk h2,hk.i.blk h3⟩
def XE(w:World)(D T:Nat):Prop:=w.heap[D+1]?=some (.cells #[.pointer (some ⟨D,0,none⟩)] 83 (0,0))/\w.heap[D-1]?=some (.cells #[.pointer (some ⟨T,0,none⟩)] 81 (0,0))
def LoB(w:World)(D T Lb n:Nat)(lk:Nat->Option jh):Prop:=∃cs:Array Value,w.heap[Lb]?=some (.cells cs 93 (0,0))/\cs.size=n/\(∀q (hq:q<cs.size),LkV w D T cs[q] (lk q))/\XE w D T
theorem LoB.keep{w w':World}{D T Lb n:Nat}{lk:Nat->Option jh}(h:LoB w D T Lb n lk)(hl:Kt 93 w w')(hk:Bx w w'):LoB w' D T Lb n lk:=by
 obtain⟨cs,h1,h2,h3,h4⟩:=h;exact⟨cs,hl.blk h1,h2,fun q hq=>(h3 q hq).keep hk,hk.d.blk h4.1,hk.t.blk h4.2⟩
theorem LoB.set{w:World}{D T Lb n:Nat}{lk:Nat->Option jh}(h:LoB w D T Lb n lk)(q:Nat)(hq:q<n)(v:Value)(k:jh)(hv:LkV w D T v (some k)):LoB (w.setCell ⟨Lb,q,none⟩ v) D T Lb n (fun p=>if p=q then some k else lk p):=by
 obtain⟨cs,h1,h2,h3,h4⟩:=h;have hb:Bx w (w.setCell ⟨Lb,q,none⟩ v):=⟨iJ v h1 (by decide),iJ v h1 (by decide),iJ v h1 (by decide)⟩;refine⟨cs.setIfInBounds q v,block_setCell h1 _,by simpa using h2,fun p hp=>?_,hb.d.blk h4.1,hb.t.blk h4.2⟩;have hp':p<cs.size:=by simpa using hp
 show LkV _ D T _ (if p=q then some k else lk p)
 by_cases e:p=q
 ·subst e;rw[if_pos rfl,Array.getElem_setIfInBounds_self];exact hv.keep hb
 ·rw[if_neg e,Array.getElem_setIfInBounds_ne hp' (fun h=>e h.symm)];exact(h3 p hp').keep hb
structure EnB(B:Nat)(w:World)(es:List En)(ve:Value)(xs:List Value)(vs:Nat->Value):Prop where
 row:w.ownsRow B 44 4 ve es.length xs
 cel:∀i (hi:i<es.length),xs[i*4]?=some (.string es[i].nm)/\xs[i*4+1]?=some (.string es[i].ve)/\xs[i*4+2]?=some (.string es[i].dg)/\xs[i*4+3]?=some (vs i)
 nee:∀i (hi:i<es.length),w.ownsRow B 9 1 (vs i) es[i].nd.length (es[i].nd.map Value.string)
 apa:∀i j g,i<es.length->j<es.length->(vs i).ownBlock=some g->(vs j).ownBlock=some g->i=j
section
variable {B:Nat} {w w':World} {es:List En} {ve:Value} {xs:List Value} {vs:Nat->Value}
theorem EnB.keep(h:EnB B w es ve xs vs)(h1:Kt 44 w w')(h2:Kt 9 w w'):EnB B w' es ve xs vs:=⟨h1.row h.row,h.cel,fun i hi=>h2.row (h.nee i hi),h.apa⟩
theorem EnB.at(h:EnB B w es ve xs vs){i:Nat}(hi:i<es.length):∃E c,ve=.slice (some ⟨E,0,none⟩) es.length c/\B<=E/\(∃cur,w.heap[E]?=some (.cells cur 44 (0,0)))/\w.cell? ⟨E,i*4,none⟩=some (.string es[i].nm)/\w.cell? ⟨E,i*4+1,none⟩=some (.string es[i].ve)/\w.cell? ⟨E,i*4+2,none⟩=some (.string es[i].dg)/\w.cell? ⟨E,i*4+3,none⟩=some (vs i)/\es.length<=c:=by
 rcases h.row.2 with⟨e1,e2⟩|⟨g,cap,cu,e1,hb,hgg,hn,hm,hs,ht⟩
 ·exact absurd e2 (by omega)
 ·obtain⟨h0,h1,h2,h3⟩:=h.cel i hi;have key:∀j u,xs[j]?=some u->w.cell? ⟨g,j,none⟩=some u:=fun j u hu=>by
   have:=h.row.cells (g:=g) (by rw[e1];rfl) j u hu;rw[sD]at this;exact this
  exact⟨g,cap,e1,hb,⟨cu,hgg⟩,key _ _ h0,key _ _ h1,key _ _ h2,key _ _ h3,hn⟩
theorem EnB.ens(h:EnB B w es ve xs vs):EnS w ve es:=by
 rcases h.row.2 with⟨e1,e2⟩|⟨g,cap,cu,e1,hb,hgg,hn,hm,hs,ht⟩
 ·refine Or.inl ⟨e1,?_⟩;exact List.eq_nil_of_length_eq_zero (by omega)
 ·refine Or.inr ⟨⟨g,0,none⟩,cap,e1,hn,fun i hi=>?_⟩;obtain⟨E,c,e2,-,-,c0,c1,c2,c3,-⟩:=h.at hi;rw[e1]at e2
  cases e2
  unfold EnAt;rw[sD];exact⟨c0,c1,c2,vs i,c3,yE (base:=B) rfl (h.nee i hi)⟩
theorem XF{t:TypeId}{s E n c k:Nat}(h:w.ownsRow B t s (.slice (some ⟨E,0,none⟩) n c) n xs)(v:Value):(w.setCell ⟨E,k,none⟩ v).ownsRow B t s (.slice (some ⟨E,0,none⟩) n c) n (xs.set k v):=by
 refine⟨by rw[List.length_set];exact h.1,?_⟩
 rcases h.2 with⟨e1,_⟩|⟨g',cap',cu,e1,hb,hgg,hn,hm,hs,ht⟩
 ·cases e1
 ·cases e1
  refine Or.inr ⟨E,c,cu.setIfInBounds k v,rfl,hb,block_setCell hgg _,hn,hm,by simpa using hs,?_⟩;rw[Array.toList_setIfInBounds,List.take_set,ht]
def zE:List Value:=[.string ⟨#[]⟩,.string ⟨#[]⟩,.string ⟨#[]⟩,.slice none 0 0]
theorem EnB.push(h:EnB B w es ve xs vs){v':Value}(ho:w'.ownsRow B 44 4 v' (es.length+1) (xs++zE))(hg:w.grownBy w' ve.ownBlock):EnB B w' (es++[en0]) v' (xs++zE) (fun i=>if i=es.length then .slice none 0 0 else vs i):=by
 have hxl:xs.length=es.length*4:=h.row.1;have hl:(es++[en0]).length=es.length+1:=by simp
 refine⟨by rw[hl];exact ho,fun i hi=>?_,fun i hi=>?_,fun i j g hi hj h1 h2=>?_⟩
 ·by_cases e:i=es.length
  ·subst e;have ge:(es++[en0])[es.length]=en0:=by simp
   have gx:∀k,(xs++zE)[es.length*4+k]?=zE[k]?:=fun k=>by rw[List.getElem?_append_right (by omega),show es.length*4+k-xs.length=k by omega]
   rw[ge,if_pos rfl];exact⟨gx 0,gx 1,gx 2,gx 3⟩
  ·have hi':i<es.length:=by omega
   have ge:(es++[en0])[i]=es[i]:=List.getElem_append_left hi';rw[ge,if_neg e];obtain⟨h0,h1,h2,h3⟩:=h.cel i hi';have gx:∀k,k<4->(xs++zE)[i*4+k]?=xs[i*4+k]?:=fun k hk=>List.getElem?_append_left (by omega)
   exact⟨(gx 0 (by omega)).trans h0,(gx 1 (by omega)).trans h1,(gx 2 (by omega)).trans h2,(gx 3 (by omega)).trans h3⟩
 ·by_cases e:i=es.length
  ·subst e;have ge:(es++[en0])[es.length]=en0:=by simp
   rw[ge,if_pos rfl];exact⟨rfl,Or.inl ⟨rfl,rfl⟩⟩
  ·have hi':i<es.length:=by omega
   have ge:(es++[en0])[i]=es[i]:=List.getElem_append_left hi';rw[ge,if_neg e];exact(AC h.row hg (by decide)).row (h.nee i hi')
 ·by_cases e:i=es.length
  ·rw[if_pos e]at h1;cases h1
  ·by_cases e2:j=es.length
   ·rw[if_pos e2]at h2;cases h2
   ·rw[if_neg e]at h1;rw[if_neg e2]at h2;exact h.apa i j g (by omega) (by omega) h1 h2
theorem XG(ys:List Value)(k:Nat)(u:Value)(hk:k<ys.length)(m:Nat):(ys.set k u)[m]?=if m=k then some u else ys[m]?:=by
 by_cases e:m=k
 ·subst e;rw[if_pos rfl,List.getElem?_set_self hk]
 ·rw[if_neg e,List.getElem?_set_ne (fun h=>e h.symm)]
theorem EnB.txt{E n c:Nat}(h:EnB B w es (.slice (some ⟨E,0,none⟩) n c) xs vs){i:Nat}(hi:i<es.length)(o:Nat)(ho:o<3)(s:ByteArray)(y:En)(h0:y.nm=if o=0 then s else es[i].nm)(h1:y.ve=if o=1 then s else es[i].ve)(h2:y.dg=if o=2 then s else es[i].dg)(h3:y.nd=es[i].nd):EnB B (w.setCell ⟨E,i*4+o,none⟩ (.string s)) (es.set i y) (.slice (some ⟨E,0,none⟩) n c) (xs.set (i*4+o) (.string s)) vs:=by
 have hxl:xs.length=es.length*4:=h.row.1;obtain⟨cur,hE⟩:=(dV h.row rfl).2;obtain rfl:n=es.length:=by
  rcases h.row.2 with⟨e1,_⟩|⟨g',cap',cu,e1,_⟩
  ·cases e1
  ·cases e1;rfl
 have gx:=XG xs (i*4+o) (.string s) (by omega);refine⟨by rw[List.length_set];exact XF h.row _,fun j hj=>?_,fun j hj=>?_,fun a b g ha hb=>?_⟩
 ·have hj':j<es.length:=by rw[List.length_set]at hj;exact hj
  obtain⟨c0,c1,c2,c3⟩:=h.cel j hj';simp only[gx]
  by_cases e:j=i
  ·subst e;simp only[List.getElem_set_self,h0,h1,h2];rw[if_neg (show ¬j*4+3=j*4+o by omega)];refine⟨?_,?_,?_,c3⟩
   ·by_cases e:o=0
    ·rw[if_pos (by omega),if_pos e]
    ·rw[if_neg (by omega),if_neg e];exact c0
   ·by_cases e:o=1
    ·rw[if_pos (by omega),if_pos e]
    ·rw[if_neg (by omega),if_neg e];exact c1
   ·by_cases e:o=2
    ·rw[if_pos (by omega),if_pos e]
    ·rw[if_neg (by omega),if_neg e];exact c2
  ·simp only[List.getElem_set_ne (fun h=>e h.symm:¬i=j)];rw[if_neg (by omega),if_neg (by omega),if_neg (by omega),if_neg (by omega)];exact⟨c0,c1,c2,c3⟩
 ·have hj':j<es.length:=by rw[List.length_set]at hj;exact hj
  have kt:Kt 9 w (w.setCell ⟨E,i*4+o,none⟩ (.string s)):=iJ _ hE (by decide)
  by_cases e:j=i
  ·subst e;simp only[List.getElem_set_self,h3];exact kt.row (h.nee j hj')
  ·simp only[List.getElem_set_ne (fun h=>e h.symm:¬i=j)];exact kt.row (h.nee j hj')
 ·rw[List.length_set]at ha hb;exact h.apa a b g ha hb
theorem EnB.need{E n c:Nat}(h:EnB B w es (.slice (some ⟨E,0,none⟩) n c) xs vs){i:Nat}(hi:i<es.length)(s:ByteArray){v':Value}(ho:w'.ownsRow B 9 1 v' (es[i].nd.length+1) (es[i].nd.map Value.string++[.string s]))(hg:w.grownBy w' (vs i).ownBlock)(hat:v'.ownBlock=(vs i).ownBlock\/v'.ownBlock=some w.heap.size\/∃g,v'.ownBlock=some g/\w.heap.size<=g) :
  EnB B (w'.setCell ⟨E,i*4+3,none⟩ v') (es.set i ⟨es[i].nm,es[i].ve,es[i].dg,es[i].nd++[s]⟩) (.slice (some ⟨E,0,none⟩) n c) (xs.set (i*4+3) v') (fun j=>if j=i then v' else vs j):=by
 have hxl:xs.length=es.length*4:=h.row.1;obtain rfl:n=es.length:=by
  rcases h.row.2 with⟨e1,_⟩|⟨g',cap',cu,e1,_⟩
  ·cases e1
  ·cases e1;rfl
 have k1:Kt 44 w w':=AC (h.nee i hi) hg (by decide);have r1:=k1.row h.row;obtain⟨cur,hE⟩:=(dV r1 rfl).2;have kt:Kt 9 w' (w'.setCell ⟨E,i*4+3,none⟩ v'):=iJ _ hE (by decide);have gx:=XG xs (i*4+3) v' (by omega);refine⟨by rw[List.length_set];exact XF r1 _,fun j hj=>?_,fun j hj=>?_,fun a b g ha hb h1 h2=>?_⟩
 ·have hj':j<es.length:=by rw[List.length_set]at hj;exact hj
  obtain⟨c0,c1,c2,c3⟩:=h.cel j hj';simp only[gx]
  by_cases e:j=i
  ·subst e;simp only[List.getElem_set_self,if_true];rw[if_neg (by omega),if_neg (by omega),if_neg (by omega)];exact⟨c0,c1,c2,trivial⟩
  ·simp only[List.getElem_set_ne (fun h=>e h.symm:¬i=j)];rw[if_neg (by omega),if_neg (by omega),if_neg (by omega),if_neg (by omega),if_neg e];exact⟨c0,c1,c2,c3⟩
 ·have hj':j<es.length:=by rw[List.length_set]at hj;exact hj
  by_cases e:j=i
  ·subst e;simp only[List.getElem_set_self,if_true,List.length_append,List.map_append,List.length_cons,List.length_nil];exact kt.row ho
  ·simp only[List.getElem_set_ne (fun h=>e h.symm:¬i=j),if_neg e];refine kt.row (bW (h.nee j hj') fun g cur hgo hc=>hg.block g (aA hc) (fun e2=>e (h.apa j i g hj' hi hgo e2.symm)))
 ·rw[List.length_set]at ha hb;have fresh:∀k,k<es.length->¬k=i->(vs k).ownBlock=some g->v'.ownBlock=some g->False:=fun k hk hne e1 e2=>by
   rcases hat with e3|e3|⟨g2,e3,hge⟩
   ·rw[e3]at e2;exact hne (h.apa k i g hk hi e1 e2)
   ·rw[e3]at e2
    cases e2
    obtain⟨-,cc,hcc⟩:=dV (h.nee k hk) e1;exact absurd (aA hcc) (by omega)
   ·rw[e3]at e2
    cases e2
    obtain⟨-,cc,hcc⟩:=dV (h.nee k hk) e1;exact absurd (aA hcc) (by omega)
  by_cases ea:a=i
  ·by_cases eb:b=i
   ·rw[ea,eb]
   ·simp only[if_pos ea]at h1;simp only[if_neg eb]at h2;exact(fresh b hb eb h2 h1).elim
  ·by_cases eb:b=i
   ·simp only[if_neg ea]at h1;simp only[if_pos eb]at h2;exact(fresh a ha ea h1 h2).elim
   ·simp only[if_neg ea]at h1;simp only[if_neg eb]at h2;exact h.apa a b g ha hb h1 h2
end
open Go.RowKit Go.Maps Go.WideMaps Go.Joins
def dM(x:Tn)(k:Value):Array Value:=#[.int .i64 x.kd,.string ⟨x.ky.toArray⟩,.string ⟨x.tx.toArray⟩,.int .i64 x.nu,k,.int .i64 (x.pl:Nat)]
def nZ(kv:Nat->Value)(ns:List Tn)(q:Nat):List Value:=match ns[q]? with|some x=>(dM x (kv q)).toList|none=>[]
def tX(y:ByteArray × Nat):List Value:=[.string y.1,.int .i64 (y.2:Nat)]
structure Nd(w0:World)(N c:Nat)(kv:Nat->Value)(ns:List Tn):Prop where
 cel:∀i (hi:i<ns.length),w0.cell? ⟨N,i*6,none⟩=some (.int .i64 ns[i].kd)/\w0.cell? ⟨N,i*6+1,none⟩=some (.string ⟨ns[i].ky.toArray⟩)/\w0.cell? ⟨N,i*6+2,none⟩=some (.string ⟨ns[i].tx.toArray⟩)/\w0.cell? ⟨N,i*6+3,none⟩=some (.int .i64 ns[i].nu)/\w0.cell? ⟨N,i*6+4,none⟩=some (kv i)/\w0.cell? ⟨N,i*6+5,none⟩=some (.int .i64 (ns[i].pl:Nat))
 kid:∀i (hi:i<ns.length),NuS w0 (kv i) ns[i].ks
 rng:∀i (hi:i<ns.length),∀q∈ns[i].ks,q<ns.length
 num:∀i (hi:i<ns.length),ns[i].ks.length<=1000000
 len:ns.length<=1000000
 pos:0<ns.length
 tex:∀i (hi:i<ns.length),ns[i].tx.length<2 ^ 60
structure Dm(w0:World)(T D Lb:Nat)(nv:Value)(kv:Nat->Value)(ns:List Tn)(d:Dr)(w:World)(vt ve vw:Value)(xs:List Value)(vs:Nat->Value):Prop where
 gb:w0.grownBy w none
 tre:w.heap[T]?=some (.cells #[nv,.slice (some ⟨Lb,0,none⟩) ns.length ns.length] 135 (0,0))
 dra:w.heap[D]?=some (.cells #[.pointer (some ⟨T,0,none⟩),.bool d.fm,vt,ve,vw] 86 (0,0))
 lok:LoB w D T Lb ns.length d.lk
 tab:w.ownsRow w0.heap.size 90 6 vt d.tb.length (d.tb.flatMap (nZ kv ns))
 ent:EnB w0.heap.size w d.es ve xs vs
 wan:w.ownsRow w0.heap.size 138 2 vw d.wt.length (d.wt.flatMap tX)
 bD:w0.heap.size<=D
 bL:w0.heap.size<=Lb
section
variable {w0:World} {T D Lb:Nat} {nv:Value} {kv:Nat->Value} {ns:List Tn} {d:Dr} {w w':World} {vt ve vw:Value} {xs:List Value} {vs:Nat->Value}
theorem afb(hg:w.grownBy w' none):Bx w w':=⟨aU hg,aU hg,aU hg⟩
theorem afc{g o:Nat}{c:Array Value}{X:TypeId}{fz:Nat × Nat}(v:Value)(hX:w.heap[g]?=some (.cells c X fz))(h1:¬83=X)(h2:¬81=X)(h3:¬3=X):Bx w (w.setCell ⟨g,o,none⟩ v):=⟨iJ v hX h1,iJ v hX h2,iJ v hX h3⟩
theorem Dm.grow(h:Dm w0 T D Lb nv kv ns d w vt ve vw xs vs)(hg:w.grownBy w' none):Dm w0 T D Lb nv kv ns d w' vt ve vw xs vs :=
 ⟨af h.gb hg,(aU hg).blk h.tre,(aU hg).blk h.dra,h.lok.keep (aU hg) (afb hg),(aU hg).row h.tab,h.ent.keep (aU hg) (aU hg),(aU hg).row h.wan,h.bD,h.bL⟩
theorem Dm.look(h:Dm w0 T D Lb nv kv ns d w vt ve vw xs vs)(q:Nat)(hq:q<ns.length)(v:Value)(k:jh)(hv:LkV w D T v (some k)):Dm w0 T D Lb nv kv ns ⟨fun p=>if p=q then some k else d.lk p,d.fm,d.tb,d.es,d.wt⟩ (w.setCell ⟨Lb,q,none⟩ v) vt ve vw xs vs:=by
 obtain⟨cs,hc,-,-⟩:=h.lok;exact⟨pq h.gb (jL w Lb q v) h.bL,(iJ v hc (by decide)).blk h.tre,(iJ v hc (by decide)).blk h.dra,h.lok.set q hq v k hv,(iJ v hc (by decide)).row h.tab,h.ent.keep (iJ v hc (by decide)) (iJ v hc (by decide)),(iJ v hc (by decide)).row h.wan,h.bD,h.bL⟩
theorem Dm.fmt(h:Dm w0 T D Lb nv kv ns d w vt ve vw xs vs)(b:Bool):Dm w0 T D Lb nv kv ns ⟨d.lk,b,d.tb,d.es,d.wt⟩ (w.setCell ⟨D,1,none⟩ (.bool b)) vt ve vw xs vs:=by
 have hc:=h.dra;exact⟨pq h.gb (jL w D 1 _) h.bD,(iJ _ hc (by decide)).blk h.tre,block_setCell (i:=1) hc _,h.lok.keep (iJ _ hc (by decide)) (afc _ hc (by decide) (by decide) (by decide)),(iJ _ hc (by decide)).row h.tab,h.ent.keep (iJ _ hc (by decide)) (iJ _ hc (by decide)),(iJ _ hc (by decide)).row h.wan,h.bD,h.bL⟩
theorem Dm.cells(h:Dm w0 T D Lb nv kv ns d w vt ve vw xs vs):w.cell? ⟨T,0,none⟩=some nv/\w.cell? ⟨T,1,none⟩=some (.slice (some ⟨Lb,0,none⟩) ns.length ns.length)/\w.cell? ⟨D,0,none⟩=some (.pointer (some ⟨T,0,none⟩))/\w.cell? ⟨D,1,none⟩=some (.bool d.fm)/\w.cell? ⟨D,2,none⟩=some vt/\w.cell? ⟨D,3,none⟩=some ve/\w.cell? ⟨D,4,none⟩=some vw/\∀k,w.frozen? ⟨D,k,none⟩=false :=
 ⟨by rw[ae h.tre];rfl,by rw[ae h.tre];rfl,by rw[ae h.dra];rfl,by rw[ae h.dra];rfl,by rw[ae h.dra];rfl,by rw[ae h.dra];rfl,by rw[ae h.dra];rfl,fun k=>Lib.frozen_of_heap h.dra k⟩
theorem Dm.lcell(h:Dm w0 T D Lb nv kv ns d w vt ve vw xs vs){q:Nat}(hq:q<ns.length):∃v,w.cell? ⟨Lb,q,none⟩=some v/\LkV w D T v (d.lk q)/\w.frozen? ⟨Lb,q,none⟩=false:=by
 obtain⟨cs,h1,h2,h3,-⟩:=h.lok;refine⟨cs[q]'(by omega),?_,h3 q (by omega),Lib.frozen_of_heap h1 q⟩;rw[ae h1];exact Array.getElem?_eq_getElem (by omega)
theorem afd(d:Dr)(ks:List Nat)(k:jh)(i:Nat)(hi:i<ks.length):keepD d (ks.take (i+1)) k=⟨fun p=>if p=ks[i] then some k else(keepD d (ks.take i) k).lk p,d.fm,d.tb,d.es,d.wt⟩:=by
 unfold keepD;congr 1;funext p;rw[List.take_succ_eq_append_getElem hi];simp only[List.mem_append,List.mem_singleton]
 by_cases h1:p=ks[i]
 ·rw[if_pos (Or.inr h1),if_pos h1]
 ·by_cases h2:p∈ks.take i
  ·rw[if_pos (Or.inl h2),if_neg h1,if_pos h2]
  ·rw[if_neg (by rintro(h|h);exact h2 h;exact h1 h),if_neg h1,if_neg h2]
theorem keep_any(h:Dm w0 T D Lb nv kv ns d w vt ve vw xs vs)(x:Tn)(k:Value)(hk:NuS w0 k x.ks)(hr:∀q∈x.ks,q<ns.length)(hl:x.ks.length<=1000000)(F:Nat)(cp:Array Value)(kp:jh)(hv:LkV w D T (.func (.func F) #[] cp) (some kp)) :
  Calls prog 40 #[.pointer (some ⟨T,0,none⟩),.agg (dM x k),.func (.func F) #[] cp] w fun e w'=>e=.returned (.tuple #[])/\Dm w0 T D Lb nv kv ns (keepD d x.ks kp) w' vt ve vw xs vs/\∀t,¬t=93->Kt t w w':=by
 obtain⟨o,c,rfl,HK⟩:=hk;have HKh:Hd (∀i (hi:i<x.ks.length),∃g,o=some ⟨g,0,none⟩/\w0.cell? ⟨g,i,none⟩=some (.int .i64 (x.ks[i]:Nat))):=HK;have HR:Hd (∀q∈x.ks,q<ns.length):=hr;have HV:Hd (LkV w D T (.func (.func F) #[] cp) (some kp)):=hv;have HD:Hd (Dm w0 T D Lb nv kv ns d w vt ve vw xs vs):=h;obtain⟨m,hm⟩:=zN (x.ks.length);have HM:Hd (x.ks.length=m):=hm;unfold dM;rw[hm]at hl ⊢;have hst:=fun(w:World) a m=>run_store prog w a (.func (.func F) #[] cp) m rfl
 clear HK hr hv h hm;go_enter func40,ntmps40;go_wp2;obtain⟨W,hW⟩:=zN (w.alloc (.cells #[.int .i64 x.kd,.string ⟨x.ky.toArray⟩,.string ⟨x.tx.toArray⟩,.int .i64 x.nu,.slice o m c,.int .i64 (x.pl:Nat)] 90));have HW:Hd (w.grownBy W none):=hW ▸ aP (ai w none) _
 try rw[hW]
 clear hW;go_loopw [11] (fun vi wr=>∃i:Nat,vi=.int .i64 (i:Nat)/\i<=m/\Dm w0 T D Lb nv kv ns (keepD d (x.ks.take i) kp) wr vt ve vw xs vs/\∀t,¬t=93->Kt t w wr) (fun vi _=>m-(intOf vi).toNat)
 case atStart =>
  refine⟨0,rfl,by omega,?_,fun t _=>aU HW.o⟩;have:keepD d (x.ks.take 0) kp=d:=by unfold keepD;simp
  rw[this];exact HD.o.grow HW.o
 case round =>
  obtain⟨i,rfl,hi,hd,hb⟩:=hrel;have xh:Hd (Dm w0 T D Lb nv kv ns (keepD d (x.ks.take i) kp) wr vt ve vw xs vs):=hd;have HB:Hd (∀t,¬t=93->Kt t w wr):=hb;obtain⟨-,c1,-,-,-,-,-,-⟩:=hd.cells
  by_cases hlt:i<m
  ·have hin:i<x.ks.length:=by rw[HM.o];exact hlt
   obtain⟨g,rfl,hc0⟩:=HKh.o i hin;have hc:=hd.gb.cell hc0 (by simp);have gI:=HR.o _ (List.getElem_mem hin);obtain⟨v,hlc,-,hfz⟩:=hd.lcell gI;have HN:Hd (keepD d (x.ks.take (i+1)) kp=⟨fun p=>if p=x.ks[i] then some kp else(keepD d (x.ks.take i) kp).lk p,d.fm,d.tb,d.es,d.wt⟩):=afd d x.ks kp i hin;have HL:Hd (Dm w0 T D Lb nv kv ns (keepD d (x.ks.take (i+1)) kp) (wr.setCell ⟨Lb,x.ks[i],none⟩ (.func (.func F) #[] cp)) vt ve vw xs vs):=by
    rw[HN.o];exact hd.look _ gI _ kp (HV.o.keep ⟨hb _ (by decide),hb _ (by decide),hb _ (by decide)⟩)
   have HB2:Hd (∀t,¬t=93->Kt t w (wr.setCell ⟨Lb,x.ks[i],none⟩ (.func (.func F) #[] cp))):=fun t ht=>by
    obtain⟨cs,hcs,-,-⟩:=hd.lok;exact(hb t ht).two (iJ _ hcs ht)
   obtain⟨q,hq⟩:=zN (x.ks[i]);rw[hq]at hc hlc hfz HL HB2 gI;have hqi:((q:Int)<0)=False:=by simp
   clear hd hb HN hq;go_wp2;exact⟨⟨i+1,by go_num,by omega,HL.o,HB2.o⟩,by simp[intOf];omega⟩
  ·have him:i=m:=by omega
   have HF:Hd (Dm w0 T D Lb nv kv ns (keepD d x.ks kp) wr vt ve vw xs vs):=by
    have:=xh.o;rw[him,<-HM.o,List.take_length]at this;exact this
   clear hd hb;go_wp2;exact bodyPost_end (results_none rfl _ _ _) rfl ⟨rfl,HF.o,HB.o⟩
end
open Go.RowKit Go.Maps Go.WideMaps Go.Joins
theorem afe:(prog.info? 93).map (fun i=>(i.zero,i.size,i.bytes))=some (some .nilFunc,1,8):=by kernel_rfl
theorem aff(n:Nat):madeCells #[Value.nilFunc] n=Array.replicate n .nilFunc:=by
 unfold madeCells;apply Array.ext';simp;apply List.ext_getElem?;intro i;simp
 by_cases h:i<n
 ·simp[h,Nat.mod_one]
 ·simp[h]
theorem afg(n:Nat)(hn:n<=1048576)(W:World):(Instr.makeSlice 133 (.int .i64 (n:Int)) (.int .i64 (n:Int))).run prog W=.ok (.slice (some ⟨W.heap.size,0,none⟩) n n) (W.alloc (.cells (Array.replicate n .nilFunc) 93)):=by
 obtain⟨i0,hi0,hii⟩:=Option.map_eq_some_iff.1 afe;simp only[Prod.mk.injEq]at hii;obtain⟨hz0,hz1,hzb⟩:=hii;have:=run_make W 133 93 i0 .nilFunc underlying133 hi0 hz0 .i64 .i64 (n:Int) (n:Int) (by omega) (Int.le_refl _) (by rw[hzb];omega) (by omega);rw[this,hz1];have e:((n:Int)).toNat=n:=by omega
 rw[e,Nat.mul_one];have e2:(Value.nilFunc).cells=#[.nilFunc]:=rfl;rw[e2,aff]
theorem afh(N c n:Nat)(w:World)(hn:n<=1048576) :
  Calls prog 39 #[.slice (some ⟨N,0,none⟩) n c] w fun e w'=>e=.returned (.pointer (some ⟨w.heap.size+1,0,none⟩))/\w'=(w.alloc (.cells (Array.replicate n .nilFunc) 93)).alloc (.cells #[.slice (some ⟨N,0,none⟩) n c,.slice (some ⟨w.heap.size,0,none⟩) n n] 135):=by
 have hmk:=afg n hn w;go_enter func39,ntmps39;go_wp2;go_ret;exact⟨rfl,rfl⟩
theorem afi(D:Nat)(w:World):Calls prog 44 #[.pointer (some ⟨D,0,none⟩)] w fun e w'=>e=.returned (.func (.func 71) #[] #[.pointer (some ⟨w.heap.size,0,none⟩)])/\w'=w.alloc (.cells #[.pointer (some ⟨D,0,none⟩)] 83):=by
 go_enter func44,ntmps44;go_wp2;go_ret;exact⟨rfl,rfl⟩
theorem afj(D:Nat)(e:Int)(w:World):Calls prog 72 #[.pointer (some ⟨D,0,none⟩),.int .i64 e] w fun e' w'=>e'=.returned (.func (.func 112) #[] #[.pointer (some ⟨w.heap.size,0,none⟩),.pointer (some ⟨w.heap.size+1,0,none⟩)])/\w'=(w.alloc (.cells #[.pointer (some ⟨D,0,none⟩)] 83)).alloc (.cells #[.int .i64 e] 3):=by
 go_enter func72,ntmps72;go_wp2;go_ret;exact⟨rfl,rfl⟩
theorem afk(D:Nat)(e:Int)(w:World):Calls prog 115 #[.pointer (some ⟨D,0,none⟩),.int .i64 e] w fun e' w'=>e'=.returned (.func (.func 159) #[] #[.pointer (some ⟨w.heap.size,0,none⟩),.pointer (some ⟨w.heap.size+1,0,none⟩)])/\w'=(w.alloc (.cells #[.pointer (some ⟨D,0,none⟩)] 83)).alloc (.cells #[.int .i64 e] 3):=by
 go_enter func115,ntmps115;go_wp2;go_ret;exact⟨rfl,rfl⟩
section
variable {w0:World} {T D Lb:Nat} {nv:Value} {kv:Nat->Value} {ns:List Tn} {d:Dr} {w w':World} {vt ve vw:Value} {xs:List Value} {vs:Nat->Value}
theorem afl(h:Dm w0 T D Lb nv kv ns d w vt ve vw xs vs)(x:Tn)(o:Option Addr)(m c:Nat) :
  Calls prog 43 #[.pointer (some ⟨D,0,none⟩),.agg (dM x (.slice o m c))] w fun e w'=>(¬x.kd=4->e=.returned (.int .i64 7)/\w.grownBy w' none)/\(x.kd=4->¬x.nu=1->e=.returned (.int .i64 3)/\w.grownBy w' none)/\(x.kd=4->x.nu=1->e=.returned (.int .i64 0)/\Dm w0 T D Lb nv kv ns ⟨d.lk,true,d.tb,d.es,d.wt⟩ w' vt ve vw xs vs):=by
 unfold dM;obtain⟨kd,ky,tx,nu,ks,pl⟩:=x;simp only[];obtain⟨W,hW⟩:=zN (w.alloc (.cells #[.int .i64 kd,.string ⟨ky.toArray⟩,.string ⟨tx.toArray⟩,.int .i64 nu,.slice o m c,.int .i64 (pl:Nat)] 90));have HG:Hd (w.grownBy W none):=hW ▸ aP (ai w none) _;have HD:Hd (Dm w0 T D Lb nv kv ns d W vt ve vw xs vs):=h.grow HG.o;have hB:W.heap[w.heap.size]?=some (.cells #[.int .i64 kd,.string ⟨ky.toArray⟩,.string ⟨tx.toArray⟩,.int .i64 nu,.slice o m c,.int .i64 (pl:Nat)] 90 (0,0)):=by rw[<-hW];exact heap_alloc_new _ _
 have c0:W.cell? ⟨w.heap.size,0,none⟩=some (.int .i64 kd):=by rw[ae hB];rfl
 have c3:W.cell? ⟨w.heap.size,3,none⟩=some (.int .i64 nu):=by rw[ae hB];rfl
 obtain⟨-,-,-,d1,-,-,-,hfz⟩:=HD.o.cells;have hf1:=hfz 1;clear hB hfz h
 by_cases h4:kd=4
 ·by_cases h1:nu=1
  ·have HF:Hd (Dm w0 T D Lb nv kv ns ⟨d.lk,true,d.tb,d.es,d.wt⟩ (W.setCell ⟨D,1,none⟩ (.bool true)) vt ve vw xs vs):=HD.o.fmt true;subst h4 h1;go_enter func43,ntmps43;go_wp2;go_ret;exact⟨fun h=>(h (by first|exact trivial|rfl)).elim,fun _ h=>(h (by first|exact trivial|rfl)).elim,fun _ _=>⟨rfl,HF.o⟩⟩
  ·have hb:(nu != 1)=true:=by simpa using h1
   subst h4;go_enter func43,ntmps43;go_wp2;go_ret;exact⟨fun h=>(h (by first|exact trivial|rfl)).elim,fun _ _=>⟨rfl,HG.o⟩,fun _ h=>absurd h h1⟩
 ·have hb:(kd != 4)=true:=by simpa using h4
  go_enter func43,ntmps43;go_wp2;go_ret;exact⟨fun _=>⟨rfl,HG.o⟩,fun h=>absurd h h4,fun h=>absurd h h4⟩
def Ov(x:Tn)(ok:Bool)(a:Addr)(w:World)(e:Ending)(w':World):Prop:=(¬x.kd=3->e=.returned (.int .i64 7)/\w.grownBy w' none)/\(x.kd=3->ok=false->e=.returned (.int .i64 2)/\w.grownBy w' none)/\(x.kd=3->ok=true->e=.returned (.int .i64 0)/\∃w1,w.grownBy w1 none/\w'=w1.setCell a (.string ⟨x.tx.toArray⟩))
theorem Ox(x:Tn)(o:Option Addr)(m c F g k:Nat)(ok:Bool)(w:World)(eF:∀args w,(callFunc F args).run prog w=.ok (.enter F args) w)(CF:∀w',Calls prog F #[.string ⟨x.tx.toArray⟩] w' fun e w''=>e=.returned (.bool ok)/\w'.grownBy w'' none)(cs:Array Value)(t:TypeId)(hgb:w.heap[g]?=some (.cells cs t (0,0)))(v0:Value)(hk:cs[k]?=some v0) :
  Calls prog 114 #[.agg (dM x (.slice o m c)),.func (.func F) #[] #[],.pointer (some ⟨g,k,none⟩)] w (Ov x ok ⟨g,k,none⟩ w):=by
 unfold dM;obtain⟨kd,ky,tx,nu,ks,pl⟩:=x;simp only[]at CF ⊢;have xk:Hd (∀w',Calls prog F #[.string ⟨tx.toArray⟩] w' fun e w''=>e=.returned (.bool ok)/\w'.grownBy w'' none):=CF;obtain⟨tB,Oy⟩:∃t:ByteArray,⟨tx.toArray⟩=t:=⟨_,rfl⟩;have zU:Hd ((⟨tx.toArray⟩:ByteArray)=tB):=Oy;rw[Oy]at xk ⊢;obtain⟨W,hW⟩:=zN (w.alloc (.cells #[.int .i64 kd,.string ⟨ky.toArray⟩,.string tB,.int .i64 nu,.slice o m c,.int .i64 (pl:Nat)] 90));have HG:Hd (w.grownBy W none):=hW ▸ aP (ai w none) _;have hB:W.heap[w.heap.size]?=some (.cells #[.int .i64 kd,.string ⟨ky.toArray⟩,.string tB,.int .i64 nu,.slice o m c,.int .i64 (pl:Nat)] 90 (0,0)):=by rw[<-hW];exact heap_alloc_new _ _
 have c0:W.cell? ⟨w.heap.size,0,none⟩=some (.int .i64 kd):=by rw[ae hB];rfl
 have c2:W.cell? ⟨w.heap.size,2,none⟩=some (.string tB):=by rw[ae hB];rfl
 have bY:Hd (W.heap[g]?=some (.cells cs t (0,0))):=(aU HG.o).blk hgb;clear hB CF Oy hgb
 by_cases h3:kd=3
 ·subst h3;go_enter func114,ntmps114;go_wp2_with (first|(refine(xk.o _).mono ?_));rintro e w2 ⟨rfl,hg2⟩;have c22:=hg2.cell c2 (by simp);have Oz:=(aU hg2).blk bY.o;have hc2:w2.cell? ⟨g,k,none⟩=some v0:=by rw[ae Oz];exact hk
  have hf2:w2.frozen? ⟨g,k,none⟩=false:=Lib.frozen_of_heap Oz k;clear Oz;have HG2:Hd (w.grownBy w2 none):=af HG.o hg2;clear hg2
  cases ok with
  | true =>
   go_wp2;go_ret;refine⟨fun h=>(h (by first|exact trivial|rfl)).elim,fun _ h=>(by cases h),fun _ _=>⟨rfl,w2,HG2.o,?_⟩⟩;rw[zU.o]
  | false =>
   go_wp2;go_ret;exact⟨fun h=>(h (by first|exact trivial|rfl)).elim,fun _ _=>⟨rfl,HG2.o⟩,fun _ h=>(by cases h)⟩
 ·have hb:(kd != 3)=true:=by simpa using h3
  go_enter func114,ntmps114;go_wp2;go_ret;exact⟨fun _=>⟨rfl,HG.o⟩,fun h=>absurd h h3,fun h=>absurd h h3⟩
theorem afm(N c:Nat)(h:Dm w0 T D Lb (.slice (some ⟨N,0,none⟩) ns.length c) kv ns d w vt ve vw xs vs)(H:Nd w0 N c kv ns) :
  Calls prog 41 #[.pointer (some ⟨T,0,none⟩)] w fun e w'=>e=.returned (.agg (dM (ns[0]'H.pos) (kv 0)))/\w.grownBy w' none:=by
 obtain⟨c0,c1,c2,c3,c4,c5⟩:=H.cel 0 H.pos;obtain⟨o4,m4,hk4,-⟩:=H.kid 0 H.pos;obtain⟨x,hx⟩:=zN (ns[0]'H.pos);rw[hx]at c0 c1 c2 c3 c5 hk4 ⊢;rw[hk4]at c4 ⊢;obtain⟨kd,ky,tx,nu,ks,pl⟩:=x;unfold dM;simp only[]at c0 c1 c2 c3 c4 c5 ⊢;obtain⟨t0,-,-,-,-,-,-,-⟩:=h.cells;have hp:=H.pos;obtain⟨n,hn⟩:=zN (ns.length);rw[hn]at t0 hp;have HG:Hd (w0.grownBy w none):=h.gb;have HW:Hd (w.grownBy (w.alloc (.cells #[.int .i64 0,.string ⟨#[]⟩,.string ⟨#[]⟩,.int .i64 0,.slice none 0 0,.int .i64 0] 90)) none):=aP (ai w none) _;have qw:=af HG.o HW.o;have d0:=qw.cell c0 (by simp);have d1:=qw.cell c1 (by simp);have d2:=qw.cell c2 (by simp);have d3:=qw.cell c3 (by simp);have d4:=qw.cell c4 (by simp);have d5:=qw.cell c5 (by simp);have tW:=HW.o.cell t0 (by simp);clear c0 c1 c2 c3 c4 c5 h H hx hk4 hn qw t0;have hlt:(0:Int)<(n:Int):=by omega
 go_enter func41,ntmps41;go_wp2;refine bodyPost_ret (results_cell_row rfl _ _ w.heap.size 90 #[.int .i64 kd,.string ⟨ky.toArray⟩,.string ⟨tx.toArray⟩,.int .i64 nu,.slice o4 ks.length m4,.int .i64 (pl:Nat)] (0,0) _ rfl ?_ underlying90 rfl (by kernel_rfl)) rfl ⟨rfl,aP (ai w none) _⟩;exact heap_alloc_new _ _
end
open Go.RowKit Go.Maps Go.WideMaps Go.Joins
def qx(w0:World)(T D Lb:Nat)(nv:Value)(kv:Nat->Value)(ns:List Tn)(r:Except Int Dr)(e:Ending)(w':World):Prop :=
 (∀d',r=.ok d'->e=.returned (.int .i64 0)/\∃vt ve vw xs vs,Dm w0 T D Lb nv kv ns d' w' vt ve vw xs vs)/\(∀c,r=.error c->e=.returned (.int .i64 c)/\¬c=0/\w0.grownBy w' none)
theorem xq{w0:World}{T D Lb:Nat}{nv:Value}{kv:Nat->Value}{ns:List Tn}{d':Dr}{w':World}{vt ve vw:Value}{xs:List Value}{vs:Nat->Value}(h:Dm w0 T D Lb nv kv ns d' w' vt ve vw xs vs):qx w0 T D Lb nv kv ns (.ok d') (.returned (.int .i64 0)) w' :=
 ⟨fun d e=>(by cases e;exact⟨rfl,_,_,_,_,_,h⟩),fun c e=>(by cases e)⟩
theorem mf{w0:World}{T D Lb:Nat}{nv:Value}{kv:Nat->Value}{ns:List Tn}{c:Int}{w':World}(hc:¬c=0)(h:w0.grownBy w' none):qx w0 T D Lb nv kv ns (.error c) (.returned (.int .i64 c)) w' :=
 ⟨fun d e=>(by cases e),fun c' e=>(by cases e;exact⟨rfl,hc,h⟩)⟩
theorem qy{ky k:List UInt8}{KY:ByteArray}(h:(⟨ky.toArray⟩:ByteArray)=KY):(ky=k->(KY.toList == k)=true)/\(¬ky=k->(KY.toList == k)=false):=by
 subst h;have e:(⟨ky.toArray⟩:ByteArray).toList=ky:=by rw[ByteArray.toList_eq]
 rw[e];exact⟨fun h=>by rw[h];simp,fun h=>by simpa using h⟩
theorem OA{w w':World}{a b bx:Nat}{va vb v0 v1 v2 v3 v4 v5:Value}(hg:w.grownBy w' none)(h:w.cell? ⟨a,0,none⟩=some va/\w.cell? ⟨b,0,none⟩=some vb/\w.cell? ⟨bx,0,none⟩=some v0/\w.cell? ⟨bx,1,none⟩=some v1/\w.cell? ⟨bx,2,none⟩=some v2/\w.cell? ⟨bx,3,none⟩=some v3/\w.cell? ⟨bx,4,none⟩=some v4/\w.cell? ⟨bx,5,none⟩=some v5):w'.cell? ⟨a,0,none⟩=some va/\w'.cell? ⟨b,0,none⟩=some vb/\w'.cell? ⟨bx,0,none⟩=some v0/\w'.cell? ⟨bx,1,none⟩=some v1/\w'.cell? ⟨bx,2,none⟩=some v2/\w'.cell? ⟨bx,3,none⟩=some v3/\w'.cell? ⟨bx,4,none⟩=some v4/\w'.cell? ⟨bx,5,none⟩=some v5 :=
 ⟨hg.cell h.1 (by simp),hg.cell h.2.1 (by simp),hg.cell h.2.2.1 (by simp),hg.cell h.2.2.2.1 (by simp),hg.cell h.2.2.2.2.1 (by simp),hg.cell h.2.2.2.2.2.1 (by simp),hg.cell h.2.2.2.2.2.2.1 (by simp),hg.cell h.2.2.2.2.2.2.2 (by simp)⟩
section
variable {w0:World} {T D Lb:Nat} {nv:Value} {kv:Nat->Value} {ns:List Tn} {d:Dr} {w w':World} {vt ve vw:Value} {xs:List Value} {vs:Nat->Value}
theorem afn(h:Dm w0 T D Lb nv kv ns d w vt ve vw xs vs)(q:Nat)(x:Tn)(k:Value)(hk:NuS w0 k x.ks)(hr:∀q∈x.ks,q<ns.length)(hl:x.ks.length<=1000000)(a b:Nat)(ha:w.heap[a]?=some (.cells #[.pointer (some ⟨D,0,none⟩)] 83 (0,0)))(hb:w.heap[b]?=some (.cells #[.pointer (some ⟨T,0,none⟩)] 81 (0,0))) :
  Calls prog 42 #[.agg (dM x k),.pointer (some ⟨a,0,none⟩),.pointer (some ⟨b,0,none⟩)] w (qx w0 T D Lb nv kv ns (gG d q x .root)):=by
 have nz:Hd (NuS w0 k x.ks):=hk;obtain⟨o,c,hk0,-⟩:=hk;have HR:Hd (∀q∈x.ks,q<ns.length):=hr;obtain⟨kd,ky,tx,nu,ks,pl⟩:=x;obtain⟨KY,jQ⟩:∃t:ByteArray,⟨ky.toArray⟩=t:=⟨_,rfl⟩;have jy:Hd ((⟨ky.toArray⟩:ByteArray)=KY):=jQ;obtain⟨m,hm⟩:=zN (ks.length);have hk1:k=.slice o m c:=by rw[hk0];show Value.slice o ks.length c=_;rw[hm]
 obtain⟨bx,hbx⟩:=zN (w.heap.size);obtain⟨W,hW⟩:=zN (w.alloc (.cells #[.int .i64 kd,.string KY,.string ⟨tx.toArray⟩,.int .i64 nu,.slice o m c,.int .i64 (pl:Nat)] 90));have HG:Hd (w.grownBy W none):=hW ▸ aP (ai w none) _;have HD:Hd (Dm w0 T D Lb nv kv ns d W vt ve vw xs vs):=h.grow HG.o;have hB:W.heap[bx]?=some (.cells #[.int .i64 kd,.string KY,.string ⟨tx.toArray⟩,.int .i64 nu,.slice o m c,.int .i64 (pl:Nat)] 90 (0,0)):=by rw[<-hW,<-hbx];exact heap_alloc_new _ _
 have uQ:=(aU HG.o).blk ha;have hbW:=(aU HG.o).blk hb;have dJ:Hd (W.heap[bx]?=some (.cells #[.int .i64 kd,.string KY,.string ⟨tx.toArray⟩,.int .i64 nu,.slice o m c,.int .i64 (pl:Nat)] 90 (0,0))/\W.heap[a]?=some (.cells #[.pointer (some ⟨D,0,none⟩)] 83 (0,0))/\W.heap[b]?=some (.cells #[.pointer (some ⟨T,0,none⟩)] 81 (0,0))):=⟨hB,uQ,hbW⟩;have c0:W.cell? ⟨bx,0,none⟩=some (.int .i64 kd):=by rw[ae hB];rfl
 have c1:W.cell? ⟨bx,1,none⟩=some (.string KY):=by rw[ae hB];rfl
 have c2:W.cell? ⟨bx,2,none⟩=some (.string ⟨tx.toArray⟩):=by rw[ae hB];rfl
 have c3:W.cell? ⟨bx,3,none⟩=some (.int .i64 nu):=by rw[ae hB];rfl
 have c4:W.cell? ⟨bx,4,none⟩=some (.slice o m c):=by rw[ae hB];rfl
 have c5:W.cell? ⟨bx,5,none⟩=some (.int .i64 (pl:Nat)):=by rw[ae hB];rfl
 have ca:W.cell? ⟨a,0,none⟩=some (.pointer (some ⟨D,0,none⟩)):=by rw[ae uQ];rfl
 have cb:W.cell? ⟨b,0,none⟩=some (.pointer (some ⟨T,0,none⟩)):=by rw[ae hbW];rfl
 have HW:Hd (w.alloc (.cells #[.int .i64 kd,.string KY,.string ⟨tx.toArray⟩,.int .i64 nu,.slice o m c,.int .i64 (pl:Nat)] 90)=W/\w.heap.size=bx):=⟨hW,hbx⟩;rw[hk1]at nz ⊢;unfold dM gG;simp only[]at nz HR hl ⊢;rw[jQ];have CF:Hd (Calls prog 43 #[.pointer (some ⟨D,0,none⟩),.agg #[.int .i64 kd,.string KY,.string ⟨tx.toArray⟩,.int .i64 nu,.slice o m c,.int .i64 (pl:Nat)]] W fun e w'=>(¬kd=4->e=.returned (.int .i64 7)/\W.grownBy w' none)/\(kd=4->¬nu=1->e=.returned (.int .i64 3)/\W.grownBy w' none)/\(kd=4->nu=1->e=.returned (.int .i64 0)/\Dm w0 T D Lb nv kv ns ⟨d.lk,true,d.tb,d.es,d.wt⟩ w' vt ve vw xs vs)):=by
  have:=afl HD.o ⟨kd,ky,tx,nu,ks,pl⟩ o m c;unfold dM at this;simp only[]at this;rw[jQ]at this;exact this
 clear h hr hk0 ha hb hB uQ hbW hW hbx jQ hm hk1
 by_cases e1:ky=jv
 ·have hb1:(KY.toList == [102,111,114,109,97,116])=true:=(qy jy.o).1 e1;rw[if_pos e1]
  by_cases g1:kd=4
  ·by_cases g2:nu=1
   ·rw[if_neg (by simpa using g1),if_neg (by simpa using g2)];have CG:Hd (Calls prog 43 #[.pointer (some ⟨D,0,none⟩),.agg #[.int .i64 kd,.string KY,.string ⟨tx.toArray⟩,.int .i64 nu,.slice o m c,.int .i64 (pl:Nat)]] W fun e w'=>e=.returned (.int .i64 0)/\Hd (Dm w0 T D Lb nv kv ns ⟨d.lk,true,d.tb,d.es,d.wt⟩ w' vt ve vw xs vs)):=CF.o.mono fun e w' h=>h.2.2 g1 g2
    clear e1 CF g1 g2;go_enter func42,ntmps42;go_upto_region 1 with fail
    try rw[HW.o.1]
    try rw[HW.o.2]
    go_wp2_with (go_at_call 43;refine CG.o.mono ?_);rintro e w2 ⟨rfl,h2⟩;go_wp2;go_ret;exact xq h2.o
   ·rw[if_neg (by simpa using g1),if_pos g2];have CG:Hd (Calls prog 43 #[.pointer (some ⟨D,0,none⟩),.agg #[.int .i64 kd,.string KY,.string ⟨tx.toArray⟩,.int .i64 nu,.slice o m c,.int .i64 (pl:Nat)]] W fun e w'=>e=.returned (.int .i64 3)/\Hd (W.grownBy w' none)):=CF.o.mono fun e w' h=>h.2.1 g1 g2
    clear e1 CF g1 g2;go_enter func42,ntmps42;go_upto_region 1 with fail
    try rw[HW.o.1]
    try rw[HW.o.2]
    go_wp2_with (go_at_call 43;refine CG.o.mono ?_);rintro e w2 ⟨rfl,h2⟩;go_wp2;go_ret;exact mf (by decide) (af HD.o.gb h2.o)
  ·rw[if_pos g1];have CG:Hd (Calls prog 43 #[.pointer (some ⟨D,0,none⟩),.agg #[.int .i64 kd,.string KY,.string ⟨tx.toArray⟩,.int .i64 nu,.slice o m c,.int .i64 (pl:Nat)]] W fun e w'=>e=.returned (.int .i64 7)/\Hd (W.grownBy w' none)):=CF.o.mono fun e w' h=>h.1 g1
   clear e1 CF g1;go_enter func42,ntmps42;go_upto_region 1 with fail
   try rw[HW.o.1]
   try rw[HW.o.2]
   go_wp2_with (go_at_call 43;refine CG.o.mono ?_);rintro e w2 ⟨rfl,h2⟩;go_wp2;go_ret;exact mf (by decide) (af HD.o.gb h2.o)
 ·have hb1:(KY.toList == [102,111,114,109,97,116])=false:=(qy jy.o).2 e1;rw[if_neg e1]
  by_cases e2:ky=iC
  ·have hb2:(KY.toList == [112,97,99,107,97,103,101])=true:=(qy jy.o).1 e2
   by_cases e3:kd=2
   ·have hb3:(kd == 2)=true:=by simpa using e3
    rw[if_pos ⟨e2,e3⟩];have gV:Hd (W.grownBy W.drew none):=au (ai W none) 1;have CT:Hd (Calls prog 44 #[.pointer (some ⟨D,0,none⟩)] W.drew fun e w'=>∃A,e=.returned (.func (.func 71) #[] #[.pointer (some ⟨A,0,none⟩)])/\w'.heap[A]?=some (.cells #[.pointer (some ⟨D,0,none⟩)] 83 (0,0))/\W.drew.grownBy w' none):=(afi D W.drew).mono fun e w' ⟨a1,a2⟩=>⟨_,a1,by rw[a2];exact heap_alloc_new _ _,by rw[a2];exact aP (ai _ none) _⟩
    have CK:Hd (∀A w2,W.drew.grownBy w2 none->w2.heap[A]?=some (.cells #[.pointer (some ⟨D,0,none⟩)] 83 (0,0))->Calls prog 40 #[.pointer (some ⟨T,0,none⟩),.agg #[.int .i64 kd,.string KY,.string ⟨tx.toArray⟩,.int .i64 nu,.slice o m c,.int .i64 (pl:Nat)],.func (.func 71) #[] #[.pointer (some ⟨A,0,none⟩)]] w2 fun e w3=>e=.returned (.tuple #[])/\Hd (Dm w0 T D Lb nv kv ns (keepD d ks .tabs) w3 vt ve vw xs vs)/\w3.cell? ⟨a,0,none⟩=some (.pointer (some ⟨D,0,none⟩))/\w3.cell? ⟨b,0,none⟩=some (.pointer (some ⟨T,0,none⟩))/\w3.cell? ⟨bx,0,none⟩=some (.int .i64 kd)/\w3.cell? ⟨bx,1,none⟩=some (.string KY)/\w3.cell? ⟨bx,2,none⟩=some (.string ⟨tx.toArray⟩)/\w3.cell? ⟨bx,3,none⟩=some (.int .i64 nu)/\w3.cell? ⟨bx,4,none⟩=some (.slice o m c)/\w3.cell? ⟨bx,5,none⟩=some (.int .i64 (pl:Nat))):=fun A w2 hg hA=>by
     have hgW:=af gV.o hg;have:=keep_any (HD.o.grow hgW) ⟨kd,ky,tx,nu,ks,pl⟩ (.slice o m c) nz.o HR.o hl 71 #[.pointer (some ⟨A,0,none⟩)] .tabs ⟨A,rfl,hA⟩;unfold dM at this;simp only[]at this;rw[jy.o]at this;refine this.mono fun e w3 ⟨a1,a2,a3⟩=>?_
     have y1:=(a3 _ (by decide)).blk ((aU hgW).blk dJ.o.1);have y2:=(a3 _ (by decide)).blk ((aU hgW).blk dJ.o.2.1);have y3:=(a3 _ (by decide)).blk ((aU hgW).blk dJ.o.2.2);exact⟨a1,a2,by rw[ae y2];rfl,by rw[ae y3];rfl,by rw[ae y1];rfl,by rw[ae y1];rfl,by rw[ae y1];rfl,by rw[ae y1];rfl,by rw[ae y1];rfl,by rw[ae y1];rfl⟩
    clear e1 e2 e3 CF;go_enter func42,ntmps42;go_upto_region 1 with fail
    try rw[HW.o.1]
    try rw[HW.o.2]
    go_wp2
    go_region_held3 (fun u=>u.cell? ⟨a,0,none⟩=some (.pointer (some ⟨D,0,none⟩))/\u.cell? ⟨b,0,none⟩=some (.pointer (some ⟨T,0,none⟩))/\u.cell? ⟨bx,0,none⟩=some (.int .i64 kd)/\u.cell? ⟨bx,1,none⟩=some (.string KY)/\u.cell? ⟨bx,2,none⟩=some (.string ⟨tx.toArray⟩)/\u.cell? ⟨bx,3,none⟩=some (.int .i64 nu)/\u.cell? ⟨bx,4,none⟩=some (.slice o m c)/\u.cell? ⟨bx,5,none⟩=some (.int .i64 (pl:Nat))) ((first|assumption|exact OA (by assumption) (by assumption)|go_keep)) (first|(go_at_call 44;refine CT.o.mono ?_;rintro e w6 ⟨A,rfl,EJ,bG⟩)|(go_at_call 40;refine(CK.o _ _ bG EJ).mono ?_;rintro e w7 ⟨rfl,hall,hcl⟩))
    go_wp2;go_ret;exact xq hall.o
   ·have hb3:(kd == 2)=false:=by simpa using e3
    rw[if_neg (fun h=>e3 h.2)];have bC:Hd (w0.grownBy W none):=HD.o.gb;clear e1 e2 e3 CF;go_enter func42,ntmps42;go_upto_region 1 with fail
    try rw[HW.o.1]
    try rw[HW.o.2]
    go_wp2;go_ret;exact mf (by decide) bC.o
  ·have hb2:(KY.toList == [112,97,99,107,97,103,101])=false:=(qy jy.o).2 e2;rw[if_neg (fun h=>e2 h.1)];have bC:Hd (w0.grownBy W none):=HD.o.gb;clear e1 e2 CF;go_enter func42,ntmps42;go_upto_region 1 with fail
   try rw[HW.o.1]
   try rw[HW.o.2]
   go_wp2;go_ret;exact mf (by decide) bC.o
end
open Go.RowKit Go.Maps
theorem afo(x:En)(o:Option Addr)(n c B:Nat)(t:ByteArray)(w:World)(hB:w.cell? ⟨B,0,none⟩=some (.string t)) :
  Calls prog 158 #[.agg #[.string x.nm,.string x.ve,.string x.dg,.slice o n c],.pointer (some ⟨B,0,none⟩)] w fun e w'=>e=.returned (.bool (decide (x.nm=t)))/\w.grownBy w' none:=by
 have hA:=(World.grownBy_alloc w (.cells #[.string x.nm,.string x.ve,.string x.dg,.slice o n c] 44) none).cell hB (by simp);have hg:=World.grownBy_alloc w (.cells #[.string x.nm,.string x.ve,.string x.dg,.slice o n c] 44) none;have HG:Hd (w.grownBy (w.alloc (.cells #[.string x.nm,.string x.ve,.string x.dg,.slice o n c] 44)) none):=hg;clear hg
 by_cases h:x.nm=t
 ·have q:=Eg h;rw[decide_eq_true h];clear h;go_enter func158,ntmps158;go_wp2;go_ret;exact⟨by first|rfl|exact bn q,HG.o⟩
 ·have q:=Eh h;rw[decide_eq_false h];clear h;go_enter func158,ntmps158;go_wp2;go_ret;exact⟨by first|rfl|exact bn q,HG.o⟩
theorem afp(o:Option Addr)(n c B:Nat)(t:ByteArray)(L:List En)(w:World)(hn:n=L.length)(h:EnS w (.slice o n c) L)(hL:L.length<=1048576)(hB:w.cell? ⟨B,0,none⟩=some (.string t)) :
  Calls prog 200 #[.slice o n c,.func (.func 158) #[] #[.pointer (some ⟨B,0,none⟩)]] w fun e w'=>∃k:Int,e=.returned (.int .i64 k)/\w.grownBy w' none/\(0<=k↔az L t=true):=by
 subst hn;have H1:Hd (EnS w (.slice o L.length c) L):=h;have CN:Hd (∀(x:En) o' n' c' w',w.grownBy w' none->Calls prog 158 #[.agg #[.string x.nm,.string x.ve,.string x.dg,.slice o' n' c'],.pointer (some ⟨B,0,none⟩)] w' fun e w''=>e=.returned (.bool (decide (x.nm=t)))/\w'.grownBy w'' none):=fun x o' n' c' w' hg=>afo x o' n' c' B t w' (hg.cell hB (by simp))
 have HN:Hd (az (L.take L.length) t=false->az L t=false):=fun h=>by rwa [List.take_length]at h
 clear h hB;go_enter func200,ntmps200;go_wp2;go_loopw [8] (fun vi wr=>∃i:Nat,vi=.int .i64 i/\i<=L.length/\az (L.take i) t=false/\w.grownBy wr none) (fun vi _=>L.length-(intOf vi).toNat)
 case atStart=>exact⟨0,rfl,Nat.zero_le _,rfl,ai _ _⟩
 case round =>
  obtain⟨i,rfl,hi,hf,hg⟩:=hrel;have HF:Hd (az (L.take i) t=false):=hf;have HG:Hd (w.grownBy wr none):=hg
  by_cases hlt:i<L.length
  ·obtain⟨a,rfl,hcv,hat⟩:=Nu (H1.o.grow hg) hlt;obtain⟨e0,e1,e2,sv,e3,hsv⟩:=hat i hlt;obtain⟨so,sc,rfl⟩:=kT hsv;obtain⟨y,hy⟩:=zN (L[i]);rw[hy]at e0 e1 e2 e3;have HY:Hd (L[i]=y):=hy;have CY:Hd (Calls prog 158 #[.agg #[.string y.nm,.string y.ve,.string y.dg,.slice so y.nd.length sc],.pointer (some ⟨B,0,none⟩)] wr fun e w''=>e=.returned (.bool (decide (y.nm=t)))/\wr.grownBy w'' none):=CN.o y so _ sc wr hg;clear hf hg hy hsv hat
   by_cases hxy:y.nm=t
   ·rw[decide_eq_true hxy]at CY;have HT:Hd (az L t=true):=by
     show _=_;unfold az;rw[List.any_eq_true];exact⟨L[i],List.getElem_mem _,by rw[HY.o];simp[hxy]⟩
    clear hxy;go_wp2_with (go_at_call 158;refine CY.o.mono ?_);rintro e w2 ⟨rfl,hg2⟩;have HG2:Hd (w.grownBy w2 none):=af HG.o hg2;clear hg2;go_wp2;go_ret;exact⟨(i:Int),rfl,HG2.o,fun _=>HT.o,fun _=>by omega⟩
   ·rw[decide_eq_false hxy]at CY;have HT:Hd (az (L.take (i+1)) t=false):=by
     show _=_;rw[Ii L t i hlt,HF.o,HY.o];simpa using hxy
    clear hxy;go_wp2_with (go_at_call 158;refine CY.o.mono ?_);rintro e w2 ⟨rfl,hg2⟩;have HG2:Hd (w.grownBy w2 none):=af HG.o hg2;clear hg2;go_wp2;exact⟨⟨i+1,by go_num,by omega,HT.o,HG2.o⟩,by simp[intOf];omega⟩
  ·have hil:i=L.length:=by omega
   have HT:Hd (az L t=false):=HN.o (by rw[<-hil];exact hf);clear hf hg hil hi;go_wp2;go_ret;exact⟨-1,rfl,HG.o,fun h=>by omega,fun h=>by rw[HT.o]at h;cases h⟩
theorem afq(o:Option Addr)(n c B:Nat)(t:ByteArray)(L:List En)(w:World)(hn:n=L.length)(h:EnS w (.slice o n c) L)(hL:L.length<=1048576)(hB:w.cell? ⟨B,0,none⟩=some (.string t)) :
  Calls prog 157 #[.slice o n c,.func (.func 158) #[] #[.pointer (some ⟨B,0,none⟩)]] w fun e w'=>e=.returned (.bool (az L t))/\w.grownBy w' none:=by
 have CI:Hd (Calls prog 200 #[.slice o n c,.func (.func 158) #[] #[.pointer (some ⟨B,0,none⟩)]] w fun e w'=>∃k:Int,e=.returned (.int .i64 k)/\w.grownBy w' none/\(0<=k↔az L t=true)):=afp o n c B t L w hn h hL hB;obtain⟨q,hq⟩:=zN (az L t);rw[hq]at CI ⊢;clear h hq hL hn hB
 cases q with
 | true =>
  have CJ:Hd (Calls prog 200 #[.slice o n c,.func (.func 158) #[] #[.pointer (some ⟨B,0,none⟩)]] w fun e w'=>(∃k:Int,e=.returned (.int .i64 k)/\0<=k)/\w.grownBy w' none):=CI.o.mono fun e w' ⟨k,h1,h2,h3⟩=>⟨⟨k,h1,h3.2 rfl⟩,h2⟩
  clear CI;go_enter func157,ntmps157;go_wp2_with (go_at_call 200;refine CJ.o.mono ?_);rintro e w1 ⟨⟨k,rfl,hk⟩,hg⟩;go_wp2;go_ret;exact⟨bn (by first|rfl|(simp;done)|(simp;omega)),hg⟩
 | false =>
  have CJ:Hd (Calls prog 200 #[.slice o n c,.func (.func 158) #[] #[.pointer (some ⟨B,0,none⟩)]] w fun e w'=>(∃k:Int,e=.returned (.int .i64 k)/\k<0)/\w.grownBy w' none):=CI.o.mono fun e w' ⟨k,h1,h2,h3⟩=>⟨⟨k,h1,Int.not_le.1 (fun h=>by have:=h3.1 h;cases this)⟩,h2⟩
  clear CI;go_enter func157,ntmps157;go_wp2_with (go_at_call 200;refine CJ.o.mono ?_);rintro e w1 ⟨⟨k,rfl,hk⟩,hg⟩;go_wp2;go_ret;exact⟨bn (by first|rfl|(simp;done)|(simp;omega)),hg⟩
end Go.Proofs.YtmkjelchiacogaaGreatDoor
