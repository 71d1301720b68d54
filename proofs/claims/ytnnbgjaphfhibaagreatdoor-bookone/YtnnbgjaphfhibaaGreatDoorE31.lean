import Derived.Test.YtnnbgjaphfhibaaGreatDoorE26
import Derived.Test.YtnnbgjaphfhibaaGreatDoorE13
import Derived.Test.YtnnbgjaphfhibaaGreatDoorE25
set_option linter.all false
set_option maxRecDepth 100000
set_option maxHeartbeats 0
open Go.Proofs.Tryz
namespace Go.Proofs.YtnnbgjaphfhibaaGreatDoor
open Go.RowKit Go.Maps Go.WideMaps Go.Joins
def afS(s:ByteArray)(E:Int->TypeId × Value)(r:Rs (List Tn))(w:World)(e:Ending)(w':World):Prop :=
 (∀ns,r=.ok ns->∃N c M T xs ks now n f,e=.returned (.tuple #[.slice (some ⟨N,0,none⟩) ns.length c,.nilIface])/\TrD w' w.heap.size T ns now N c M xs ks n f) ∧
 (∀c p,r=.error (c,p)->∃v,e=.returned (.tuple #[.slice none 0 0,v])/\((c=1/\v=.iface (E 1).1 (E 1).2)\/dF w' v E c p))/\w.grownBy w' none
theorem BF(l:List UInt8)(f:Nat)(d:Sd):jA l (f+1) d=if l.length<=d.i then .ok d else match gW l d with | .error e=>.error e | .ok d1=>jA l f d1:=rfl
theorem Jr{w w':World}(h:Below w.heap.size w w'):w.grownBy w' none:=⟨h.os,h.tape,h.output,h.size,fun k hk _=>h.block k hk⟩
def afT:Rs Sd->Rs (List Tn)
 | .error e=>.error e
 | .ok d=>.ok d.ns
theorem Fa(l:List UInt8):jK l=if 100000<l.length then .error (1,0) else afT (jA l (l.length+1) ⟨0,[⟨0,[],[],0,[],0⟩],[],0⟩):=by
 unfold jK;split
 ·rfl
 ·cases jA l (l.length+1) ⟨0,[⟨0,[],[],0,[],0⟩],[],0⟩<;>rfl
theorem afU(s:ByteArray)(E:Int->TypeId × Value)(w:World)(G:Gl w w.heap.size E)(hlo:w.cell? ⟨0,0,none⟩=some (.iface (E 1).1 (E 1).2))(hmx:s.size<2 ^ 62) :
  Calls prog 47 #[.string s] w (afS s E (jK s.data.toList) w):=by
 have hl:s.data.toList.length=s.size:=by simp
 have Py:=ae (afj w);have HE:=Fa s.data.toList;rw[hl]at HE
 by_cases hbig:100000<s.size
 ·rw[if_pos hbig]at HE;rw[HE];have hb:(100000:Int)<(s.size:Int):=by omega
  have HR1:Hd (∀ty pv,(E 1).1=ty->(E 1).2=pv->True):=fun _ _ _ _=>trivial
  obtain⟨ty,hty⟩:=zN ((E 1).1);obtain⟨pv,hpv⟩:=zN ((E 1).2);have pM:Hd ((E 1).1=ty/\(E 1).2=pv):=⟨hty,hpv⟩;rw[hty,hpv]at hlo;clear HE Py G hty hpv HR1 hbig;go_enter func47,ntmps47;go_wp2;go_quiet (fail);go_wp2;refine bodyPost_ret (results_tmp2 (t:=2) (u:=3) rfl _ _ _) rfl ?_;exact⟨fun ns hh=>(by cases hh),fun c p hh=>(by cases hh;exact⟨_,rfl,Or.inl ⟨rfl,by rw[pM.o.1,pM.o.2];rfl⟩⟩),ay (au w none) _⟩
 ·rw[if_neg hbig]at HE;rw[HE];have hb:(s.size:Int)<=100000:=by omega
  have hs:s.size<=100000:=by omega
  obtain⟨B,Js⟩:=zN (w.heap.size);have CL:Hd (∀R T d wr,Rd wr R s d.i T->Tr wr B T d.ns d.own d.now->B<=R->Below B w wr->Li s.data.toList d->Calls prog 72 #[.pointer (some ⟨R,0,none⟩)] wr (sF B R T s E (gW s.data.toList d) wr)):=fun R T d wr h1 h2 h3 h4 h5=>afd B R T s E d.own d.now d.i d.ns wr h1 h2 ((Js ▸ G).bel h4) h3 hs h5
  have D6:=ae (fun d d' (a:Li s.data.toList d) (b:d.i<s.size) (c:gW s.data.toList d=.ok d')=>Jl s.data.toList d d' a (by omega) c);obtain⟨S,hS⟩:=zN (jA s.data.toList (s.data.toList.length+1) ⟨0,[⟨0,[],[],0,[],0⟩],[],0⟩);have HS:=ae hS;rw[<-hl,hS];have dY:=ae Js;rw[Js]at Py;clear HE hbig hS G hlo Js;go_enter func47,ntmps47;go_wp2_with (go_at_call 71;refine Py.o.mono ?_);rintro e w1 ⟨rfl,ht1,hg1⟩;obtain⟨R,hRe⟩:=zN (w1.heap.size);have jH:B<=R:=by have:=hg1.size;have:=dY.o;omega
  have hn:=heap_alloc_new w1 (.cells #[.string s,.int .i64 0,.pointer (some ⟨B+2,0,none⟩)] 125);rw[hRe]at hn;have hgR:=World.grownBy_alloc w1 (.cells #[.string s,.int .i64 0,.pointer (some ⟨B+2,0,none⟩)] 125) none;obtain⟨w2,hw2⟩:=zN (w1.alloc (.cells #[.string s,.int .i64 0,.pointer (some ⟨B+2,0,none⟩)] 125));rw[hw2]at hn hgR;have HR2:Hd (Rd w2 R s 0 (B+2)):=hn;have HT2:=ae (ht1.gb hgR);have HB2:Hd (Below B w w2):=nN (ai hg1 hgR) (by have:=dY.o;omega);clear hn hgR ht1 hg1;go_wp2;go_loopw [2,3] (fun v2 v3 wr=>v2=.slice none 0 0/\v3=.nilIface/\∃(d:Sd) (f:Nat),Rd wr R s d.i (B+2)/\Tr wr B (B+2) d.ns d.own d.now/\Li s.data.toList d/\Below B w wr/\jA s.data.toList f d=S/\s.size-d.i<f) (fun _ _ wr=>s.size-(match wr.cell? ⟨R,1,none⟩ with|some (.int _ k)=>k.toNat|_=>0))
  case atStart=>exact⟨rfl,rfl,⟨0,[⟨0,[],[],0,[],0⟩],[],0⟩,s.data.toList.length+1,HR2.o,HT2.o,EQ _,HB2.o,HS.o,by simp⟩
  case round =>
   obtain⟨rfl,rfl,d,f,hrd,htr,Fe,hbe,hra,hf⟩:=hrel;obtain⟨f,rfl⟩:∃f',f=f'+1:=⟨f-1,by omega⟩;rw[BF,hl]at hra;have hdl:d.i<=s.size:=by have:=Fe.le;omega
   have kZ:=ae hrd;have Jn:=ae htr;have HLK:=ae Fe;have lg:=ae hbe;have ig:Hd ((match wr.cell? ⟨R,1,none⟩ with|some (.int _ k)=>k.toNat|_=>0)=d.i):=by show _=_;rw[hrd.cells.2.1];simp
   obtain⟨c0,c1,c2,-⟩:=hrd.cells;obtain⟨k,hk⟩:=zN (d.i);rw[hk]at c1 hdl hf;have HKK:=ae hk
   by_cases hlt:k<s.size
   ·have hlt':(k:Int)<(s.size:Int):=by omega
    rw[if_neg (by omega)]at hra;have mO:=CL.o R (B+2) d wr hrd htr jH hbe Fe;have uS:=D6.o d;obtain⟨LR,Ya⟩:=zN (gW s.data.toList d);rw[Ya]at mO uS hra;have Bi:=ae mO;have HL2:=ae uS;have Dz:Hd (_=S):=hra;clear hrd htr Fe hbe hra mO uS Ya hk;go_wp2_with (go_at_call 72;refine Bi.o.mono ?_);rintro e w3 ⟨p1,p2,p3⟩;have HB3:=ae (lg.o.trans p3)
    cases LR with
    | error ec =>
     obtain⟨ec1,ec2⟩:=ec;obtain⟨F,rfl,hF⟩:=p2 ec1 ec2 rfl;have dZ:=ae hF;have az:Hd (S=.error (ec1,ec2)):=Dz.o.symm;clear p1 p2 p3 hF c0 c1 c2;go_wp2;refine bodyPost_ret (results_tmp2 (t:=2) (u:=3) rfl _ _ _) rfl ?_;rw[az.o];exact⟨fun ns hh=>(by cases hh),fun c p hh=>(by cases hh;exact⟨_,rfl,Or.inr dZ.o⟩),Jr (by rw[dY.o];exact HB3.o)⟩
    | ok d1 =>
     obtain⟨rfl,hr3,ht3⟩:=p1 d1 rfl;have hkd:d.i<s.size:=by rw[HKK.o];exact hlt
     obtain⟨Yb,hgo⟩:=HL2.o d1 HLK.o hkd rfl;have HR3:=ae hr3;have HT3:=ae ht3;have rJ:=ae Yb;have az:Hd (jA s.data.toList f d1=S):=Dz.o;have oG:=ae hgo;clear p1 p2 p3 hr3 ht3 Yb hgo c0 c1 c2;go_wp2;go_roundw
     case rel=>exact⟨rfl,rfl,d1,f,HR3.o,HT3.o,rJ.o,HB3.o,az.o,by have h1:=oG.o;have h2:=HKK.o;have h3:=rJ.o.le;omega⟩
     case measure =>
      rw[ig.o,HR3.o.cells.2.1];have h1:=oG.o;have h2:=HKK.o;simp;omega
   ·have hkl:¬(k:Int)<(s.size:Int):=by omega
    rw[if_pos (by omega)]at hra;have az:=ae hra.symm;have afV:=htr;obtain⟨N,c,M,xs,ks,hD⟩:=afV;have t0:=hD.cells.1;have HD:=ae hD;clear hrd htr Fe hbe hra hk hD;go_wp2;refine bodyPost_ret (results_tmp2 (t:=2) (u:=3) rfl _ _ _) rfl ?_;rw[az.o];exact⟨fun ns hh=>(by cases hh;exact⟨N,c,M,B+2,xs,ks,d.now,_,_,rfl,by rw[dY.o];exact HD.o⟩),fun c p hh=>(by cases hh),Jr (by rw[dY.o];exact lg.o)⟩
open Go.RowKit Go.Maps Go.WideMaps Go.Joins
def NuS(w:World)(v:Value)(l:List Nat):Prop:=∃o c,v=.slice o l.length c/\∀i (hi:i<l.length),∃g,o=some ⟨g,0,none⟩/\w.cell? ⟨g,i,none⟩=some (.int .i64 (l[i]:Nat))
theorem NuS.of{w:World}{B:Nat}{v:Value}{l:List Nat}(h:w.ownsRow B 3 1 v l.length (l.map fun q=>.int .i64 (q:Nat))):NuS w v l:=by
 obtain⟨o,c,hv⟩:=mG h;refine⟨o,c,hv,fun i hi=>?_⟩;rw[hv]at h
 rcases h.2 with⟨e1,e2⟩|⟨g,cap,cur,e1,_⟩
 ·omega
 ·injection e1 with e1 _ _
  refine⟨g,e1,?_⟩;have:=h.cells (g:=g) (by rw[e1];rfl) i (.int .i64 (l[i]:Nat)) (by rw[List.getElem?_map,List.getElem?_eq_getElem hi];rfl);rw[nC]at this;exact this
def NoS(w:World)(v:Value)(ns:List Tn):Prop:=∃o c,v=.slice o ns.length c/\∀i (hi:i<ns.length),∃g k,o=some ⟨g,0,none⟩/\w.cell? ⟨g,i*6,none⟩=some (.int .i64 ns[i].kd)/\w.cell? ⟨g,i*6+1,none⟩=some (.string ⟨ns[i].ky.toArray⟩)/\w.cell? ⟨g,i*6+2,none⟩=some (.string ⟨ns[i].tx.toArray⟩)/\w.cell? ⟨g,i*6+3,none⟩=some (.int .i64 ns[i].nu)/\w.cell? ⟨g,i*6+4,none⟩=some k/\w.cell? ⟨g,i*6+5,none⟩=some (.int .i64 (ns[i].pl:Nat))/\NuS w k ns[i].ks
theorem NuS.grow{w w':World}{v:Value}{l:List Nat}(h:NuS w v l)(hg:w.grownBy w' none):NuS w' v l:=by
 obtain⟨o,c,hv,hc⟩:=h;refine⟨o,c,hv,fun i hi=>?_⟩;obtain⟨g,h1,h2⟩:=hc i hi;exact⟨g,h1,hg.cell h2 (by simp)⟩
theorem NoS.grow{w w':World}{v:Value}{ns:List Tn}(h:NoS w v ns)(hg:w.grownBy w' none):NoS w' v ns:=by
 obtain⟨o,c,hv,hc⟩:=h;refine⟨o,c,hv,fun i hi=>?_⟩;obtain⟨g,k,e,h0,h1,h2,h3,h4,h5,h6⟩:=hc i hi;exact⟨g,k,e,hg.cell h0 (by simp),hg.cell h1 (by simp),hg.cell h2 (by simp),hg.cell h3 (by simp),hg.cell h4 (by simp),hg.cell h5 (by simp),h6.grow hg⟩
open Go.RowKit Go.Maps Go.WideMaps Go.Joins
theorem Pz(l:List UInt8):∀(f:Nat) (d d':Sd),Li l d->jA l f d=.ok d'->Li l d'
 | 0,d,d',L,h=>by cases h;exact L
 | f+1,d,d',L,h=>by
  rw[BF]at h;split at h
  ·cases h;exact L
  ·cases hr:gW l d with
   | error e=>rw[hr]at h;cases h
   | ok d1 =>
    rw[hr]at h;exact Pz l f d1 d' (Jl l d d1 L (by omega) hr).1 h
theorem Yc(l:List UInt8)(ns:List Tn)(h:jK l=.ok ns):∃own now,Jt ns own now/\ak ns 0=0/\ns.length<=200001/\l.length<=100000:=by
 rw[Fa]at h;split at h
 ·cases h
 ·cases ha:jA l (l.length+1) ⟨0,[⟨0,[],[],0,[],0⟩],[],0⟩ with
  | error e=>rw[ha]at h;cases h
  | ok d =>
   rw[ha]at h;have L:=Pz l _ _ _ (EQ l) ha
   cases h
   have h1:=L.nn;have h2:=L.le;exact⟨d.own,d.now,L.jt,L.rt,by omega,by omega⟩
theorem Yd{l:List UInt8}{ns:List Tn}(h:jK l=.ok ns)(i:Nat)(hi:i<ns.length):ns[i].ks.length<=1000000:=by
 obtain⟨own,now,J,-,hn,-⟩:=Yc l ns h;have:=J.wf.len i;unfold af at this;rw[List.getElem?_eq_getElem hi]at this;simp only[]at this;omega
theorem Gl.up{w:World}{B B':Nat}{E:Int->TypeId × Value}(h:Gl w B E)(hB:B<=B'):Gl w B' E :=
 ⟨h.es,⟨Nat.lt_of_lt_of_le h.lo.te hB,Nat.lt_of_lt_of_le h.lo.ra hB,Nat.lt_of_lt_of_le h.lo.ma hB,Nat.lt_of_lt_of_le h.lo.tw hB⟩,h.tabs,Nat.lt_of_lt_of_le h.t3 hB,Nat.lt_of_lt_of_le h.t4 hB⟩
open Go.RowKit Go.Maps Go.WideMaps Go.Joins
structure Sn(w:World)(E:Int->TypeId × Value)(b:Int->Addr):Prop where
 ptr:∀k,1<=k->k<=5->E k=(317,.pointer (some (b k)))
 blk:∀k,1<=k->k<=5->∃cs t,w.heap[(b k).block]?=some (.cells cs t (0,0))
 ne:∀k m,1<=k->k<=5->1<=m->m<=5->b k=b m->k=m
 ty:w.cell? ⟨4,0,none⟩=some (.iface 219 (.agg #[.pointer (some ⟨14,94,none⟩)]))
 lo:w.cell? ⟨0,0,none⟩=some (.iface (E 1).1 (E 1).2)
theorem Sn.grow{w w':World}{E:Int->TypeId × Value}{b:Int->Addr}(h:Sn w E b)(hg:w.grownBy w' none):Sn w' E b :=
 ⟨h.ptr,fun k h1 h2=>by
  obtain⟨cs,t,hb⟩:=h.blk k h1 h2;exact⟨cs,t,(hg.block _ (aB hb) (by simp)).trans hb⟩,h.ne,hg.cell h.ty (by simp),hg.cell h.lo (by simp)⟩
theorem afW(w:World)(E:Int->TypeId × Value)(b:Int->Addr)(h:Sn w E b)(F:Nat)(c k:Int)(h1:1<=c)(h2:c<=5)(h3:1<=k)(h4:k<=5)(hF:w.cell? ⟨F,1,none⟩=some (.iface (E c).1 (E c).2)) :
  Calls prog 74 #[.iface 130 (.pointer (some ⟨F,0,none⟩)),.iface (E k).1 (E k).2] w fun e w'=>e=.returned (.bool (decide (c=k)))/\w'=w:=by
 have ec:=h.ptr c h1 h2;have ek:=h.ptr k h3 h4;rw[ec]at hF;rw[ek]
 by_cases hck:c=k
 ·subst hck;rw[decide_eq_true rfl];exact acf F (b c) w hF
 ·rw[decide_eq_false hck];obtain⟨ca,ta,ha⟩:=h.blk c h1 h2;obtain⟨cb,tb,hb⟩:=h.blk k h3 h4;exact acg F (b k) (b c) ca cb ta tb w hF (fun e=>hck (h.ne c k h1 h2 h3 h4 e)) ha hb
theorem afX(E:Int->TypeId × Value)(b:Int->Addr)(w:World)(F:Nat)(c:Int)(p:Nat)(G:Gl w w.heap.size E)(S:Sn w E b)(h1:1<=c)(h2:c<=5)(hF:w.heap[F]?=some (.cells #[.int .i64 (p:Nat),.iface (E c).1 (E c).2] 134 (0,0))) :
  Calls prog 48 #[.iface 130 (.pointer (some ⟨F,0,none⟩))] w fun e w'=>e=.returned (.tuple #[.int .i64 c,.int .i64 (p:Nat)])/\w.grownBy w' none:=by
 -- the variable's block
 have vZ:w.grownBy (w.alloc (.cells #[.pointer none] 130)) none:=World.grownBy_alloc _ _ none;obtain⟨w1,hw1⟩:=zN (w.alloc (.cells #[.pointer none] 130));have hT:w1.heap[w.heap.size]?=some (.cells #[.pointer none] 130 (0,0)):=by rw[<-hw1];exact heap_alloc_new w _
 rw[hw1]at vZ;have S1:=S.grow vZ;obtain⟨T,hTe⟩:=zN (w.heap.size);rw[hTe]at hT;have CA:=as_hit ⟨F,0,none⟩ ⟨T,0,none⟩ (.pointer none) w1 S1.ty (by rw[ag hT];rfl) (Lib.frozen_of_heap hT 0)
 -- the world behind errors.As
 have oL:¬F=T:=fun e=>by have:=aB hF;omega
 have post:∀w2:World,w2=((((w1.alloc (.cells #[.pointer (some ⟨T,0,none⟩)] 132)).alloc (.cells #[.pointer (some ⟨14,132,none⟩),.pointer (some ⟨w1.heap.size,0,none⟩),.int .u64 150] 169)).alloc (.cells #[.pointer (some ⟨14,132,none⟩),.pointer (some ⟨w1.heap.size,0,none⟩),.int .u64 150] 169)).alloc (.cells #[.pointer (some ⟨F,0,none⟩)] 130)).setCell ⟨T,0,none⟩ (.pointer (some ⟨F,0,none⟩))->w.grownBy w2 none/\w2.cell? ⟨T,0,none⟩=some (.pointer (some ⟨F,0,none⟩))/\w2.cell? ⟨F,0,none⟩=some (.int .i64 (p:Nat))/\w2.cell? ⟨F,1,none⟩=some (.iface (E c).1 (E c).2):=fun w2 e=>by
  obtain⟨wx,hwx⟩:=zN ((((w1.alloc (.cells #[.pointer (some ⟨T,0,none⟩)] 132)).alloc (.cells #[.pointer (some ⟨14,132,none⟩),.pointer (some ⟨w1.heap.size,0,none⟩),.int .u64 150] 169)).alloc (.cells #[.pointer (some ⟨14,132,none⟩),.pointer (some ⟨w1.heap.size,0,none⟩),.int .u64 150] 169)).alloc (.cells #[.pointer (some ⟨F,0,none⟩)] 130));have g1:w1.grownBy wx none:=by
   rw[<-hwx];exact ai (ai (ai (World.grownBy_alloc _ _ none) (World.grownBy_alloc _ _ none)) (World.grownBy_alloc _ _ none)) (World.grownBy_alloc _ _ none)
  rw[hwx]at e;have hTx:=(g1.block T (aB hT) (by simp)).trans hT;have hset:=block_setCell (i:=0) hTx (.pointer (some ⟨F,0,none⟩));rw[<-e]at hset;have hF2:w2.heap[F]?=some (.cells #[.int .i64 (p:Nat),.iface (E c).1 (E c).2] 134 (0,0)):=by
   have e1:=(vZ.block F (aB hF) (by simp)).trans hF;have e2:=(g1.block F (aB e1) (by simp)).trans e1;rw[e];exact(heap_setCell_other _ _ _ _ oL).trans e2
  refine⟨?_,by rw[ag hset];rfl,by rw[ag hF2];rfl,by rw[ag hF2];rfl⟩;have g2:=ai vZ g1;rw[e];refine⟨g2.os,g2.tape,g2.output,by simpa [World.setCell] using g2.size,fun k hk hn=>?_⟩;rw[heap_setCell_other wx _ k _ (by simp;omega)];exact g2.block k hk hn
 have lF:Hd (Calls prog 73 #[.iface 130 (.pointer (some ⟨F,0,none⟩)),.iface 132 (.pointer (some ⟨T,0,none⟩))] w1 fun ev w2=>ev=.returned (.bool true)/\w.grownBy w2 none/\w2.cell? ⟨T,0,none⟩=some (.pointer (some ⟨F,0,none⟩))/\w2.cell? ⟨F,0,none⟩=some (.int .i64 (p:Nat))/\w2.cell? ⟨F,1,none⟩=some (.iface (E c).1 (E c).2)):=by
  refine CA.mono ?_;rintro e w2 ⟨rfl,hw2⟩;exact⟨rfl,post w2 hw2⟩
 have Ff:=ae (fun w2 (hg:w.grownBy w2 none) (hc:w2.cell? ⟨F,1,none⟩=some (.iface (E c).1 (E c).2)) k (h3:1<=k) (h4:k<=5)=>afW w2 E b (S.grow hg) F c k (by omega) h2 h3 h4 hc);have bf:Hd (∀w2,w.grownBy w2 none->w2.cell? ⟨0,0,none⟩=some (.iface (E 1).1 (E 1).2)/\w2.cell? ⟨1,0,none⟩=some (.iface (E 3).1 (E 3).2)/\w2.cell? ⟨2,0,none⟩=some (.iface (E 4).1 (E 4).2)/\w2.cell? ⟨3,0,none⟩=some (.iface (E 5).1 (E 5).2)):=fun w2 hg=>⟨(S.grow hg).lo,hg.cell G.es.ra (by simp),hg.cell G.es.ma (by simp),hg.cell G.es.tw (by simp)⟩
 have HW1:=ae hw1;obtain⟨t1,ht1⟩:=zN (E 1);obtain⟨t3,ht3⟩:=zN (E 3);obtain⟨t4,qE⟩:=zN (E 4);obtain⟨t5,xJ⟩:=zN (E 5);have jL:Hd (∀w2,w.grownBy w2 none->w2.cell? ⟨F,1,none⟩=some (.iface (E c).1 (E c).2)->Calls prog 74 #[.iface 130 (.pointer (some ⟨F,0,none⟩)),.iface t1.1 t1.2] w2 fun e w'=>e=.returned (.bool (decide (c=1)))/\w'=w2):=fun w2 a d=>by
  have:=Ff.o w2 a d 1 (by omega) (by omega);rw[ht1]at this;exact this
 have BG:Hd (∀w2,w.grownBy w2 none->w2.cell? ⟨F,1,none⟩=some (.iface (E c).1 (E c).2)->Calls prog 74 #[.iface 130 (.pointer (some ⟨F,0,none⟩)),.iface t3.1 t3.2] w2 fun e w'=>e=.returned (.bool (decide (c=3)))/\w'=w2):=fun w2 a d=>by
  have:=Ff.o w2 a d 3 (by omega) (by omega);rw[ht3]at this;exact this
 have Fg:Hd (∀w2,w.grownBy w2 none->w2.cell? ⟨F,1,none⟩=some (.iface (E c).1 (E c).2)->Calls prog 74 #[.iface 130 (.pointer (some ⟨F,0,none⟩)),.iface t4.1 t4.2] w2 fun e w'=>e=.returned (.bool (decide (c=4)))/\w'=w2):=fun w2 a d=>by
  have:=Ff.o w2 a d 4 (by omega) (by omega);rw[qE]at this;exact this
 have Ju:Hd (∀w2,w.grownBy w2 none->w2.cell? ⟨F,1,none⟩=some (.iface (E c).1 (E c).2)->Calls prog 74 #[.iface 130 (.pointer (some ⟨F,0,none⟩)),.iface t5.1 t5.2] w2 fun e w'=>e=.returned (.bool (decide (c=5)))/\w'=w2):=fun w2 a d=>by
  have:=Ff.o w2 a d 5 (by omega) (by omega);rw[xJ]at this;exact this
 rw[ht1,ht3,qE,xJ]at bf;have mi:=ae hTe;have HC:Hd (1<=c/\c<=5):=⟨h1,h2⟩;obtain⟨v,hv⟩:∃v:Value,Value.iface (E c).1 (E c).2=v:=⟨_,rfl⟩;rw[hv]at jL BG Fg Ju lF;clear hw1 vZ hT S1 S G hTe CA post Ff ht1 ht3 qE xJ hF oL h1 h2 hv;obtain⟨b1,hb1⟩:=zN (decide (c=1));obtain⟨b3,hb3⟩:=zN (decide (c=3));obtain⟨b4,hb4⟩:=zN (decide (c=4));obtain⟨b5,hb5⟩:=zN (decide (c=5));have HB:Hd (decide (c=1)=b1/\decide (c=3)=b3/\decide (c=4)=b4/\decide (c=5)=b5):=⟨hb1,hb3,hb4,hb5⟩;rw[hb1]at jL;rw[hb3]at BG;rw[hb4]at Fg;rw[hb5]at Ju;clear hb1 hb3 hb4 hb5;rw[<-mi.o,<-HW1.o]at lF
 cases b1 with
 | true =>
  go_enter func48,ntmps48;go_wp2_with (go_at_call 73;refine lF.o.mono ?_);rintro e w2 ⟨rfl,hg2,v1,v2,v3⟩;obtain⟨y1,y3,y4,y5⟩:=bf.o w2 hg2;have HG2:=ae hg2;have jg:=ae v3;clear hg2 v3 mi HW1 lF;obtain⟨T2,hT2⟩:=zN w.heap.size;rw[hT2]at v1 ⊢;clear hT2;go_wp2_with (go_at_call 74;refine(jL.o _ HG2.o jg.o).mono ?_)
  first|rintro e w' rfl rfl|rintro e w' ⟨rfl,rfl⟩
  go_wp2;refine bodyPost_ret (results_tmp2 (t:=2) (u:=3) rfl _ _ _) rfl ?_;have e:c=1:=by
   have q1:=HB.o;have q2:=HC.o;simp at q1;omega
  rw[e];exact⟨rfl,HG2.o⟩
 | false =>
  cases b3 with
  | true =>
   go_enter func48,ntmps48;go_wp2_with (go_at_call 73;refine lF.o.mono ?_);rintro e w2 ⟨rfl,hg2,v1,v2,v3⟩;obtain⟨y1,y3,y4,y5⟩:=bf.o w2 hg2;have HG2:=ae hg2;have jg:=ae v3;clear hg2 v3 mi HW1 lF;obtain⟨T2,hT2⟩:=zN w.heap.size;rw[hT2]at v1 ⊢;clear hT2;go_wp2_with (go_at_call 74;refine(jL.o _ HG2.o jg.o).mono ?_)
   first|rintro e w' rfl rfl|rintro e w' ⟨rfl,rfl⟩
   go_wp2_with (go_at_call 74;refine(BG.o _ HG2.o jg.o).mono ?_)
   first|rintro e w' rfl rfl|rintro e w' ⟨rfl,rfl⟩
   go_wp2;refine bodyPost_ret (results_tmp2 (t:=2) (u:=3) rfl _ _ _) rfl ?_;have e:c=3:=by
    have q1:=HB.o;have q2:=HC.o;simp at q1;omega
   rw[e];exact⟨rfl,HG2.o⟩
  | false =>
   cases b4 with
   | true =>
    go_enter func48,ntmps48;go_wp2_with (go_at_call 73;refine lF.o.mono ?_);rintro e w2 ⟨rfl,hg2,v1,v2,v3⟩;obtain⟨y1,y3,y4,y5⟩:=bf.o w2 hg2;have HG2:=ae hg2;have jg:=ae v3;clear hg2 v3 mi HW1 lF;obtain⟨T2,hT2⟩:=zN w.heap.size;rw[hT2]at v1 ⊢;clear hT2;go_wp2_with (go_at_call 74;refine(jL.o _ HG2.o jg.o).mono ?_)
    first|rintro e w' rfl rfl|rintro e w' ⟨rfl,rfl⟩
    go_wp2_with (go_at_call 74;refine(BG.o _ HG2.o jg.o).mono ?_)
    first|rintro e w' rfl rfl|rintro e w' ⟨rfl,rfl⟩
    go_wp2_with (go_at_call 74;refine(Fg.o _ HG2.o jg.o).mono ?_)
    first|rintro e w' rfl rfl|rintro e w' ⟨rfl,rfl⟩
    go_wp2;refine bodyPost_ret (results_tmp2 (t:=2) (u:=3) rfl _ _ _) rfl ?_;have e:c=4:=by
     have q1:=HB.o;have q2:=HC.o;simp at q1;omega
    rw[e];exact⟨rfl,HG2.o⟩
   | false =>
    cases b5 with
    | true =>
     go_enter func48,ntmps48;go_wp2_with (go_at_call 73;refine lF.o.mono ?_);rintro e w2 ⟨rfl,hg2,v1,v2,v3⟩;obtain⟨y1,y3,y4,y5⟩:=bf.o w2 hg2;have HG2:=ae hg2;have jg:=ae v3;clear hg2 v3 mi HW1 lF;obtain⟨T2,hT2⟩:=zN w.heap.size;rw[hT2]at v1 ⊢;clear hT2;go_wp2_with (go_at_call 74;refine(jL.o _ HG2.o jg.o).mono ?_)
     first|rintro e w' rfl rfl|rintro e w' ⟨rfl,rfl⟩
     go_wp2_with (go_at_call 74;refine(BG.o _ HG2.o jg.o).mono ?_)
     first|rintro e w' rfl rfl|rintro e w' ⟨rfl,rfl⟩
     go_wp2_with (go_at_call 74;refine(Fg.o _ HG2.o jg.o).mono ?_)
     first|rintro e w' rfl rfl|rintro e w' ⟨rfl,rfl⟩
     go_wp2_with (go_at_call 74;refine(Ju.o _ HG2.o jg.o).mono ?_)
     first|rintro e w' rfl rfl|rintro e w' ⟨rfl,rfl⟩
     go_wp2;refine bodyPost_ret (results_tmp2 (t:=2) (u:=3) rfl _ _ _) rfl ?_;have e:c=5:=by
      have q1:=HB.o;have q2:=HC.o;simp at q1;omega
     rw[e];exact⟨rfl,HG2.o⟩
    | false =>
     go_enter func48,ntmps48;go_wp2_with (go_at_call 73;refine lF.o.mono ?_);rintro e w2 ⟨rfl,hg2,v1,v2,v3⟩;obtain⟨y1,y3,y4,y5⟩:=bf.o w2 hg2;have HG2:=ae hg2;have jg:=ae v3;clear hg2 v3 mi HW1 lF;obtain⟨T2,hT2⟩:=zN w.heap.size;rw[hT2]at v1 ⊢;clear hT2;go_wp2_with (go_at_call 74;refine(jL.o _ HG2.o jg.o).mono ?_)
     first|rintro e w' rfl rfl|rintro e w' ⟨rfl,rfl⟩
     go_wp2_with (go_at_call 74;refine(BG.o _ HG2.o jg.o).mono ?_)
     first|rintro e w' rfl rfl|rintro e w' ⟨rfl,rfl⟩
     go_wp2_with (go_at_call 74;refine(Fg.o _ HG2.o jg.o).mono ?_)
     first|rintro e w' rfl rfl|rintro e w' ⟨rfl,rfl⟩
     go_wp2_with (go_at_call 74;refine(Ju.o _ HG2.o jg.o).mono ?_)
     first|rintro e w' rfl rfl|rintro e w' ⟨rfl,rfl⟩
     go_wp2;refine bodyPost_ret (results_tmp2 (t:=2) (u:=3) rfl _ _ _) rfl ?_;have e:c=2:=by
      have q1:=HB.o;have q2:=HC.o;simp at q1;omega
     rw[e];exact⟨rfl,HG2.o⟩
open Go.RowKit Go.Joins
theorem afY(l:List UInt8)(i:Nat)(n:Int)(j:Nat)(hi:i<l.length)(h:jc l i=.ok (n,j)):-1000000000000000000<n/\n<1000000000000000000:=by
 unfold jc at h;simp only[]at h;have ha:(if aA (nx l i)=true then i else i+1)<=l.length:=by split<;>omega
 generalize (if aA (nx l i)=true then i else i+1)=a at h ha;have hj:=pY aA l a ha;split at h
 ·cases h
 ·split at h
  ·cases h
  ·have hb:=(Vr l a (toR aA l a) (fun c hc=>by
    have:=L8 aA l a c hc;unfold aA at this;have:=of_decide_eq_true this;omega) hj.1 hj.2 (by omega)).2
   cases h
   split<;>omega
theorem afZ(l:List UInt8)(i:Nat)(n:Int)(j:Nat)(h:lQ l i=.ok (n,j)):n=0\/n=1:=by
 rw[GK]at h;split at h
 ·cases h;decide
 ·split at h
  ·cases h;decide
  ·cases h
theorem Ye:∀(s:List UInt8),(∀c∈s,c.toNat<128)->Us s
 | [],_=>Us.nil
 | c :: s,h=>(Nc c (h c (by simp))).app (Ye s fun b hb=>h b (by simp[hb]))
theorem Yf(l:List UInt8)(i:Nat)(k:List UInt8)(j:Nat)(h:dm l i=.ok (k,j)):Us k:=by
 unfold dm at h;split at h
 ·exact Ie l _ _ [] k j Us.nil h
 ·split at h
  ·cases h
  ·injection h with h
   injection h with h1 h2
   rw[<-h1];refine Ye _ fun c hc=>?_
   have:=L8 bg l i c hc;unfold bg dH aA at this;simp at this;omega
theorem af0(l:List UInt8):∀f:Nat,(∀i up k p d ns j ns',i<=l.length->up<ns.length->((ak ns up=0/\Us k)\/(ak ns up=1/\k=[]))->Ld ns up d->d<=8->(ak ns up=0->ah ns up k=none)->k.length<=l.length->(∃S,Tv l.length ns S)->Live ns up->val l f i up k p d ns=.ok (j,ns')->j<=l.length/\GrT l.length ns ns' k.length/\∀r,Live ns r->Live ns' r)/\(∀i up d ns j ns',i<=l.length->up<ns.length->ak ns up=1->Ld ns up d->d<=8->(∃S,Tv l.length ns S)->Live ns up->lst l f i up d ns=.ok (j,ns')->j<=l.length/\GrT l.length ns ns' 0/\∀r,Live ns r->Live ns' r):=by
 intro f
 induction f with
 | zero =>
  refine⟨fun i up k p d ns j ns' _ _ _ _ _ _ _ _ _ h=>?_,fun i up d ns j ns' _ _ _ _ _ _ _ h=>?_⟩
  ·rw[val]at h;cases h
  ·rw[lst]at h;cases h
 | succ f ih =>
  refine⟨fun i up k p d ns j ns' hi hu h2 hld hd hf hk ⟨S,T⟩ lv h=>?_,fun i up d ns j ns' hi hu h1 hld hd ⟨S,T⟩ lv h=>?_⟩
  ·have one:∀x:Tn,x.ks=[]->x.ky=k->x.tx.length<=l.length->-1000000000000000000<=x.nu/\x.nu<=1000000000000000000->(x.kd=1\/x.kd=3\/x.kd=4\/x.kd=5)->(if x.kd=3 then Us x.tx else x.tx=[])->(if x.kd=4 then -1000000000000000000<x.nu/\x.nu<1000000000000000000 else if x.kd=5 then x.nu=0\/x.nu=1 else x.nu=0)->(x.kd=1->d<8)->GrT l.length ns (addN ns up x) k.length/\∀r,Live ns r->Live (addN ns up x) r:=fun x a b c e f g g2 g3=>by
    have:=GrT.one (n:=l.length) (x:=x) hu ⟨a,by rw[b];exact hk,c,e,fun e=>by rw[b];exact hf e,fun e=>(by rcases h2 with h2|h2<;>rw[e]at h2<;>exact absurd h2.1 (by decide)),⟨by
     rw[b]
     rcases h2 with⟨h2,h3⟩|⟨h2,h3⟩
     ·exact Or.inl ⟨h2,h3,by omega,by omega⟩
     ·exact Or.inr (Or.inl ⟨h2,h3,f⟩),g,g2⟩,fun e=>⟨d,g3 e,hld⟩,lv⟩
    rw[b]at this;exact⟨this,fun r hr=>Xo hu a T.gt hr (Or.inr (by rcases h2 with h2|h2<;>rw[h2.1]<;>decide))⟩
   rw[o9]at h;split at h
   ·rename_i hx;have hlt:=aY (l:=l) (i:=i) (by rw[hx];decide)
    cases hs:str l (l.length+1) (i+1) [] with
    | error e=>rw[hs]at h;cases h
    | ok q =>
     obtain⟨t,j'⟩:=q;rw[hs]at h;obtain⟨a,b,c⟩:=Hf l _ (i+1) [] t j' (by omega) hs;simp only[List.length_nil]at c;have hus:=Ie l _ _ [] t j' Us.nil hs
     cases h
     exact⟨b,one ⟨3,k,t,0,[],p⟩ rfl rfl (by simp only[];omega) (by simp) (by simp) (by simpa using hus) (by simp) (by simp)⟩
   ·split at h
    ·rename_i hx;have hlt:i<l.length:=by
      apply aY
      rcases hx with hx|hx|hx
      ·rw[hx];decide
      ·rw[hx];decide
      ·have:=of_decide_eq_true hx;omega
     cases hs:jc l i with
     | error e=>rw[hs]at h;cases h
     | ok q =>
      obtain⟨t,j'⟩:=q;rw[hs]at h;obtain⟨a,b⟩:=UY l i t j' hlt hs;have c:=afY l i t j' hlt hs
      cases h
      exact⟨b,one ⟨4,k,[],t,[],p⟩ rfl rfl (by simp) (by simp only[];omega) (by simp) (by simp) (by simpa using c) (by simp)⟩
    ·split at h
     ·cases hs:lQ l i with
      | error e=>rw[hs]at h;cases h
      | ok q =>
       obtain⟨t,j'⟩:=q;rw[hs]at h;obtain⟨a,b⟩:=UZ l i t j' hi hs;have c:=afZ l i t j' hs
       cases h
       exact⟨b,one ⟨5,k,[],t,[],p⟩ rfl rfl (by simp) (by simp only[];omega) (by simp) (by simp) (by simpa using c) (by simp)⟩
     ·split at h
      ·rename_i hx;have hlt:=aY (l:=l) (i:=i) (by rw[hx];decide);split at h
       ·cases h
       ·rename_i hd8;have A:=one ⟨1,k,[],0,[],p⟩ rfl rfl (by simp) (by simp) (by simp) (by simp) (by simp) (fun _=>by omega);have k1:ak (addN ns up ⟨1,k,[],0,[],p⟩) ns.length=1:=by rw[fF ns up _ hu,if_pos rfl]
        obtain⟨a1,a2⟩:=ih.2 (i+1) ns.length (d+1) _ j ns' (by omega) (by rw[bY];omega) k1 (Ld.kid up ns.length d k1 (by rw[jS ns up _ hu,if_neg (by omega),if_pos rfl];simp) (hld.addN hu)) (by omega) ⟨_,A.1.tv T⟩ (Bf hu rfl T.gt T.lt lv) h;exact⟨a1,A.1.trans a2.1,fun r hr=>a2.2 r (A.2 r hr)⟩
      ·cases h
  ·rw[yV]at h
   cases hg:gap l (l.length+1) i with
   | error e=>rw[hg]at h;cases h
   | ok j0 =>
    rw[hg]at h;simp only[]at h;obtain⟨g1,g2⟩:=xy l _ i j0 hi hg;split at h
    ·rename_i hx;have hlt:=aY (l:=l) (i:=j0) (by rw[hx];decide)
     cases h
     exact⟨by omega,GrT.refl _,fun _ h=>h⟩
    ·cases hv:val l f j0 up [] j0 d ns with
     | error e=>rw[hv]at h;cases h
     | ok q =>
      obtain⟨j1,ns1⟩:=q;rw[hv]at h;simp only[]at h;obtain⟨v1,v2,v3⟩:=ih.1 j0 up [] j0 d ns j1 ns1 g2 hu (Or.inr ⟨h1,rfl⟩) hld hd (fun e=>by rw[h1]at e;exact absurd e (by decide)) (by simp) ⟨S,T⟩ lv hv
      cases hg2:gap l (l.length+1) j1 with
      | error e=>rw[hg2]at h;cases h
      | ok j2 =>
       rw[hg2]at h;simp only[]at h;obtain⟨g3,g4⟩:=xy l _ j1 j2 v1 hg2;split at h
       ·rename_i hx;have hlt:=aY (l:=l) (i:=j2) (by rw[hx];decide);have hlen:=v2.len;obtain⟨a1,a2⟩:=ih.2 (j2+1) up d ns1 j ns' (by omega) (by omega) (by rw[v2.kd hu];exact h1) (v2.ld hld) hd ⟨_,v2.tv T⟩ (v3 _ lv) h;exact⟨a1,v2.trans a2.1,fun r hr=>a2.2 r (v3 r hr)⟩
       ·split at h
        ·rename_i hx;have hlt:=aY (l:=l) (i:=j2) (by rw[hx];decide)
         cases h
         exact⟨by omega,v2,v3⟩
        ·cases h
theorem af1{n:Nat}{ns ns':List Tn}{own:List Nat}{t t' p:Nat}{k:List UInt8}{S:Nat}(T:Tv n ns S)(lv:Live ns t)(J:Jt ns own t)(hk:k.length<=n)(hus:Us k)(h:gz ns t k p=.ok (t',ns')):(∃m,GrT n ns ns' m/\m<=k.length)/\Live ns' t':=by
 unfold gz at h
 cases hq:ah ns t k with
 | none =>
  rw[hq]at h
  cases h
  exact⟨⟨_,GrT.one (x:=⟨0,k,[],0,[],p⟩) J.lt ⟨rfl,hk,by simp,by simp,fun _=>hq,fun _=>rfl,EH (Or.inl ⟨J.kd,hus,Or.inl rfl⟩),fun e=>absurd (show(0:Int)=1 from e) (by decide),lv⟩,Nat.le_refl _⟩,Bf J.lt rfl T.gt T.lt lv⟩
 | some q =>
  rw[hq]at h;simp only[]at h;have hm:=(rq hq).1;split at h
  ·cases h
   exact⟨⟨0,GrT.refl _,Nat.zero_le _⟩,Live.kid t _ lv hm fun e=>by rw[J.kd]at e;exact absurd e (by decide)⟩
  ·split at h
   ·rename_i h2;have hl:=nZ h2 (by omega);have lq:Live ns q:=Live.kid t q lv hm fun e=>by rw[J.kd]at e;exact absurd e (by decide)
    have hks:af ns q=ns[q].ks:=by unfold af;rw[List.getElem?_eq_getElem hl]
    have hne:=(J.wt q h2).1;have hin:=T.inc q;rw[hks]at hne hin;rw[List.getElem?_eq_getElem hl]at h;simp only[]at h;have hla:ns[q].ks.getLastD 0=ns[q].ks.getLast hne:=by rw[List.getLastD_eq_getLast?,List.getLast?_eq_some_getLast hne];rfl
    rw[hla]at h
    cases h
    refine⟨⟨0,GrT.refl _,Nat.zero_le _⟩,Live.kid q _ lq (by rw[hks];exact List.getLast_mem hne) fun _ b hb=>?_⟩;rw[hks,<-List.dropLast_concat_getLast hne,List.mem_append,List.mem_singleton]at hb;rw[<-List.dropLast_concat_getLast hne,List.pairwise_append]at hin
    rcases hb with hb|hb
    ·exact Nat.le_of_lt (hin.2.2 b hb _ (by simp))
    ·omega
   ·cases h
theorem af2{n:Nat}{ns ns':List Tn}{own:List Nat}{t t' p:Nat}{k:List UInt8}{S:Nat}(T:Tv n ns S)(lv:Live ns t)(J:Jt ns own t)(hk:k.length<=n)(hus:Us k)(h:gV ns own t k p=.ok (t',ns')):(∃m,GrT n ns ns' m/\m<=k.length)/\Live ns' t':=by
 unfold gV at h
 cases hq:ah ns t k with
 | none =>
  rw[hq]at h
  cases h
  exact⟨⟨_,GrT.one (x:=⟨0,k,[],0,[],p⟩) J.lt ⟨rfl,hk,by simp,by simp,fun _=>hq,fun _=>rfl,EH (Or.inl ⟨J.kd,hus,Or.inl rfl⟩),fun e=>absurd (show(0:Int)=1 from e) (by decide),lv⟩,Nat.le_refl _⟩,Bf J.lt rfl T.gt T.lt lv⟩
 | some q =>
  rw[hq]at h;simp only[]at h;split at h
  ·cases h
   exact⟨⟨0,GrT.refl _,Nat.zero_le _⟩,Live.kid t _ lv (rq hq).1 fun e=>by rw[J.kd]at e;exact absurd e (by decide)⟩
  ·cases h
theorem af4{n:Nat}{ns ns':List Tn}{own:List Nat}{t t' p:Nat}{k:List UInt8}{S:Nat}(T:Tv n ns S)(lv:Live ns t)(J:Jt ns own t)(hk:k.length<=n)(hus:Us k)(h:fO ns t k p=.ok (t',ns')):(∃m,GrT n ns ns' m/\m<=k.length)/\Live ns' t':=by
 unfold fO at h
 cases hq:ah ns t k with
 | none =>
  rw[hq]at h
  cases h
  have A:GrT n ns (addN ns t ⟨2,k,[],0,[],p⟩) k.length:=GrT.one (x:=⟨2,k,[],0,[],p⟩) J.lt ⟨rfl,hk,by simp,by simp,fun _=>hq,fun e=>by rw[J.kd]at e;exact absurd e (by decide),EH (Or.inl ⟨J.kd,hus,Or.inr rfl⟩),fun e=>absurd (show(2:Int)=1 from e) (by decide),lv⟩;have lv1:=Bf (x:=⟨2,k,[],0,[],p⟩) J.lt rfl T.gt T.lt lv;have T1:=A.tv T;have e2:ak (addN ns t ⟨2,k,[],0,[],p⟩) ns.length=2:=by rw[fF ns t _ J.lt,if_pos rfl]
  have B:GrT n (addN ns t ⟨2,k,[],0,[],p⟩) (addN (addN ns t ⟨2,k,[],0,[],p⟩) ns.length ⟨0,[],[],0,[],p⟩) 0:=GrT.one (x:=⟨0,[],[],0,[],p⟩) (by rw[bY];omega) ⟨rfl,by simp,by simp,by simp,fun e=>by rw[e2]at e;exact absurd e (by decide),fun _=>rfl,EH (Or.inr ⟨e2,rfl,rfl⟩),fun e=>absurd (show(0:Int)=1 from e) (by decide),lv1⟩;have l2:=Bf (x:=⟨0,[],[],0,[],p⟩) (by rw[bY];omega) rfl T1.gt T1.lt lv1;rw[bY]at l2;exact⟨⟨_,A.trans B,Nat.le_refl _⟩,l2⟩
 | some q =>
  rw[hq]at h;simp only[]at h;have lq:Live ns q:=Live.kid t q lv (rq hq).1 fun e=>by rw[J.kd]at e;exact absurd e (by decide)
  split at h
  ·rename_i h2
   cases h
   refine⟨⟨0,?_,Nat.zero_le _⟩,Bf (nZ h2 (by omega)) rfl T.gt T.lt lq⟩;exact GrT.one (x:=⟨0,[],[],0,[],p⟩) (nZ h2 (by omega)) ⟨rfl,by simp,by simp,by simp,fun e=>by rw[h2]at e;exact absurd e (by decide),fun _=>rfl,EH (Or.inr ⟨h2,rfl,rfl⟩),fun e=>absurd (show(0:Int)=1 from e) (by decide),lq⟩
  ·cases h
def qL(l:List (List UInt8 × Nat)):Nat:=(l.map fun x=>x.1.length).sum
theorem Yg{n:Nat}(many:Bool)(own:List Nat):∀(l:List (List UInt8 × Nat)) (t:Nat) (ns ns':List Tn) (t':Nat),(∀x∈l,x.1.length<=n/\Us x.1)->(∃S,Tv n ns S)->Live ns t->Jt ns own t->way many own l t ns=.ok (t',ns')->(∃m,GrT n ns ns' m/\m<=qL l)/\Live ns' t'
 | [],t,ns,ns',t',hl,⟨S,T⟩,lv,J,h=>by
  cases h
  exact⟨⟨0,GrT.refl _,Nat.zero_le _⟩,lv⟩
 | [(k,p)],t,ns,ns',t',hl,⟨S,T⟩,lv,J,h=>by
  rw[Aa]at h;obtain⟨hk,hus⟩:=hl (k,p) (by simp);have e:qL [(k,p)]=k.length:=by simp[qL]
  rw[e];split at h
  ·exact af4 T lv J hk hus h
  ·exact af2 T lv J hk hus h
 | (k,p) :: b :: r,t,ns,ns',t',hl,⟨S,T⟩,lv,J,h=>by
  rw[Dj]at h
  cases hs:gz ns t k p with
  | error e=>rw[hs]at h;cases h
  | ok z =>
   obtain⟨t1,ns1⟩:=z;rw[hs]at h;obtain⟨⟨m1,a1,a2⟩,lv1⟩:=af1 (k:=k) T lv J (hl (k,p) (by simp)).1 (hl (k,p) (by simp)).2 hs;have a3:=a2;obtain⟨⟨m2,b1,b2⟩,lv2⟩:=Yg many own (b :: r) t1 ns1 ns' t' (fun x hx=>hl x (by simp only[List.mem_cons]at hx ⊢;exact Or.inr hx)) ⟨_,a1.tv T⟩ lv1 (Di J hs).1 h;refine⟨⟨m1+m2,a1.trans b1,?_⟩,lv2⟩;have e:qL ((k,p) :: b :: r)=k.length+qL (b :: r):=by simp[qL]
   omega
theorem Yh(l:List UInt8)(i:Nat)(k:List UInt8)(j:Nat)(hi:i<=l.length)(h:dm l i=.ok (k,j)):k.length+i<=j:=by
 unfold dm at h;split at h
 ·rename_i hx;have hlt:=aY (l:=l) (i:=i) (by rw[hx];decide);obtain⟨a,b,c⟩:=Hf l _ (i+1) [] k j (by omega) h;simp at c;omega
 ·split at h
  ·cases h
  ·have:=pY bg l i hi
   cases h
   unfold aj;simp;omega
theorem af5(l:List UInt8):∀(f i:Nat) (acc ks:List (List UInt8 × Nat)) (j:Nat),i<=l.length->ik l f i acc=.ok (ks,j)->qL ks+i<=qL acc+j:=by
 intro f
 induction f with
 | zero=>intro i acc ks j hi h;cases h
 | succ f ih =>
  intro i acc ks j hi h;rw[AX]at h;have b1:=jR l i hi
  cases hk:dm l (bl l i) with
  | error e=>rw[hk]at h;cases h
  | ok q =>
   obtain⟨k,j1⟩:=q;rw[hk]at h;simp only[]at h;obtain⟨k1,k2,k3⟩:=wU l (bl l i) k j1 b1.2 hk;have k4:=Yh l (bl l i) k j1 b1.2 hk;have b2:=jR l j1 k2;have e:qL (acc++[(k,bl l i)])=qL acc+k.length:=by simp[qL]
   split at h
   ·rename_i hx;have hlt:=aY (l:=l) (i:=bl l j1) (by rw[hx];decide);have:=ih (bl l j1+1) (acc++[(k,bl l i)]) ks j (by omega) h;omega
   ·cases h
    omega
theorem af6(l:List UInt8):∀(f i:Nat) (acc ks:List (List UInt8 × Nat)) (j:Nat),(∀x∈acc,Us x.1)->ik l f i acc=.ok (ks,j)->∀x∈ks,Us x.1:=by
 intro f
 induction f with
 | zero=>intro i acc ks j ha h;cases h
 | succ f ih =>
  intro i acc ks j ha h;rw[AX]at h
  cases hk:dm l (bl l i) with
  | error e=>rw[hk]at h;cases h
  | ok q =>
   obtain⟨k,j1⟩:=q;rw[hk]at h;simp only[]at h;have ha':∀x∈acc++[(k,bl l i)],Us x.1:=fun x hx=>by
    rcases List.mem_append.1 hx with hx|hx
    ·exact ha x hx
    ·rw[List.mem_singleton.1 hx];exact Yf l _ k j1 hk
   split at h
   ·exact ih _ _ ks j ha' h
   ·cases h
    exact ha'
def Gi(l:List UInt8)(d d':Sd):Prop:=(∃m,GrT l.length d.ns d'.ns m/\m+d.i<=d'.i)/\Live d'.ns d'.now
def Gf(l:List UInt8)(d:Sd):Prop:=(∃S,Tv l.length d.ns S)/\Live d.ns d.now
theorem af7(l:List UInt8)(d d':Sd)(L:Li l d)(F:Gf l d)(h:rdPair l d=.ok d'):Gi l d d':=by
 obtain⟨i,ns,own,now⟩:=d;have L1:=L.jt;have L3:=L.le;simp only[]at L1 L3;rw[Jd]at h
 cases hk:dm l i with
 | error e=>rw[hk]at h;cases h
 | ok q =>
  obtain⟨k,j⟩:=q;rw[hk]at h;simp only[]at h;obtain⟨k1,k2,k3⟩:=wU l i k j L3 hk;have k4:=Yh l i k j L3 hk;have b1:=jR l j k2
  cases hm:must l (bl l j) 61 with
  | error e=>rw[hm]at h;cases h
  | ok j1 =>
   rw[hm]at h;simp only[]at h;obtain⟨m1,m2⟩:=xY l _ _ 61 (by decide) hm;have b2:=jR l j1 (by omega)
   cases hq:ah ns now k with
   | some q=>rw[hq]at h;cases h
   | none =>
    rw[hq]at h;simp only[]at h
    cases hv:val l (2*l.length+2) (bl l j1) now k i 0 ns with
    | error e=>rw[hv]at h;cases h
    | ok z =>
     obtain⟨j2,ns'⟩:=z;rw[hv]at h;have A:=(Ic l own _).1 (bl l j1) now k i 0 ns j2 ns' b2.2 L1.wf L1.wt L1.lt (by rw[L1.kd];decide) hv;have a3:=A.fw;obtain⟨v1,v2,v3⟩:=(af0 l _).1 (bl l j1) now k i 0 ns j2 ns' b2.2 L1.lt (Or.inl ⟨L1.kd,Yf l i k j hk⟩) (Ld.top now L1.kd) (by omega) (fun _=>hq) k3 F.1 F.2 hv
     cases h
     exact⟨⟨_,v2,by simp only[];omega⟩,v3 _ F.2⟩
theorem af8(l:List UInt8)(d d':Sd)(L:Li l d)(F:Gf l d)(hi:d.i<l.length)(h:iF l d=.ok d'):Gi l d d':=by
 obtain⟨i,ns,own,now⟩:=d;have L1:=L.jt;have L2:=L.rt;simp only[]at L1 L2 hi;obtain⟨many,uy⟩:=zN (decide (nx l (i+1)=91));rw[Bo l i ns own now many uy]at h;have ha:i+1<=(if many=true then i+2 else i+1)/\(if many=true then i+2 else i+1)<=l.length:=by
  cases many with
  | false=>simp;omega
  | true =>
   have hx:=of_decide_eq_true uy;have:=aY (l:=l) (i:=i+1) (by rw[hx];decide);simp;omega
 generalize (if many=true then i+2 else i+1)=a at h ha
 cases hk:ik l (l.length+1) a [] with
 | error e=>rw[hk]at h;cases h
 | ok q =>
  obtain⟨ks,j⟩:=q;rw[hk]at h;simp only[]at h;obtain⟨k1,k2,k3,k4⟩:=Ji l _ a [] ks j ha.2 (by simp) hk;have k5:=af5 l _ a [] ks j ha.2 hk;have e0:qL []=0:=rfl
  cases hm:must l j 93 with
  | error e=>rw[hm]at h;cases h
  | ok j1 =>
   rw[hm]at h;simp only[]at h;obtain⟨m1,m2⟩:=xY l _ _ 93 (by decide) hm;have hj2:∀j2,(if many=true then must l j1 93 else(.ok j1:Rs Nat))=.ok j2->j1<=j2:=fun j2 hh=>by
    split at hh
    ·obtain⟨n1,n2⟩:=xY l _ _ 93 (by decide) hh;omega
    ·cases hh
     omega
   cases hc:(if many=true then must l j1 93 else(.ok j1:Rs Nat)) with
   | error e=>rw[hc]at h;cases h
   | ok j2 =>
    rw[hc]at h;simp only[]at h;have c1:=hj2 j2 hc
    cases hw:way many own ks 0 ns with
    | error e=>rw[hw]at h;cases h
    | ok z =>
     obtain⟨t,ns'⟩:=z;rw[hw]at h;obtain⟨⟨m,g1,g2⟩,g3⟩:=Yg many own ks 0 ns ns' t (fun x hx=>⟨k1 x hx,af6 l _ a [] ks j (by simp) hk x hx⟩) F.1 Live.root ⟨L1.wf,L1.wt,by have:=L1.lt;omega,L2⟩ hw
     cases h
     exact⟨⟨m,g1,by simp only[];omega⟩,g3⟩
theorem af9(l:List UInt8)(d d':Sd)(L:Li l d)(F:Gf l d)(hi:d.i<l.length)(h:gW l d=.ok d'):Gi l d d':=by
 obtain⟨i,ns,own,now⟩:=d;simp only[]at hi;rw[Bq]at h;have b1:=jR l i (by omega);have L':Li l ⟨bl l i,ns,own,now⟩:=EP L (bl l i) b1.1 b1.2
 cases hm:(if nx l (bl l i)=91 then iF l ⟨bl l i,ns,own,now⟩ else if nx l (bl l i)=34\/bg (nx l (bl l i))=true then rdPair l ⟨bl l i,ns,own,now⟩ else .ok ⟨bl l i,ns,own,now⟩) with
 | error e=>rw[hm]at h;cases h
 | ok d1 =>
  rw[hm]at h;have mid:Gi l ⟨bl l i,ns,own,now⟩ d1/\d1.i<=l.length:=by
   split at hm
   ·rename_i hx;have hlt:=aY (l:=l) (i:=bl l i) (by rw[hx];decide);exact⟨af8 l _ d1 L' F hlt hm,(OU l _ d1 L' hlt hm).1.le⟩
   ·split at hm
    ·exact⟨af7 l _ d1 L' F hm,(OT l _ d1 L' hm).1.le⟩
    ·cases hm
     exact⟨⟨⟨0,GrT.refl _,by simp only[];omega⟩,F.2⟩,b1.2⟩
  obtain⟨⟨⟨m,g1,g2⟩,g3⟩,hle⟩:=mid;simp only[]at g1 g2;have h2:qJ l d1 (aZ l (bl l d1.i))=.ok d':=h;have b2:=jR l d1.i hle;have c2:=Cf l (bl l d1.i) b2.2;unfold qJ at h2;split at h2
  ·cases h2
  ·split at h2
   ·cases h2
    exact⟨⟨m,g1,by simp only[];omega⟩,g3⟩
   ·cases hq:must l (aZ l (bl l d1.i)).2 10 with
    | error e=>rw[hq]at h2;cases h2
    | ok q =>
     rw[hq]at h2;obtain⟨m1,m2⟩:=xY l _ _ 10 (by decide) hq
     cases h2
     exact⟨⟨m,g1,by simp only[];omega⟩,g3⟩
theorem Yi(l:List UInt8):∀(f:Nat) (d d':Sd),Li l d->Gf l d->jA l f d=.ok d'->Gi l d d'
 | 0,d,d',L,F,h=>by cases h;exact⟨⟨0,GrT.refl _,by omega⟩,F.2⟩
 | f+1,d,d',L,F,h=>by
  rw[BF]at h;split at h
  ·cases h;exact⟨⟨0,GrT.refl _,by omega⟩,F.2⟩
  ·cases hr:gW l d with
   | error e=>rw[hr]at h;cases h
   | ok d1 =>
    rw[hr]at h;obtain⟨⟨m1,a1,a2⟩,a3⟩:=af9 l d d1 L F (by omega) hr;obtain⟨S,T⟩:=F.1;obtain⟨⟨m2,b1,b2⟩,b3⟩:=Yi l f d1 d' (Jl l d d1 L (by omega) hr).1 ⟨⟨_,a1.tv T⟩,a3⟩ h;exact⟨⟨m1+m2,a1.trans b1,by omega⟩,b3⟩
theorem Jv(l:List UInt8)(ns:List Tn)(h:jK l=.ok ns):Tv 100000 ns 100000/\∃own,WF ns own/\ns.length<=200001:=by
 obtain⟨own,now,J,-,hn,hl⟩:=Yc l ns h;refine⟨?_,own,J.wf,hn⟩;rw[Fa]at h;split at h
 ·cases h
 ·cases ha:jA l (l.length+1) ⟨0,[⟨0,[],[],0,[],0⟩],[],0⟩ with
  | error e=>rw[ha]at h;cases h
  | ok d =>
   rw[ha]at h
   cases h
   obtain⟨⟨m,g1,g2⟩,-⟩:=Yi l _ _ _ (EQ l) ⟨⟨0,Xp l.length⟩,Live.root⟩ ha;have hle:=(Pz l _ _ _ (EQ l) ha).le;have T:=g1.tv (Xp l.length);exact⟨T.lt,T.gt,T.nod,T.kdd,T.two,T.root,fun x hx=>by
    obtain⟨a,b,c⟩:=T.txt x hx;exact⟨by omega,by omega,c⟩,by have:=T.sum;simp only[]at g2;omega,T.shp,T.dep,T.par,T.rt,T.uni,T.inc,T.sep⟩
end Go.Proofs.YtnnbgjaphfhibaaGreatDoor
