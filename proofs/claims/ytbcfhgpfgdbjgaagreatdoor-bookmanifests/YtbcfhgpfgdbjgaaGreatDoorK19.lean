import Derived.Test.YtbcfhgpfgdbjgaaGreatDoorK11
import Derived.Test.YtbcfhgpfgdbjgaaGreatDoorK10
import Derived.Test.YtbcfhgpfgdbjgaaGreatDoorK14
import Derived.Laws.ResultCell
set_option linter.all false
set_option maxRecDepth 100000
set_option maxHeartbeats 0
open Go.Proofs.Tryz
namespace Go.Proofs.YtbcfhgpfgdbjgaaGreatDoor
open Go.RowKit Go.Maps Go.WideMaps Go.Joins
variable{cs:Array Value}{s:ByteArray}{e:Ending}{c:Int}{m ns ns':List Tn}{k:List UInt8}{B N R T Z b g i j kx p t t':Nat}{r:Option Nat}{v x:Value}{W w w' w'' w1 wr:World}
structure Lo(B:Nat):Prop where
 te:5<B
 ra:1<B
 ma:2<B
 tw:3<B
theorem zS(hb:Below B w w')(a:Addr)(h:a.block<B):w'.cell? a=w.cell? a:=World.cell?_of_block (hb.block a.block h)
theorem Es.bel{E:Int->TypeId × Value}(h:Es w E)(hL:Lo B)(hb:Below B w w'):Es w' E :=
 ⟨(zS hb _ hL.te).trans h.te,(zS hb _ hL.ra).trans h.ra,(zS hb _ hL.ma).trans h.ma,(zS hb _ hL.tw).trans h.tw⟩
def KyR(w:World)(g:Nat)(l:List (List UInt8 × Nat)):Prop:=∃cur:Array Value,w.heap[g]?=some (.cells cur 173 (0,0))/\∀i (hi:i<l.length),cur[i*2]?=some (.string ⟨l[i].1.toArray⟩)/\cur[i*2+1]?=some (.int .i64 (l[i].2:Nat))
theorem KyR.fr{l:List (List UInt8 × Nat)}(h:KyR w g l)(hf:Fr B w w'):KyR w' g l:=by
 obtain⟨cur,h1,h2⟩:=h;exact⟨cur,(hf.oth _ _ _ _ h1 (by decide) (by decide) (by decide)).trans h1,h2⟩
theorem KyR.at{l:List (List UInt8 × Nat)}(h:KyR w g l)(i:Nat)(hi:i<l.length):w.cell? ⟨g,i*2,none⟩=some (.string ⟨l[i].1.toArray⟩)/\w.cell? ⟨g,i*2+1,none⟩=some (.int .i64 (l[i].2:Nat)):=by
 obtain⟨cur,h1,h2⟩:=h;obtain⟨a,b⟩:=h2 i hi;exact⟨by rw[aj h1];exact a,by rw[aj h1];exact b⟩
theorem XP{E:Int->TypeId × Value}{o:Nat}(h:dD w v E c p)(hT:w.heap[T]?=some (.cells cs 98 (0,0))):dD (w.setCell ⟨T,o,none⟩ x) v E c p:=by
 obtain⟨F,h1,h2⟩:=h;exact⟨F,h1,(heap_setCell_other _ _ _ _ (aZ h2 hT (by decide))).trans h2⟩
def XQ(B T:Nat)(own:List Nat)(E:Int->TypeId × Value)(r:Rs (Nat × List Tn))(w:World)(e:Ending)(w':World):Prop :=
 (∀t ns,r=.ok (t,ns)->e=.returned .nilIface/\Tr w' B T ns (t :: own) t)/\(∀c p,r=.error (c,p)->∃v,e=.returned v/\dD w' v E c p)/\Fr B w w'
theorem Tr.blk{own:List Nat}{now:Nat}(h:Tr w B T ns own now):(∃cs,w.heap[T]?=some (.cells cs 98 (0,0)))/\B<=T:=by
 obtain⟨N,c,M,xs,ks,hD⟩:=h;exact⟨⟨_,hD.blk⟩,hD.bT⟩
theorem Tr.hand{own:List Nat}{now:Nat}(h:Tr w B T ns own now)(m:Nat):Tr (w.setCell ⟨T,2,none⟩ (.int .i64 (m:Nat))) B T ns own m:=by
 obtain⟨N,c,M,xs,ks,hD⟩:=h;exact⟨N,c,M,xs,ks,hD.hand m⟩
theorem Fr.hand(h:Fr B w w1)(hT:w1.heap[T]?=some (.cells cs 98 (0,0)))(hB:B<=T)(v:Value):Fr B w (w1.setCell ⟨T,2,none⟩ v):=h.two (Fr.row (fO w1 T 2 v) (Nat.le_of_lt (Nat.lt_of_le_of_lt hB (aG hT))) hB hT (Or.inl rfl))
theorem Tr.two{own:List Nat}{now:Nat}(h:Tr w B T ns own now):w.cell? ⟨T,2,none⟩=some (.int .i64 (now:Nat))/\w.frozen? ⟨T,2,none⟩=false:=by
 obtain⟨N,c,M,xs,ks,hD⟩:=h;obtain⟨-,-,h2,h3⟩:=hD.cells;exact⟨h2,h3 2⟩
theorem afv(B T:Nat)(ns:List Tn)(own:List Nat)(now:Nat)(E:Int->TypeId × Value)(l:List (List UInt8 × Nat))(many:Bool)(g c d:Nat)(w:World)(h:Tr w B T ns own now)(J:Jt ns own 0)(hl:l.length=d+1)(hc:d+1<=c)(hK:KyR w g l)(hsz:ns.length+own.length+d<=800000)(hk:∀x∈l,x.1.length<=1048576)(he:Es w E)(hL:Lo B) :
  Calls prog 97 #[.pointer (some ⟨T,0,none⟩),.slice (some ⟨g,0,none⟩) (d+1) c,.bool many] w (XQ B T own E (way many own l 0 ns) w):=by
 have CP:=ae (fun(m:List Tn) (t:Nat) (i:Nat) (hi:i<l.length) w' (h1:Tr w' B T m own now) (j:Jt m own t) (hm:m.length<=ns.length+d) (hf:Fr B w w')=>adm B T m own now t E l[i].1 l[i].2 w' h1 j.wf j.wt j.lt j.kd (by omega) (hk _ (List.getElem_mem hi)) (he.bel hL hf.bel));have CT:=ae (fun(m:List Tn) (t:Nat) (i:Nat) (hi:i<l.length) w' (h1:Tr w' B T m own now) (j:Jt m own t) (hm:m.length<=ns.length+d) (hf:Fr B w w')=>adn B T m own now t E l[i].1 l[i].2 w' h1 j.wf j.lt j.kd (by omega) (hk _ (List.getElem_mem hi)) (he.bel hL hf.bel));have CL:=ae (fun(m:List Tn) (t:Nat) (i:Nat) (hi:i<l.length) w' (h1:Tr w' B T m own now) (j:Jt m own t) (hm:m.length<=ns.length+d) (hf:Fr B w w')=>adq B T m own now t E l[i].1 l[i].2 w' h1 j.wf j.lt j.kd (by omega) (hk _ (List.getElem_mem hi)) (he.bel hL hf.bel));have hwd:=VG d (by omega);have hwd2:(wrap64 (d:Int)).toNat=d:=by rw[hwd];exact Int.toNat_natCast d
 have nY:=ae h;have HB:=ae h.base;have HJ:=ae J;have HK:=ae hK;have HL:=ae hl;have HW1:Hd (∀i (hi:i<l.length) t m,i+1<l.length->way many own (l.drop i) t m=match gm m t l[i].1 l[i].2 with | .error e=>.error e | .ok (t1,ns1)=>way many own (l.drop (i+1)) t1 ns1):=fun i hi t m h2=>by
  rw[List.drop_eq_getElem_cons hi,List.drop_eq_getElem_cons h2];exact EP many own l[i].1 l[i].2 l[i+1] _ t m
 have HW0:Hd (∀i (hi:i<l.length) t m,i+1=l.length->way many own (l.drop i) t m=if many=true then gz m t l[i].1 l[i].2 else gy m own t l[i].1 l[i].2):=fun i hi t m h2=>by
  rw[List.drop_eq_getElem_cons hi,List.drop_eq_nil_of_le (by omega)];exact EO many own l[i].1 l[i].2 t m
 obtain⟨S,hS⟩:=zN (way many own l 0 ns);have HS:=ae hS;rw[hS];clear h J hK he hk hS hl;go_enter func97,ntmps97;go_wp2;go_loopw [8,21] (fun v8 v21 wr=>∃(i t:Nat) (m:List Tn),v21=.int .i64 (i:Nat)/\v8=.int .i64 (t:Nat)/\i<=d/\Jt m own t/\Tr wr B T m own now/\way many own (l.drop i) t m=S/\m.length<=ns.length+i/\Fr B w wr) (fun _ v21 _=>d-(intOf v21).toNat)
 case atStart=>exact⟨0,0,ns,rfl,rfl,Nat.zero_le _,HJ.o,nY.o,HS.o,Nat.le_refl _,Fr.gb (ax w none) HB.o⟩
 case round=>
  obtain⟨i,t,m,rfl,rfl,hi,hj,htr,fF,hml,hfr⟩:=hrel;have HJm:=ae hj;have XR:=ae htr;have uN:=ae hfr;have hil:i<l.length:=by have:=HL.o;omega
  obtain⟨a1,a2⟩:=(HK.o.fr hfr).at i hil
  by_cases hlt:i<d
  ·rw[HW1.o i hil t m (by have:=HL.o;omega)]at fF;have yt:=ae fF;have wH:=ae (fun w' (h1:Tr w' B T m own now) (h2:Fr B w w')=>CP.o m t i hil w' h1 hj (by omega) h2);have HST:=ae (fun t1 m1 (hs:gm m t l[i].1 l[i].2=.ok (t1,m1))=>EN hj hs);obtain⟨x,hx⟩:=zN (l[i]);rw[hx]at a1 a2 wH yt HST;obtain⟨R,hR⟩:=zN (gm m t x.1 x.2);rw[hR]at wH yt HST;have hgA:wr.grownBy (wr.alloc (.cells #[.string ⟨x.1.toArray⟩,.int .i64 (x.2:Nat)] 173)) none:=World.grownBy_alloc wr _ none;have mr:=ae (htr.gb hgA);have cZ:=ae (hfr.two (Fr.gb hgA htr.base));clear hj htr fF hfr hx hR hgA;go_wp2_with (go_at_call 119;refine(wH.o _ mr.o cZ.o).mono ?_);rintro e w2 ⟨p1,p2,p3⟩;have HF2:=ae (cZ.o.two p3)
   cases R with
   |error ec=>
    obtain⟨ec1,ec2⟩:=ec;obtain⟨v,rfl,F,rfl,hF⟩:=p2 ec1 ec2 rfl;have dS:Hd (dD w2 (.iface 99 (.pointer (some ⟨F,0,none⟩))) E ec1 ec2):=⟨F,rfl,hF⟩;have aB:Hd (S=.error (ec1,ec2)):=yt.o.symm;clear p1 p2 p3 hF;go_wp2;refine bodyPost_ret (results_tmp (t:=6) rfl _ _ _) rfl ?_;rw[aB.o];exact⟨fun t ns hh=>(by cases hh),fun c p hh=>(by cases hh;exact⟨_,rfl,dS.o⟩),HF2.o⟩
   |ok tm=>
    obtain⟨t1,m1⟩:=tm;obtain⟨rfl,ht1⟩:=p1 t1 m1 rfl;have HT1:=ae ht1;obtain⟨j1,-,j3⟩:=HST.o t1 m1 rfl;have oq:=ae j1;have aB:Hd (way many own (l.drop (i+1)) t1 m1=S):=yt.o;clear p1 p2 p3 ht1 j1;go_wp2;go_roundw
    case rel=>exact⟨i+1,t1,m1,by go_num,rfl,by omega,oq.o,HT1.o,aB.o,by omega,HF2.o⟩
    case measure=>simp[intOf];omega
  ·have hid:i=d:=by omega
   subst hid;rw[HW0.o i hil t m (by have:=HL.o;omega)]at fF;have yt:=ae fF;have nD:=ae (fun w' (h1:Tr w' B T m own now) (h2:Fr B w w')=>CT.o m t i hil w' h1 hj (by omega) h2);have nG:=ae (fun w' (h1:Tr w' B T m own now) (h2:Fr B w w')=>CL.o m t i hil w' h1 hj (by omega) h2);obtain⟨x,hx⟩:=zN (l[i]);rw[hx]at a1 a2 nD nG yt;obtain⟨⟨csT,qg⟩,hBT⟩:=htr.blk;clear hj htr fF hfr hx qg
   cases many with
   |true=>
    have zT:Hd (gz m t x.1 x.2=S):=yt.o;obtain⟨R,hR⟩:=zN (gz m t x.1 x.2);rw[hR]at nG zT;clear hR;go_wp2_with (go_at_call 120;refine(nG.o _ XR.o uN.o).mono ?_);rintro e w2 ⟨p1,p2,p3⟩;have HF2:=ae (uN.o.two p3)
    cases R with
    |error ec=>
     obtain⟨ec1,ec2⟩:=ec;obtain⟨v,rfl,⟨F,rfl,hF⟩,ns0,htr0⟩:=p2 ec1 ec2 rfl;have dS:Hd (dD w2 (.iface 99 (.pointer (some ⟨F,0,none⟩))) E ec1 ec2):=⟨F,rfl,hF⟩;obtain⟨⟨csT,qg⟩,-⟩:=htr0.blk;have oZ:=ae qg;obtain⟨c2,f2⟩:=htr0.two;have aB:=ae zT.o.symm;clear p1 p2 p3 hF qg htr0;go_wp2;refine bodyPost_ret (results_tmp (t:=6) rfl _ _ _) rfl ?_;rw[aB.o];exact⟨fun t ns hh=>(by cases hh),fun c p hh=>(by cases hh;exact⟨_,rfl,XP dS.o oZ.o⟩),HF2.o.hand oZ.o hBT _⟩
    |ok tm=>
     obtain⟨t1,m1⟩:=tm;obtain⟨rfl,ht1⟩:=p1 t1 m1 rfl;have HT1:=ae ht1;obtain⟨⟨csT,qg⟩,-⟩:=ht1.blk;have oZ:=ae qg;obtain⟨c2,f2⟩:=ht1.two;have aB:=ae zT.o.symm;clear p1 p2 p3 ht1 qg;go_wp2;refine bodyPost_ret (results_tmp (t:=6) rfl _ _ _) rfl ?_;rw[aB.o];exact⟨fun t ns hh=>(by cases hh;exact⟨rfl,HT1.o.hand t1⟩),fun c p hh=>(by cases hh),HF2.o.hand oZ.o hBT _⟩
   |false=>
    have zT:Hd (gy m own t x.1 x.2=S):=yt.o;obtain⟨R,hR⟩:=zN (gy m own t x.1 x.2);rw[hR]at nD zT;clear hR;go_wp2_with (go_at_call 121;refine(nD.o _ XR.o uN.o).mono ?_);rintro e w2 ⟨p1,p2,p3⟩;have HF2:=ae (uN.o.two p3)
    cases R with
    |error ec=>
     obtain⟨ec1,ec2⟩:=ec;obtain⟨v,rfl,⟨F,rfl,hF⟩,ns0,htr0⟩:=p2 ec1 ec2 rfl;have dS:Hd (dD w2 (.iface 99 (.pointer (some ⟨F,0,none⟩))) E ec1 ec2):=⟨F,rfl,hF⟩;obtain⟨⟨csT,qg⟩,-⟩:=htr0.blk;have oZ:=ae qg;obtain⟨c2,f2⟩:=htr0.two;have aB:=ae zT.o.symm;clear p1 p2 p3 hF qg htr0;go_wp2;refine bodyPost_ret (results_tmp (t:=6) rfl _ _ _) rfl ?_;rw[aB.o];exact⟨fun t ns hh=>(by cases hh),fun c p hh=>(by cases hh;exact⟨_,rfl,XP dS.o oZ.o⟩),HF2.o.hand oZ.o hBT _⟩
    |ok tm=>
     obtain⟨t1,m1⟩:=tm;obtain⟨rfl,ht1⟩:=p1 t1 m1 rfl;have HT1:=ae ht1;obtain⟨⟨csT,qg⟩,-⟩:=ht1.blk;have oZ:=ae qg;obtain⟨c2,f2⟩:=ht1.two;have aB:=ae zT.o.symm;clear p1 p2 p3 ht1 qg;go_wp2;refine bodyPost_ret (results_tmp (t:=6) rfl _ _ _) rfl ?_;rw[aB.o];exact⟨fun t ns hh=>(by cases hh;exact⟨rfl,HT1.o.hand t1⟩),fun c p hh=>(by cases hh),HF2.o.hand oZ.o hBT _⟩
structure Gl(w:World)(B:Nat)(E:Int->TypeId × Value):Prop where
 es:Es w E
 lo:Lo B
 tabs:Lib.Utf8Tabs 6 7 w
 t3:6<B
 t4:7<B
theorem Gl.bel{E:Int->TypeId × Value}(h:Gl w B E)(hb:Below B w w'):Gl w' B E :=
 ⟨h.es.bel h.lo hb,h.lo,⟨fun c hc=>(zS hb _ h.t3).trans (h.tabs.1 c hc),fun i hi=>⟨(zS hb _ h.t4).trans (h.tabs.2 i hi).1,(zS hb _ h.t4).trans (h.tabs.2 i hi).2⟩⟩,h.t3,h.t4⟩
theorem kL(hg:w.grownBy w' (some R))(hR:B<=R)(hB:B<=w.heap.size):Below B w w':=⟨hg.os,hg.tape,hg.output,hg.size,fun k hk=>hg.block k (by omega) (by simp;omega)⟩
theorem Gl.gb{E:Int->TypeId × Value}(h:Gl w B E)(hg:w.grownBy w' (some R))(hR:B<=R)(hB:B<=w.heap.size):Gl w' B E:=h.bel (kL hg hR hB)
theorem CY(h:Lo B)(hR:B<=R):Far R:=⟨by have:=h.te;omega,by have:=h.ra;omega,by have:=h.ma;omega,by have:=h.tw;omega⟩
theorem yu(h:w.grownBy W r)(hb:w.heap.size<=b)(o:Nat)(v:Value):w.grownBy (W.setCell ⟨b,o,none⟩ v) r :=
 ⟨h.os,h.tape,h.output,by have:=h.size;simpa [World.setCell] using this,fun k hk hn=>(heap_setCell_other _ _ _ _ (by simp;omega)).trans (h.block k hk hn)⟩
theorem JJ{P:Program}{fn:Func}{p u:Tmp}{ty:TypeId}(h:fn.results=#[.cell p ty,.tmp u])(tmps:Array Value)(w:World)(g:Nat)(t:TypeId)(cs:Array Value)(fr:Nat × Nat)(d:TypeDesc)
  (hp:tmps.getD p undef=.pointer (some ⟨g,0,none⟩)) (hg:w.heap[g]?=some (.cells cs t fr))
  (hu:P.underlying ty=some d) (hd:(match d with | .struct _ | .array _ _=>true|_=>false)=true) (hi:(P.info? ty).map (·.size)=some cs.size) :
  (results fn tmps).run P w=.ok (.tuple #[.agg cs,tmps.getD u undef]) w:=by
 have hp':tmps[p]?.getD undef=.pointer (some ⟨g,0,none⟩):=by simpa using hp
 rw[results_cell_tmp h];simp[hp',asAddr,run_loadVar_row w g t ty cs fr d hg hu hd hi,Result.andThen]
def afw(R:Nat)(s:ByteArray)(T:Nat)(E:Int->TypeId × Value)(i:Nat)(g:Rs (List UInt8 × Nat))(w:World)(e:Ending)(w':World):Prop :=
 (∀k j,g=.ok (k,j)->e=.returned (.tuple #[.agg #[.string ⟨k.toArray⟩,.int .i64 (i:Nat)],.nilIface])/\Rd w' R s j T)/\(∀c p,g=.error (c,p)->∃(a:ByteArray) (b:Int) (v:Value),e=.returned (.tuple #[.agg #[.string a,.int .i64 b],v])/\dD w' v E c p)/\w.grownBy w' (some R)
theorem JK{E:Int->TypeId × Value}{o:Nat}(h:dD w v E c p)(hZ:w.heap[Z]?=some (.cells cs 173 (0,0))):dD (w.setCell ⟨Z,o,none⟩ x) v E c p:=by
 obtain⟨F,h1,h2⟩:=h;exact⟨F,h1,(heap_setCell_other _ _ _ _ (aZ h2 hZ (by decide))).trans h2⟩
theorem Rd.new{o:Nat}(h:Rd w R s i T)(hZ:w.heap[Z]?=some (.cells cs 173 (0,0))):Rd (w.setCell ⟨Z,o,none⟩ x) R s i T:=(heap_setCell_other _ _ _ _ (aZ h hZ (by decide))).trans h
theorem JL{a b y:Value}(h:w.heap[Z]?=some (.cells #[a,b] 173 (0,0))):((w.setCell ⟨Z,0,none⟩ x).setCell ⟨Z,1,none⟩ y).heap[Z]?=some (.cells #[x,y] 173 (0,0)):=block_setCell (i:=1) (block_setCell (i:=0) h x) y
theorem XT(R:Nat)(s:ByteArray)(i T B:Nat)(E:Int->TypeId × Value)(w:World)(h:Rd w R s i T)(hi:i<=s.size)(hs:s.size<=1048576)(G:Gl w B E)(hR:B<=R)(hBw:B<=w.heap.size) :
  Calls prog 100 #[.pointer (some ⟨R,0,none⟩)] w (afw R s T E i (dw s.data.toList i) w):=by
 have CN:=ae (fun k w (h1:Rd w R s k T) (h2:k<=s.size)=>nN R s k T w h1 h2 hs);have CB:=ae TI;have CH:Hd (∀k w',w.grownBy w' (some R)->Rd w' R s k T->Calls prog 104 #[.pointer (some ⟨R,0,none⟩)] w' fun e w''=>(∃v,e=.returned v/\dD w'' v E 2 k)/\w'.grownBy w'' none):=fun k w' hg hr=>(xC R s k T (E 2).1 (E 2).2 w' hr (G.gb hg hR hBw).es.te).mono fun e w'' h=>h
 have CQ:=ae (fun(hlt:i<s.size) w' (hg:w.grownBy w' (some R)) (hr:Rd w' R s i T)=>WB R s i T E w' hr hlt hs (G.gb hg hR hBw).es (CY G.lo hR) (G.gb hg hR hBw).tabs (by have:=G.t3;omega) (by have:=G.t4;omega));have CC:=ae (fun(t:ByteArray) w (ht:t.size<=1048576)=>clone_any t w (by omega));have hl:s.data.toList.length=s.size:=by simp
 have XU:Hd (nx s.data.toList i=34->i<s.size):=fun hx=>by
  have:=bD (l:=s.data.toList) (i:=i) (by rw[hx];decide);omega
 have HST:=ae (fun k (hk:k<s.size) (hb:bP (nx s.data.toList k)=true)=>rO bP _ k (by omega) hb);have gQ:=ae (fun k (hb:bP (nx s.data.toList k)=false)=>mJ bP _ k hb);have dC:Hd (∀k,k<=s.size->bP (nx s.data.toList k)=true->k<s.size):=fun k hk hb=>by
  apply Classical.byContradiction;intro hn;rw[jF _ _ (by omega)]at hb;exact absurd hb (by decide)
 have kX:Hd (dw s.data.toList i=if nx s.data.toList i=34 then str s.data.toList (s.data.toList.length+1) (i+1) [] else if toR bP s.data.toList i=i then .error (2,i) else .ok (au s.data.toList i (toR bP s.data.toList i-i),toR bP s.data.toList i)):=rfl;have hij:=qH bP s.data.toList i (by omega);rw[hl]at hij;obtain⟨J,hJ⟩:=zN (toR bP s.data.toList i);have HJ:=ae hJ;rw[hJ]at kX hij;obtain⟨hij1,hij2⟩:=hij;obtain⟨X,hX⟩:∃X:ByteArray,X=⟨(au s.data.toList i (J-i)).toArray⟩:=⟨_,rfl⟩;have s1:∀wx,(Instr.slice 9 (.string s) (some (.int .i64 (i:Int))) (some (.int .i64 (J:Int))) none).run prog wx=.ok (.string X) wx:=fun wx=>by rw[hX];exact mM s i J hij1 hij2 wx
 have vO:=ae hX;have HXS:Hd (X.size<=1048576):=by
  show _<=_;rw[hX];show(au s.data.toList i (J-i)).toArray.size<=_;unfold au;simp;omega
 obtain⟨SQ,FU⟩:=zN (str s.data.toList (s.data.toList.length+1) (i+1) []);rw[FU]at CQ kX;obtain⟨G0,hG0⟩:=zN (dw s.data.toList i);rw[hG0]at kX ⊢;have Pn:w.grownBy (w.alloc (.cells #[.string ⟨#[]⟩,.int .i64 0] 173)) (some R):=World.grownBy_alloc w _ _;have Po:w.grownBy (w.alloc (.cells #[.string ⟨#[]⟩,.int .i64 0] 173)) none:=World.grownBy_alloc w _ _;have FV:=heap_alloc_new w (.cells #[.string ⟨#[]⟩,.int .i64 0] 173);obtain⟨Z,hZ⟩:=zN (w.heap.size);rw[hZ]at FV;obtain⟨w1,hw1⟩:=zN (w.alloc (.cells #[.string ⟨#[]⟩,.int .i64 0] 173));rw[hw1]at Pn Po FV;have aC:=ae Pn;have HZ1:=ae FV;have H1:=ae (h.grow Po);have XV:=ae (aZ FV H1.o (by decide));obtain⟨c0,c1,-,-⟩:=H1.o.cells;have C1:=ae (CN.o i w1 H1.o hi);obtain⟨x,hx⟩:=zN (nx s.data.toList i);rw[hx]at C1 kX XU;have yw:Hd (w.heap.size<=Z):=by show _<=_;omega
 clear h hJ hX FU hG0 Pn Po FV hx G;go_enter func100,ntmps100;go_wp2_with (go_at_call 67;refine C1.o.mono ?_);rintro e w2 ⟨rfl,hg2⟩;have HG2:=ae (aP aC.o hg2);have HR2:=ae (H1.o.grow hg2);have HZ2:=ae (jr HZ1.o hg2);clear hg2 c0 c1
 by_cases hx34:x=34
 ·have hb:(x == 34)=true:=by simp[hx34]
  have hil:=XU.o hx34;have um:Hd (G0=SQ):=by show _=_;rw[kX.o,if_pos hx34]
  clear hx34;go_wp2_with (go_at_call 122;refine(CQ.o hil _ HG2.o HR2.o).mono ?_);rintro e w3 ⟨p1,p2,p3⟩;have aU:=ae (dK HG2.o p3);have hZ3:=(p3.block Z (aG HZ2.o) (by simp only[ne_eq,Option.some.injEq];exact XV.o)).trans HZ2.o;have HZ3:=ae hZ3;obtain⟨z0,z1,zf⟩:=gY hZ3;have zf0:=zf 0;have zf1:=zf 1
  cases SQ with
  |error ec=>
   obtain⟨ec1,ec2⟩:=ec;obtain⟨v,rfl,hv,-⟩:=p2 ec1 ec2 rfl;have dS:=ae hv;clear p1 p2 p3 hv hZ3 zf;go_wp2;refine bodyPost_ret (JJ rfl _ _ Z 173 #[.string ⟨#[]⟩,.int .i64 (i:Nat)] (0,0) _ rfl (JL HZ3.o) underlying173 rfl (by kernel_rfl)) rfl ?_;rw[um.o];exact⟨fun k j hh=>(by cases hh),fun c p hh=>(by cases hh;exact⟨_,_,v,rfl,JK (JK dS.o HZ3.o) (block_setCell (i:=0) HZ3.o _)⟩),yu (yu aU.o yw.o 0 _) yw.o 1 _⟩
  |ok q=>
   obtain⟨tx,j⟩:=q;obtain⟨rfl,hr3⟩:=p1 tx j rfl;have HR3:=ae hr3;clear p1 p2 p3 hr3 hZ3 zf;go_wp2;refine bodyPost_ret (JJ rfl _ _ Z 173 #[.string ⟨tx.toArray⟩,.int .i64 (i:Nat)] (0,0) _ rfl (JL HZ3.o) underlying173 rfl (by kernel_rfl)) rfl ?_;rw[um.o];exact⟨fun k j hh=>(by cases hh;exact⟨rfl,(HR3.o.new HZ3.o).new (block_setCell (i:=0) HZ3.o _)⟩),fun c p hh=>(by cases hh),yu (yu aU.o yw.o 0 _) yw.o 1 _⟩
 ·have hb:(x == 34)=false:=by simp[hx34]
  have um:Hd (G0=if J=i then .error (2,i) else .ok (au s.data.toList i (J-i),J)):=by show _=_;rw[kX.o,if_neg hx34]
  clear hx34;go_wp2;go_loopw [] (fun wr=>∃k:Nat,Rd wr R s k T/\k<=s.size/\toR bP s.data.toList k=J/\w.grownBy wr (some R)/\wr.heap[Z]?=some (.cells #[.string ⟨#[]⟩,.int .i64 0] 173 (0,0))) (fun wr=>s.size-(match wr.cell? ⟨R,1,none⟩ with|some (.int _ k)=>k.toNat|_=>0))
  case atStart=>exact⟨i,HR2.o,hi,HJ.o,HG2.o,HZ2.o⟩
  case round=>
   obtain⟨k,hrd,hk,hbl,hg,qX⟩:=hrel;have dJ:=ae hrd;have fV:=ae hbl;have HG:=ae hg;have XW:=ae qX;have Ck:=ae (CN.o k wr hrd hk);have eY:Hd ((match wr.cell? ⟨R,1,none⟩ with|some (.int _ k)=>k.toNat|_=>0)=k):=by show _=_;rw[hrd.cells.2.1];simp
   have dP:=ae (fun(hb:bP (nx s.data.toList k)=true)=>HST.o k (dC.o k hk hb) hb);have HS2:=ae (gQ.o k);have HL2:=ae (dC.o k hk);obtain⟨c,hc⟩:=zN (nx s.data.toList k);rw[hc]at Ck dP HS2 HL2;have fZ:=ae (fun w=>CB.o c w);obtain⟨b,hb⟩:=zN (bP c);rw[hb]at fZ dP HS2 HL2;clear hrd hbl hg qX hc hb
   cases b with
   |true=>
    have hkl:=HL2.o (by trivial);have HN:=ae ((dP.o (by trivial)).symm.trans fV.o);go_wp2_with (first|(go_at_call 67;refine Ck.o.mono ?_;rintro e w3 ⟨rfl,hg3⟩;obtain⟨-,d1,-,df⟩:=(dJ.o.grow hg3).cells;have df1:=df 1)|(go_at_call 69;refine(fZ.o _).mono ?_;rintro e w' ⟨rfl,rfl⟩));have kV:Hd (Rd (w'.setCell ⟨R,1,none⟩ (.int .i64 ((k:Int)+1))) R s (k+1) T):=(dJ.o.grow hg3).set (k+1);refine⟨⟨k+1,kV.o,by omega,HN.o,aT (aP HG.o hg3) 1 _,(heap_setCell_other _ _ _ _ (by simp only[];exact XV.o)).trans (jr XW.o hg3)⟩,?_⟩;rw[eY.o,kV.o.cells.2.1];simp;omega
   |false=>
    have zg:=ae ((HS2.o (by trivial)).symm.trans fV.o);go_wp2_with (go_at_call 67;refine Ck.o.mono ?_);rintro e w3 rfl hg3;have HR3:Hd (Rd w3 R s J T):=by rw[<-zg.o];exact dJ.o.grow hg3
    have aU:=ae (aP HG.o hg3);have HZ3:=ae (jr XW.o hg3);obtain⟨d0,d1,-,-⟩:=HR3.o.cells;clear hg3
    by_cases hJi:J=i
    ·have hbj:((J:Int) == (i:Int))=true:=by simp[hJi]
     have kW:Hd (G0=.error (2,J)):=by show _=_;rw[um.o,if_pos hJi,hJi]
     have xJ:=ae (CH.o J _ aU.o HR3.o);clear hJi;go_wp2_with (first|(go_at_call 69;refine(fZ.o _).mono ?_;rintro e w' ⟨rfl,rfl⟩)|(go_at_call 104;refine xJ.o.mono ?_;rintro e w4 ⟨⟨v,rfl,hv⟩,hg4⟩;obtain⟨z0,z1,zf⟩:=gY (jr HZ3.o hg4);have zf0:=zf 0;have zf1:=zf 1));have zU:=jr HZ3.o hg4;refine bodyPost_ret (JJ rfl _ _ Z 173 #[.string ⟨#[]⟩,.int .i64 0] (0,0) _ rfl (JL zU) underlying173 rfl (by kernel_rfl)) rfl ?_;rw[kW.o];exact⟨fun k j hh=>(by cases hh),fun c p hh=>(by cases hh;exact⟨_,_,v,rfl,JK (JK hv zU) (block_setCell (i:=0) zU _)⟩),yu (yu (aP aU.o hg4) yw.o 0 _) yw.o 1 _⟩
    ·have hbj:((J:Int) == (i:Int))=false:=by rw[beq_eq_false_iff_ne];omega
     have kW:Hd (G0=.ok (au s.data.toList i (J-i),J)):=by show _=_;rw[um.o,if_neg hJi]
     have CC1:=ae (fun w=>CC.o X w HXS.o);clear hJi;go_wp2_with (go_at_call 69;refine(fZ.o _).mono ?_;rintro e w' ⟨rfl,rfl⟩);go_region_with (first|(go_at_call 123;refine(CC1.o _).mono ?_;rintro e w6 ⟨rfl,dV⟩;have oM:w'.grownBy w6 none:=⟨dV.os,dV.tape,dV.output,dV.size,dV.block⟩;obtain⟨z0,z1,zf⟩:=gY (jr HZ3.o oM);have zf0:=zf 0;have zf1:=zf 1))
     all_goals (
      have zU:=jr HZ3.o oM;go_wp2;refine bodyPost_ret (JJ rfl _ _ Z 173 #[.string X,.int .i64 (i:Nat)] (0,0) _ rfl (JL zU) underlying173 rfl (by kernel_rfl)) rfl ?_;rw[kW.o];exact⟨fun k j hh=>(by cases hh;rw[<-vO.o];exact⟨rfl,((HR3.o.grow oM).new zU).new (block_setCell (i:=0) zU _)⟩),fun c p hh=>(by cases hh),yu (yu (aP aU.o oM) yw.o 0 _) yw.o 1 _⟩)
theorem Tr.keepR{own:List Nat}{now:Nat}{T':Nat}(h:Tr w B T ns own now)(hr:Rd w R s i T')(hg:w.grownBy w' (some R)):Tr w' B T ns own now:=by
 obtain⟨N,c,M,xs,ks,hD⟩:=h;exact⟨N,c,M,xs,ks,hD.keeps (ac9 hr hg)⟩
theorem Rd.fr(h:Rd w R s i T)(hf:Fr B w w'):Rd w' R s i T:=(hf.oth _ _ _ _ h (by decide) (by decide) (by decide)).trans h
theorem XX(ns:List Tn)(up:Nat)(x:Tn)(h:ns.length<(addN ns up x).length):(addN ns up x)[ns.length]'h=x:=by
 obtain⟨X,h1,h2⟩:=MQ ns up x;have:(addN ns up x)[ns.length]?=some x:=by rw[h2,<-h1];simp
 rw[List.getElem?_eq_getElem h]at this;exact Option.some.inj this
theorem XY(ns:List Tn)(own:List Nat)(up:Nat)(x y:Tn)(h1:y.kd=x.kd)(h2:y.ky=x.ky)(h3:y.ks=x.ks):hold (addN ns up y) own=hold (addN ns up x) own:=by
 have hl:ns.length<(addN ns up x).length:=by rw[bW];omega
 have e:=XX ns up x hl;obtain⟨a,b,c⟩:=abz (addN ns up x) ns.length y hl (by rw[e];exact h1) (by rw[e];exact h2) (by rw[e];exact h3);rw[MR]at a b c;exact abA own a b c
theorem Tr.last{own:List Nat}{now up:Nat}{kd:Int}(h:Tr w B T (addN ns up ⟨kd,k,[],0,[],p⟩) own now) :
  ∃N cc,w.cell? ⟨T,0,none⟩=some (.slice (some ⟨N,0,none⟩) (ns.length+1) cc)/\(∃cs,w.heap[N]?=some (.cells cs 63 (0,0)))/\B<=N/\w.cell? ⟨N,ns.length*6+2,none⟩=some (.string ⟨#[]⟩)/\w.cell? ⟨N,ns.length*6+3,none⟩=some (.int .i64 0) ∧
   (∀t:List UInt8,Tr (w.setCell ⟨N,ns.length*6+2,none⟩ (.string ⟨t.toArray⟩)) B T (addN ns up ⟨kd,k,t,0,[],p⟩) own now)/\∀v:Int,Tr (w.setCell ⟨N,ns.length*6+3,none⟩ (.int .i64 v)) B T (addN ns up ⟨kd,k,[],v,[],p⟩) own now:=by
 obtain⟨N,c,M,xs,ks,hD⟩:=h;have hl:ns.length<(addN ns up ⟨kd,k,[],0,[],p⟩).length:=by rw[bW];omega
 have e:=XX ns up ⟨kd,k,[],0,[],p⟩ hl;have hc:=hD.cells.1;rw[bW]at hc;obtain⟨-,-,n2,n3,-,-,-⟩:=hD.node ns.length hl;rw[e]at n2 n3;refine⟨N,c,hc,hD.rowT,(dO hD.row rfl).1,n2,n3,fun t=>?_,fun v=>?_⟩
 ·refine⟨N,c,M,xs.set (ns.length*6+2) (.string ⟨t.toArray⟩),ks,?_⟩;have h1:=hD.cellSet ns.length 2 (.string ⟨t.toArray⟩) ⟨kd,k,t,0,[],p⟩ hl (by omega) (by omega) (by rw[e]) (fun j u hu=>by
   rw[e]at hu
   by_cases hj:j=2
   ·subst hj;rw[if_pos rfl]at hu;exact hu
   ·rw[if_neg hj]at hu
    match j,hj,hu with
    | 0,_,hu=>exact hu
    | 1,_,hu=>exact hu
    | 3,_,hu=>exact hu
    | 4,_,hu=>exact hu
    | 5,_,hu=>exact hu
    | j+6,_,hu=>simp at hu)
  rw[MR]at h1;rw[XY ns own up ⟨kd,k,[],0,[],p⟩ ⟨kd,k,t,0,[],p⟩ rfl rfl rfl,bW,<-bW ns up ⟨kd,k,[],0,[],p⟩];exact h1
 ·refine⟨N,c,M,xs.set (ns.length*6+3) (.int .i64 v),ks,?_⟩;have h1:=hD.cellSet ns.length 3 (.int .i64 v) ⟨kd,k,[],v,[],p⟩ hl (by omega) (by omega) (by rw[e]) (fun j u hu=>by
   rw[e]at hu
   by_cases hj:j=3
   ·subst hj;rw[if_pos rfl]at hu;exact hu
   ·rw[if_neg hj]at hu
    match j,hj,hu with
    | 0,_,hu=>exact hu
    | 1,_,hu=>exact hu
    | 2,_,hu=>exact hu
    | 4,_,hu=>exact hu
    | 5,_,hu=>exact hu
    | j+6,_,hu=>simp at hu)
  rw[MR]at h1;rw[XY ns own up ⟨kd,k,[],0,[],p⟩ ⟨kd,k,[],v,[],p⟩ rfl rfl rfl,bW,<-bW ns up ⟨kd,k,[],0,[],p⟩];exact h1
theorem Pq{E:Int->TypeId × Value}{o:Nat}(h:dD w v E c p)(hN:w.heap[N]?=some (.cells cs 63 (0,0))):dD (w.setCell ⟨N,o,none⟩ x) v E c p:=by
 obtain⟨F,h1,h2⟩:=h;exact⟨F,h1,(heap_setCell_other _ _ _ _ (aZ h2 hN (by decide))).trans h2⟩
theorem Rd.node{o:Nat}(h:Rd w R s i T)(hN:w.heap[N]?=some (.cells cs 63 (0,0))):Rd (w.setCell ⟨N,o,none⟩ x) R s i T:=(heap_setCell_other _ _ _ _ (aZ h hN (by decide))).trans h
theorem yx(h:Below B w w1)(hb:B<=b)(o:Nat)(v:Value):Below B w (w1.setCell ⟨b,o,none⟩ v):=⟨h.os,h.tape,h.output,by have:=h.size;simpa [World.setCell] using this,fun k hk=>(heap_setCell_other _ _ _ _ (by simp;omega)).trans (h.block k hk)⟩
theorem oz(hg:w.grownBy w' none)(hB:B<=w.heap.size):Below B w w':=⟨hg.os,hg.tape,hg.output,hg.size,fun k hk=>hg.block k (by omega) (by simp)⟩
def wI(B R T:Nat)(s:ByteArray)(E:Int->TypeId × Value)(own:List Nat)(now:Nat)(r:Rs (Nat × List Tn))(w:World)(e:Ending)(w':World):Prop :=
 (∀j ns,r=.ok (j,ns)->e=.returned .nilIface/\Rd w' R s j T/\Tr w' B T ns own now)/\(∀c p,r=.error (c,p)->∃v,e=.returned v/\dD w' v E c p)/\Below B w w'
def FW(f:Nat):Prop:=∀(B R T:Nat) (s:ByteArray) (E:Int->TypeId × Value) (own:List Nat) (now i up:Nat) (k:List UInt8) (p d:Nat) (ns:List Tn) (w:World),Rd w R s i T->Tr w B T ns own now->Gl w B E->B<=R->i<=s.size->s.size<=100000->WF ns own->WT ns->up<ns.length->¬ay ns up=2->(ay ns up=0->aK ns up k=none)->k.length<=1048576->d<=8->ns.length+own.length+(s.size-i)<=700000->2*(s.size-i)+1<=f →
 Calls prog 102 #[.pointer (some ⟨R,0,none⟩),.int .i64 (up:Nat),.agg #[.string ⟨k.toArray⟩,.int .i64 (p:Nat)],.int .i64 (d:Nat)] w (wI B R T s E own now (val s.data.toList f i up k p d ns) w)
def XZ(f:Nat):Prop:=∀(B R T:Nat) (s:ByteArray) (E:Int->TypeId × Value) (own:List Nat) (now i up d:Nat) (ns:List Tn) (w:World),Rd w R s i T->Tr w B T ns own now->Gl w B E->B<=R->i<s.size->s.size<=100000->WF ns own->WT ns->up<ns.length->ay ns up=1->d<=8->ns.length+own.length+(s.size-i)<=700001->2*(s.size-i)<=f →
 Calls prog 128 #[.pointer (some ⟨R,0,none⟩),.int .i64 (up:Nat),.int .i64 (d:Nat)] w (wI B R T s E own now (lst s.data.toList f (i+1) up d ns) w)
theorem afx(l:List UInt8):∀(f i:Nat) (c:Int) (p:Nat),gap l f i=.error (c,p)->c=2:=by
 intro f
 induction f with
 |zero=>intro i c p h;cases h;rfl
 |succ f ih=>
  intro i c p h;rw[vN]at h;split at h
  ·cases h;rfl
  ·split at h
   ·exact ih _ c p h
   ·cases h
def afy(B R T:Nat)(s:ByteArray)(E:Int->TypeId × Value)(own:List Nat)(now:Nat)(m:List Tn)(g:Rs Nat)(w:World)(e:Ending)(w':World):Prop:=(∀j,g=.ok j->e=.returned .nilIface/\Rd w' R s j T/\Tr w' B T m own now)/\(∀c p,g=.error (c,p)->∃F,e=.returned (.iface 99 (.pointer (some ⟨F,0,none⟩)))/\dD w' (.iface 99 (.pointer (some ⟨F,0,none⟩))) E c p)/\Below B w w'
theorem afz(B R T:Nat)(s:ByteArray)(E:Int->TypeId × Value)(own:List Nat)(now i:Nat)(m:List Tn)(w:World)(h:Rd w R s i T)(ht:Tr w B T m own now)(G:Gl w B E)(hR:B<=R)(hi:i<=s.size)(hs:s.size<=100000) :
  Calls prog 157 #[.pointer (some ⟨R,0,none⟩)] w (afy B R T s E own now m (gap s.data.toList (s.data.toList.length+1) i) w) :=
 (abg R s i T (E 2).1 (E 2).2 w h hi (by omega) G.es.te (CY G.lo hR).te).mono fun e w' ⟨h1,h2,h3⟩=>⟨fun j hj=>⟨(h1 j hj).1,(h1 j hj).2,ht.keepR h h3⟩,fun c p hp=>by
  have hc:=afx _ _ _ _ _ hp;subst hc;obtain⟨v,e1,F,rfl,hF⟩:=h2 2 p hp;exact⟨F,e1,F,rfl,hF⟩,kL h3 hR ht.base⟩
def afA(B R T:Nat)(s:ByteArray)(E:Int->TypeId × Value)(own:List Nat)(now:Nat)(m:List Tn)(r:Rs Nat)(w:World)(e:Ending)(w':World):Prop:=(∀j,r=.ok j->e=.returned .nilIface/\Rd w' R s j T/\Tr w' B T m own now)/\(∀c p,r=.error (c,p)->∃F,e=.returned (.iface 99 (.pointer (some ⟨F,0,none⟩)))/\dD w' (.iface 99 (.pointer (some ⟨F,0,none⟩))) E c p)/\Below B w w'
theorem X0(B R T:Nat)(s:ByteArray)(E:Int->TypeId × Value)(own:List Nat)(now i:Nat)(c:Int)(hc:0<=c)(m:List Tn)(w:World)(h:Rd w R s i T)(ht:Tr w B T m own now)(G:Gl w B E)(hR:B<=R)(hi:i<=s.size)(hs:s.size<=100000) :
  Calls prog 72 #[.pointer (some ⟨R,0,none⟩),.int .i64 c] w (afA B R T s E own now m (must s.data.toList i c) w) :=
 (MF R s i T c (E 2).1 (E 2).2 w h hi (by omega) hc G.es.te).mono fun e w' ⟨h1,h2,h3⟩=>by
  unfold must
  by_cases hx:nx s.data.toList i=c
  ·rw[if_pos hx];exact⟨fun j hj=>(by cases hj;exact⟨(h1 hx).1,(h1 hx).2,ht.keepR h h3⟩),fun c p hp=>(by cases hp),kL h3 hR ht.base⟩
  ·rw[if_neg hx];obtain⟨⟨v,e1,F,rfl,hF⟩,-⟩:=h2 hx;exact⟨fun j hj=>(by cases hj),fun c p hp=>(by cases hp;exact⟨F,e1,F,rfl,hF⟩),kL h3 hR ht.base⟩
theorem afB(l:List UInt8)(f i up d:Nat)(ns:List Tn):lst l (f+1) i up d ns =
  match gap l (l.length+1) i with
  | .error e=>.error e
  | .ok j =>
   if nx l j=93 then(match must l j 93 with | .error e=>.error e | .ok q=>.ok (q,ns))
   else match val l f j up [] j d ns with
    | .error e=>.error e
    | .ok (j1,ns1)=>match gap l (l.length+1) j1 with
     | .error e=>.error e
     | .ok j2=>if nx l j2=44 then lst l f (j2+1) up d ns1 else(match must l j2 93 with | .error e=>.error e | .ok q=>.ok (q,ns1)):=by
 rw[ER]
 cases gap l (l.length+1) i with
 |error e=>rfl
 |ok j=>
  simp only[]
  by_cases h:nx l j=93
  ·rw[if_pos h,if_pos h];unfold must;rw[if_pos h]
  ·rw[if_neg h,if_neg h]
   cases val l f j up [] j d ns with
   |error e=>rfl
   |ok q=>
    obtain⟨j1,ns1⟩:=q;simp only[]
    cases gap l (l.length+1) j1 with
    |error e=>rfl
    |ok j2=>
     simp only[]
     by_cases h4:nx l j2=44
     ·rw[if_pos h4,if_pos h4]
     ·rw[if_neg h4,if_neg h4];unfold must
      by_cases h9:nx l j2=93
      ·rw[if_pos h9,if_pos h9]
      ·rw[if_neg h9,if_neg h9]
theorem afC{E:Int->TypeId × Value}{own:List Nat}{now:Nat}(h:wI B R T s E own now (.error (c,p)) w e w'):∃F,e=.returned (.iface 99 (.pointer (some ⟨F,0,none⟩)))/\dD w' (.iface 99 (.pointer (some ⟨F,0,none⟩))) E c p:=by
 obtain⟨v,e1,F,rfl,hF⟩:=h.2.1 c p rfl;exact⟨F,e1,F,rfl,hF⟩
structure Lk(B R T:Nat)(s:ByteArray)(own:List Nat)(now i up:Nat)(ns:List Tn)(w:World)(kx:Nat)(m:List Tn)(wr:World):Prop where
 rd:Rd wr R s kx T
 tr:Tr wr B T m own now
 wf:WF m own
 wt:WT m
 ul:up<m.length
 kd:ay m up=1
 le:kx<=s.size
 nn:m.length+i+1<=ns.length+kx
 be:Below B w wr
theorem Lk.gb{own:List Nat}{now up:Nat}(h:Lk B R T s own now i up ns w kx m wr)(hg:wr.grownBy w' none):Lk B R T s own now i up ns w kx m w':=⟨h.rd.grow hg,h.tr.gb hg,h.wf,h.wt,h.ul,h.kd,h.le,h.nn,h.be.trans (oz hg h.tr.base)⟩
theorem Lk.to{own:List Nat}{now up:Nat}(h:Lk B R T s own now i up ns w kx m wr)(hr:Rd w' R s j T)(ht:Tr w' B T m own now)(hb:Below B wr w')(h1:kx<=j)(h2:j<=s.size):Lk B R T s own now i up ns w j m w':=⟨hr,ht,h.wf,h.wt,h.ul,h.kd,h2,by have:=h.nn;omega,h.be.trans hb⟩
theorem Lk.ad{own:List Nat}{now up:Nat}{m1:List Tn}(h:Lk B R T s own now i up ns w kx m wr)(A:Ad m m1 own kx j s.size)(hr:Rd w' R s j T)(ht:Tr w' B T m1 own now)(hb:Below B wr w'):Lk B R T s own now i up ns w j m1 w':=⟨hr,ht,A.wf,A.wt,Nat.lt_of_lt_of_le h.ul A.lo,(A.kd up h.ul).trans h.kd,A.en,by have:=h.nn;have:=A.hi;omega,h.be.trans hb⟩
theorem afD(F:Nat)(IH:∀f,f<F->FW f):XZ F:=by
 intro B R T s E own now i up d ns w h htr G hR hi hs W V hu h1 hd hsz hF;have hl:s.data.toList.length=s.size:=by simp
 have CG:=ae (fun kx m wr (L:Lk B R T s own now i up ns w kx m wr)=>afz B R T s E own now kx m wr L.rd L.tr (G.bel L.be) hR L.le hs);have CN:=ae (fun kx m wr (L:Lk B R T s own now i up ns w kx m wr)=>nN R s kx T wr L.rd L.le (by omega));have CT:=ae (fun kx m wr (L:Lk B R T s own now i up ns w kx m wr)=>X0 B R T s E own now kx 93 (by decide) m wr L.rd L.tr (G.bel L.be) hR L.le hs);have CV:=ae (fun f kx m wr (hf:f<F) (hkf:2*(s.size-kx)+1<=f) (L:Lk B R T s own now i up ns w kx m wr)=>IH f hf B R T s E own now kx up [] kx d m wr L.rd L.tr (G.bel L.be) hR L.le hs L.wf L.wt L.ul (by rw[L.kd];decide) (fun e=>by rw[L.kd]at e;exact absurd e (by decide)) (by simp) hd (by have:=L.nn;have:=L.le;omega) hkf);have HVO:Hd (∀f kx m j1 m1,kx<=s.size->WF m own->WT m->up<m.length->ay m up=1->val s.data.toList f kx up [] kx d m=.ok (j1,m1)->Ad m m1 own kx j1 s.size):=fun f kx m j1 m1 a1 a2 a3 a4 a5 a6=>by
  have:=(I9 s.data.toList own f).1 kx up [] kx d m j1 m1 (by omega) a2 a3 a4 (by rw[a5];decide) a6;rw[hl]at this;exact this
 have o6:Hd (∀kx j,kx<=s.size->gap s.data.toList (s.data.toList.length+1) kx=.ok j->kx<=j/\j<=s.size):=fun kx j a b=>by
  have:=xO s.data.toList _ kx j (by omega) b;omega
 have ed:Hd (∀kx,nx s.data.toList kx=44->kx<s.size):=fun kx a=>by
  have:=bD (l:=s.data.toList) (i:=kx) (by rw[a];decide);omega
 have HST:Hd (∀f kx m,lst s.data.toList (f+1) kx up d m=_):=fun f kx m=>afB s.data.toList f kx up d m
 obtain⟨S,hS⟩:=zN (lst s.data.toList F (i+1) up d ns);have HS:=ae hS;rw[hS];obtain⟨-,r1,-,rf⟩:=h.cells;have rf1:=rf 1;have hset:Rd (w.setCell ⟨R,1,none⟩ (.int .i64 ((i:Int)+1))) R s (i+1) T:=h.set (i+1);have zH:Hd (Lk B R T s own now i up ns w (i+1) ns (w.setCell ⟨R,1,none⟩ (.int .i64 ((i:Int)+1)))):=⟨hset,htr.keepR h (fO w R 1 _),W,V,hu,h1,by omega,by omega,yx (Below.refl _ _) hR 1 _⟩;clear h htr G W V hu h1 hS rf hset IH;go_enter func128,ntmps128;go_wp2;go_loopw [] (fun wr=>∃(kx f:Nat) (m:List Tn),Lk B R T s own now i up ns w kx m wr/\2*(s.size-kx)+2<=f/\f<=F/\lst s.data.toList f kx up d m=S) (fun wr=>s.size-(match wr.cell? ⟨R,1,none⟩ with|some (.int _ k)=>k.toNat|_=>0))
 case atStart=>exact⟨i+1,F,ns,zH.o,by omega,Nat.le_refl _,HS.o⟩
 case round=>
  obtain⟨kx,f,m,hL,hf,hfF,Pv⟩:=hrel;obtain⟨f,rfl⟩:∃f',f=f'+1:=⟨f-1,by omega⟩;rw[HST.o]at Pv;have oC:Hd (_=S):=Pv;have HL:=ae hL;have C1:=CG.o kx m wr hL;have eY:Hd ((match wr.cell? ⟨R,1,none⟩ with|some (.int _ k)=>k.toNat|_=>0)=kx):=by show _=_;rw[hL.rd.cells.2.1];simp
  have aC:=o6.o kx;obtain⟨g0,hg0⟩:=zN (gap s.data.toList (s.data.toList.length+1) kx);rw[hg0]at C1 oC aC;have zV:=ae C1;have Df:=ae aC;clear hL Pv C1 aC hg0;go_wp2_with (go_at_call 157;refine zV.o.mono ?_);rintro e w2 ⟨p1,p2,p3⟩
  cases g0 with
  |error ec=>
   obtain⟨ec1,ec2⟩:=ec;obtain⟨Fb,rfl,o7⟩:=p2 ec1 ec2 rfl;have fA:=ae o7;have aB:Hd (S=.error (ec1,ec2)):=oC.o.symm;have fB:=ae (HL.o.be.trans p3);clear p1 p2 p3 o7;go_wp2;refine bodyPost_ret (results_tmp (t:=6) rfl _ _ _) rfl ?_;rw[aB.o];exact⟨fun j ns hh=>(by cases hh),fun c p hh=>(by cases hh;exact⟨_,rfl,fA.o⟩),fB.o⟩
  |ok j0=>
   obtain⟨rfl,hr2,ht2⟩:=p1 j0 rfl;obtain⟨gj1,gj2⟩:=Df.o j0 HL.o.le rfl;have HL2:=ae (HL.o.to hr2 ht2 p3 gj1 gj2);have C2:=ae (CN.o j0 m w2 HL2.o);have Dh:=oC.o;simp only[]at Dh;have kM:=CT.o j0 m;have Px:=CV.o f j0 m;have Py:=HVO.o f j0 m;obtain⟨V0,hV0⟩:=zN (val s.data.toList f j0 up [] j0 d m);obtain⟨MU,mD⟩:=zN (must s.data.toList j0 93);rw[mD]at Dh kM;rw[hV0]at Dh Px Py;obtain⟨x,hx⟩:=zN (nx s.data.toList j0);rw[hx]at C2 Dh;have vW:Hd (_=S):=Dh;have lU:=ae kM;have CV3:=ae (fun wr (L:Lk B R T s own now i up ns w j0 m wr)=>Px wr (by omega) (by omega) L);have afE:=ae (fun j1 m1 (e:V0=.ok (j1,m1))=>Py j1 m1 gj2 HL2.o.wf HL2.o.wt HL2.o.ul HL2.o.kd e);clear p1 p2 p3 hr2 ht2 oC Dh kM Px Py hV0 mD hx Df;go_wp2_with (go_at_call 67;refine C2.o.mono ?_);rintro e w3 ⟨rfl,hg3⟩
   have zW:=ae (HL2.o.gb hg3);clear hg3
   by_cases c93:x=93
   ·have e93:(x == 93)=true:=by simp[c93]
    have sO:Hd ((match (generalizing:=false) MU with | .error e=>.error e | .ok q=>.ok (q,m))=S):=by
     have:=vW.o;rw[if_pos c93]at this;exact this
    clear c93;go_wp2_with (go_at_call 72;refine(lU.o _ zW.o).mono ?_);rintro e w4 ⟨q1,q2,q3⟩
    cases MU with
    |error ec=>
     obtain⟨ec1,ec2⟩:=ec;obtain⟨Fb,rfl,o7⟩:=q2 ec1 ec2 rfl;have fA:=ae o7;have aB:Hd (S=.error (ec1,ec2)):=sO.o.symm;have fB:=ae (zW.o.be.trans q3);clear q1 q2 q3 o7;go_wp2;refine bodyPost_ret (results_tmp (t:=6) rfl _ _ _) rfl ?_;rw[aB.o];exact⟨fun j ns hh=>(by cases hh),fun c p hh=>(by cases hh;exact⟨_,rfl,fA.o⟩),fB.o⟩
    |ok jq=>
     obtain⟨rfl,hrq,wL⟩:=q1 jq rfl;have Pz:=ae hrq;have Dj:=ae wL;have aB:Hd (S=.ok (jq,m)):=sO.o.symm;have fB:=ae (zW.o.be.trans q3);clear q1 q2 q3 hrq wL;go_wp2;refine bodyPost_ret (results_tmp (t:=6) rfl _ _ _) rfl ?_;rw[aB.o];exact⟨fun j ns hh=>(by cases hh;exact⟨rfl,Pz.o,Dj.o⟩),fun c p hh=>(by cases hh),fB.o⟩
   ·have e93:(x == 93)=false:=by simp[c93]
    have PD:=vW.o;rw[if_neg c93]at PD;have Dk:Hd (_=S):=PD;clear PD;obtain⟨-,r1c,-,-⟩:=zW.o.rd.cells;clear c93 vW;go_wp2_with (go_at_call 102;refine(CV3.o _ zW.o).mono ?_);intro e w4 hq
    cases V0 with
    |error ec=>
     obtain⟨ec1,ec2⟩:=ec;obtain⟨Fb,rfl,o7⟩:=afC hq;have fA:=ae o7;have aB:Hd (S=.error (ec1,ec2)):=Dk.o.symm;have fB:=ae (zW.o.be.trans hq.2.2);clear hq o7 r1c;go_wp2;refine bodyPost_ret (results_tmp (t:=6) rfl _ _ _) rfl ?_;rw[aB.o];exact⟨fun j ns hh=>(by cases hh),fun c p hh=>(by cases hh;exact⟨_,rfl,fA.o⟩),fB.o⟩
    |ok jm=>
     obtain⟨j1,m1⟩:=jm;obtain⟨rfl,hr4,qR⟩:=hq.1 j1 m1 rfl;have A:=afE.o j1 m1 rfl;have hA1:=A.fw;have hA2:=A.en;have JM:=ae (zW.o.ad A hr4 qR hq.2.2);have C5:=CG.o j1 m1 w4 JM.o;have fJ:=o6.o j1;have sQ:=Dk.o;simp only[]at sQ;obtain⟨g1,hg1⟩:=zN (gap s.data.toList (s.data.toList.length+1) j1);rw[hg1]at C5 fJ sQ;have PE:=ae C5;have X4:=ae fJ;have PG:Hd (_=S):=sQ;clear C5 fJ sQ hg1 hq hr4 qR A r1c Dk;go_wp2_with (go_at_call 157;refine PE.o.mono ?_);rintro e w5 ⟨p1,p2,p3⟩
     cases g1 with
     |error ec=>
      obtain⟨ec1,ec2⟩:=ec;obtain⟨Fb,rfl,o7⟩:=p2 ec1 ec2 rfl;have fA:=ae o7;have aB:Hd (S=.error (ec1,ec2)):=PG.o.symm;have fB:=ae (JM.o.be.trans p3);clear p1 p2 p3 o7;go_wp2;refine bodyPost_ret (results_tmp (t:=6) rfl _ _ _) rfl ?_;rw[aB.o];exact⟨fun j ns hh=>(by cases hh),fun c p hh=>(by cases hh;exact⟨_,rfl,fA.o⟩),fB.o⟩
     |ok j2=>
      obtain⟨rfl,qO,yz⟩:=p1 j2 rfl;obtain⟨hj1,hj2⟩:=X4.o j2 JM.o.le rfl;have X5:=ae (JM.o.to qO yz p3 hj1 hj2);have C6:=ae (CN.o j2 m1 w5 X5.o);have yA:=PG.o;simp only[]at yA;have PH:=CT.o j2 m1;have X6:=ae (ed.o j2);obtain⟨MU,mD⟩:=zN (must s.data.toList j2 93);rw[mD]at yA PH;obtain⟨y,hy⟩:=zN (nx s.data.toList j2);rw[hy]at C6 yA X6;have X7:Hd (_=S):=yA;have afF:=ae PH;clear p1 p2 p3 qO yz yA PH mD hy PG X4;go_wp2_with (go_at_call 67;refine C6.o.mono ?_);rintro e w6 ⟨rfl,dV⟩;have yB:=ae (X5.o.gb dV);clear dV
      by_cases c44:y=44
      ·have e44:(y != 44)=false:=by simp[c44]
       have hjl:=X6.o c44;have afG:Hd (lst s.data.toList f (j2+1) up d m1=S):=by
        have:=X7.o;rw[if_pos c44]at this;exact this
       obtain⟨-,r16,-,rf6⟩:=yB.o.rd.cells;have rf61:=rf6 1;have X8:Hd (Rd (w6.setCell ⟨R,1,none⟩ (.int .i64 ((j2:Int)+1))) R s (j2+1) T):=yB.o.rd.set (j2+1);have afH:=ae (yB.o.to X8.o (yB.o.tr.keepR yB.o.rd (fO w6 R 1 _)) (yx (Below.refl _ _) hR 1 _) (by omega) (by omega));clear c44 rf6;go_wp2;refine⟨⟨j2+1,f,m1,afH.o,by omega,by omega,afG.o⟩,?_⟩;rw[eY.o,X8.o.cells.2.1];simp;omega
      ·have e44:(y != 44)=true:=by simp[c44]
       have sO:Hd ((match (generalizing:=false) MU with | .error e=>.error e | .ok q=>.ok (q,m1))=S):=by
        have:=X7.o;rw[if_neg c44]at this;exact this
       clear c44;go_wp2_with (go_at_call 72;refine(afF.o _ yB.o).mono ?_);rintro e w7 ⟨q1,q2,q3⟩
       cases MU with
       |error ec=>
        obtain⟨ec1,ec2⟩:=ec;obtain⟨Fb,rfl,o7⟩:=q2 ec1 ec2 rfl;have fA:=ae o7;have aB:Hd (S=.error (ec1,ec2)):=sO.o.symm;have fB:=ae (yB.o.be.trans q3);clear q1 q2 q3 o7;go_wp2;refine bodyPost_ret (results_tmp (t:=6) rfl _ _ _) rfl ?_;rw[aB.o];exact⟨fun j ns hh=>(by cases hh),fun c p hh=>(by cases hh;exact⟨_,rfl,fA.o⟩),fB.o⟩
       |ok jq=>
        obtain⟨rfl,hrq,wL⟩:=q1 jq rfl;have Pz:=ae hrq;have Dj:=ae wL;have aB:Hd (S=.ok (jq,m1)):=sO.o.symm;have fB:=ae (yB.o.be.trans q3);clear q1 q2 q3 hrq wL;go_wp2;refine bodyPost_ret (results_tmp (t:=6) rfl _ _ _) rfl ?_;rw[aB.o];exact⟨fun j ns hh=>(by cases hh;exact⟨rfl,Pz.o,Dj.o⟩),fun c p hh=>(by cases hh),fB.o⟩
def qY(l:List (List UInt8 × Nat)):List Value:=l.flatMap fun x=>[.string ⟨x.1.toArray⟩,.int .i64 (x.2:Nat)]
theorem X9:∀(l:List (List UInt8 × Nat)) (i:Nat) (hi:i<l.length),(qY l)[i*2]?=some (.string ⟨l[i].1.toArray⟩)/\(qY l)[i*2+1]?=some (.int .i64 (l[i].2:Nat))
 | a :: r,0,_=>⟨rfl,rfl⟩
 | a :: r,i+1,hi=>by
  have:=X9 r i (by simpa using hi);have e:qY (a :: r)=.string ⟨a.1.toArray⟩ :: .int .i64 (a.2:Nat) :: qY r:=rfl;rw[e,show(i+1)*2=i*2+1+1 by omega];exact this
theorem afI(l:List (List UInt8 × Nat))(x:List UInt8 × Nat):qY (l++[x])=qY l++[.string ⟨x.1.toArray⟩,.int .i64 (x.2:Nat)]:=by
 unfold qY;rw[List.flatMap_append];rfl
theorem afJ{c n:Nat}{l:List (List UInt8 × Nat)}(h:w.ownsRow B 173 2 (.slice (some ⟨g,0,none⟩) n c) n (qY l))(hn:l.length=n):KyR w g l/\n<=c:=by
 rcases h.2 with⟨h1,-⟩|⟨g',cap,cur,h1,-,h3,h4,-,h6,h7⟩
 ·cases h1
 ·cases h1
  refine⟨⟨cur,h3,fun i hi=>?_⟩,h4⟩;obtain⟨a,b⟩:=X9 l i hi;rw[<-h7]at a b;rw[List.getElem?_take_of_lt (by omega),Array.getElem?_toList]at a b;exact⟨a,b⟩
theorem afK:(prog.info? 173).map (fun i=>(i.zero,i.size,i.bytes))=some (some (.agg #[.string ⟨#[]⟩,.int .i64 0]),2,24):=by kernel_rfl
theorem FX(l:List UInt8)(f i:Nat)(acc:List (List UInt8 × Nat)):gV l (f+1) i acc=match dw l (bl l i) with | .error e=>.error e | .ok (k,j)=>if nx l (bl l j)=46 then gV l f (bl l j+1) (acc++[(k,bl l i)]) else .ok (acc++[(k,bl l i)],bl l j):=rfl
theorem PI{w3:World}{q:Option Nat}(h:w.grownBy W r)(hg:W.grownBy w3 q)(hq:∀b,q=some b->w.heap.size<=b):w.grownBy w3 r :=
 ⟨hg.os.trans h.os,hg.tape.trans h.tape,hg.output.trans h.output,Nat.le_trans h.size hg.size,fun k hk hn=>(hg.block k (Nat.lt_of_lt_of_le hk h.size) (fun e=>by have:=hq k e.symm;omega)).trans (h.block k hk hn)⟩
def afL(R:Nat)(s:ByteArray)(T:Nat)(E:Int->TypeId × Value)(g:Rs (List (List UInt8 × Nat) × Nat))(w:World)(e:Ending)(w':World):Prop :=
 (∀l j,g=.ok (l,j)->∃b c,e=.returned (.tuple #[.slice (some ⟨b,0,none⟩) l.length c,.nilIface])/\KyR w' b l/\l.length<=c/\Rd w' R s j T)/\(∀c p,g=.error (c,p)->∃F,e=.returned (.tuple #[.slice none 0 0,.iface 99 (.pointer (some ⟨F,0,none⟩))])/\dD w' (.iface 99 (.pointer (some ⟨F,0,none⟩))) E c p)/\w.grownBy w' (some R)
theorem afM(x:List UInt8 × Nat):∀u∈([.string ⟨x.1.toArray⟩,.int .i64 (x.2:Nat)]:List Value),u.oneCell'=true:=by
 intro u hu;simp only[List.mem_cons,List.not_mem_nil,or_false]at hu
 rcases hu with rfl|rfl<;>rfl
theorem afN(R:Nat)(s:ByteArray)(i T B:Nat)(E:Int->TypeId × Value)(w:World)(h:Rd w R s i T)(hi:i<=s.size)(hs:s.size<=100000)(G:Gl w B E)(hR:B<=R)(hBw:B<=w.heap.size) :
  Calls prog 96 #[.pointer (some ⟨R,0,none⟩)] w (afL R s T E (gV s.data.toList (s.data.toList.length+1) i []) w):=by
 have CN:=ae (fun k w (h1:Rd w R s k T) (h2:k<=s.size)=>nN R s k T w h1 h2 (by omega));have CS:=ae (fun k w (h1:Rd w R s k T) (h2:k<=s.size)=>Iw R s k T w h1 h2 (by omega));have CK:=ae (fun k w' (h1:Rd w' R s k T) (h2:k<=s.size) (hg:w.grownBy w' (some R))=>XT R s k T B E w' h1 h2 (by omega) (G.gb hg hR hBw) hR (Nat.le_trans hBw hg.size));have hl:s.data.toList.length=s.size:=by simp
 have fV:Hd (∀k,k<=s.size->k<=bl s.data.toList k/\bl s.data.toList k<=s.size):=fun k hk=>by rw[<-hl];exact jQ _ k (by omega)
 have jU:Hd (∀k x j,k<=s.size->dw s.data.toList k=.ok (x,j)->k<j/\j<=s.size):=fun k x j a b=>by
  have:=xK s.data.toList k x j (by omega) b;omega
 have dC:Hd (∀k,nx s.data.toList k=46->k<s.size):=fun k a=>by
  have:=bD (l:=s.data.toList) (i:=k) (by rw[a];decide);omega
 obtain⟨i0,hi0,hii⟩:=Option.map_eq_some_iff.1 afK;simp only[Prod.mk.injEq]at hii;obtain⟨hz0,hz1,hzb⟩:=hii;obtain⟨S,hS⟩:=zN (gV s.data.toList (s.data.toList.length+1) i []);have HS:=ae hS;rw[hS];have H0:=ae h;clear h G hS;go_enter func96,ntmps96;go_wp2;go_loopw [2,3,4] (fun v2 v3 v4 wr=>v2=.slice none 0 0/\v3=.nilIface/\∃(kx f:Nat) (acc:List (List UInt8 × Nat)),Rd wr R s kx T/\kx<=s.size/\wr.ownsRow w.heap.size 173 2 v4 acc.length (qY acc)/\w.grownBy wr (some R)/\s.size-kx<f/\gV s.data.toList f kx acc=S/\acc.length<=kx) (fun _ _ _ wr=>s.size-(match wr.cell? ⟨R,1,none⟩ with|some (.int _ k)=>k.toNat|_=>0))
 case atStart=>exact⟨rfl,rfl,i,s.data.toList.length+1,[],H0.o,hi,World.ownsRow_nil _ _ _ _,ax _ _,by omega,HS.o,by simp⟩
 case round=>
  obtain⟨rfl,rfl,kx,f,acc,hrd,hk,hown,hg,hf,hhd,hac⟩:=hrel;obtain⟨f,rfl⟩:∃f',f=f'+1:=⟨f-1,by omega⟩;rw[FX]at hhd;have lI:=ae hrd;have kz:=ae hg;have HOW:=ae hown;have eY:Hd ((match wr.cell? ⟨R,1,none⟩ with|some (.int _ k)=>k.toNat|_=>0)=kx):=by show _=_;rw[hrd.cells.2.1];simp
  have C1:=CS.o kx wr hrd hk;obtain⟨b1,b2⟩:=fV.o kx hk;obtain⟨j0,hj0⟩:=zN (bl s.data.toList kx);rw[hj0]at C1 hhd b1 b2;have zV:=ae C1;have zB:=jU.o j0;have PK:=CK.o j0;obtain⟨KR,lw⟩:=zN (dw s.data.toList j0);rw[lw]at zB PK hhd;have wM:Hd (_=S):=hhd;have afO:=ae zB;have afP:=ae PK;clear hrd hown hg hhd C1 zB PK hj0 lw;go_wp2_with (first|(go_at_call 66;refine zV.o.mono ?_));rintro e w2 ⟨rfl,hr2,hg2⟩;have HR2:=ae hr2;have HG2:=ae (dK kz.o hg2);have afQ:=ae (bY HOW.o fun g' cur' hh hc=>hg2.block g' (aG hc) (by simp only[ne_eq,Option.some.injEq];exact aZ hc lI.o (by decide)));clear hr2 hg2;go_wp2_with (go_at_call 100;refine(afP.o _ HR2.o b2 HG2.o).mono ?_);rintro e w3 ⟨p1,p2,p3⟩;have aU:=ae (dK HG2.o p3)
  cases KR with
  |error ec=>
   obtain⟨ec1,ec2⟩:=ec;obtain⟨ka,kb,v,rfl,F,rfl,hF⟩:=p2 ec1 ec2 rfl;have dS:Hd (dD w3 (.iface 99 (.pointer (some ⟨F,0,none⟩))) E ec1 ec2):=⟨F,rfl,hF⟩;have aB:Hd (S=.error (ec1,ec2)):=wM.o.symm;clear p1 p2 p3 hF;have dh:Hd (w.grownBy (w3.alloc (.cells #[.string ka,.int .i64 kb] 173)) (some R)):=aP aU.o (World.grownBy_alloc _ _ none);have cZ:Hd (dD (w3.alloc (.cells #[.string ka,.int .i64 kb] 173)) (.iface 99 (.pointer (some ⟨F,0,none⟩))) E ec1 ec2):=FaultV.grow dS.o (World.grownBy_alloc _ _ none);go_wp2;refine bodyPost_ret (results_tmp2 (t:=2) (u:=3) rfl _ _ _) rfl ?_;rw[aB.o];exact⟨fun l j hh=>(by cases hh),fun c p hh=>(by cases hh;exact⟨F,rfl,cZ.o⟩),dh.o⟩
  |ok q=>
   obtain⟨kk,j⟩:=q;obtain⟨rfl,hr3⟩:=p1 kk j rfl;obtain⟨k1,k2⟩:=afO.o kk j b2 rfl;have hown3:=bY afQ.o fun g' cur' hh hc=>p3.block g' (aG hc) (by simp only[ne_eq,Option.some.injEq];exact aZ hc HR2.o (by decide))
   have HR3:=ae hr3;have hnb:=heap_alloc_new (w3.alloc (.cells #[.string ⟨kk.toArray⟩,.int .i64 (j0:Nat)] 173)) (.cells #[.string ⟨kk.toArray⟩,.int .i64 (j0:Nat)] 173);rw[World.size_alloc]at hnb;have EC:=ae hnb;have hsz3:=aU.o.size;have hone:=afM (kk,j0)
   try simp only[]at hone
   clear p1 p2 p3 hr3 hnb;go_wp2_with (first|(at_builtin;refine wpList_append_lies _ rfl _ _ 168 rfl w.heap.size 173 i0 _ 2 24 underlying168 hi0 hz0 hz1 hzb rfl (by decide) u4 acc.length (qY acc) rfl ((hown3.alloc _).alloc _) ⟨w3.heap.size+1,0,none⟩ 1 1 [.string ⟨kk.toArray⟩,.int .i64 (j0:Nat)] rfl rfl (World.news_of_block EC.o) hone (by omega) (by unfold maxLen;omega) (by omega) (by simp;omega) _ rfl ?_));intro g cap w6 hown6 hgrow hat hlt6;have qO:=(HR3.o.grow (World.grownBy_alloc w3 (.cells #[.string ⟨kk.toArray⟩,.int .i64 (j0:Nat)] 173) none)).grow (World.grownBy_alloc _ (.cells #[.string ⟨kk.toArray⟩,.int .i64 (j0:Nat)] 173) none);have hown5:=(hown3.alloc (.cells #[.string ⟨kk.toArray⟩,.int .i64 (j0:Nat)] 173)).alloc (.cells #[.string ⟨kk.toArray⟩,.int .i64 (j0:Nat)] 173);have oN:Hd (Rd w6 R s j T):=(hgrow.block R (aG qO) (fun e=>by
    obtain⟨-,cc,hcc⟩:=dO hown5 e.symm;exact aZ qO hcc (by decide) rfl)).trans qO
   have lL:=ae (PI (aP (aP aU.o (World.grownBy_alloc _ _ none)) (World.grownBy_alloc _ _ none)) hgrow (fun b hb=>(dO hown5 hb).1));have afR:Hd (w6.ownsRow w.heap.size 173 2 (.slice (some ⟨g,0,none⟩) (acc.length+1) cap) (acc.length+1) (qY (acc++[(kk,j0)]))):=by
    show World.ownsRow _ _ _ _ _ _ _;rw[afI];exact hown6
   have C7:=CS.o j w6 oN.o k2;obtain⟨d1,d2⟩:=fV.o j k2;have FY:=wM.o
   try simp only[]at FY
   obtain⟨j7,FZ⟩:=zN (bl s.data.toList j);rw[FZ]at C7 d1 d2 FY;have PL:=ae C7;have Ya:=ae (dC.o j7);have C8:=ae (fun w' (hh:Rd w' R s j7 T)=>CN.o j7 w' hh d2);obtain⟨y,hy⟩:=zN (nx s.data.toList j7);rw[hy]at FY Ya C8;have Yb:Hd (_=S):=FY;clear hown6 hgrow hat hlt6 qO hown5 hown3 C7 FY FZ hy hone hsz3;go_wp2_with (first|(go_at_call 66;refine PL.o.mono ?_));rintro e w7 ⟨rfl,Yc,iV⟩;have yc:=ae Yc;have BN:=ae (dK lL.o iV);have afS:=ae (bY afR.o fun g' cur' hh hc=>iV.block g' (aG hc) (by simp only[ne_eq,Option.some.injEq];exact aZ hc oN.o (by decide)));clear Yc iV;go_wp2_with (first|(go_at_call 67;refine(C8.o _ yc.o).mono ?_));rintro e w8 ⟨rfl,oQ⟩;have sD:=ae (yc.o.grow oQ);have BP:=ae (aP BN.o oQ);have Yd:=ae (bY afS.o fun g' cur' hh hc=>oQ.block g' (aG hc) (by simp))
   clear oQ;have ou:Hd ((acc++[(kk,j0)]).length=acc.length+1):=by show _=_;simp
   by_cases c46:y=46
   ·have e46:(y != 46)=false:=by simp[c46]
    have hjl:=Ya.o c46;have ed:Hd (gV s.data.toList f (j7+1) (acc++[(kk,j0)])=S):=by
     have:=Yb.o;rw[if_pos c46]at this;exact this
    obtain⟨-,r1,-,rf⟩:=sD.o.cells;have rf1:=rf 1;have Ye:Hd (Rd (w8.setCell ⟨R,1,none⟩ (.int .i64 ((j7:Int)+1))) R s (j7+1) T):=sD.o.set (j7+1);have HO9:Hd ((w8.setCell ⟨R,1,none⟩ (.int .i64 ((j7:Int)+1))).ownsRow w.heap.size 173 2 (.slice (some ⟨g,0,none⟩) (acc.length+1) cap) (acc++[(kk,j0)]).length (qY (acc++[(kk,j0)]))):=by
     show World.ownsRow _ _ _ _ _ _ _;rw[ou.o];exact bY Yd.o fun g' cur' hh hc=>heap_setCell_other _ _ _ _ (aZ hc sD.o (by decide))
    clear c46 rf;go_wp2;go_roundw
    case rel=>exact⟨rfl,rfl,j7+1,f,acc++[(kk,j0)],Ye.o,by omega,HO9.o,aT BP.o 1 _,by omega,ed.o,by rw[ou.o];omega⟩
    case measure=>
     rw[eY.o,Ye.o.cells.2.1];simp;omega
   ·have e46:(y != 46)=true:=by simp[c46]
    have aB:Hd (S=.ok (acc++[(kk,j0)],j7)):=by
     have:=Yb.o;rw[if_neg c46]at this;exact this.symm
    clear c46;go_wp2;refine bodyPost_ret (results_tmp2 (t:=2) (u:=3) rfl _ _ _) rfl ?_;rw[aB.o];obtain⟨hky,hcp⟩:=afJ Yd.o ou.o;exact⟨fun l j hh=>(by cases hh;exact⟨g,cap,by rw[ou.o];rfl,hky,by rw[ou.o];exact hcp,sD.o⟩),fun c p hh=>(by cases hh),BP.o⟩
theorem afT(d:Nat)(h:d<=8):IntKind.i64.wrap ((d:Int)+1)=(d:Int)+1:=by
 rw[IntKind.wrap_i64];omega
theorem afU{E:Int->TypeId × Value}{own:List Nat}{now:Nat}{r:Rs (Nat × List Tn)}(hb:Below B w w')(h:wI B R T s E own now r w' e w''):∃v,e=.returned v/\Hd (wI B R T s E own now r w (.returned v) w''):=by
 cases r with
 |error ec=>
  obtain⟨c,p⟩:=ec;obtain⟨v,rfl,hv⟩:=h.2.1 c p rfl;exact⟨v,rfl,fun j ns hh=>(by cases hh),fun c p hh=>(by cases hh;exact⟨v,rfl,hv⟩),hb.trans h.2.2⟩
 |ok q=>
  obtain⟨j,ns⟩:=q;obtain⟨rfl,h1,h2⟩:=h.1 j ns rfl;exact⟨_,rfl,fun j ns hh=>(by cases hh;exact⟨rfl,h1,h2⟩),fun c p hh=>(by cases hh),hb.trans h.2.2⟩
theorem afV(F:Nat)(IH:XZ F):FW (F+1):=by
 intro B R T s E own now i up k p d ns w h htr G hR hi hs W V hu h2 hfree hk hd hsz hF;have hB:=htr.base;have hl:s.data.toList.length=s.size:=by simp
 have CN:=ae (fun k w (h1:Rd w R s k T) (h2:k<=s.size)=>nN R s k T w h1 h2 (by omega));have CD:=ae Iu;have CA:=ae (fun(kd:Int) w' (h':Tr w' B T ns own now)=>BA B T ns own now up kd k p w' h' W hu hfree (by omega) hk);have CH:Hd (∀w',Below B w w'->Rd w' R s i T->Calls prog 104 #[.pointer (some ⟨R,0,none⟩)] w' fun e w''=>(∃v,e=.returned v/\dD w'' v E 2 i)/\w'.grownBy w'' none):=fun w' hb hr=>(xC R s i T (E 2).1 (E 2).2 w' hr (G.bel hb).es.te).mono fun e w'' h=>h
 have CW:Hd (∀w,Calls prog 124 #[.iface (E 4).1 (E 4).2,.int .i64 (i:Nat)] w fun e w'=>(∃v,e=.returned v/\dD w' v E 4 i)/\w.grownBy w' none):=fun w=>uh i (E 4).1 (E 4).2 w
 have CQ:=ae (fun(hx:nx s.data.toList i=34) w' (hb:Below B w w') (hr:Rd w' R s i T)=>WB R s i T E w' hr (by have:=bD (l:=s.data.toList) (i:=i) (by rw[hx];decide);omega) (by omega) (G.bel hb).es (CY G.lo hR) (G.bel hb).tabs (by have:=G.t3;omega) (by have:=G.t4;omega));have CI:=ae (fun(hx:(nx s.data.toList i=43\/nx s.data.toList i=45\/aI (nx s.data.toList i)=true)) w' (hb:Below B w w') (hr:Rd w' R s i T)=>acF R s i T E w' hr (by omega) (G.bel hb).es (CY G.lo hR) (by rcases hx with h|h|h;exact Or.inr (Or.inl h);exact Or.inr (Or.inr h);exact Or.inl h));have CT:=ae (fun w' (hb:Below B w w') (hr:Rd w' R s i T)=>abh R s i T E w' hr hi (by omega) (G.bel hb).es (CY G.lo hR));have CL:Hd (nx s.data.toList i=91->¬d=8->∀w',Below B w w'->Rd w' R s i T->Tr w' B T (addN ns up ⟨1,k,[],0,[],p⟩) own now->Calls prog 128 #[.pointer (some ⟨R,0,none⟩),.int .i64 (ns.length:Nat),.int .i64 ((d+1:Nat):Int)] w' (wI B R T s E own now (lst s.data.toList F (i+1) ns.length (d+1) (addN ns up ⟨1,k,[],0,[],p⟩)) w')):=fun hx hd8 w' hb hr ht=>by
  have hlt:i<s.size:=by have:=bD (l:=s.data.toList) (i:=i) (by rw[hx];decide);omega
  have A:=Bv (i:=i) (j:=i+1) (n:=s.size) (x:=⟨1,k,[],0,[],p⟩) W V hu h2 rfl (fun e=>absurd (show(1:Int)=2 from e) (by decide)) (by omega) (by omega);exact IH B R T s E own now i ns.length (d+1) _ w' hr ht (G.bel hb) hR hlt hs A.wf A.wt (by rw[bW];omega) (by rw[eX ns up _ hu,if_pos rfl]) (by omega) (by rw[bW];omega) (by omega)
 have Dl:=ae (fun w' (hb:Below B w w')=>(G.bel hb).es.ma);have Yf:=ut s.data.toList F i up k p d ns;have HV:Hd (val s.data.toList (F+1) i up k p d ns=_):=Yf;obtain⟨S,hS⟩:=zN (val s.data.toList (F+1) i up k p d ns);rw[hS]at HV ⊢;obtain⟨SQ,FU⟩:=zN (str s.data.toList (s.data.toList.length+1) (i+1) []);obtain⟨SI,Yg⟩:=zN (ji s.data.toList i);obtain⟨SU,Yh⟩:=zN (l7 s.data.toList i);rw[FU]at CQ HV;rw[Yg]at CI HV;rw[Yh]at CT HV;have eH:w.grownBy (w.alloc (.cells #[.string ⟨k.toArray⟩,.int .i64 (p:Nat)] 173)) none:=World.grownBy_alloc w _ none;have bV:=heap_alloc_new w (.cells #[.string ⟨k.toArray⟩,.int .i64 (p:Nat)] 173);obtain⟨K,kZ⟩:=zN (w.heap.size);rw[kZ]at bV;obtain⟨w1,hw1⟩:=zN (w.alloc (.cells #[.string ⟨k.toArray⟩,.int .i64 (p:Nat)] 173));rw[hw1]at eH bV;have H1:=ae (h.grow eH);have C1:=ae (CN.o i w1 H1.o hi)
 obtain⟨x,hx⟩:=zN (nx s.data.toList i);rw[hx]at C1 HV CQ CI CL;have aC:=ae eH;have jf:=ae bV;have nY:=ae htr;clear Yf hS FU Yg Yh eH bV hx h htr G W V h2 hfree IH;go_enter func102,ntmps102;go_wp2_with (go_at_call 67;refine C1.o.mono ?_);rintro e w2 ⟨rfl,hg2⟩;have HG2:=ae (ak aC.o hg2);have HR2:=ae (H1.o.grow hg2);have fD:=ae (jr jf.o hg2);have HT2:=ae (nY.o.gb HG2.o);obtain⟨-,r1,r2,-⟩:=HR2.o.cells;obtain⟨k0,k1,-⟩:=gY fD.o;clear hg2
 by_cases c34:x=34
 ·have afW:(x == 34)=true:=by simp[c34]
  have Yi:=CQ.o c34;have NZ:=ae Yi;have yC:Hd (S=match (generalizing:=false) SQ with | .error e=>.error e | .ok (t,j)=>.ok (j,addN ns up ⟨3,k,t,0,[],p⟩)):=(by show _=_;rw[HV.o,if_pos c34];try rfl);clear c34 Yi HV CI CT CL;go_upto_region 3 with fail
  go_cut [10] from 24 (fun v wx=>v=.int .i64 (ns.length:Nat)/\Tr wx B T (addN ns up ⟨3,k,[],0,[],p⟩) own now/\Rd wx R s i T/\Below B w wx)
  case first=>
   go_region_with (first|(go_at_call 125;refine(CA.o 3 _ (HT2.o.gb (lS w2))).mono ?_;rintro e w3 ⟨rfl,ht3,hf3⟩))
   all_goals (
    go_wp2_with fail;go_meet;exact⟨rfl,ht3,Rd.fr (w:=w2.drew) HR2.o hf3,(oz HG2.o hB).trans (Below.trans (oz (lS w2) (Nat.le_trans hB HG2.o.size)) hf3.bel)⟩)
  case rest=>
   obtain⟨rfl,ht3,hr3,hb3⟩:=hcut;have HT3:=ae ht3;have HB3:=ae hb3;have HR3:=ae hr3;clear ht3 hr3 hb3 r1 r2 k0 k1;go_wp2_with (first|(go_at_call 122;refine(NZ.o _ HB3.o HR3.o).mono ?_));rintro e w4 ⟨p1,p2,p3⟩;have HT4:=ae (HT3.o.keepR HR3.o p3);have HB4:=ae (HB3.o.trans (kL p3 hR HT3.o.base));obtain⟨N,cc,t0,⟨cs,hN⟩,hBN,n2,n3,s2,s3⟩:=HT4.o.last;have HN:=ae hN;have hnf:w4.frozen? ⟨N,ns.length*6+2,none⟩=false:=Lib.frozen_of_heap hN _;have F5:=ae s2;have hnl:ns.length<ns.length+1:=by omega
   cases SQ with
   |error ec=>
    obtain⟨ec1,ec2⟩:=ec;obtain⟨v,rfl,hv,jj,hjj⟩:=p2 ec1 ec2 rfl;obtain⟨-,-,hrr,-⟩:=hjj.cells;have dS:=ae hv;have aB:Hd (S=.error (ec1,ec2)):=yC.o;clear p1 p2 p3 hv hN s2 s3 hjj;go_wp2;refine bodyPost_ret (results_tmp (t:=8) rfl _ _ _) rfl ?_;rw[aB.o];exact⟨fun j ns hh=>(by cases hh),fun c p hh=>(by cases hh;exact⟨v,rfl,Pq dS.o HN.o⟩),yx HB4.o hBN _ _⟩
   |ok q=>
    obtain⟨tx,j⟩:=q;obtain⟨rfl,hr4⟩:=p1 tx j rfl;have HR4:=ae hr4;obtain⟨-,-,hrr,-⟩:=hr4.cells;have aB:Hd (S=.ok (j,addN ns up ⟨3,k,tx,0,[],p⟩)):=yC.o;clear p1 p2 p3 hr4 hN s2 s3;go_wp2;refine bodyPost_ret (results_tmp (t:=8) rfl _ _ _) rfl ?_;rw[aB.o];exact⟨fun j ns hh=>(by cases hh;exact⟨rfl,HR4.o.node HN.o,F5.o tx⟩),fun c p hh=>(by cases hh),yx HB4.o hBN _ _⟩
 ·have afW:(x == 34)=false:=by simp[c34]
  have JO:Hd (S=if x=43\/x=45\/aI x=true then(match (generalizing:=false) SI with | .error e=>.error e | .ok (n,j)=>.ok (j,addN ns up ⟨4,k,[],n,[],p⟩)) else if x=116\/x=102 then(match (generalizing:=false) SU with | .error e=>.error e | .ok (n,j)=>.ok (j,addN ns up ⟨5,k,[],n,[],p⟩)) else if x=91 then(if d=8 then .error (4,i) else lst s.data.toList F (i+1) ns.length (d+1) (addN ns up ⟨1,k,[],0,[],p⟩)) else .error (2,i)):=(by show _=_;rw[HV.o,if_neg c34];try rfl);clear c34 HV CQ;obtain⟨bI,Jk⟩:=zN (decide (x=43\/x=45\/aI x=true));have Dn:=ae Jk;clear Jk;go_upto_region 7 with fail
  go_cut [48] from 49 (fun v wx=>v=.bool bI/\wx=w2)
  case first=>
   by_cases a1:x=43
   ·have e1:(x == 43)=true:=by simp[a1]
    have e2:bI=true:=by rw[<-Dn.o];simp[a1]
    subst e2;clear a1;go_wp2;go_meet;exact⟨rfl,rfl⟩
   ·have e1:(x == 43)=false:=by simp[a1]
    by_cases a2:x=45
    ·have e3:(x == 45)=true:=by simp[a2]
     have e2:bI=true:=by rw[<-Dn.o];simp[a2]
     subst e2;clear a1 a2;go_wp2;go_meet;exact⟨rfl,rfl⟩
    ·have e3:(x == 45)=false:=by simp[a2]
     have Fv:=ae (fun w=>CD.o x w);have e2:aI x=bI:=by rw[<-Dn.o];simp[a1,a2]
     rw[e2]at Fv;clear a1 a2 e2;go_wp2_with (go_at_call 99;refine(Fv.o _).mono ?_;rintro e w' ⟨rfl,rfl⟩);go_meet;exact⟨rfl,rfl⟩
  case rest=>
   obtain⟨rfl,rfl⟩:=hcut;obtain⟨w2,hw2⟩:∃w2,w2=wc:=⟨_,rfl⟩;subst hw2
   cases bI with
   |true=>
    have hI:=of_decide_eq_true Dn.o;have wO:=ae (CI.o hI);have yC:Hd (S=match (generalizing:=false) SI with | .error e=>.error e | .ok (n,j)=>.ok (j,addN ns up ⟨4,k,[],n,[],p⟩)):=(by show _=_;rw[JO.o,if_pos hI];try rfl);clear hI CI CT CL JO;go_upto_region 8 with fail
    go_cut [13] from 59 (fun v wx=>v=.int .i64 (ns.length:Nat)/\Tr wx B T (addN ns up ⟨4,k,[],0,[],p⟩) own now/\Rd wx R s i T/\Below B w wx)
    case first=>
     go_region_with (first|(go_at_call 125;refine(CA.o 4 _ (HT2.o.gb (lS w2))).mono ?_;rintro e w3 ⟨rfl,ht3,hf3⟩))
     all_goals (
      go_wp2_with fail;go_meet;exact⟨rfl,ht3,Rd.fr (w:=w2.drew) HR2.o hf3,(oz HG2.o hB).trans (Below.trans (oz (lS w2) (Nat.le_trans hB HG2.o.size)) hf3.bel)⟩)
    case rest=>
     obtain⟨rfl,ht3,hr3,hb3⟩:=hcut;have HT3:=ae ht3;have HB3:=ae hb3;have HR3:=ae hr3;clear ht3 hr3 hb3 r1 r2 k0 k1;go_wp2_with (first|(go_at_call 126;refine(wO.o _ HB3.o HR3.o).mono ?_));rintro e w4 ⟨p1,p2,p3⟩;have HT4:=ae (HT3.o.keepR HR3.o p3);have HB4:=ae (HB3.o.trans (kL p3 hR HT3.o.base));obtain⟨N,cc,t0,⟨cs,hN⟩,hBN,n2,n3,s2,s3⟩:=HT4.o.last;have HN:=ae hN;have hnf:w4.frozen? ⟨N,ns.length*6+3,none⟩=false:=Lib.frozen_of_heap hN _;have F5:=ae s3;have hnl:ns.length<ns.length+1:=by omega
     cases SI with
     |error ec=>
      obtain⟨ec1,ec2⟩:=ec;obtain⟨v,rfl,hv,jj,hjj⟩:=p2 ec1 ec2 rfl;obtain⟨-,-,hrr,-⟩:=hjj.cells;have dS:=ae hv;have aB:Hd (S=.error (ec1,ec2)):=yC.o;clear p1 p2 p3 hv hN s2 s3 hjj;go_wp2;refine bodyPost_ret (results_tmp (t:=8) rfl _ _ _) rfl ?_;rw[aB.o];exact⟨fun j ns hh=>(by cases hh),fun c p hh=>(by cases hh;exact⟨v,rfl,Pq dS.o HN.o⟩),yx HB4.o hBN _ _⟩
     |ok q=>
      obtain⟨tx,j⟩:=q;obtain⟨rfl,hr4⟩:=p1 tx j rfl;have HR4:=ae hr4;obtain⟨-,-,hrr,-⟩:=hr4.cells;have aB:Hd (S=.ok (j,addN ns up ⟨4,k,[],tx,[],p⟩)):=yC.o;clear p1 p2 p3 hr4 hN s2 s3;go_wp2;refine bodyPost_ret (results_tmp (t:=8) rfl _ _ _) rfl ?_;rw[aB.o];exact⟨fun j ns hh=>(by cases hh;exact⟨rfl,HR4.o.node HN.o,F5.o tx⟩),fun c p hh=>(by cases hh),yx HB4.o hBN _ _⟩
   |false=>
    have hI:=of_decide_eq_false Dn.o;have mi:Hd (S=if x=116\/x=102 then(match (generalizing:=false) SU with | .error e=>.error e | .ok (n,j)=>.ok (j,addN ns up ⟨5,k,[],n,[],p⟩)) else if x=91 then(if d=8 then .error (4,i) else lst s.data.toList F (i+1) ns.length (d+1) (addN ns up ⟨1,k,[],0,[],p⟩)) else .error (2,i)):=(by show _=_;rw[JO.o,if_neg hI];try rfl);clear hI JO CI Dn;obtain⟨bU,Yj⟩:=zN (decide (x=116\/x=102));have F6:=ae Yj;clear Yj;go_upto_region 12 with fail
    go_cut [83] from 84 (fun v wx=>v=.bool bU/\wx=w2)
    case first=>
     by_cases a1:x=116
     ·have e1:(x == 116)=true:=by simp[a1]
      have e2:bU=true:=by rw[<-F6.o];simp[a1]
      subst e2;clear a1;go_wp2;go_meet;exact⟨rfl,rfl⟩
     ·have e1:(x == 116)=false:=by simp[a1]
      have e2:(x == 102)=bU:=by rw[<-F6.o];by_cases h:x=102<;>simp[a1,h]
      clear a1;go_wp2;go_meet;exact⟨rfl,rfl⟩
    case rest=>
     obtain⟨rfl,rfl⟩:=hcut;obtain⟨w2,hw2⟩:∃w2,w2=wc:=⟨_,rfl⟩;subst hw2
     cases bU with
     |true=>
      have hU:=of_decide_eq_true F6.o;have yC:Hd (S=match (generalizing:=false) SU with | .error e=>.error e | .ok (n,j)=>.ok (j,addN ns up ⟨5,k,[],n,[],p⟩)):=(by show _=_;rw[mi.o,if_pos hU];try rfl);clear hU CL mi;go_upto_region 13 with fail
      go_cut [16] from 90 (fun v wx=>v=.int .i64 (ns.length:Nat)/\Tr wx B T (addN ns up ⟨5,k,[],0,[],p⟩) own now/\Rd wx R s i T/\Below B w wx)
      case first=>
       go_region_with (first|(go_at_call 125;refine(CA.o 5 _ (HT2.o.gb (lS w2))).mono ?_;rintro e w3 ⟨rfl,ht3,hf3⟩))
       all_goals (
        go_wp2_with fail;go_meet;exact⟨rfl,ht3,Rd.fr (w:=w2.drew) HR2.o hf3,(oz HG2.o hB).trans (Below.trans (oz (lS w2) (Nat.le_trans hB HG2.o.size)) hf3.bel)⟩)
      case rest=>
       obtain⟨rfl,ht3,hr3,hb3⟩:=hcut;have HT3:=ae ht3;have HB3:=ae hb3;have HR3:=ae hr3;clear ht3 hr3 hb3 r1 r2 k0 k1;go_wp2_with (first|(go_at_call 127;refine(CT.o _ HB3.o HR3.o).mono ?_));rintro e w4 ⟨p1,p2,p3⟩;have HT4:=ae (HT3.o.keepR HR3.o p3);have HB4:=ae (HB3.o.trans (kL p3 hR HT3.o.base));obtain⟨N,cc,t0,⟨cs,hN⟩,hBN,n2,n3,s2,s3⟩:=HT4.o.last;have HN:=ae hN;have hnf:w4.frozen? ⟨N,ns.length*6+3,none⟩=false:=Lib.frozen_of_heap hN _;have F5:=ae s3;have hnl:ns.length<ns.length+1:=by omega
       cases SU with
       |error ec=>
        obtain⟨ec1,ec2⟩:=ec;obtain⟨v,rfl,hv,jj,hjj⟩:=p2 ec1 ec2 rfl;obtain⟨-,-,hrr,-⟩:=hjj.cells;have dS:=ae hv;have aB:Hd (S=.error (ec1,ec2)):=yC.o;clear p1 p2 p3 hv hN s2 s3 hjj;go_wp2;refine bodyPost_ret (results_tmp (t:=8) rfl _ _ _) rfl ?_;rw[aB.o];exact⟨fun j ns hh=>(by cases hh),fun c p hh=>(by cases hh;exact⟨v,rfl,Pq dS.o HN.o⟩),yx HB4.o hBN _ _⟩
       |ok q=>
        obtain⟨tx,j⟩:=q;obtain⟨rfl,hr4⟩:=p1 tx j rfl;have HR4:=ae hr4;obtain⟨-,-,hrr,-⟩:=hr4.cells;have aB:Hd (S=.ok (j,addN ns up ⟨5,k,[],tx,[],p⟩)):=yC.o;clear p1 p2 p3 hr4 hN s2 s3;go_wp2;refine bodyPost_ret (results_tmp (t:=8) rfl _ _ _) rfl ?_;rw[aB.o];exact⟨fun j ns hh=>(by cases hh;exact⟨rfl,HR4.o.node HN.o,F5.o tx⟩),fun c p hh=>(by cases hh),yx HB4.o hBN _ _⟩
     |false=>
      have hU:=of_decide_eq_false F6.o;have iW:Hd (S=if x=91 then(if d=8 then .error (4,i) else lst s.data.toList F (i+1) ns.length (d+1) (addN ns up ⟨1,k,[],0,[],p⟩)) else .error (2,i)):=(by show _=_;rw[mi.o,if_neg hU];try rfl);clear hU mi CT F6;have HB2:=ae (oz HG2.o hB)
      by_cases c91:x=91
      ·have e91:(x == 91)=true:=by simp[c91]
       by_cases d8:d=8
       ·have e8:((d:Int) == 8)=true:=by simp[d8]
        have aB:Hd (S=.error (4,i)):=by show _=_;rw[iW.o,if_pos c91,if_pos d8]
        have hma:=Dl.o w2 HB2.o;have PM:=CW.o;obtain⟨ty,hty⟩:=zN ((E 4).1);obtain⟨pv,hpv⟩:=zN ((E 4).2);rw[hty,hpv]at hma PM;have CW1:=ae PM;clear PM CW Dl hty hpv c91 d8 CL iW;go_wp2;go_region_with (first|(go_at_call 124;refine(CW1.o _).mono ?_;rintro e w5 ⟨⟨v,rfl,hv⟩,hg5⟩))
        all_goals (
         go_wp2;refine bodyPost_ret (results_tmp (t:=8) rfl _ _ _) rfl ?_;rw[aB.o];exact⟨fun j ns hh=>(by cases hh),fun c p hh=>(by cases hh;exact⟨v,rfl,hv⟩),HB2.o.trans ((oz (lS w2) (Nat.le_trans hB HG2.o.size)).trans (oz hg5 (Nat.le_trans hB HG2.o.size)))⟩)
       ·have e8:((d:Int) == 8)=false:=by rw[beq_eq_false_iff_ne];omega
        have aB:Hd (S=lst s.data.toList F (i+1) ns.length (d+1) (addN ns up ⟨1,k,[],0,[],p⟩)):=by show _=_;rw[iW.o,if_pos c91,if_neg d8]
        have nG:=CL.o c91 d8;obtain⟨SL,Yk⟩:=zN (lst s.data.toList F (i+1) ns.length (d+1) (addN ns up ⟨1,k,[],0,[],p⟩));rw[Yk]at aB nG;have Dp:Hd (∀w',Below B w w'->Rd w' R s i T->Tr w' B T (addN ns up ⟨1,k,[],0,[],p⟩) own now->Calls prog 128 #[.pointer (some ⟨R,0,none⟩),.int .i64 (ns.length:Nat),.int .i64 ((d:Int)+1)] w' (wI B R T s E own now SL w')):=nG;clear nG CL iW c91 d8 Yk;have nH:=ae (lS w2);have uO:=ae (HT2.o.gb nH.o);have dJ:Hd (Rd w2.drew R s i T):=HR2.o;have BM:=ae (HB2.o.trans (oz nH.o (Nat.le_trans hB HG2.o.size)));have Bq:Hd (Calls prog 125 #[.pointer (some ⟨T,0,none⟩),.int .i64 (up:Nat),.int .i64 1,.agg #[.string ⟨k.toArray⟩,.int .i64 (p:Nat)]] w2.drew fun e w'=>e=.returned (.int .i64 (ns.length:Nat))/\Hd (Tr w' B T (addN ns up ⟨1,k,[],0,[],p⟩) own now/\Rd w' R s i T/\Below B w w')):=(CA.o 1 _ uO.o).mono fun e w' ⟨a,b,c⟩=>⟨a,b,dJ.o.fr c,BM.o.trans c.bel⟩
        have CL3:Hd (∀w',Hd (Tr w' B T (addN ns up ⟨1,k,[],0,[],p⟩) own now/\Rd w' R s i T/\Below B w w')->Calls prog 128 #[.pointer (some ⟨R,0,none⟩),.int .i64 (ns.length:Nat),.int .i64 (IntKind.i64.wrap ((d:Int)+1))] w' fun e w''=>∃v,e=.returned v/\Hd (wI B R T s E own now SL w (.returned v) w'')):=fun w' hh=>by
         have hwd:=afT d hd;rw[hwd];exact(Dp.o w' hh.o.2.2 hh.o.2.1 hh.o.1).mono fun e w'' hq=>afU hh.o.2.2 hq
        clear CA Dp CN CD CH CW Dl nH uO dJ BM HT2 HR2 HG2 HB2 aC jf nY fD H1 C1;go_wp2;go_region_with (first|(go_at_call 125;refine Bq.o.mono ?_;rintro e w3 ⟨rfl,h3⟩)|(go_at_call 128;refine(CL3.o _ h3).mono ?_;rintro e w5 ⟨v,rfl,hv⟩))
        all_goals (
         go_wp2;refine bodyPost_ret (results_tmp (t:=8) rfl _ _ _) rfl ?_;rw[aB.o];exact hv.o)
      ·have e91:(x == 91)=false:=by simp[c91]
       have aB:Hd (S=.error (2,i)):=by show _=_;rw[iW.o,if_neg c91]
       clear c91 CL iW;go_wp2_with (go_at_call 104;refine(CH.o _ HB2.o HR2.o).mono ?_;rintro e w5 ⟨⟨v,rfl,hv⟩,hg5⟩);refine bodyPost_ret (results_tmp (t:=8) rfl _ _ _) rfl ?_;rw[aB.o];exact⟨fun j ns hh=>(by cases hh),fun c p hh=>(by cases hh;exact⟨v,rfl,hv⟩),HB2.o.trans (oz hg5 (Nat.le_trans hB HG2.o.size))⟩
theorem afX:FW 0:=by
 intro B R T s E own now i up k p d ns w _ _ _ _ _ _ _ _ _ _ _ _ _ _ hF;omega
theorem PN:∀F:Nat,∀f,f<=F->FW f
 | 0,f,h=>by
  have:f=0:=by omega
  subst this;exact afX
 | F+1,f,h=>by
  by_cases he:f<=F
  ·exact PN F f he
  ·have:f=F+1:=by omega
   subst this;exact afV F (afD F fun f hf=>PN F f (by omega))
theorem afY(f:Nat):FW f:=PN f f (Nat.le_refl _)
def sS(B R T:Nat)(s:ByteArray)(E:Int->TypeId × Value)(r:Rs Sd)(w:World)(e:Ending)(w':World):Prop :=
 (∀d,r=.ok d->e=.returned .nilIface/\Rd w' R s d.i T/\Tr w' B T d.ns d.own d.now)/\(∀c p,r=.error (c,p)->∃F,e=.returned (.iface 99 (.pointer (some ⟨F,0,none⟩)))/\dD w' (.iface 99 (.pointer (some ⟨F,0,none⟩))) E c p)/\Below B w w'
def PO(own:List Nat)(now:Nat):Rs (Nat × List Tn)->Rs Sd
 | .error e=>.error e
 | .ok (j,ns)=>.ok ⟨j,ns,own,now⟩
theorem PQ(l:List UInt8)(i:Nat)(ns:List Tn)(own:List Nat)(now:Nat):rdPair l ⟨i,ns,own,now⟩ =
  match dw l i with
  | .error e=>.error e
  | .ok (k,j)=>match must l (bl l j) 61 with
   | .error e=>.error e
   | .ok j1=>match aK ns now k with
    |some _=>.error (5,i)
    |none=>PO own now (val l (2*l.length+2) (bl l j1) now k i 0 ns):=by
 unfold rdPair
 cases dw l i with
 |error e=>rfl
 |ok q=>
  obtain⟨k,j⟩:=q;simp only[]
  cases must l (bl l j) 61 with
  |error e=>rfl
  |ok j1=>
   simp only[]
   cases aK ns now k with
   |some q=>rfl
   |none=>
    simp only[]
    cases val l (2*l.length+2) (bl l j1) now k i 0 ns with
    |error e=>rfl
    |ok q=>rfl
theorem afZ{E:Int->TypeId × Value}{own:List Nat}{now:Nat}{v:Rs (Nat × List Tn)}(hb:Below B w w')(h:wI B R T s E own now v w' e w''):∃u,e=.returned u/\Hd (sS B R T s E (PO own now v) w (.returned u) w''):=by
 cases v with
 |error ec=>
  obtain⟨c,p⟩:=ec;obtain⟨u,rfl,F,rfl,hF⟩:=h.2.1 c p rfl;exact⟨_,rfl,fun d hh=>(by cases hh),fun c p hh=>(by cases hh;exact⟨F,rfl,F,rfl,hF⟩),hb.trans h.2.2⟩
 |ok q=>
  obtain⟨j,ns⟩:=q;obtain⟨rfl,h1,h2⟩:=h.1 j ns rfl;exact⟨_,rfl,fun d hh=>(by cases hh;exact⟨rfl,h1,h2⟩),fun c p hh=>(by cases hh),hb.trans h.2.2⟩
theorem af0(B R T:Nat)(s:ByteArray)(E:Int->TypeId × Value)(own:List Nat)(now i:Nat)(ns:List Tn)(w:World)(h:Rd w R s i T)(htr:Tr w B T ns own now)(G:Gl w B E)(hR:B<=R)(hi:i<=s.size)(hs:s.size<=100000)(J:Jt ns own now)(hsz:ns.length+own.length+(s.size-i)<=700000) :
  Calls prog 70 #[.pointer (some ⟨R,0,none⟩)] w (sS B R T s E (rdPair s.data.toList ⟨i,ns,own,now⟩) w):=by
 have hl:s.data.toList.length=s.size:=by simp
 have hB:=htr.base;have CK:=ae (XT R s i T B E w h hi (by omega) G hR hB);have CS:=ae (fun k w (h1:Rd w R s k T) (h2:k<=s.size)=>Iw R s k T w h1 h2 (by omega));have CT:Hd (∀k w',Rd w' R s k T->w.grownBy w' (some R)->k<=s.size->Calls prog 72 #[.pointer (some ⟨R,0,none⟩),.int .i64 61] w' fun e w''=>(∃v,e=.returned v/\Hd ((∀q,must s.data.toList k 61=.ok q->v=.nilIface/\Rd w'' R s q T)/\(∀c p,must s.data.toList k 61=.error (c,p)->∃F,v=.iface 99 (.pointer (some ⟨F,0,none⟩))/\dD w'' v E c p)))/\w'.grownBy w'' (some R)):=fun k w' h1 hg hk =>
  (MF R s k T 61 (E 2).1 (E 2).2 w' h1 hk (by omega) (by decide) (G.gb hg hR hB).es.te).mono fun e w'' ⟨a1,a2,a3⟩=>by
   unfold must
   by_cases hx:nx s.data.toList k=61
   ·rw[if_pos hx];exact⟨⟨_,(a1 hx).1,fun q hq=>(by cases hq;exact⟨rfl,(a1 hx).2⟩),fun c p hp=>(by cases hp)⟩,a3⟩
   ·rw[if_neg hx];obtain⟨⟨v,e1,F,rfl,hF⟩,-⟩:=a2 hx;exact⟨⟨_,e1,fun q hq=>(by cases hq),fun c p hp=>(by cases hp;exact⟨F,rfl,F,rfl,hF⟩)⟩,a3⟩
 have CF:Hd (∀(k:List UInt8) w',k.length<=1048576->w.grownBy w' (some R)->Calls prog 101 #[.pointer (some ⟨T,0,none⟩),.agg #[.string ⟨k.toArray⟩,.int .i64 (i:Nat)]] w' fun e w''=>(∃v,e=.returned v/\Hd ((aK ns now k=none->v=.nilIface)/\(∀q,aK ns now k=some q->∃F,v=.iface 99 (.pointer (some ⟨F,0,none⟩))/\dD w'' v E 5 i)))/\w'.grownBy w'' none):=fun k w' hk hg =>
  (adi B T ns own now E k i w' (htr.keepR h hg) J.kd (by have:=J.lt;omega) hk (G.gb hg hR hB).es).mono fun e w'' ⟨a1,a2,a3⟩=>by
   cases hq:aK ns now k with
   |none=>exact⟨⟨_,a1 hq,fun _=>rfl,fun q hh=>(by cases hh)⟩,a3⟩
   |some q=>
    obtain⟨v,e1,F,rfl,hF⟩:=a2 q hq;exact⟨⟨_,e1,fun hh=>(by cases hh),fun q hh=>⟨F,rfl,F,rfl,hF⟩⟩,a3⟩
 have CV:Hd (∀(k:List UInt8) j w',k.length<=1048576->j<=s.size->i<=j->aK ns now k=none->w.grownBy w' (some R)->Rd w' R s j T->Calls prog 102 #[.pointer (some ⟨R,0,none⟩),.int .i64 (now:Nat),.agg #[.string ⟨k.toArray⟩,.int .i64 (i:Nat)],.int .i64 0] w' fun e w''=>∃u,e=.returned u/\Hd (sS B R T s E (PO own now (val s.data.toList (2*s.data.toList.length+2) j now k i 0 ns)) w (.returned u) w'')):=fun k j w' hk hj hij hq hg hr =>
  (afY (2*s.data.toList.length+2) B R T s E own now j now k i 0 ns w' hr (htr.keepR h hg) (G.gb hg hR hB) hR hj hs J.wf J.wt J.lt (by rw[J.kd];decide) (fun _=>hq) hk (by omega) (by omega) (by omega)).mono fun e w'' hv=>afZ (kL hg hR hB) hv
 have jU:Hd (∀x j,dw s.data.toList i=.ok (x,j)->i<j/\j<=s.size/\x.length<=1048576):=fun x j a=>by
  have:=xK s.data.toList i x j (by omega) a;omega
 have fV:Hd (∀k,k<=s.size->k<=bl s.data.toList k/\bl s.data.toList k<=s.size):=fun k hk=>by rw[<-hl];exact jQ _ k (by omega)
 have pU:Hd (∀k q,must s.data.toList k 61=.ok q->q=k+1/\k<s.size):=fun k q a=>by
  unfold must at a;split at a
  ·rename_i hx;have:=bD (l:=s.data.toList) (i:=k) (by rw[hx];decide)
   cases a
   omega
  ·cases a
 have lu:=PQ s.data.toList i ns own now;obtain⟨S,hS⟩:=zN (rdPair s.data.toList ⟨i,ns,own,now⟩);rw[hS]at lu ⊢;obtain⟨KR,lw⟩:=zN (dw s.data.toList i);rw[lw]at lu CK jU;have HP:Hd (S=_):=lu;have nY:=ae htr;have H0:=ae h;clear lu hS lw h htr G J;go_enter func70,ntmps70;go_wp2_with (go_at_call 100;refine CK.o.mono ?_);rintro e w1 ⟨p1,p2,p3⟩
 cases KR with
 |error ec=>
  obtain⟨ec1,ec2⟩:=ec;obtain⟨ka,kb,v,rfl,F,rfl,hF⟩:=p2 ec1 ec2 rfl;have dS:Hd (dD w1 (.iface 99 (.pointer (some ⟨F,0,none⟩))) E ec1 ec2):=⟨F,rfl,hF⟩;have aB:Hd (S=.error (ec1,ec2)):=HP.o;have HBA:Hd (Below B w (w1.alloc (.cells #[.string ka,.int .i64 kb] 173))):=kL (aP p3 (World.grownBy_alloc _ _ none)) hR hB;have cZ:Hd (dD (w1.alloc (.cells #[.string ka,.int .i64 kb] 173)) (.iface 99 (.pointer (some ⟨F,0,none⟩))) E ec1 ec2):=FaultV.grow dS.o (World.grownBy_alloc _ _ none);clear p1 p2 p3 hF;go_wp2;refine bodyPost_ret (results_tmp (t:=2) rfl _ _ _) rfl ?_;rw[aB.o];exact⟨fun d hh=>(by cases hh),fun c p hh=>(by cases hh;exact⟨F,rfl,cZ.o⟩),HBA.o⟩
 |ok q=>
  obtain⟨k,j⟩:=q;obtain⟨rfl,hr1⟩:=p1 k j rfl;obtain⟨k1,k2,k3⟩:=jU.o k j rfl;have HP2:=HP.o
  try simp only[]at HP2
  have hgA:=aP p3 (World.grownBy_alloc w1 (.cells #[.string ⟨k.toArray⟩,.int .i64 (i:Nat)] 173) none);have JP:Rd (w1.alloc (.cells #[.string ⟨k.toArray⟩,.int .i64 (i:Nat)] 173)) R s j T:=hr1.grow (World.grownBy_alloc _ _ none);have yD:=heap_alloc_new w1 (.cells #[.string ⟨k.toArray⟩,.int .i64 (i:Nat)] 173);obtain⟨K,hK⟩:=zN (w1.heap.size);rw[hK]at yD;obtain⟨w2,hw2⟩:=zN (w1.alloc (.cells #[.string ⟨k.toArray⟩,.int .i64 (i:Nat)] 173));rw[hw2]at hgA JP yD;have HG2:=ae hgA;have HR2:=ae JP;have fD:=ae yD;have C3:=CS.o j w2 JP k2;obtain⟨b1,b2⟩:=fV.o j k2;obtain⟨j3,hj3⟩:=zN (bl s.data.toList j);rw[hj3]at C3 b1 b2 HP2;have PS:=ae C3;have lU:=CT.o j3;have uP:=pU.o j3;obtain⟨MU,mD⟩:=zN (must s.data.toList j3 61);rw[mD]at lU uP HP2;have JQ:=ae lU;have af1:=ae uP;have sU:Hd (S=_):=HP2;clear p1 p2 p3 hr1 hgA JP yD hj3 C3 lU uP mD HP2 HP jU
  go_wp2_with (go_at_call 66;refine PS.o.mono ?_);rintro e w3 ⟨rfl,hr3,hg3⟩;have HR3:=ae hr3;have aU:=ae (dK HG2.o hg3);have iY:=ae ((hg3.block K (aG fD.o) (by simp only[ne_eq,Option.some.injEq];exact aZ fD.o HR2.o (by decide))).trans fD.o);clear hr3 hg3;go_wp2_with (go_at_call 72;refine(JQ.o _ HR3.o aU.o b2).mono ?_);rintro e w4 ⟨⟨v,rfl,hv⟩,hg4⟩;have dn:=ae (dK aU.o hg4);have qh:=ae ((hg4.block K (aG iY.o) (by simp only[ne_eq,Option.some.injEq];exact aZ iY.o HR3.o (by decide))).trans iY.o);clear hg4
  cases MU with
  |error ec=>
   obtain⟨ec1,ec2⟩:=ec;obtain⟨F,rfl,hF⟩:=hv.o.2 ec1 ec2 rfl;have dS:=ae hF;have aB:Hd (S=.error (ec1,ec2)):=sU.o;clear hv hF;go_wp2;refine bodyPost_ret (results_tmp (t:=2) rfl _ _ _) rfl ?_;rw[aB.o];exact⟨fun d hh=>(by cases hh),fun c p hh=>(by cases hh;exact⟨F,rfl,dS.o⟩),kL dn.o hR hB⟩
  |ok j4=>
   obtain⟨rfl,hr4⟩:=hv.o.1 j4 rfl;obtain⟨m1,m2⟩:=af1.o j4 rfl;have HR4:=ae hr4;have wP:=sU.o
   try simp only[]at wP
   have JR:Hd (S=_):=wP;have PU:=CF.o k;have PW:=CV.o k;obtain⟨KO,Yl⟩:=zN (aK ns now k);rw[Yl]at PU PW JR;have af2:=ae PU;have Ym:=ae PW;obtain⟨-,-,r2,-⟩:=hr4.cells;obtain⟨q0,q1,-⟩:=gY qh.o;clear hv hr4 sU wP PU PW CF CV Yl;go_upto_region 8 with fail
   go_cut [6] from 22 (fun v6 wx=>Hd ((KO=none->v6=.nilIface)/\(∀q,KO=some q->∃F,v6=.iface 99 (.pointer (some ⟨F,0,none⟩))/\dD wx v6 E 5 i))/\w4.grownBy wx none)
   case first=>
    go_region_with (first|(go_at_call 101;refine(af2.o _ k3 (aP dn.o (lS w4))).mono ?_;rintro e w5 ⟨⟨v,rfl,hv⟩,hg5⟩))
    all_goals (
     go_wp2_with fail;go_meet;exact⟨hv,ak (lS w4) hg5⟩)
   case rest=>
    obtain⟨hv,hgc⟩:=hcut;have fJ:=ae (aP dn.o hgc);have nz:=ae (HR4.o.grow hgc);have wQ:=ae (jr qh.o hgc);clear hgc r2 q0 q1
    cases KO with
    |some q=>
     obtain⟨F,rfl,hF⟩:=hv.o.2 q rfl;have dS:=ae hF;have aB:Hd (S=.error (5,i)):=JR.o;clear hv hF;go_wp2;refine bodyPost_ret (results_tmp (t:=2) rfl _ _ _) rfl ?_;rw[aB.o];exact⟨fun d hh=>(by cases hh),fun c p hh=>(by cases hh;exact⟨F,rfl,dS.o⟩),kL fJ.o hR hB⟩
    |none=>
     obtain rfl:=hv.o.1 rfl;have Yn:j4<=s.size:=by omega
     have C6:=CS.o j4 wc nz.o Yn;obtain⟨b3,b4⟩:=fV.o j4 Yn;have Du:=JR.o
     try simp only[]at Du
     obtain⟨j6,Yo⟩:=zN (bl s.data.toList j4);rw[Yo]at C6 b3 b4 Du;have PX:=ae C6;have CV6:Hd (∀w',w.grownBy w' (some R)->Rd w' R s j6 T->Calls prog 102 #[.pointer (some ⟨R,0,none⟩),.int .i64 (now:Nat),.agg #[.string ⟨k.toArray⟩,.int .i64 (i:Nat)],.int .i64 0] w' fun e w''=>∃u,e=.returned u/\Hd (sS B R T s E S w (.returned u) w'')):=fun w' a b=>by rw[Du];exact Ym.o j6 w' k3 b4 (by omega) rfl a b
     clear hv Yo C6 Du Ym JR;go_wp2_with (go_at_call 66;refine PX.o.mono ?_);rintro e w6 rfl hr6 dV;have lL:=ae (dK fJ.o dV);have oN:=ae hr6;have hk6:=(dV.block K (aG wQ.o) (by simp only[ne_eq,Option.some.injEq];exact aZ wQ.o nz.o (by decide))).trans wQ.o;obtain⟨q0,q1,-⟩:=gY hk6;obtain⟨-,-,r2,-⟩:=hr6.cells;obtain⟨t2,-⟩:=(nY.o.keepR H0.o lL.o).two;clear hr6 dV hk6;go_wp2;go_region_with (first|(go_at_call 102;refine(CV6.o _ (aP lL.o (lS w6)) oN.o).mono ?_;rintro e w7 ⟨u,rfl,hu⟩))
     all_goals (
      go_wp2;refine bodyPost_ret (results_tmp (t:=2) rfl _ _ _) rfl ?_;exact hu.o)
theorem JS(l:List UInt8):∀(f i:Nat) (acc ks:List (List UInt8 × Nat)) (j:Nat),i<=l.length->(∀x∈acc,x.1.length<=l.length)->gV l f i acc=.ok (ks,j)->(∀x∈ks,x.1.length<=l.length)/\acc.length<ks.length/\ks.length+i<=acc.length+j/\j<=l.length:=by
 intro f
 induction f with
 |zero=>intro i acc ks j hi ha h;cases h
 |succ f ih=>
  intro i acc ks j hi ha h;rw[FX]at h;have b1:=jQ l i hi
  cases hk:dw l (bl l i) with
  |error e=>rw[hk]at h;cases h
  |ok q=>
   obtain⟨k,j1⟩:=q;rw[hk]at h;simp only[]at h;obtain⟨k1,k2,k3⟩:=xK l (bl l i) k j1 b1.2 hk;have b2:=jQ l j1 k2;have ha':∀x∈acc++[(k,bl l i)],x.1.length<=l.length:=fun x hx=>by
    rcases List.mem_append.1 hx with hx|hx
    ·exact ha x hx
    ·rw[List.mem_singleton.1 hx];exact k3
   split at h
   ·rename_i hx;have hlt:=bD (l:=l) (i:=bl l j1) (by rw[hx];decide);obtain⟨a,b,c,d⟩:=ih (bl l j1+1) (acc++[(k,bl l i)]) ks j (by omega) ha' h;rw[List.length_append,List.length_singleton]at b c;exact⟨a,by omega,by omega,d⟩
   ·cases h
    refine⟨ha',by simp,?_,b2.2⟩;rw[List.length_append,List.length_singleton];omega
def Dv(j:Nat)(own:List Nat):Rs (Nat × List Tn)->Rs Sd
 | .error e=>.error e
 | .ok (t,ns)=>.ok ⟨j,ns,t :: own,t⟩
theorem F7(l:List UInt8)(i:Nat)(ns:List Tn)(own:List Nat)(now:Nat)(many:Bool)(hm:decide (nx l (i+1)=91)=many):iw l ⟨i,ns,own,now⟩ =
  match gV l (l.length+1) (if many=true then i+2 else i+1) [] with
  | .error e=>.error e
  | .ok (ks,j)=>match must l j 93 with
   | .error e=>.error e
   | .ok j1=>match (if many=true then must l j1 93 else .ok j1) with
    | .error e=>.error e
    | .ok j2=>Dv j2 own (way many own ks 0 ns):=by
 unfold iw;simp only[hm]
 cases gV l (l.length+1) (if many=true then i+2 else i+1) [] with
 |error e=>rfl
 |ok q=>
  obtain⟨ks,j⟩:=q;simp only[]
  cases must l j 93 with
  |error e=>rfl
  |ok j1=>
   simp only[]
   cases (if many=true then must l j1 93 else .ok j1) with
   |error e=>rfl
   |ok j2=>
    simp only[]
    cases way many own ks 0 ns with
    |error e=>rfl
    |ok q=>rfl
theorem af4{E:Int->TypeId × Value}{own:List Nat}{v:Rs (Nat × List Tn)}(hb:Below B w w')(hr:Rd w' R s j T)(h:XQ B T own E v w' e w''):∃u,e=.returned u/\Hd (sS B R T s E (Dv j own v) w (.returned u) w''):=by
 cases v with
 |error ec=>
  obtain⟨c,p⟩:=ec;obtain⟨u,rfl,F,rfl,hF⟩:=h.2.1 c p rfl;exact⟨_,rfl,fun d hh=>(by cases hh),fun c p hh=>(by cases hh;exact⟨F,rfl,F,rfl,hF⟩),hb.trans h.2.2.bel⟩
 |ok q=>
  obtain⟨t,ns⟩:=q;obtain⟨rfl,h1⟩:=h.1 t ns rfl;exact⟨_,rfl,fun d hh=>(by cases hh;exact⟨rfl,hr.fr h.2.2,h1⟩),fun c p hh=>(by cases hh),hb.trans h.2.2.bel⟩
theorem F8(ns:List Tn)(up:Nat)(n:Tn)(q:Nat)(hu:up<ns.length)(hq:q<ns.length):ay (addN ns up n) q=ay ns q:=by rw[eX ns up n hu,if_neg (by omega)]
theorem af5{own:List Nat}(J:Jt ns own t)(h:gm ns t k p=.ok (t',ns'))(q:Nat)(hq:q<ns.length):ay ns' q=ay ns q:=by
 unfold gm at h
 cases hk:aK ns t k with
 |none=>
  rw[hk]at h
  cases h
  exact F8 ns t _ q J.lt hq
 |some x=>
  rw[hk]at h;simp only[]at h;split at h
  ·cases h;rfl
  ·split at h
   ·cases hx:ns[x]? with
    |none=>rw[hx]at h;cases h
    |some u=>rw[hx]at h;cases h;rfl
   ·cases h
theorem af6{own:List Nat}(J:Jt ns own t)(h:gy ns own t k p=.ok (t',ns'))(q:Nat)(hq:q<ns.length):ay ns' q=ay ns q:=by
 unfold gy at h
 cases hk:aK ns t k with
 |none=>
  rw[hk]at h
  cases h
  exact F8 ns t _ q J.lt hq
 |some x=>
  rw[hk]at h;simp only[]at h;split at h
  ·cases h;rfl
  ·cases h
theorem af7{own:List Nat}(J:Jt ns own t)(h:gz ns t k p=.ok (t',ns'))(q:Nat)(hq:q<ns.length):ay ns' q=ay ns q:=by
 unfold gz at h
 cases hk:aK ns t k with
 |none=>
  rw[hk]at h
  cases h
  rw[F8 _ _ _ q (by rw[bW];omega) (by rw[bW];omega),F8 _ _ _ q J.lt hq]
 |some x=>
  rw[hk]at h;simp only[]at h;split at h
  ·rename_i h2
   cases h
   exact F8 ns x _ q (oO h2 (by omega)) hq
  ·cases h
theorem Yp(many:Bool)(own:List Nat):∀(l:List (List UInt8 × Nat)) (t:Nat) (ns ns':List Tn) (t':Nat),Jt ns own t->way many own l t ns=.ok (t',ns')->∀q,q<ns.length->ay ns' q=ay ns q
 | [],t,ns,ns',t',J,h,q,hq=>by cases h;rfl
 | [(k,p)],t,ns,ns',t',J,h,q,hq=>by
  rw[EO]at h;split at h
  ·exact af7 J h q hq
  ·exact af6 J h q hq
 | (k,p) :: b :: r,t,ns,ns',t',J,h,q,hq=>by
  rw[EP]at h
  cases hs:gm ns t k p with
  |error e=>rw[hs]at h;cases h
  |ok z=>
   obtain⟨t1,ns1⟩:=z;rw[hs]at h;obtain⟨a,b',c⟩:=EN J hs;exact(Yp many own (b :: r) t1 ns1 ns' t' a h q (by omega)).trans (af5 J hs q hq)
structure Li(l:List UInt8)(d:Sd):Prop where
 jt:Jt d.ns d.own d.now
 rt:ay d.ns 0=0
 le:d.i<=l.length
 nn:d.ns.length<=2*d.i+1
 on:d.own.length<=d.i
theorem yE(l:List UInt8)(k q:Nat)(c:Int)(hc:0<=c)(h:must l k c=.ok q):q=k+1/\k<l.length:=by
 unfold must at h;split at h
 ·rename_i hx;have:=bD (l:=l) (i:=k) (by omega)
  cases h
  omega
 ·cases h
theorem PZ(l:List UInt8)(d d':Sd)(L:Li l d)(h:rdPair l d=.ok d'):Li l d'/\d.i<d'.i:=by
 obtain⟨i,ns,own,now⟩:=d;have L1:=L.jt;have L2:=L.rt;have L3:=L.le;have L4:=L.nn;have L5:=L.on;simp only[]at L1 L2 L3 L4 L5;rw[PQ]at h
 cases hk:dw l i with
 |error e=>rw[hk]at h;cases h
 |ok q=>
  obtain⟨k,j⟩:=q;rw[hk]at h;simp only[]at h;obtain⟨k1,k2,k3⟩:=xK l i k j L3 hk;have b1:=jQ l j k2
  cases hm:must l (bl l j) 61 with
  |error e=>rw[hm]at h;cases h
  |ok j1=>
   rw[hm]at h;simp only[]at h;obtain⟨m1,m2⟩:=yE l _ _ 61 (by decide) hm;have b2:=jQ l j1 (by omega)
   cases hq:aK ns now k with
   |some q=>rw[hq]at h;cases h
   |none=>
    rw[hq]at h;simp only[]at h
    cases hv:val l (2*l.length+2) (bl l j1) now k i 0 ns with
    |error e=>rw[hv]at h;cases h
    |ok z=>
     obtain⟨j2,ns'⟩:=z;rw[hv]at h;have A:=(I9 l own _).1 (bl l j1) now k i 0 ns j2 ns' b2.2 L1.wf L1.wt L1.lt (by rw[L1.kd];decide) hv;have a1:=A.lo;have a2:=A.hi;have a3:=A.fw;have a4:=A.en;have hlt:=L1.lt
     cases h
     exact⟨⟨⟨A.wf,A.wt,by simp only[];omega,(A.kd now L1.lt).trans L1.kd⟩,(A.kd 0 (by omega)).trans L2,a4,by simp only[];omega,by simp only[];omega⟩,by simp only[];omega⟩
theorem P5(l:List UInt8)(d d':Sd)(L:Li l d)(hi:d.i<l.length)(h:iw l d=.ok d'):Li l d'/\d.i<d'.i:=by
 obtain⟨i,ns,own,now⟩:=d;have L1:=L.jt;have L2:=L.rt;have L3:=L.le;have L4:=L.nn;have L5:=L.on;simp only[]at L1 L2 L3 L4 L5 hi;obtain⟨many,uQ⟩:=zN (decide (nx l (i+1)=91));rw[F7 l i ns own now many uQ]at h;have ha:i+1<=(if many=true then i+2 else i+1)/\(if many=true then i+2 else i+1)<=l.length:=by
  cases many with
  |false=>simp;omega
  |true=>
   have hx:=of_decide_eq_true uQ;have:=bD (l:=l) (i:=i+1) (by rw[hx];decide);simp;omega
 generalize (if many=true then i+2 else i+1)=a at h ha
 cases hk:gV l (l.length+1) a [] with
 |error e=>rw[hk]at h;cases h
 |ok q=>
  obtain⟨ks,j⟩:=q;rw[hk]at h;simp only[]at h;obtain⟨k1,k2,k3,k4⟩:=JS l _ a [] ks j ha.2 (by simp) hk;simp at k2 k3
  cases hm:must l j 93 with
  |error e=>rw[hm]at h;cases h
  |ok j1=>
   rw[hm]at h;simp only[]at h;obtain⟨m1,m2⟩:=yE l _ _ 93 (by decide) hm;have hj2:∀j2,(if many=true then must l j1 93 else(.ok j1:Rs Nat))=.ok j2->j1<=j2/\j2<=l.length:=fun j2 hh=>by
    split at hh
    ·obtain⟨n1,n2⟩:=yE l _ _ 93 (by decide) hh;omega
    ·cases hh
     omega
   cases hc:(if many=true then must l j1 93 else(.ok j1:Rs Nat)) with
   |error e=>rw[hc]at h;cases h
   |ok j2=>
    rw[hc]at h;simp only[]at h;obtain⟨c1,c2⟩:=hj2 j2 hc
    cases hw:way many own ks 0 ns with
    |error e=>rw[hw]at h;cases h
    |ok z=>
     obtain⟨t,ns'⟩:=z;rw[hw]at h;have hlt:=L1.lt;have J0:Jt ns own 0:=⟨L1.wf,L1.wt,by omega,L2⟩;obtain⟨w1,w2,w3⟩:=Vm many own ks 0 ns ns' t (by intro e;rw[e]at k2;simp at k2) J0 hw;have w4:=Yp many own ks 0 ns ns' t J0 hw 0 (by omega)
     cases h
     exact⟨⟨w1,w4.trans L2,c2,by simp only[];omega,by simp only[List.length_cons];omega⟩,by simp only[];omega⟩
end Go.Proofs.YtbcfhgpfgdbjgaaGreatDoor
