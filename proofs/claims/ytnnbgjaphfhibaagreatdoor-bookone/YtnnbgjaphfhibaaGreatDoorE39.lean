import Derived.Test.YtnnbgjaphfhibaaGreatDoorE34
set_option linter.all false
set_option maxRecDepth 100000
set_option maxHeartbeats 0
open Go.Proofs.Tryz
namespace Go.Proofs.YtnnbgjaphfhibaaGreatDoor
open Go.RowKit Go.Maps Go.WideMaps Go.Joins
theorem cellsA{w w':World}{a b D bx:Nat}{va vb vc v0 v1 v2 v3 v4 v5:Value}(hg:w.grownBy w' none)(h:w.cell? ⟨a,0,none⟩=some va/\w.cell? ⟨b,0,none⟩=some vb/\w.cell? ⟨D,0,none⟩=some vc/\w.cell? ⟨bx,0,none⟩=some v0/\w.cell? ⟨bx,1,none⟩=some v1/\w.cell? ⟨bx,2,none⟩=some v2/\w.cell? ⟨bx,3,none⟩=some v3/\w.cell? ⟨bx,4,none⟩=some v4/\w.cell? ⟨bx,5,none⟩=some v5):w'.cell? ⟨a,0,none⟩=some va/\w'.cell? ⟨b,0,none⟩=some vb/\w'.cell? ⟨D,0,none⟩=some vc/\w'.cell? ⟨bx,0,none⟩=some v0/\w'.cell? ⟨bx,1,none⟩=some v1/\w'.cell? ⟨bx,2,none⟩=some v2/\w'.cell? ⟨bx,3,none⟩=some v3/\w'.cell? ⟨bx,4,none⟩=some v4/\w'.cell? ⟨bx,5,none⟩=some v5 :=
 ⟨hg.cell h.1 (by simp),hg.cell h.2.1 (by simp),hg.cell h.2.2.1 (by simp),hg.cell h.2.2.2.1 (by simp),hg.cell h.2.2.2.2.1 (by simp),hg.cell h.2.2.2.2.2.1 (by simp),hg.cell h.2.2.2.2.2.2.1 (by simp),hg.cell h.2.2.2.2.2.2.2.1 (by simp),hg.cell h.2.2.2.2.2.2.2.2 (by simp)⟩
def JX:Except Int Dr->Int
 | .ok _=>0
 | .error c=>c
def zL(w0:World)(T D Lb:Nat)(nv:Value)(kv:Nat->Value)(ns:List Tn)(r:Except Int Dr)(w w':World):Prop :=
 (∀d',r=.ok d'->∃vt ve vw xs vs,Dm w0 T D Lb nv kv ns d' w' vt ve vw xs vs)/\(∀c,r=.error c->¬c=0/\w.grownBy w' none)
theorem QF{w0:World}{T D Lb:Nat}{nv:Value}{kv:Nat->Value}{ns:List Tn}{r:Except Int Dr}{w w':World}{z:Int}(hz:JX r=z)(h:zL w0 T D Lb nv kv ns r w w'):sK w0 T D Lb nv kv ns r w (.returned (.int .i64 z)) w':=by
 subst hz;exact⟨fun d' e=>⟨by rw[e];rfl,h.1 d' e⟩,fun c e=>⟨by rw[e];rfl,h.2 c e⟩⟩
theorem QG{w0:World}{T D Lb:Nat}{nv:Value}{kv:Nat->Value}{ns:List Tn}{r:Except Int Dr}{w w':World}{e:Ending}(h:sK w0 T D Lb nv kv ns r w e w'):e=.returned (.int .i64 (JX r))/\zL w0 T D Lb nv kv ns r w w':=by
 match r,h with
 | .ok d',h=>exact⟨(h.1 d' rfl).1,fun d'' e=>(h.1 d'' e).2,fun c e=>(by cases e)⟩
 | .error c,h=>exact⟨(h.2 c rfl).1,fun d'' e=>(by cases e),fun c' e=>(h.2 c' e).2⟩
theorem QH{w0:World}{T D Lb:Nat}{nv:Value}{kv:Nat->Value}{ns:List Tn}{r:Except Int Dr}{w w1 w':World}(hg:w.grownBy w1 none)(h:zL w0 T D Lb nv kv ns r w1 w'):zL w0 T D Lb nv kv ns r w w' :=
 ⟨h.1,fun c e=>⟨(h.2 c e).1,ai hg (h.2 c e).2⟩⟩
section
variable {w0:World} {T D Lb:Nat} {nv:Value} {kv:Nat->Value} {ns:List Tn} {d:Dr} {w w':World} {vt ve vw:Value} {xs:List Value} {vs:Nat->Value}
theorem Zk{E n c3:Nat}(h:Dm w0 T D Lb nv kv ns d w vt (.slice (some ⟨E,0,none⟩) n c3) vw xs vs)(x:Tn)(o:Option Addr)(m c e F k:Nat)(he:e<d.es.length)(hk:k=1\/k=2)(is:ByteArray->Bool)(eF:∀args w,(callFunc F args).run prog w=.ok (.enter F args) w)(CF:∀w',Calls prog F #[.string ⟨x.tx.toArray⟩] w' fun e w''=>e=.returned (.bool (is (bW x)))/\w'.grownBy w'' none)(y:En)(h0:y.nm=d.es[e].nm)(h1:y.ve=if k=1 then bW x else d.es[e].ve)(h2:y.dg=if k=2 then bW x else d.es[e].dg)(h3:y.nd=d.es[e].nd) :
  Calls prog 77 #[.agg (dQ x (.slice o m c)),.func (.func F) #[] #[],.pointer (some ⟨E,e*4+k,none⟩)] w fun e' w'=>sK w0 T D Lb nv kv ns (nS d x is e y) w e' w'/\∀t,¬t=33->Kt t w w':=by
 obtain⟨E',c',e1,-,cur,yw,q0,q1,q2,q3⟩:=h.entry he
 cases e1
 have hck:∃v0,cur[e*4+k]?=some v0:=by
  rcases hk with rfl|rfl
  ·exact⟨_,q1⟩
  ·exact⟨_,q2⟩
 obtain⟨v0,hv0⟩:=hck;refine(P8 x o m c F E (e*4+k) (is (bW x)) w eF CF cur 33 yw v0 hv0).mono fun e' w' hT=>?_
 unfold nS takeD
 by_cases g1:x.kd=3
 ·by_cases g2:is (bW x)=true
  ·obtain⟨a1,w1,a2,a3⟩:=hT.2.2 g1 g2;rw[if_neg (show ¬¬x.kd=3 by simpa using g1),if_pos g2,if_pos rfl,a1,a3];have hd:=h.grow a2;refine⟨yu (hd.txt he k (by omega) (bW x) y ?_ h1 h2 h3),fun t ht=>(aV a2).two (iO _ ((aV a2).blk yw) ht)⟩;rw[h0,if_neg (by omega)]
  ·have g2':is (bW x)=false:=by simpa using g2
   obtain⟨a1,a2⟩:=hT.2.1 g1 g2';rw[if_neg (show ¬¬x.kd=3 by simpa using g1),if_neg g2,if_neg (by decide),a1];exact⟨mW (by decide) a2,fun t _=>aV a2⟩
 ·obtain⟨a1,a2⟩:=hT.1 g1;rw[if_pos g1,if_neg (by decide),a1];exact⟨mW (by decide) a2,fun t _=>aV a2⟩
theorem aiE(h:Dm w0 T D Lb nv kv ns d w vt ve vw xs vs)(q:Nat)(x:Tn)(k:Value)(hk:NuS w0 k x.ks)(hr:∀q∈x.ks,q<ns.length)(hl:x.ks.length<=1000000)(htx:x.tx.length<2 ^ 60)(e:Nat)(he:e<d.es.length)(hel:d.es.length<=1000)(a b:Nat)(ha:w.heap[a]?=some (.cells #[.pointer (some ⟨D,0,none⟩)] 59 (0,0)))(hb:w.heap[b]?=some (.cells #[.int .i64 (e:Nat)] 3 (0,0))) :
  Calls prog 75 #[.agg (dQ x k),.pointer (some ⟨a,0,none⟩),.pointer (some ⟨b,0,none⟩)] w (sK w0 T D Lb nv kv ns (eQ d q x (.key e)) w):=by
 have kG:=ae hk;obtain⟨o,c,hk0,-⟩:=hk;have HR:=ae hr;obtain⟨E,c3,sN,hle,-⟩:=h.entry he;subst sN;obtain⟨el,oO⟩:=zN d.es.length;have bn:Hd (d.es.length=el/\e<d.es.length):=⟨oO,he⟩;obtain⟨m,hm⟩:=zN (x.ks.length);have hk1:k=.slice o m c:=by rw[hk0,hm]
 rw[hk1]at kG ⊢
 -- what the calls leave
 obtain⟨kd,ky,tx,nu,ks,pl⟩:=x;obtain⟨KY,iC⟩:∃t:ByteArray,⟨ky.toArray⟩=t:=⟨_,rfl⟩;obtain⟨TX,eH⟩:∃t:ByteArray,⟨tx.toArray⟩=t:=⟨_,rfl⟩;have eP:=ae iC;have nU:=ae eH;obtain⟨bx,hbx⟩:=zN (w.heap.size);obtain⟨W,hW⟩:=zN (w.alloc (.cells #[.int .i64 kd,.string KY,.string TX,.int .i64 nu,.slice o m c,.int .i64 (pl:Nat)] 64));have HW:Hd (w.alloc (.cells #[.int .i64 kd,.string KY,.string TX,.int .i64 nu,.slice o m c,.int .i64 (pl:Nat)] 64)=W/\w.heap.size=bx):=⟨hW,hbx⟩;have hG:=hW ▸ bC (au w none) _;have HD:Hd (Dm w0 T D Lb nv kv ns d W vt (.slice (some ⟨E,0,none⟩) el c3) vw xs vs):=by have:=h.grow hG;rw[oO]at this;exact this
 have kH:Hd (W.heap[bx]?=some (.cells #[.int .i64 kd,.string KY,.string TX,.int .i64 nu,.slice o m c,.int .i64 (pl:Nat)] 64 (0,0))/\W.heap[a]?=some (.cells #[.pointer (some ⟨D,0,none⟩)] 59 (0,0))/\W.heap[b]?=some (.cells #[.int .i64 (e:Nat)] 3 (0,0))):=⟨by rw[<-hW,<-hbx];exact heap_alloc_new _ _,(aV hG).blk ha,(aV hG).blk hb⟩;have ca:W.cell? ⟨a,0,none⟩=some (.pointer (some ⟨D,0,none⟩)):=by rw[ag kH.o.2.1];rfl
 have cb:W.cell? ⟨b,0,none⟩=some (.int .i64 (e:Nat)):=by rw[ag kH.o.2.2];rfl
 obtain⟨-,-,-,-,-,d3,-,-⟩:=HD.o.cells;obtain⟨R,hR⟩:=zN (eQ d q ⟨kd,ky,tx,nu,ks,pl⟩ (.key e));have HR0:Hd (jv d ⟨kd,ky,tx,nu,ks,pl⟩ e=R):=hR;have hsz:(⟨tx.toArray⟩:ByteArray).size<2 ^ 62:=by
  show tx.toArray.size<2 ^ 62;rw[List.size_toArray];have:tx.length<2 ^ 60:=htx;omega
 have tN:Hd ((⟨tx.toArray⟩:ByteArray).size<2 ^ 62/\tx.length<2 ^ 60/\el<=1000):=⟨hsz,htx,by rw[<-oO];exact hel⟩;have heI:(e:Int)<(el:Int):=by omega
 have heN:e<el:=by omega
 rw[hR];unfold dQ;simp only[]at kG HR hl ⊢;rw[iC,eH];have hlc:el<=c3:=by omega
 have fJ:=ae hG;clear hR hsz h ha hb hk0 hm hk1 iC eH hW hbx hG htx hel oO he hle;go_enter func75,ntmps75;go_upto_region 1 with fail
 try rw[HW.o.1]
 try rw[HW.o.2]
 go_quiet (fail);obtain⟨V,hV⟩:=zN (W.drewN nq);have pV:=hV ▸ ay (au W none) nq;have sW:=ae (HD.o.grow pV);have dw:Hd (V.heap[bx]?=some (.cells #[.int .i64 kd,.string KY,.string TX,.int .i64 nu,.slice o m c,.int .i64 (pl:Nat)] 64 (0,0))/\V.heap[a]?=some (.cells #[.pointer (some ⟨D,0,none⟩)] 59 (0,0))/\V.heap[b]?=some (.cells #[.int .i64 (e:Nat)] 3 (0,0))):=⟨(aV pV).blk kH.o.1,(aV pV).blk kH.o.2.1,(aV pV).blk kH.o.2.2⟩;have l9:=ae (ai fJ.o pV);rw[hV];clear hV pV fJ HD kH ca cb d3 HW;have ca:V.cell? ⟨a,0,none⟩=some (.pointer (some ⟨D,0,none⟩)):=by rw[ag dw.o.2.1];rfl
 have cb:V.cell? ⟨b,0,none⟩=some (.int .i64 (e:Nat)):=by rw[ag dw.o.2.2];rfl
 have b0:V.cell? ⟨bx,0,none⟩=some (.int .i64 kd):=by rw[ag dw.o.1];rfl
 have b1:V.cell? ⟨bx,1,none⟩=some (.string KY):=by rw[ag dw.o.1];rfl
 have b2:V.cell? ⟨bx,2,none⟩=some (.string TX):=by rw[ag dw.o.1];rfl
 have b3:V.cell? ⟨bx,3,none⟩=some (.int .i64 nu):=by rw[ag dw.o.1];rfl
 have b4:V.cell? ⟨bx,4,none⟩=some (.slice o m c):=by rw[ag dw.o.1];rfl
 have b5:V.cell? ⟨bx,5,none⟩=some (.int .i64 (pl:Nat)):=by rw[ag dw.o.1];rfl
 obtain⟨-,-,d0,-,-,-,-,-⟩:=sW.o.cells;obtain⟨Z,hZ⟩:=zN (JX R);have HZ:=ae hZ;clear hZ
 by_cases e1:ky=bQ
 ·have hb1:(KY.toList == [110,97,109,101])=true:=(jy eP.o).1 e1;have CN:Hd (Calls prog 76 #[.pointer (some ⟨D,0,none⟩),.agg #[.int .i64 kd,.string KY,.string TX,.int .i64 nu,.slice o m c,.int .i64 (pl:Nat)],.pointer (some ⟨E,e*4,none⟩)] V fun e' w'=>e'=.returned (.int .i64 Z)/\Hd (zL w0 T D Lb nv kv ns R w w')):=by
   have:=ahn sW.o ⟨kd,ky,tx,nu,ks,pl⟩ o m c e E el c3 bn.o.2 rfl (by rw[bn.o.1];exact tN.o.2.2) tN.o.2.1;unfold dQ at this;simp only[]at this;rw[eP.o,nU.o]at this;refine this.mono fun e' w' hh=>?_
   have hy:R=(if takeD ⟨kd,ky,tx,nu,ks,pl⟩ nameB=0 then if aT d.es (bW ⟨kd,ky,tx,nu,ks,pl⟩)=true then .error 5 else .ok (setD d e ⟨bW ⟨kd,ky,tx,nu,ks,pl⟩,(aW d.es e).ve,(aW d.es e).dg,(aW d.es e).nd⟩) else .error (takeD ⟨kd,ky,tx,nu,ks,pl⟩ nameB)):=by
    rw[<-HR0.o];unfold jv;rw[if_pos e1]
   rw[<-hy]at hh;obtain⟨a1,a2⟩:=QG hh;exact⟨by rw[a1,HZ.o],QH l9.o a2⟩
  clear e1 HR0;go_wp2_with (go_at_call 76;refine CN.o.mono ?_)
  first|rintro e' w2 rfl h2|rintro e' w2 ⟨rfl,h2⟩
  go_wp2;go_ret;exact QF HZ.o h2.o
 ·have hb1:(KY.toList == [110,97,109,101])=false:=(jy eP.o).2 e1
  by_cases e2:ky=dP
  ·have hb2:(KY.toList == [118,101,114,115,105,111,110])=true:=(jy eP.o).1 e2;have hy:R=nS d ⟨kd,ky,tx,nu,ks,pl⟩ okV e ⟨(aW d.es e).nm,bW ⟨kd,ky,tx,nu,ks,pl⟩,(aW d.es e).dg,(aW d.es e).nd⟩:=by
    rw[<-HR0.o];unfold jv;rw[if_neg e1,if_pos e2]
   have CT:Hd (∀w',V.grownBy w' none->Calls prog 77 #[.agg #[.int .i64 kd,.string KY,.string TX,.int .i64 nu,.slice o m c,.int .i64 (pl:Nat)],.func (.func 59) #[] #[],.pointer (some ⟨E,e*4+1,none⟩)] w' fun e' w''=>e'=.returned (.int .i64 Z)/\Hd (zL w0 T D Lb nv kv ns R w w'')/\w''.cell? ⟨a,0,none⟩=some (.pointer (some ⟨D,0,none⟩))/\w''.cell? ⟨b,0,none⟩=some (.int .i64 (e:Nat))/\w''.cell? ⟨bx,0,none⟩=some (.int .i64 kd)/\w''.cell? ⟨bx,1,none⟩=some (.string KY)/\w''.cell? ⟨bx,2,none⟩=some (.string TX)/\w''.cell? ⟨bx,3,none⟩=some (.int .i64 nu)/\w''.cell? ⟨bx,4,none⟩=some (.slice o m c)/\w''.cell? ⟨bx,5,none⟩=some (.int .i64 (pl:Nat))):=fun w' hg=>by
    have:=Zk (sW.o.grow hg) ⟨kd,ky,tx,nu,ks,pl⟩ o m c e 59 1 bn.o.2 (by decide) okV egV (fun w'=>XN _ w' tN.o.1) ⟨(aW d.es e).nm,bW ⟨kd,ky,tx,nu,ks,pl⟩,(aW d.es e).dg,(aW d.es e).nd⟩ (by rw[qO bn.o.2]) (by rw[qO bn.o.2];rfl) (by rw[qO bn.o.2];rfl) (by rw[qO bn.o.2]);unfold dQ at this;simp only[]at this;rw[eP.o,nU.o]at this;refine this.mono fun e' w'' ⟨a1,a3⟩=>?_
    rw[<-hy]at a1;obtain⟨a1,a2⟩:=QG a1;have y1:=(a3 _ (by decide)).blk ((aV hg).blk dw.o.1);have y2:=(a3 _ (by decide)).blk ((aV hg).blk dw.o.2.1);have y3:=(a3 _ (by decide)).blk ((aV hg).blk dw.o.2.2);refine⟨by rw[a1,HZ.o],QH (ai l9.o hg) a2,by rw[ag y2];rfl,by rw[ag y3];rfl,by rw[ag y1];rfl,by rw[ag y1];rfl,by rw[ag y1];rfl,by rw[ag y1];rfl,by rw[ag y1];rfl,by rw[ag y1];rfl⟩
   have iy:Hd (V.grownBy V.drew none):=ay (au V none) 1;clear hy HR0 e1 e2;go_wp2
   go_region_held3 (fun u=>u.cell? ⟨a,0,none⟩=some (.pointer (some ⟨D,0,none⟩))/\u.cell? ⟨b,0,none⟩=some (.int .i64 (e:Nat))/\u.cell? ⟨bx,0,none⟩=some (.int .i64 kd)/\u.cell? ⟨bx,1,none⟩=some (.string KY)/\u.cell? ⟨bx,2,none⟩=some (.string TX)/\u.cell? ⟨bx,3,none⟩=some (.int .i64 nu)/\u.cell? ⟨bx,4,none⟩=some (.slice o m c)/\u.cell? ⟨bx,5,none⟩=some (.int .i64 (pl:Nat))) ((first|assumption|exact Qb (by assumption) (by assumption)|go_keep)) (first|(go_at_call 77;refine(CT.o _ iy.o).mono ?_;rintro e' w7 ⟨rfl,hall,hcl⟩))
   go_wp2;go_ret;exact QF HZ.o hall.o
  ·have hb2:(KY.toList == [118,101,114,115,105,111,110])=false:=(jy eP.o).2 e2
   by_cases e3:ky=ed
   ·have hb3:(KY.toList == [100,105,103,101,115,116])=true:=(jy eP.o).1 e3;have hy:R=nS d ⟨kd,ky,tx,nu,ks,pl⟩ nP e ⟨(aW d.es e).nm,(aW d.es e).ve,bW ⟨kd,ky,tx,nu,ks,pl⟩,(aW d.es e).nd⟩:=by
     rw[<-HR0.o];unfold jv;rw[if_neg e1,if_neg e2,if_pos e3]
    have CT:Hd (∀w',V.grownBy w' none->Calls prog 77 #[.agg #[.int .i64 kd,.string KY,.string TX,.int .i64 nu,.slice o m c,.int .i64 (pl:Nat)],.func (.func 60) #[] #[],.pointer (some ⟨E,e*4+2,none⟩)] w' fun e' w''=>e'=.returned (.int .i64 Z)/\Hd (zL w0 T D Lb nv kv ns R w w'')/\w''.cell? ⟨a,0,none⟩=some (.pointer (some ⟨D,0,none⟩))/\w''.cell? ⟨b,0,none⟩=some (.int .i64 (e:Nat))/\w''.cell? ⟨bx,0,none⟩=some (.int .i64 kd)/\w''.cell? ⟨bx,1,none⟩=some (.string KY)/\w''.cell? ⟨bx,2,none⟩=some (.string TX)/\w''.cell? ⟨bx,3,none⟩=some (.int .i64 nu)/\w''.cell? ⟨bx,4,none⟩=some (.slice o m c)/\w''.cell? ⟨bx,5,none⟩=some (.int .i64 (pl:Nat))):=fun w' hg=>by
     have:=Zk (sW.o.grow hg) ⟨kd,ky,tx,nu,ks,pl⟩ o m c e 60 2 bn.o.2 (by decide) nP egD (fun w'=>(Ve _ w').mono fun e' w'' h=>⟨by rw[h.1,Vf];rfl,h.2 ▸ au _ none⟩) ⟨(aW d.es e).nm,(aW d.es e).ve,bW ⟨kd,ky,tx,nu,ks,pl⟩,(aW d.es e).nd⟩ (by rw[qO bn.o.2]) (by rw[qO bn.o.2];rfl) (by rw[qO bn.o.2];rfl) (by rw[qO bn.o.2]);unfold dQ at this;simp only[]at this;rw[eP.o,nU.o]at this;refine this.mono fun e' w'' ⟨a1,a3⟩=>?_
     rw[<-hy]at a1;obtain⟨a1,a2⟩:=QG a1;have y1:=(a3 _ (by decide)).blk ((aV hg).blk dw.o.1);have y2:=(a3 _ (by decide)).blk ((aV hg).blk dw.o.2.1);have y3:=(a3 _ (by decide)).blk ((aV hg).blk dw.o.2.2);refine⟨by rw[a1,HZ.o],QH (ai l9.o hg) a2,by rw[ag y2];rfl,by rw[ag y3];rfl,by rw[ag y1];rfl,by rw[ag y1];rfl,by rw[ag y1];rfl,by rw[ag y1];rfl,by rw[ag y1];rfl,by rw[ag y1];rfl⟩
    have iy:Hd (V.grownBy V.drew none):=ay (au V none) 1;clear hy HR0 e1 e2 e3;go_wp2
    go_region_held3 (fun u=>u.cell? ⟨a,0,none⟩=some (.pointer (some ⟨D,0,none⟩))/\u.cell? ⟨b,0,none⟩=some (.int .i64 (e:Nat))/\u.cell? ⟨bx,0,none⟩=some (.int .i64 kd)/\u.cell? ⟨bx,1,none⟩=some (.string KY)/\u.cell? ⟨bx,2,none⟩=some (.string TX)/\u.cell? ⟨bx,3,none⟩=some (.int .i64 nu)/\u.cell? ⟨bx,4,none⟩=some (.slice o m c)/\u.cell? ⟨bx,5,none⟩=some (.int .i64 (pl:Nat))) ((first|assumption|exact Qb (by assumption) (by assumption)|go_keep)) (first|(go_at_call 77;refine(CT.o _ iy.o).mono ?_;rintro e' w7 ⟨rfl,hall,hcl⟩))
    go_wp2;go_ret;exact QF HZ.o hall.o
   ·have hb3:(KY.toList == [100,105,103,101,115,116])=false:=(jy eP.o).2 e3
    by_cases e4:ky=cZ
    ·have hb4:(KY.toList == [110,101,101,100,115])=true:=(jy eP.o).1 e4
     by_cases e5:kd=1
     ·have hb5:(kd == 1)=true:=by simpa using e5
      have hy:R=.ok (keepD d ks (.val e)):=by
       rw[<-HR0.o];unfold jv;rw[if_neg e1,if_neg e2,if_neg e3,if_pos ⟨e4,e5⟩]
      have iy:Hd (V.grownBy V.drew none):=ay (au V none) 1;have CV:Hd (Calls prog 78 #[.pointer (some ⟨D,0,none⟩),.int .i64 (e:Nat)] V.drew fun e' w'=>∃A C,e'=.returned (.func (.func 118) #[] #[.pointer (some ⟨A,0,none⟩),.pointer (some ⟨C,0,none⟩)])/\(w'.heap[A]?=some (.cells #[.pointer (some ⟨D,0,none⟩)] 59 (0,0))/\w'.heap[C]?=some (.cells #[.int .i64 (e:Nat)] 3 (0,0)))/\V.drew.grownBy w' none):=(ahj D (e:Nat) V.drew).mono fun e' w' ⟨a1,a2⟩=>by
       refine⟨_,_,a1,⟨?_,?_⟩,by rw[a2];exact bC (bC (au _ none) _) _⟩
       ·rw[a2,Lib.alloc_old _ _ _ (by simp)];exact heap_alloc_new _ _
       ·rw[a2];have:=heap_alloc_new (V.drew.alloc (.cells #[.pointer (some ⟨D,0,none⟩)] 59)) (.cells #[.int .i64 (e:Nat)] 3)
        rwa [World.size_alloc]at this
      have CK:Hd (∀A C w2,V.drew.grownBy w2 none->(w2.heap[A]?=some (.cells #[.pointer (some ⟨D,0,none⟩)] 59 (0,0))/\w2.heap[C]?=some (.cells #[.int .i64 (e:Nat)] 3 (0,0)))->Calls prog 22 #[.pointer (some ⟨T,0,none⟩),.agg #[.int .i64 kd,.string KY,.string TX,.int .i64 nu,.slice o m c,.int .i64 (pl:Nat)],.func (.func 118) #[] #[.pointer (some ⟨A,0,none⟩),.pointer (some ⟨C,0,none⟩)]] w2 fun e' w3=>e'=.returned (.tuple #[])/\Hd (Dm w0 T D Lb nv kv ns (keepD d ks (.val e)) w3 vt (.slice (some ⟨E,0,none⟩) el c3) vw xs vs)/\w3.cell? ⟨a,0,none⟩=some (.pointer (some ⟨D,0,none⟩))/\w3.cell? ⟨b,0,none⟩=some (.int .i64 (e:Nat))/\w3.cell? ⟨D,0,none⟩=some (.pointer (some ⟨T,0,none⟩))/\w3.cell? ⟨bx,0,none⟩=some (.int .i64 kd)/\w3.cell? ⟨bx,1,none⟩=some (.string KY)/\w3.cell? ⟨bx,2,none⟩=some (.string TX)/\w3.cell? ⟨bx,3,none⟩=some (.int .i64 nu)/\w3.cell? ⟨bx,4,none⟩=some (.slice o m c)/\w3.cell? ⟨bx,5,none⟩=some (.int .i64 (pl:Nat))):=fun A C w2 hg hAC=>by
       have hgW:=ai iy.o hg;have:=keep_any (sW.o.grow hgW) ⟨kd,ky,tx,nu,ks,pl⟩ (.slice o m c) kG.o HR.o hl 118 #[.pointer (some ⟨A,0,none⟩),.pointer (some ⟨C,0,none⟩)] (.val e) ⟨A,C,rfl,hAC.1,hAC.2⟩;unfold dQ at this;simp only[]at this;rw[eP.o,nU.o]at this;refine this.mono fun e' w3 ⟨a1,a2,a3⟩=>?_
       have y1:=(a3 _ (by decide)).blk ((aV hgW).blk dw.o.1);have y2:=(a3 _ (by decide)).blk ((aV hgW).blk dw.o.2.1);have y3:=(a3 _ (by decide)).blk ((aV hgW).blk dw.o.2.2);obtain⟨-,-,f0,-,-,-,-,-⟩:=a2.cells;exact⟨a1,a2,by rw[ag y2];rfl,by rw[ag y3];rfl,f0,by rw[ag y1];rfl,by rw[ag y1];rfl,by rw[ag y1];rfl,by rw[ag y1];rfl,by rw[ag y1];rfl,by rw[ag y1];rfl⟩
      have HY:=ae hy;clear hy HR0 e1 e2 e3 e4 e5;go_wp2
      go_region_held3 (fun u=>u.cell? ⟨a,0,none⟩=some (.pointer (some ⟨D,0,none⟩))/\u.cell? ⟨b,0,none⟩=some (.int .i64 (e:Nat))/\u.cell? ⟨D,0,none⟩=some (.pointer (some ⟨T,0,none⟩))/\u.cell? ⟨bx,0,none⟩=some (.int .i64 kd)/\u.cell? ⟨bx,1,none⟩=some (.string KY)/\u.cell? ⟨bx,2,none⟩=some (.string TX)/\u.cell? ⟨bx,3,none⟩=some (.int .i64 nu)/\u.cell? ⟨bx,4,none⟩=some (.slice o m c)/\u.cell? ⟨bx,5,none⟩=some (.int .i64 (pl:Nat))) ((first|assumption|exact cellsA (by assumption) (by assumption)|go_keep)) (first|(go_at_call 78;refine CV.o.mono ?_;rintro e' w6 ⟨A,C,rfl,Fz,eY⟩)|(go_at_call 22;refine(CK.o _ _ _ eY Fz).mono ?_;rintro e' w7 ⟨rfl,hall,hcl⟩))
      go_wp2;go_ret;rw[HY.o];exact yu hall.o
     ·have hb5:(kd == 1)=false:=by simpa using e5
      have HY:Hd (R=.error 7):=by
       show _=_;rw[<-HR0.o];unfold jv;rw[if_neg e1,if_neg e2,if_neg e3,if_neg (fun h=>e5 h.2)]
      clear HR0 e1 e2 e3 e4 e5;go_wp2;go_ret;rw[HY.o];exact mW (by decide) l9.o
    ·have hb4:(KY.toList == [110,101,101,100,115])=false:=(jy eP.o).2 e4;have HY:Hd (R=.error 7):=by
      show _=_;rw[<-HR0.o];unfold jv;rw[if_neg e1,if_neg e2,if_neg e3,if_neg (fun h=>e4 h.1)]
     clear HR0 e1 e2 e3 e4;go_wp2;go_ret;rw[HY.o];exact mW (by decide) l9.o
end
end Go.Proofs.YtnnbgjaphfhibaaGreatDoor
