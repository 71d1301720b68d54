import Derived.Test.YtnnbgjaphfhibaaGreatDoorN43
import Derived.Test.YtnnbgjaphfhibaaGreatDoorN44
import Derived.Test.YtnnbgjaphfhibaaGreatDoorN35
set_option linter.unusedVariables false
set_option linter.unusedSimpArgs false
set_option maxRecDepth 100000
set_option maxHeartbeats 6400000
open Go.Proofs.Tryz
namespace Go.Proofs.YtnnbgjaphfhibaaGreatDoor
open Go.RowKit Go.Maps Go.WideMaps Go.Joins
theorem ae0:(prog.info? 109).map (fun i=>(i.zero,i.size,i.bytes))=some (some (.agg #[.string ⟨#[]⟩,.int .i64 0]),2,24):=by kernel_rfl
section
variable {w0:World} {T D Lb:Nat} {nv:Value} {kv:Nat->Value} {ns:List Tn} {d:Dr} {w w':World} {vt ve vw:Value} {xs:List Value} {vs:Nat->Value}
theorem Om{t:TypeId}{s n:Nat}{v:Value}{ys:List Value}{w1:World}(h:w0.grownBy w none)(hr:w.ownsRow w0.heap.size t s v n ys)(hg:w.grownBy w1 v.ownBlock):w0.grownBy w1 none:=by
 cases hb:v.ownBlock with
 | none=>rw[hb]at hg;exact ai h hg
 | some g =>
  rw[hb]at hg;exact mX h hg (bn hr hb).1
theorem Dm.need{E n c:Nat}(h:Dm w0 T D Lb nv kv ns d w vt (.slice (some ⟨E,0,none⟩) n c) vw xs vs){i:Nat}(hi:i<d.es.length)(s:ByteArray){w1:World}{v':Value}(ho:w1.ownsRow w0.heap.size 9 1 v' (d.es[i].nd.length+1) (d.es[i].nd.map Value.string++[.string s]))(hg:w.grownBy w1 (vs i).ownBlock)(hat:v'.ownBlock=(vs i).ownBlock\/v'.ownBlock=some w.heap.size\/∃g,v'.ownBlock=some g/\w.heap.size<=g) :
  Dm w0 T D Lb nv kv ns ⟨d.lk,d.fm,d.tb,d.es.set i ⟨d.es[i].nm,d.es[i].ve,d.es[i].dg,d.es[i].nd++[s]⟩,d.wt⟩ (w1.setCell ⟨E,i*4+3,none⟩ v') vt (.slice (some ⟨E,0,none⟩) n c) vw (xs.set (i*4+3) v') (fun j=>if j=i then v' else vs j):=by
 have hr:=h.ent.nee i hi;have kt:∀t,¬t=9->Kt t w w1:=fun t ht=>yh hr hg ht
 obtain⟨NV,cur,hE⟩:=bn h.ent.row rfl;have hc:=(kt _ (by decide)).blk hE;have k3:∀t,¬t=9->¬t=33->Kt t w (w1.setCell ⟨E,i*4+3,none⟩ v'):=fun t h1 h2=>(kt t h1).two (iE _ hc h2)
 exact⟨mX (Om h.gb hr hg) (iq w1 E _ _) NV,(k3 _ (by decide) (by decide)).blk h.tre,(k3 _ (by decide) (by decide)).blk h.dra,h.lok.keep (k3 _ (by decide) (by decide)) ⟨k3 _ (by decide) (by decide),k3 _ (by decide) (by decide),k3 _ (by decide) (by decide)⟩,(k3 _ (by decide) (by decide)).row h.tab,h.ent.need hi s ho hg hat,(k3 _ (by decide) (by decide)).row h.wan,h.bD,h.bL⟩
theorem Dm.want(h:Dm w0 T D Lb nv kv ns d w vt ve vw xs vs)(y:ByteArray × Nat){w1:World}{v':Value}(ho:w1.ownsRow w0.heap.size 109 2 v' (d.wt.length+1) (d.wt.flatMap sU++sU y))(hg:w.grownBy w1 vw.ownBlock):Dm w0 T D Lb nv kv ns ⟨d.lk,d.fm,d.tb,d.es,d.wt++[y]⟩ (w1.setCell ⟨D,4,none⟩ v') vt ve v' xs vs:=by
 have kt:∀t,¬t=109->Kt t w w1:=fun t ht=>yh h.wan hg ht
 have hc:=(kt _ (by decide)).blk h.dra;have k2:∀t,¬t=62->Kt t w1 (w1.setCell ⟨D,4,none⟩ v'):=fun t ht=>iE _ hc ht
 have k3:∀t,¬t=109->¬t=62->Kt t w (w1.setCell ⟨D,4,none⟩ v'):=fun t h1 h2=>(kt t h1).two (k2 t h2)
 refine⟨mX (Om h.gb h.wan hg) (iq w1 D 4 _) h.bD,(k3 _ (by decide) (by decide)).blk h.tre,block_setCell (i:=4) hc _,h.lok.keep (k3 _ (by decide) (by decide)) ⟨k3 _ (by decide) (by decide),k3 _ (by decide) (by decide),k3 _ (by decide) (by decide)⟩,(k3 _ (by decide) (by decide)).row h.tab,h.ent.keep (k3 _ (by decide) (by decide)) (k3 _ (by decide) (by decide)),?_,h.bD,h.bL⟩;rw[List.length_append,List.flatMap_append];simp only[List.length_cons,List.length_nil,List.flatMap_cons,List.flatMap_nil,List.append_nil];exact(k2 _ (by decide)).row ho
theorem ae1{W w3:World}{a bx nb e E n c3 m4 c4 g cap:Nat}{o4:Option Addr}{A6:Array Value}{TX:ByteArray}(h:Dm w0 T D Lb nv kv ns d W vt (.slice (some ⟨E,0,none⟩) n c3) vw xs vs)(he:e<d.es.length)(hv:vs e=.slice o4 m4 c4)(hm:d.es[e].nd.length=m4)(hb:W.heap[bx]?=some (.cells A6 64 (0,0)))(ha:W.heap[a]?=some (.cells #[.pointer (some ⟨D,0,none⟩)] 59 (0,0)))(hn:W.heap[nb]?=some (.cells #[.string TX] 9 (0,0)))
  (hfn:some nb≠(Value.slice o4 m4 c4).ownBlock) (ho:w3.ownsRow w0.heap.size 9 1 (.slice (some ⟨g,0,none⟩) (m4+1) cap) (m4+1) (d.es[e].nd.map Value.string++[.string TX])) (hg:(W.drew.alloc (.cells #[.string TX] 9)).grownBy w3 (Value.slice o4 m4 c4).ownBlock) (hat:(Value.slice o4 m4 c4).ownBlock=some g\/g=(W.drew.alloc (.cells #[.string TX] 9)).heap.size) :
  ∃xs' vs',Dm w0 T D Lb nv kv ns ⟨d.lk,d.fm,d.tb,d.es.set e ⟨d.es[e].nm,d.es[e].ve,d.es[e].dg,d.es[e].nd++[TX]⟩,d.wt⟩ (w3.setCell ⟨E,e*4+3,none⟩ (.slice (some ⟨g,0,none⟩) (m4+1) cap)) vt (.slice (some ⟨E,0,none⟩) n c3) vw xs' vs'/\(w3.setCell ⟨E,e*4+3,none⟩ (.slice (some ⟨g,0,none⟩) (m4+1) cap)).heap[bx]?=some (.cells A6 64 (0,0))/\(w3.setCell ⟨E,e*4+3,none⟩ (.slice (some ⟨g,0,none⟩) (m4+1) cap)).heap[a]?=some (.cells #[.pointer (some ⟨D,0,none⟩)] 59 (0,0))/\(w3.setCell ⟨E,e*4+3,none⟩ (.slice (some ⟨g,0,none⟩) (m4+1) cap)).heap[nb]?=some (.cells #[.string TX] 9 (0,0)):=by
 have h2:=h.grow (yu W (.cells #[.string TX] 9));have hr:=h.ent.nee e he;rw[hv]at hr;obtain⟨-,cur,hE⟩:=bn h.ent.row rfl;refine⟨_,_,h2.need he TX (v':=.slice (some ⟨g,0,none⟩) (m4+1) cap) (by rw[hm];exact ho) (by rw[hv];exact hg) ?_,yw hb hg (sW hb hr (by decide)) hE (by decide),yw ha hg (sW ha hr (by decide)) hE (by decide),yw hn hg hfn hE (by decide)⟩;rw[hv]
 rcases hat with e1|e1
 ·exact Or.inl e1.symm
 ·exact Or.inr (Or.inr ⟨g,rfl,Nat.le_of_eq e1.symm⟩)
theorem Wi{W w3:World}{wl c4 g cap pl:Nat}{o4:Option Addr}{TX:ByteArray}(h:Dm w0 T D Lb nv kv ns d W vt ve (.slice o4 wl c4) xs vs)(hm:d.wt.length=wl)(ho:w3.ownsRow w0.heap.size 109 2 (.slice (some ⟨g,0,none⟩) (wl+1) cap) (wl+1) (d.wt.flatMap sU++[.string TX,.int .i64 (pl:Nat)]))(hg:(W.drew.alloc (.cells #[.string TX,.int .i64 (pl:Nat)] 109)).grownBy w3 (Value.slice o4 wl c4).ownBlock) :
  ∃v',Dm w0 T D Lb nv kv ns ⟨d.lk,d.fm,d.tb,d.es,d.wt++[(TX,pl)]⟩ (w3.setCell ⟨D,4,none⟩ (.slice (some ⟨g,0,none⟩) (wl+1) cap)) vt ve v' xs vs :=
 ⟨_,(h.grow (yu W (.cells #[.string TX,.int .i64 (pl:Nat)] 109))).want (TX,pl) (v':=.slice (some ⟨g,0,none⟩) (wl+1) cap) (by rw[hm];exact ho) hg⟩
end
open Go.RowKit Go.Maps Go.WideMaps Go.Joins
theorem Ip{w w':World}{a nb bx:Nat}{r:Option Nat}{va vn vb:Value}(hg:w.grownBy w' r)(hf:some a≠r/\some nb≠r/\some bx≠r)(h:w.cell? ⟨a,0,none⟩=some va/\w.cell? ⟨nb,0,none⟩=some vn/\w.cell? ⟨bx,5,none⟩=some vb):w'.cell? ⟨a,0,none⟩=some va/\w'.cell? ⟨nb,0,none⟩=some vn/\w'.cell? ⟨bx,5,none⟩=some vb :=
 ⟨hg.cell h.1 hf.1,hg.cell h.2.1 hf.2.1,hg.cell h.2.2 hf.2.2⟩
theorem cellsS{w:World}{a nb bx D k:Nat}{va vn vb v:Value}(hn:some a≠some D/\some nb≠some D/\some bx≠some D)(h:w.cell? ⟨a,0,none⟩=some va/\w.cell? ⟨nb,0,none⟩=some vn/\w.cell? ⟨bx,5,none⟩=some vb):(w.setCell ⟨D,k,none⟩ v).cell? ⟨a,0,none⟩=some va/\(w.setCell ⟨D,k,none⟩ v).cell? ⟨nb,0,none⟩=some vn/\(w.setCell ⟨D,k,none⟩ v).cell? ⟨bx,5,none⟩=some vb:=Ip (iq w D k v) hn h
section
variable {w0:World} {T D Lb:Nat} {nv:Value} {kv:Nat->Value} {ns:List Tn} {d:Dr} {w w':World} {vt ve vw:Value} {xs:List Value} {vs:Nat->Value}
theorem ae2(h:Dm w0 T D Lb nv kv ns d w vt ve vw xs vs)(q:Nat)(x:Tn)(k:Value)(hk:NuS w0 k x.ks)(htx:x.tx.length<2 ^ 60)(e:Nat)(he:e<d.es.length)(hel:d.es.length<=1000)(hnd:(bg d.es e).nd.length<=1000)(hwl:d.wt.length<=1000000)(a b:Nat)(ha:w.heap[a]?=some (.cells #[.pointer (some ⟨D,0,none⟩)] 59 (0,0)))(hb:w.heap[b]?=some (.cells #[.int .i64 (e:Nat)] 3 (0,0))) :
  Calls prog 118 #[.agg (dK x k),.pointer (some ⟨a,0,none⟩),.pointer (some ⟨b,0,none⟩)] w (pX w0 T D Lb nv kv ns (gm d q x (.val e)) w):=by
 have Oo:Hd ((bg d.es e).nd.length<=1048576):=by show _<=_;omega
 have E8:Hd ((bg d.es e).nd.length<=1000/\d.wt.length<=1000000):=⟨hnd,hwl⟩;clear hnd hwl;have jT:Hd (NuS w0 k x.ks):=hk;obtain⟨o,c,hk0,-⟩:=hk;obtain⟨E,c3,uM,hle,-⟩:=h.entry he;subst uM;obtain⟨el,nS⟩:∃el,d.es.length=el:=⟨_,rfl⟩;have aU:Hd (d.es.length=el/\e<d.es.length):=⟨nS,he⟩;obtain⟨m,hm⟩:=zN (x.ks.length);have hk1:k=.slice o m c:=by rw[hk0,hm]
 rw[hk1]at jT ⊢
 -- what the calls leave
 obtain⟨kd,ky,tx,nu,ks,pl⟩:=x;obtain⟨KY,gU⟩:∃t:ByteArray,⟨ky.toArray⟩=t:=⟨_,rfl⟩;obtain⟨TX,dW⟩:∃t:ByteArray,⟨tx.toArray⟩=t:=⟨_,rfl⟩;have dY:Hd ((⟨ky.toArray⟩:ByteArray)=KY):=gU;have ng:Hd ((⟨tx.toArray⟩:ByteArray)=TX):=dW;obtain⟨bx,hbx⟩:=zN (w.heap.size);obtain⟨W,hW⟩:=zN (w.alloc (.cells #[.int .i64 kd,.string KY,.string TX,.int .i64 nu,.slice o m c,.int .i64 (pl:Nat)] 64));have HW:Hd (w.alloc (.cells #[.int .i64 kd,.string KY,.string TX,.int .i64 nu,.slice o m c,.int .i64 (pl:Nat)] 64)=W/\w.heap.size=bx):=⟨hW,hbx⟩;have hG:w.grownBy W none:=hW ▸ dn (ak w none) _;have HD:Hd (Dm w0 T D Lb nv kv ns d W vt (.slice (some ⟨E,0,none⟩) el c3) vw xs vs):=by have:=h.grow hG;rw[nS]at this;exact this
 have jU:Hd (W.heap[bx]?=some (.cells #[.int .i64 kd,.string KY,.string TX,.int .i64 nu,.slice o m c,.int .i64 (pl:Nat)] 64 (0,0))/\W.heap[a]?=some (.cells #[.pointer (some ⟨D,0,none⟩)] 59 (0,0))/\W.heap[b]?=some (.cells #[.int .i64 (e:Nat)] 3 (0,0))):=⟨by rw[<-hW,<-hbx];exact heap_alloc_new _ _,(aX hG).blk ha,(aX hG).blk hb⟩;have ca:W.cell? ⟨a,0,none⟩=some (.pointer (some ⟨D,0,none⟩)):=by rw[af jU.o.2.1];rfl
 have cb:W.cell? ⟨b,0,none⟩=some (.int .i64 (e:Nat)):=by rw[af jU.o.2.2];rfl
 obtain⟨-,-,-,-,-,d3,-,-⟩:=HD.o.cells;obtain⟨R,hR⟩:=zN (gm d q ⟨kd,ky,tx,nu,ks,pl⟩ (.val e));have HR0:Hd (oL d ⟨kd,ky,tx,nu,ks,pl⟩ e=R):=hR;have hsz:(⟨tx.toArray⟩:ByteArray).size<2 ^ 62:=by
  show tx.toArray.size<2 ^ 62;rw[List.size_toArray];have:tx.length<2 ^ 60:=htx;omega
 have rU:Hd ((⟨tx.toArray⟩:ByteArray).size<2 ^ 62/\tx.length<2 ^ 60/\el<=1000):=⟨hsz,htx,by rw[<-nS];exact hel⟩;have heI:(e:Int)<(el:Int):=by omega
 have heN:e<el:=by omega
 rw[hR];unfold dK;simp only[]at jT ⊢;rw[gU,dW];have hlc:el<=c3:=by omega
 have gV:Hd (w.grownBy W none):=hG;clear hR hsz h ha hb hk0 hm hk1 gU dW hW hbx hG htx hel nS he hle;go_enter func118,ntmps118;go_upto_region 1 with fail
 try rw[HW.o.1]
 try rw[HW.o.2]
 go_quiet (fail);obtain⟨V,hV⟩:=zN (W.drewN nq);have oO:W.grownBy V none:=hV ▸ au (ak W none) nq;have ru:Hd (Dm w0 T D Lb nv kv ns d V vt (.slice (some ⟨E,0,none⟩) el c3) vw xs vs):=HD.o.grow oO;have dw:Hd (V.heap[bx]?=some (.cells #[.int .i64 kd,.string KY,.string TX,.int .i64 nu,.slice o m c,.int .i64 (pl:Nat)] 64 (0,0))/\V.heap[a]?=some (.cells #[.pointer (some ⟨D,0,none⟩)] 59 (0,0))/\V.heap[b]?=some (.cells #[.int .i64 (e:Nat)] 3 (0,0))):=⟨(aX oO).blk jU.o.1,(aX oO).blk jU.o.2.1,(aX oO).blk jU.o.2.2⟩;have lF:Hd (w.grownBy V none):=ai gV.o oO;rw[hV];clear hV oO gV HD jU ca cb d3 HW;have ca:V.cell? ⟨a,0,none⟩=some (.pointer (some ⟨D,0,none⟩)):=by rw[af dw.o.2.1];rfl
 have cb:V.cell? ⟨b,0,none⟩=some (.int .i64 (e:Nat)):=by rw[af dw.o.2.2];rfl
 have b0:V.cell? ⟨bx,0,none⟩=some (.int .i64 kd):=by rw[af dw.o.1];rfl
 have b1:V.cell? ⟨bx,1,none⟩=some (.string KY):=by rw[af dw.o.1];rfl
 have b2:V.cell? ⟨bx,2,none⟩=some (.string TX):=by rw[af dw.o.1];rfl
 have b3:V.cell? ⟨bx,3,none⟩=some (.int .i64 nu):=by rw[af dw.o.1];rfl
 have b4:V.cell? ⟨bx,4,none⟩=some (.slice o m c):=by rw[af dw.o.1];rfl
 have b5:V.cell? ⟨bx,5,none⟩=some (.int .i64 (pl:Nat)):=by rw[af dw.o.1];rfl
 obtain⟨-,-,d0,-,-,-,-,-⟩:=ru.o.cells;obtain⟨Z,hZ⟩:=zN (zK R);have HZ:Hd (zK R=Z):=hZ;clear hZ;obtain⟨nb,hnb⟩:=zN (V.heap.size);obtain⟨W2,hW2⟩:=zN (V.alloc (.cells #[.string ⟨#[]⟩] 9));have HW2:Hd (V.alloc (.cells #[.string ⟨#[]⟩] 9)=W2/\V.heap.size=nb):=⟨hW2,hnb⟩;have tq:Hd (V.grownBy W2 none):=hW2 ▸ dn (ak V none) _;have HN:Hd (W2.heap[nb]?=some (.cells #[.string ⟨#[]⟩] 9 (0,0))):=by rw[<-hW2,<-hnb];exact heap_alloc_new _ _
 have b02:=tq.o.cell b0 (by simp);have b12:=tq.o.cell b1 (by simp);have b22:=tq.o.cell b2 (by simp);have b32:=tq.o.cell b3 (by simp);have b42:=tq.o.cell b4 (by simp);have b52:=tq.o.cell b5 (by simp);have CT:Hd (Calls prog 77 #[.agg #[.int .i64 kd,.string KY,.string TX,.int .i64 nu,.slice o m c,.int .i64 (pl:Nat)],.func (.func 58) #[] #[],.pointer (some ⟨nb,0,none⟩)] W2 (NQ ⟨kd,ky,tx,nu,ks,pl⟩ (nameB TX) ⟨nb,0,none⟩ W2)):=by
  have:=NR ⟨kd,ky,tx,nu,ks,pl⟩ o m c 58 nb 0 (nameB ⟨tx.toArray⟩) W2 VD (fun w'=>(name_any _ w' rU.o.1).mono fun e w'' h=>⟨h.1,h.2 ▸ ak _ none⟩) #[.string ⟨#[]⟩] 9 HN.o _ rfl;unfold dK at this;simp only[]at this;rw[dY.o,ng.o]at this;exact this
 have htk:takeD ⟨kd,ky,tx,nu,ks,pl⟩ nameB=if ¬kd=3 then 7 else if nameB TX=true then 0 else 2:=by
  unfold takeD dh;simp only[];rw[ng.o]
 clear hW2 hnb b0 b1 b2 b3 b4 b5 HZ
 by_cases g1:kd=3
 ·rw[if_neg (show ¬¬kd=3 by simpa using g1)]at htk
  by_cases g2:nameB TX=true
  ·rw[if_pos g2]at htk;have CG:Hd (Calls prog 77 #[.agg #[.int .i64 kd,.string KY,.string TX,.int .i64 nu,.slice o m c,.int .i64 (pl:Nat)],.func (.func 58) #[] #[],.pointer (some ⟨nb,0,none⟩)] W2 fun e' w'=>e'=.returned (.int .i64 0)/\w'.heap[nb]?=some (.cells #[.string TX] 9 (0,0))/\V.grownBy w' none):=CT.o.mono fun e' w' h=>by
    obtain⟨h1,w1,h2,h3⟩:=h.2.2 g1 g2;refine⟨h1,?_,?_⟩
    ·rw[h3,ng.o];exact block_setCell (i:=0) ((aX h2).blk HN.o) _
    ·rw[h3];exact mX (ai tq.o h2) (iq w1 _ 0 _) (Nat.le_of_eq HW2.o.2)
   have hR1:R=if(d.es[e]'aU.o.2).nd.any (fun y=>decide (y=TX))=true then .error 5 else if(d.es[e]'aU.o.2).nd.length=20 then .error 4 else .ok ⟨d.lk,d.fm,d.tb,d.es.set e ⟨(d.es[e]'aU.o.2).nm,(d.es[e]'aU.o.2).ve,(d.es[e]'aU.o.2).dg,(d.es[e]'aU.o.2).nd++[TX]⟩,d.wt++[(TX,pl)]⟩:=by
    rw[<-HR0.o];unfold oL;rw[htk,if_pos rfl,pY aU.o.2,show dh ⟨kd,ky,tx,nu,ks,pl⟩=TX from ng.o]
   have HR1:Hd (R=if(d.es[e]'aU.o.2).nd.any (fun y=>decide (y=TX))=true then .error 5 else if(d.es[e]'aU.o.2).nd.length=20 then .error 4 else .ok ⟨d.lk,d.fm,d.tb,d.es.set e ⟨(d.es[e]'aU.o.2).nm,(d.es[e]'aU.o.2).ve,(d.es[e]'aU.o.2).dg,(d.es[e]'aU.o.2).nd++[TX]⟩,d.wt++[(TX,pl)]⟩):=hR1;clear CT g1 g2 HR0 htk hR1;go_upto_region 3 with fail
   try rw[HW2.o.1]
   try rw[HW2.o.2]
   go_wp2_with (go_at_call 77;refine CG.o.mono ?_)
   first|rintro e' w2 rfl hn2 hg2|rintro e' w2 ⟨rfl,hn2,hg2⟩
   have HD2:Hd (Dm w0 T D Lb nv kv ns d w2 vt (.slice (some ⟨E,0,none⟩) el c3) vw xs vs):=ru.o.grow hg2;have HB2:Hd (w2.heap[bx]?=some (.cells #[.int .i64 kd,.string KY,.string TX,.int .i64 nu,.slice o m c,.int .i64 (pl:Nat)] 64 (0,0))/\w2.heap[a]?=some (.cells #[.pointer (some ⟨D,0,none⟩)] 59 (0,0))/\w2.heap[nb]?=some (.cells #[.string TX] 9 (0,0))):=⟨(aX hg2).blk dw.o.1,(aX hg2).blk dw.o.2.1,hn2⟩;obtain⟨o4,c4,hv4⟩:=kV (ru.o.ent.nee e aU.o.2);have gY:Hd (some nb≠(vs e).ownBlock):=by
    show _≠_;intro e';obtain⟨cc,hcc⟩:=(bn (ru.o.ent.nee e aU.o.2) e'.symm).2;have:=aA hcc;have:=HW2.o.2;omega
   obtain⟨m4,hm4⟩:=zN ((d.es[e]'aU.o.2).nd.length);rw[hm4]at hv4 HR1;have rO:Hd (vs e=.slice o4 m4 c4/\(d.es[e]'aU.o.2).nd.length=m4):=⟨hv4,hm4⟩;rw[hv4]at gY;obtain⟨q4,hq4⟩:=zN ((d.es[e]'aU.o.2).nd.any (fun y=>decide (y=TX)));rw[hq4]at HR1;have c0:w2.cell? ⟨nb,0,none⟩=some (.string TX):=by rw[af hn2];rfl
   have e3:w2.cell? ⟨E,e*4+3,none⟩=some (.slice o4 m4 c4):=by
    obtain⟨E',c',e1,-,cur,wV,-,-,-,q3⟩:=HD2.o.entry aU.o.2
    cases e1
    rw[af wV,<-hv4];exact q3
   have iw:Hd (w2.grownBy w2.drew none):=au (ak w2 none) 1;have CC:Hd (Calls prog 61 #[.slice o4 m4 c4,.string TX] w2.drew fun e' w'=>e'=.returned (.bool q4)/\Hd (w2.grownBy w' none)/\w'.cell? ⟨E,e*4+3,none⟩=some (.slice o4 m4 c4)/\w'.cell? ⟨nb,0,none⟩=some (.string TX)):=by
    have ht:TxS w2.drew (.slice o4 m4 c4) (d.es[e]'aU.o.2).nd:=by
     have:=JJ (base:=w0.heap.size) rfl ((HD2.o.grow iw.o).ent.nee e aU.o.2);rw[hv4]at this;exact this
    have:=acb o4 m4 c4 TX (d.es[e]'aU.o.2).nd w2.drew hm4.symm ht (by have:=Oo.o;rw[pY aU.o.2]at this;exact this);rw[hq4]at this;exact this.mono fun e' w' ⟨a1,a2⟩=>⟨a1,ai iw.o a2,(ai iw.o a2).cell e3 (by simp),(ai iw.o a2).cell c0 (by simp)⟩
   have dO:Hd (w.grownBy w2 none):=ai lF.o hg2;clear hn2 hg2 hv4 hm4 hq4 ru dw tq HN CG HW2 b02 b12 b22 b32 b42 b52 ca cb d0;go_wp2
   go_region_held3 (fun u=>u.cell? ⟨E,e*4+3,none⟩=some (.slice o4 m4 c4)/\u.cell? ⟨nb,0,none⟩=some (.string TX)) ((first|assumption|exact⟨World.grownBy.cell (by assumption) (And.left (by assumption)) (by simp),World.grownBy.cell (by assumption) (And.right (by assumption)) (by simp)⟩|go_keep)) (first|(go_at_call 61;refine CC.o.mono ?_;rintro e' w7 ⟨rfl,hall,hcl⟩))
   have oC:Hd (w2.grownBy w7 none):=hall;have HD7:Hd (Dm w0 T D Lb nv kv ns d w7 vt (.slice (some ⟨E,0,none⟩) el c3) vw xs vs):=HD2.o.grow oC.o;have qI:Hd (w7.heap[bx]?=some (.cells #[.int .i64 kd,.string KY,.string TX,.int .i64 nu,.slice o m c,.int .i64 (pl:Nat)] 64 (0,0))/\w7.heap[a]?=some (.cells #[.pointer (some ⟨D,0,none⟩)] 59 (0,0))/\w7.heap[nb]?=some (.cells #[.string TX] 9 (0,0))):=⟨(aX oC.o).blk HB2.o.1,(aX oC.o).blk HB2.o.2.1,(aX oC.o).blk HB2.o.2.2⟩;replace dO:Hd (w.grownBy w7 none):=ai dO.o oC.o;obtain⟨f3,f0⟩:=hcl;clear hall HD2 HB2 oC CC c0 e3 iw
   cases q4 with
   | true =>
    go_wp2;go_ret;rw[show R=.error 5 from HR1.o];exact lZ (by decide) dO.o
   | false =>
    by_cases h20:m4=20
    ·have ae3:((m4:Int) == 20)=true:=by rw[h20];rfl
     have HY:Hd (R=.error 4):=by
      show _=_;rw[HR1.o,if_neg (by simp),if_pos h20]
     clear HR1 h20;go_wp2;go_ret;rw[HY.o];exact lZ (by decide) dO.o
    ·have ae3:((m4:Int) == 20)=false:=by simpa using(show ¬(m4:Int)=20 by omega)
     have HY:Hd (R=.ok ⟨d.lk,d.fm,d.tb,d.es.set e ⟨(d.es[e]'aU.o.2).nm,(d.es[e]'aU.o.2).ve,(d.es[e]'aU.o.2).dg,(d.es[e]'aU.o.2).nd++[TX]⟩,d.wt++[(TX,pl)]⟩):=by
      show _=_;rw[HR1.o,if_neg (by simp),if_neg h20]
     clear HR1 h20;obtain⟨i0,hi0,hii⟩:=Option.map_eq_some_iff.1 QY;simp only[Prod.mk.injEq]at hii;obtain⟨hz0,hz1,hzb⟩:=hii;have hrow:w7.ownsRow w0.heap.size 9 1 (.slice o4 m4 c4) m4 ((d.es[e]'aU.o.2).nd.map Value.string):=by
      have:=HD7.o.ent.nee e aU.o.2;rw[rO.o.1,rO.o.2]at this;exact this
     have hm4:m4<=1000:=by
      have:=E8.o.1;rw[pY aU.o.2,rO.o.2]at this;exact this
     obtain⟨ys,hys⟩:=zN ((d.es[e]'aU.o.2).nd.map Value.string);have kT:Hd ((d.es[e]'aU.o.2).nd.map Value.string=ys):=hys;rw[hys]at hrow;have hone:∀u∈([.string TX]:List Value),u.oneCell'=true:=by simp[Value.oneCell']
     obtain⟨-,curE,hcE⟩:=bn HD7.o.ent.row rfl;have Wj:Hd (w7.heap[E]?=some (.cells curE 33 (0,0))):=hcE;have dN:Hd (some E≠(Value.slice o4 m4 c4).ownBlock):=sW hcE hrow (by decide);obtain⟨K,hK⟩:=zN (w7.heap.size);have hB0:w0.heap.size<=K:=by rw[<-hK];exact HD7.o.size
     have dP:Hd ((w7.drew.alloc (.cells #[.string TX] 9)).heap[K]?=some (.cells #[.string TX] 9 (0,0))):=by
      have:=heap_alloc_new w7.drew (.cells #[.string TX] 9);rw[show w7.drew.heap.size=K from hK]at this;exact this
     have f3A:(w7.alloc (.cells #[.string TX] 9)).cell? ⟨E,e*4+3,none⟩=some (.slice o4 m4 c4):=(World.grownBy_alloc w7 _ none).cell f3 (by simp);clear hys hcE;go_upto_region 10 with fail
     go_cut [] from 41 (fun wx=>∃xs' vs',Dm w0 T D Lb nv kv ns ⟨d.lk,d.fm,d.tb,d.es.set e ⟨(d.es[e]'aU.o.2).nm,(d.es[e]'aU.o.2).ve,(d.es[e]'aU.o.2).dg,(d.es[e]'aU.o.2).nd++[TX]⟩,d.wt⟩ wx vt (.slice (some ⟨E,0,none⟩) el c3) vw xs' vs'/\wx.heap[bx]?=some (.cells #[.int .i64 kd,.string KY,.string TX,.int .i64 nu,.slice o m c,.int .i64 (pl:Nat)] 64 (0,0))/\wx.heap[a]?=some (.cells #[.pointer (some ⟨D,0,none⟩)] 59 (0,0))/\wx.heap[nb]?=some (.cells #[.string TX] 9 (0,0)))
     case first =>
      go_region_law (refine step_append_lies _ (by rfl) _ _ _ (by rfl) w0.heap.size 9 i0 _ 1 16 underlying31 hi0 hz0 hz1 hzb (by rfl) (by decide) (.slice o4 m4 c4) m4 ys (by rfl) (hrow.drew.alloc _) ⟨K,0,none⟩ 1 1 [.string TX] (by rfl) (by rfl) (World.news_of_block dP.o) hone (by omega) (by unfold maxLen;omega) (by omega) (by simp;omega) _ rfl ?_;intro g cap w3 hown3 hgrow hat hlt3;have hc3:w3.cell? ⟨E,e*4+3,none⟩=some (.slice o4 m4 c4):=mF f3 hgrow dN.o;have oq:w3.frozen? ⟨E,e*4+3,none⟩=false:=qF Wj.o hgrow dN.o)
      all_goals (
       go_wp2_with fail;go_meet;exact ae1 HD7.o aU.o.2 rO.o.1 rO.o.2 qI.o.1 qI.o.2.1 qI.o.2.2 gY.o (kT.o ▸ hown3) hgrow hat)
     case rest =>
      obtain⟨xs',vs',hd8,Iq,Ir,Iu⟩:=hcut;clear HD7 qI kT Wj dN dP hrow hi0 hz0 hz1 hzb f3 f0 f3A hm4 gY rO;obtain⟨i1,hi1,hjj⟩:=Option.map_eq_some_iff.1 ae0;simp only[Prod.mk.injEq]at hjj;obtain⟨hy0,hy1,hyb⟩:=hjj;obtain⟨o5,c5,hvw⟩:=kV hd8.wan;subst hvw;obtain⟨wl,hwl⟩:=zN (d.wt.length);have F6:Hd (d.wt.length=wl):=hwl;have afT:wl<=1000000:=by rw[<-hwl];exact E8.o.2
      have hd9:Dm w0 T D Lb nv kv ns ⟨d.lk,d.fm,d.tb,d.es.set e ⟨(d.es[e]'aU.o.2).nm,(d.es[e]'aU.o.2).ve,(d.es[e]'aU.o.2).dg,(d.es[e]'aU.o.2).nd++[TX]⟩,d.wt⟩ wc vt (.slice (some ⟨E,0,none⟩) el c3) (.slice o5 wl c5) xs' vs':=by rw[<-hwl];exact hd8
      have hrow:wc.ownsRow w0.heap.size 109 2 (.slice o5 wl c5) wl (d.wt.flatMap sU):=by have:=hd9.wan;rw[show(⟨d.lk,d.fm,d.tb,d.es.set e ⟨(d.es[e]'aU.o.2).nm,(d.es[e]'aU.o.2).ve,(d.es[e]'aU.o.2).dg,(d.es[e]'aU.o.2).nd++[TX]⟩,d.wt⟩:Dr).wt.length=wl from hwl]at this;exact this
      obtain⟨ys,hys⟩:=zN (d.wt.flatMap sU);have kT:Hd (d.wt.flatMap sU=ys):=hys;rw[hys]at hrow;have hone:∀u∈([.string TX,.int .i64 (pl:Nat)]:List Value),u.oneCell'=true:=by simp[Value.oneCell']
      obtain⟨-,-,-,-,-,-,d4,-⟩:=hd9.cells;have ca:wc.cell? ⟨a,0,none⟩=some (.pointer (some ⟨D,0,none⟩)):=by rw[af Ir];rfl
      have c0:wc.cell? ⟨nb,0,none⟩=some (.string TX):=by rw[af Iu];rfl
      have b5:wc.cell? ⟨bx,5,none⟩=some (.int .i64 (pl:Nat)):=by rw[af Iq];rfl
      have qc:Hd (some D≠(Value.slice o5 wl c5).ownBlock):=Oa hd9 hrow (by decide);have bH:Hd (some a≠(Value.slice o5 wl c5).ownBlock):=sW Ir hrow (by decide);have nP:Hd (wc.heap[D]?=some (.cells #[.pointer (some ⟨T,0,none⟩),.bool d.fm,vt,.slice (some ⟨E,0,none⟩) el c3,.slice o5 wl c5] 62 (0,0))):=hd9.dra;obtain⟨K2,hK2⟩:∃K,wc.heap.size=K:=⟨_,rfl⟩;have hB2:w0.heap.size<=K2:=by rw[<-hK2];exact hd9.size
      have dP:Hd ((wc.drew.alloc (.cells #[.string TX,.int .i64 (pl:Nat)] 109)).heap[K2]?=some (.cells #[.string TX,.int .i64 (pl:Nat)] 109 (0,0))):=by
       have:=heap_alloc_new wc.drew (.cells #[.string TX,.int .i64 (pl:Nat)] 109);rw[show wc.drew.heap.size=K2 from hK2]at this;exact this
      have caA:(wc.alloc (.cells #[.string TX,.int .i64 (pl:Nat)] 109)).cell? ⟨a,0,none⟩=some (.pointer (some ⟨D,0,none⟩)):=(World.grownBy_alloc wc _ none).cell ca (by simp);have d4A:(wc.alloc (.cells #[.string TX,.int .i64 (pl:Nat)] 109)).cell? ⟨D,4,none⟩=some (.slice o5 wl c5):=(World.grownBy_alloc wc _ none).cell d4 (by simp);have DY:Hd (Dm w0 T D Lb nv kv ns ⟨d.lk,d.fm,d.tb,d.es.set e ⟨(d.es[e]'aU.o.2).nm,(d.es[e]'aU.o.2).ve,(d.es[e]'aU.o.2).dg,(d.es[e]'aU.o.2).nd++[TX]⟩,d.wt⟩ wc vt (.slice (some ⟨E,0,none⟩) el c3) (.slice o5 wl c5) xs' vs'):=hd9;have Wl:Hd (some a≠(Value.slice o5 wl c5).ownBlock/\some nb≠(Value.slice o5 wl c5).ownBlock/\some bx≠(Value.slice o5 wl c5).ownBlock):=⟨bH.o,sW Iu hrow (by decide),sW Iq hrow (by decide)⟩;have oU:Hd (some a≠some D/\some nb≠some D/\some bx≠some D):=⟨fun e=>aP Ir nP.o (by decide) (Option.some.inj e),fun e=>aP Iu nP.o (by decide) (Option.some.inj e),fun e=>aP Iq nP.o (by decide) (Option.some.inj e)⟩
      clear hd8 hd9 Iq Ir Iu hys hwl;go_upto_region 11 with fail
      have Wn:Hd (wc.drew.cell? ⟨a,0,none⟩=some (.pointer (some ⟨D,0,none⟩))/\wc.drew.cell? ⟨nb,0,none⟩=some (.string TX)/\wc.drew.cell? ⟨bx,5,none⟩=some (.int .i64 (pl:Nat))):=⟨ca,c0,b5⟩;have HS2:Hd ((wc.drew.alloc (.cells #[.string TX,.int .i64 (pl:Nat)] 109)).cell? ⟨a,0,none⟩=some (.pointer (some ⟨D,0,none⟩))/\(wc.drew.alloc (.cells #[.string TX,.int .i64 (pl:Nat)] 109)).cell? ⟨nb,0,none⟩=some (.string TX)/\(wc.drew.alloc (.cells #[.string TX,.int .i64 (pl:Nat)] 109)).cell? ⟨bx,5,none⟩=some (.int .i64 (pl:Nat))):=Ip (World.grownBy_alloc wc.drew _ none) ⟨by simp,by simp,by simp⟩ Wn.o;have HD4:Hd ((wc.drew.alloc (.cells #[.string TX,.int .i64 (pl:Nat)] 109)).cell? ⟨D,4,none⟩=some (.slice o5 wl c5)):=(World.grownBy_alloc wc.drew _ none).cell d4 (by simp);refine wp_region_held_drew (S:=(fun u=>u.cell? ⟨a,0,none⟩=some (.pointer (some ⟨D,0,none⟩))/\u.cell? ⟨nb,0,none⟩=some (.string TX)/\u.cell? ⟨bx,5,none⟩=some (.int .i64 (pl:Nat)))) (by kernel_rfl) Wn.o (fun hHeld=>?_)
      refine wpAnyH_take (i:=0) (v:=.pointer (some ⟨D,0,none⟩)) rfl (by kernel_rfl) (by kernel_rfl) (by kernel_rfl) (fun _ _ _ h=>h) (Or.inl ⟨by rfl,fun w hSw=>by(try dsimp only at hSw);obtain⟨s1,s2,s3⟩:=hSw;go_simp⟩) hHeld ?_
      try simp only[Act.put,List.setIfInBounds_toArray,List.set_cons_zero,List.set_cons_succ]
      refine wpAnyH_take (i:=1) (v:=.pointer (some ⟨D,0,none⟩)) rfl (by kernel_rfl) (by kernel_rfl) (by kernel_rfl) (fun _ _ _ h=>h) (Or.inl ⟨by rfl,fun w hSw=>by(try dsimp only at hSw);obtain⟨s1,s2,s3⟩:=hSw;go_simp⟩) hHeld ?_
      try simp only[Act.put,List.setIfInBounds_toArray,List.set_cons_zero,List.set_cons_succ]
      refine wpAnyH_take (i:=2) (v:=.pointer (some ⟨D,0,none⟩)) rfl (by kernel_rfl) (by kernel_rfl) (by kernel_rfl) (fun _ _ _ h=>h) (Or.inl ⟨by rfl,fun w hSw=>by(try dsimp only at hSw);obtain⟨s1,s2,s3⟩:=hSw;go_simp⟩) hHeld ?_
      try simp only[Act.put,List.setIfInBounds_toArray,List.set_cons_zero,List.set_cons_succ]
      refine wpAnyH_take (i:=3) (v:=.pointer (some ⟨D,4,none⟩)) rfl (by kernel_rfl) (by kernel_rfl) (by kernel_rfl) (fun _ _ _ h=>h) (Or.inl ⟨by rfl,fun w hSw=>by(try dsimp only at hSw);obtain⟨s1,s2,s3⟩:=hSw;go_simp⟩) hHeld ?_
      try simp only[Act.put,List.setIfInBounds_toArray,List.set_cons_zero,List.set_cons_succ]
      refine wpAnyH_take (i:=5) (v:=.string TX) rfl (by kernel_rfl) (by kernel_rfl) (by kernel_rfl) (fun _ _ _ h=>h) (Or.inl ⟨by rfl,fun w hSw=>by(try dsimp only at hSw);obtain⟨s1,s2,s3⟩:=hSw;go_simp⟩) hHeld ?_
      try simp only[Act.put,List.setIfInBounds_toArray,List.set_cons_zero,List.set_cons_succ]
      refine wpAnyH_take (i:=6) (v:=.pointer (some ⟨bx,5,none⟩)) rfl (by kernel_rfl) (by kernel_rfl) (by kernel_rfl) (fun _ _ _ h=>h) (Or.inl ⟨by rfl,fun w hSw=>by(try dsimp only at hSw);obtain⟨s1,s2,s3⟩:=hSw;go_simp⟩) hHeld ?_
      try simp only[Act.put,List.setIfInBounds_toArray,List.set_cons_zero,List.set_cons_succ]
      refine wpAnyH_take (i:=7) (v:=.int .i64 (pl:Nat)) rfl (by kernel_rfl) (by kernel_rfl) (by kernel_rfl) (fun _ _ _ h=>h) (Or.inl ⟨by rfl,fun w hSw=>by(try dsimp only at hSw);obtain⟨s1,s2,s3⟩:=hSw;go_simp⟩) hHeld ?_
      try simp only[Act.put,List.setIfInBounds_toArray,List.set_cons_zero,List.set_cons_succ]
      refine wpAnyH_take (i:=8) (v:=.agg #[.string TX,.int .i64 (pl:Nat)]) rfl (by kernel_rfl) (by kernel_rfl) (by kernel_rfl) (fun _ _ _ h=>h) (Or.inl ⟨by rfl,fun w hSw=>by(try dsimp only at hSw);obtain⟨s1,s2,s3⟩:=hSw;go_simp⟩) hHeld ?_
      try simp only[Act.put,List.setIfInBounds_toArray,List.set_cons_zero,List.set_cons_succ]
      refine wpAnyH_ready (rs:=[4,9]) (by kernel_rfl) (by simp) ?_;refine AllReadyH.cons rfl (fun J1 hJ1=>?_) (AllReadyH.cons rfl (fun J1 hJ1=>?_) AllReadyH.nil)
      ·go_simp
       refine hJ1.out _ _ hHeld (fun _=>?_)
       try simp only[Act.put,List.setIfInBounds_toArray,List.set_cons_zero,List.set_cons_succ]
       refine wpAnyH_ready (rs:=[9]) (by kernel_rfl) (by simp) ?_;refine AllReadyH.cons rfl (fun J2 hJ2=>?_) AllReadyH.nil;clear hJ1
       go_simp
       refine hJ2.out _ _ HS2.o (fun _=>?_);clear hJ2
       try simp only[Act.put,List.setIfInBounds_toArray,List.set_cons_zero,List.set_cons_succ]
       refine wpAnyH_ready (rs:=[10]) (by kernel_rfl) (by simp) ?_;refine AllReadyH.cons rfl (fun J3 hJ3=>?_) AllReadyH.nil;refine step_append_lies _ (by rfl) _ _ _ (by rfl) w0.heap.size 109 i1 _ 2 24 underlying60 hi1 hy0 hy1 hyb (by rfl) (by decide) (.slice o5 wl c5) wl ys (by rfl) (hrow.drew.alloc _) ⟨K2,0,none⟩ 1 1 [.string TX,.int .i64 (pl:Nat)] (by rfl) (by rfl) (World.news_of_block dP.o) hone (by omega) (by unfold maxLen;omega) (by omega) (by simp;omega) _ rfl ?_;intro g cap w3 hown3 hgrow hat hlt3;have hs3:=Ip hgrow Wl.o HS2.o;have hc3:w3.cell? ⟨D,4,none⟩=some (.slice o5 wl c5):=mF d4 hgrow qc.o;have oq:w3.frozen? ⟨D,4,none⟩=false:=qF nP.o hgrow qc.o;have hs4:=fun v=>cellsS (k:=4) (v:=v) oU.o hs3
       refine hJ3.out _ _ hs3 (fun _=>?_)
       try simp only[Act.put,List.setIfInBounds_toArray,List.set_cons_zero,List.set_cons_succ]
       refine wpAnyH_take (i:=11) (v:=.pointer (some ⟨D,0,none⟩)) rfl (by kernel_rfl) (by kernel_rfl) (by kernel_rfl) (fun _ _ _ h=>h) (Or.inl ⟨by rfl,fun w hSw=>by(try dsimp only at hSw);obtain⟨s1,s2,s3⟩:=hSw;go_simp⟩) hs3 ?_
       try simp only[Act.put,List.setIfInBounds_toArray,List.set_cons_zero,List.set_cons_succ]
       refine wpAnyH_take (i:=12) (v:=.pointer (some ⟨D,4,none⟩)) rfl (by kernel_rfl) (by kernel_rfl) (by kernel_rfl) (fun _ _ _ h=>h) (Or.inl ⟨by rfl,fun w hSw=>by(try dsimp only at hSw);obtain⟨s1,s2,s3⟩:=hSw;go_simp⟩) hs3 ?_
       try simp only[Act.put,List.setIfInBounds_toArray,List.set_cons_zero,List.set_cons_succ]
       refine wpAnyH_ready (rs:=[13]) (by kernel_rfl) (by simp) ?_;refine AllReadyH.cons rfl (fun J4 hJ4=>?_) AllReadyH.nil;clear hJ3
       go_simp
       refine hJ4.out _ _ (hs4 _) (fun _=>?_);refine wpAnyH_done (by kernel_rfl) ?_ _;obtain⟨v',hd⟩:=Wi DY.o F6.o (kT.o ▸ hown3) hgrow;have HF:Hd (Dm w0 T D Lb nv kv ns ⟨d.lk,d.fm,d.tb,d.es.set e ⟨(d.es[e]'aU.o.2).nm,(d.es[e]'aU.o.2).ve,(d.es[e]'aU.o.2).dg,(d.es[e]'aU.o.2).nd++[TX]⟩,d.wt++[(TX,pl)]⟩ (w3.setCell ⟨D,4,none⟩ (.slice (some ⟨g,0,none⟩) (wl+1) cap)) vt (.slice (some ⟨E,0,none⟩) el c3) v' xs' vs'):=hd;clear hd hJ4 hs3 hs4 hown3 hgrow hat hlt3 hHeld;go_wp2;go_ret;rw[HY.o];exact wU HF.o
      ·go_simp
       refine hJ1.out _ _ HS2.o (fun _=>?_)
       try simp only[Act.put,List.setIfInBounds_toArray,List.set_cons_zero,List.set_cons_succ]
       refine wpAnyH_ready (rs:=[4]) (by kernel_rfl) (by simp) ?_;refine AllReadyH.cons rfl (fun J2 hJ2=>?_) AllReadyH.nil;clear hJ1;have cT2:=HD4.o
       go_simp
       refine hJ2.out _ _ HS2.o (fun _=>?_);clear hJ2 cT2
       try simp only[Act.put,List.setIfInBounds_toArray,List.set_cons_zero,List.set_cons_succ]
       refine wpAnyH_ready (rs:=[10]) (by kernel_rfl) (by simp) ?_;refine AllReadyH.cons rfl (fun J3 hJ3=>?_) AllReadyH.nil;refine step_append_lies _ (by rfl) _ _ _ (by rfl) w0.heap.size 109 i1 _ 2 24 underlying60 hi1 hy0 hy1 hyb (by rfl) (by decide) (.slice o5 wl c5) wl ys (by rfl) (hrow.drew.alloc _) ⟨K2,0,none⟩ 1 1 [.string TX,.int .i64 (pl:Nat)] (by rfl) (by rfl) (World.news_of_block dP.o) hone (by omega) (by unfold maxLen;omega) (by omega) (by simp;omega) _ rfl ?_;intro g cap w3 hown3 hgrow hat hlt3;have hs3:=Ip hgrow Wl.o HS2.o;have hc3:w3.cell? ⟨D,4,none⟩=some (.slice o5 wl c5):=mF d4 hgrow qc.o;have oq:w3.frozen? ⟨D,4,none⟩=false:=qF nP.o hgrow qc.o;have hs4:=fun v=>cellsS (k:=4) (v:=v) oU.o hs3
       refine hJ3.out _ _ hs3 (fun _=>?_)
       try simp only[Act.put,List.setIfInBounds_toArray,List.set_cons_zero,List.set_cons_succ]
       refine wpAnyH_take (i:=11) (v:=.pointer (some ⟨D,0,none⟩)) rfl (by kernel_rfl) (by kernel_rfl) (by kernel_rfl) (fun _ _ _ h=>h) (Or.inl ⟨by rfl,fun w hSw=>by(try dsimp only at hSw);obtain⟨s1,s2,s3⟩:=hSw;go_simp⟩) hs3 ?_
       try simp only[Act.put,List.setIfInBounds_toArray,List.set_cons_zero,List.set_cons_succ]
       refine wpAnyH_take (i:=12) (v:=.pointer (some ⟨D,4,none⟩)) rfl (by kernel_rfl) (by kernel_rfl) (by kernel_rfl) (fun _ _ _ h=>h) (Or.inl ⟨by rfl,fun w hSw=>by(try dsimp only at hSw);obtain⟨s1,s2,s3⟩:=hSw;go_simp⟩) hs3 ?_
       try simp only[Act.put,List.setIfInBounds_toArray,List.set_cons_zero,List.set_cons_succ]
       refine wpAnyH_ready (rs:=[13]) (by kernel_rfl) (by simp) ?_;refine AllReadyH.cons rfl (fun J4 hJ4=>?_) AllReadyH.nil;clear hJ3
       go_simp
       refine hJ4.out _ _ (hs4 _) (fun _=>?_);refine wpAnyH_done (by kernel_rfl) ?_ _;obtain⟨v',hd⟩:=Wi DY.o F6.o (kT.o ▸ hown3) hgrow;have HF:Hd (Dm w0 T D Lb nv kv ns ⟨d.lk,d.fm,d.tb,d.es.set e ⟨(d.es[e]'aU.o.2).nm,(d.es[e]'aU.o.2).ve,(d.es[e]'aU.o.2).dg,(d.es[e]'aU.o.2).nd++[TX]⟩,d.wt++[(TX,pl)]⟩ (w3.setCell ⟨D,4,none⟩ (.slice (some ⟨g,0,none⟩) (wl+1) cap)) vt (.slice (some ⟨E,0,none⟩) el c3) v' xs' vs'):=hd;clear hd hJ4 hs3 hs4 hown3 hgrow hat hlt3 hHeld;go_wp2;go_ret;rw[HY.o];exact wU HF.o
  ·have g2':nameB TX=false:=by simpa using g2
   rw[if_neg g2]at htk;have CG:Hd (Calls prog 77 #[.agg #[.int .i64 kd,.string KY,.string TX,.int .i64 nu,.slice o m c,.int .i64 (pl:Nat)],.func (.func 58) #[] #[],.pointer (some ⟨nb,0,none⟩)] W2 fun e' w'=>e'=.returned (.int .i64 2)/\W2.grownBy w' none):=CT.o.mono fun e' w' h=>h.2.1 g1 g2'
   have HY:Hd (R=.error 2):=by
    show _=_;rw[<-HR0.o];unfold oL;rw[htk,if_neg (show ¬(2:Int)=0 by decide)]
   clear CT g1 g2 g2' HR0 htk;go_upto_region 3 with fail
   try rw[HW2.o.1]
   try rw[HW2.o.2]
   go_wp2_with (go_at_call 77;refine CG.o.mono ?_)
   first|rintro e' w2 rfl hg2|rintro e' w2 ⟨rfl,hg2⟩
   have HG2:Hd (w.grownBy w2 none):=ai lF.o (ai tq.o hg2);clear hg2;go_wp2;go_ret;rw[HY.o];exact lZ (by decide) HG2.o
 ·rw[if_pos g1]at htk;have CG:Hd (Calls prog 77 #[.agg #[.int .i64 kd,.string KY,.string TX,.int .i64 nu,.slice o m c,.int .i64 (pl:Nat)],.func (.func 58) #[] #[],.pointer (some ⟨nb,0,none⟩)] W2 fun e' w'=>e'=.returned (.int .i64 7)/\W2.grownBy w' none):=CT.o.mono fun e' w' h=>h.1 g1
  have HY:Hd (R=.error 7):=by
   show _=_;rw[<-HR0.o];unfold oL;rw[htk,if_neg (show ¬(7:Int)=0 by decide)]
  clear CT g1 HR0 htk;go_upto_region 3 with fail
  try rw[HW2.o.1]
  try rw[HW2.o.2]
  go_wp2_with (go_at_call 77;refine CG.o.mono ?_)
  first|rintro e' w2 rfl hg2|rintro e' w2 ⟨rfl,hg2⟩
  have HG2:Hd (w.grownBy w2 none):=ai lF.o (ai tq.o hg2);clear hg2;go_wp2;go_ret;rw[HY.o];exact lZ (by decide) HG2.o
end
open Go.RowKit Go.Maps Go.WideMaps Go.Joins
theorem eg1:∀args w,(callFunc 24 args).run prog w=.ok (.enter 24 args) w:=enters_of func24 (by kernel_rfl) rfl
theorem eg2:∀args w,(callFunc 49 args).run prog w=.ok (.enter 49 args) w:=enters_of func49 (by kernel_rfl) rfl
theorem eg3:∀args w,(callFunc 75 args).run prog w=.ok (.enter 75 args) w:=enters_of func75 (by kernel_rfl) rfl
theorem eg4:∀args w,(callFunc 118 args).run prog w=.ok (.enter 118 args) w:=enters_of func118 (by kernel_rfl) rfl
theorem ae4(W:World):(binOp .eql 67 .nilFunc .nilFunc).run prog W=.ok (.bool true) W:=by kernel_rfl
theorem ae5(F:Nat)(cp:Array Value)(W:World):(binOp .eql 67 (.func (.func F) #[] cp) .nilFunc).run prog W=.ok (.bool false) W:=by kernel_rfl
theorem ae6{d:Dr}{q:Nat}{x:Tn}{k:iI}{z:Int}(h:gm d q x k=.error z):¬z=0:=by
 have put:∀{is:ByteArray->Bool} {e:Nat} {y:En},oJ d x is e y=.error z->¬z=0:=fun h=>by
  unfold oJ at h;split at h
  ·cases h
  ·rename_i h2;cases h;exact h2
 unfold gm at h;split at h
 ·split at h
  ·split at h
   ·cases h;decide
   ·split at h
    ·cases h;decide
    ·cases h
  ·split at h
   ·cases h
   ·cases h;decide
 ·split at h
  ·cases h;decide
  ·cases h
 ·unfold lX at h;split at h
  ·split at h
   ·split at h
    ·cases h;decide
    ·cases h
   ·rename_i h2;cases h;exact h2
  ·split at h
   ·exact put h
   ·split at h
    ·exact put h
    ·split at h
     ·cases h
     ·cases h;decide
 ·unfold oL at h;split at h
  ·split at h
   ·cases h;decide
   ·split at h
    ·cases h;decide
    ·cases h
  ·rename_i h2;cases h;exact h2
section
variable {w0:World} {T D Lb:Nat} {nv:Value} {kv:Nat->Value} {ns:List Tn} {d:Dr} {w w':World} {vt ve vw:Value} {xs:List Value} {vs:Nat->Value}
theorem ae7{N c:Nat}(h:Dm w0 T D Lb nv kv ns d w vt ve vw xs vs)(H:Nd w0 N c kv ns)(I:DrI d)(hwt:d.wt.length<=1000000)(i:Nat)(hi:i<ns.length)(k:iI)(hk:d.lk i=some k)(v:Value)(hv:LkV w D T v (some k)):∃F cp,v=.func (.func F) #[] cp/\(∀args w,(callFunc F args).run prog w=.ok (.enter F args) w)/\∀w',w.grownBy w' none->Calls prog F (#[.agg (dK ns[i] (kv i))]++cp) w' (pX w0 T D Lb nv kv ns (gm d i ns[i] k) w'):=by
 have hel:d.es.length<=1000:=by have:=I.tl;have:=I.t50;omega
 match k,hk,hv with
 | .root,hk,⟨a,b,hv,ha,hb⟩=>exact⟨_,_,hv,eg1,fun w' hg=>ad7 (h.grow hg) i ns[i] (kv i) (H.kid i hi) (H.rng i hi) (H.num i hi) a b ((aX hg).blk ha) ((aX hg).blk hb)⟩
 | .tabs,hk,⟨a,hv,ha⟩=>exact⟨_,_,hv,eg2,fun w' hg=>aeB (h.grow hg) i hi (H.kid i hi) (H.rng i hi) (H.num i hi) hel (by have:=I.t50;omega) a ((aX hg).blk ha)⟩
 | .key e,hk,⟨a,b,hv,ha,hb⟩=>exact⟨_,_,hv,eg3,fun w' hg=>aey (h.grow hg) i ns[i] (kv i) (H.kid i hi) (H.rng i hi) (H.num i hi) (H.tex i hi) e (I.ky i e hk) hel a b ((aX hg).blk ha) ((aX hg).blk hb)⟩
 | .val e,hk,⟨a,b,hv,ha,hb⟩=>exact⟨_,_,hv,eg4,fun w' hg=>ae2 (h.grow hg) i ns[i] (kv i) (H.kid i hi) (H.tex i hi) e (I.va i e hk) hel (by have:=I.nd e;omega) hwt a b ((aX hg).blk ha) ((aX hg).blk hb)⟩
def Iw(w0:World)(T D Lb:Nat)(nv:Value)(kv:Nat->Value)(ns:List Tn)(r:Rs Dr)(e:Ending)(w':World):Prop :=
 (∀d',r=.ok d'->e=.returned (.tuple #[.int .i64 0,.int .i64 0])/\(DrI d'/\DrN d'/\d'.wt.length<=1000000/\∀q∈d'.tb,q<ns.length)/\∃vt ve vw xs vs,Dm w0 T D Lb nv kv ns d' w' vt ve vw xs vs)/\(∀c,r=.error c->e=.returned (.tuple #[.int .i64 c.1,.int .i64 (c.2:Nat)])/\¬c.1=0/\w0.grownBy w' none)
theorem ae8{w0:World}{T D Lb:Nat}{nv:Value}{kv:Nat->Value}{ns:List Tn}{d':Dr}{w':World}{vt ve vw:Value}{xs:List Value}{vs:Nat->Value}(hI:DrI d'/\DrN d'/\d'.wt.length<=1000000/\∀q∈d'.tb,q<ns.length)(h:Dm w0 T D Lb nv kv ns d' w' vt ve vw xs vs):Iw w0 T D Lb nv kv ns (.ok d') (.returned (.tuple #[.int .i64 0,.int .i64 0])) w' :=
 ⟨fun d e=>(by cases e;exact⟨rfl,hI,_,_,_,_,_,h⟩),fun c e=>(by cases e)⟩
theorem ae9{w0:World}{T D Lb:Nat}{nv:Value}{kv:Nat->Value}{ns:List Tn}{z:Int}{p:Nat}{w':World}(hz:¬z=0)(h:w0.grownBy w' none):Iw w0 T D Lb nv kv ns (.error (z,p)) (.returned (.tuple #[.int .i64 z,.int .i64 (p:Nat)])) w' :=
 ⟨fun d e=>(by cases e),fun c e=>(by cases e;exact⟨rfl,hz,h⟩)⟩
theorem check_any(N c:Nat)(h:Dm w0 T D Lb (.slice (some ⟨N,0,none⟩) ns.length c) kv ns d w vt ve vw xs vs)(H:Nd w0 N c kv ns)(I:DrI d)(M:DrN d)(hwt:d.wt.length=0)(htb:d.tb=[])(hc:ns.length<=c) :
  Calls prog 27 #[.pointer (some ⟨T,0,none⟩)] w (Iw w0 T D Lb (.slice (some ⟨N,0,none⟩) ns.length c) kv ns (iJ ns ns.length d)):=by
 obtain⟨n,hn⟩:=zN (ns.length);have HN:Hd (ns.length=n/\ns.length<=1000000):=⟨hn,H.len⟩;have HH:Hd (Nd w0 N c kv ns):=H;obtain⟨R,hR⟩:∃R:Rs Dr,iJ ns ns.length d=R:=⟨_,rfl⟩;rw[hR];have HR:Hd (iJ ns ns.length d=R):=hR;have HD:Hd (Dm w0 T D Lb (.slice (some ⟨N,0,none⟩) n c) kv ns d w vt ve vw xs vs):=by rw[<-hn];exact h
 have HI:Hd (DrI d/\DrN d/\d.wt.length=0/\d.tb=[]):=⟨I,M,hwt,htb⟩;obtain⟨t0,-,-,-,-,-,-,-⟩:=HD.o.cells;rw[hn]at hc ⊢;clear h H I M hwt htb hR hn;go_enter func27,ntmps27;go_wp2;go_loopw [12] (fun vi wr=>∃(i:Nat) (di:Dr) (vt ve vw:Value) (xs:List Value) (vs:Nat->Value),vi=.int .i64 (i:Nat)/\i<=n/\Dm w0 T D Lb (.slice (some ⟨N,0,none⟩) n c) kv ns di wr vt ve vw xs vs/\(DrI di/\DrN di/\di.wt.length<=i/\∀q∈di.tb,q<ns.length)/\iJ ns (n-i) di=R) (fun vi _=>n-(intOf vi).toNat)
 case atStart =>
  refine⟨0,d,vt,ve,vw,xs,vs,rfl,by omega,HD.o,⟨HI.o.1,HI.o.2.1,by rw[HI.o.2.2.1];omega,by rw[HI.o.2.2.2];intro q hq;cases hq⟩,?_⟩;rw[<-HR.o,HN.o.1];rfl
 case round =>
  obtain⟨i,di,vt,ve,vw,xs,vs,rfl,hi,hd,hI,hch⟩:=hrel;have uJ:Hd (Dm w0 T D Lb (.slice (some ⟨N,0,none⟩) n c) kv ns di wr vt ve vw xs vs):=hd;have jo:Hd (DrI di/\DrN di/\di.wt.length<=i/\∀q∈di.tb,q<ns.length):=hI;have Oq:Hd (iJ ns (n-i) di=R):=hch;clear HD HI HR t0 hd hI hch;have hn6:n<=1000000:=by have:=HN.o;omega
  by_cases hlt:i<n
  ·have hin:i<ns.length:=by rw[HN.o.1];exact hlt
   obtain⟨c0,c1,c2,c3,c4,c5⟩:=HH.o.cel i hin;obtain⟨o4,m4,hk4,-⟩:=HH.o.kid i hin;obtain⟨v,hlc,hlv,-⟩:=uJ.o.lcell hin;obtain⟨x,hx⟩:=zN (ns[i]);have HX:Hd (ns[i]=x/\i<ns.length):=⟨hx,hin⟩;rw[hx]at c0 c1 c2 c3 c5 hk4;rw[hk4]at c4;have mW:Hd (kv i=.slice o4 x.ks.length m4):=hk4;have hG:=uJ.o.gb;have e0:=hG.cell c0 (by simp);have e1:=hG.cell c1 (by simp);have e2:=hG.cell c2 (by simp);have e3:=hG.cell c3 (by simp);have e4:=hG.cell c4 (by simp);have e5:=hG.cell c5 (by simp);obtain⟨-,t1,-,-,-,-,-,-⟩:=uJ.o.cells;rw[HN.o.1]at t1;have hstp:iJ ns (ns.length-i) di=match stepD ns i di with | .error e=>.error e | .ok d'=>iJ ns (ns.length-(i+1)) d':=UB di hin
   have nX:iJ ns (ns.length-i) di=R:=by rw[HN.o.1];exact Oq.o
   clear c0 c1 c2 c3 c4 c5 hk4 hG hx
   cases hkk:di.lk i with
   | none =>
    rw[hkk]at hlv;have hv:v=.nilFunc:=hlv;subst hv;have gX:Hd (iJ ns (n-(i+1)) di=R):=by
     show _=_;rw[<-nX,hstp];unfold stepD;rw[List.getElem?_eq_getElem hin];simp only[];rw[hkk,HN.o.1]
    obtain⟨W,hW⟩:=zN (wr.alloc (.cells (dK x (.slice o4 x.ks.length m4)) 64));have gV:Hd (wr.grownBy W none):=hW ▸ dn (ak wr none) _;unfold dK at hW;have t1W:=gV.o.cell t1 (by simp);have afa:=gV.o.cell hlc (by simp);clear hlv hstp nX hkk;have BC:=ae4;go_wp2;exact⟨⟨i+1,di,vt,ve,vw,xs,vs,by go_num,by omega,uJ.o.grow gV.o,⟨jo.o.1,jo.o.2.1,by have:=jo.o.2.2.1;omega,jo.o.2.2.2⟩,gX.o⟩,by simp[intOf];omega⟩
   | some k =>
    rw[hkk]at hlv;obtain⟨F,cp,hv,eF,CF⟩:=ae7 uJ.o HH.o jo.o.1 (by have:=jo.o.2.2.1;have:=HN.o;omega) i hin k hkk v hlv;subst hv;have lD:Hd (∀w',wr.grownBy w' none->Calls prog F (#[.agg (dK ns[i] (kv i))]++cp) w' (pX w0 T D Lb (.slice (some ⟨N,0,none⟩) n c) kv ns (gm di i ns[i] k) w')):=CF;obtain⟨r,hr⟩:=zN (gm di i ns[i] k);rw[hr,HX.o.1,mW.o]at lD;rw[hstp]at nX;unfold stepD at nX;rw[List.getElem?_eq_getElem hin]at nX;simp only[]at nX;rw[hkk]at nX;simp only[]at nX;rw[hr,HX.o.1]at nX;unfold dK at lD;obtain⟨kd,ky,tx,nu,ks,pl⟩:=x;simp only[]at e0 e1 e2 e3 e4 e5 lD nX;obtain⟨bx,hbx⟩:=zN (wr.heap.size);obtain⟨W,hW⟩:=zN (wr.alloc (.cells #[.int .i64 kd,.string ⟨ky.toArray⟩,.string ⟨tx.toArray⟩,.int .i64 nu,.slice o4 ks.length m4,.int .i64 (pl:Nat)] 64));have gV:Hd (wr.grownBy W none):=hW ▸ dn (ak wr none) _
    have hB:W.heap[bx]?=some (.cells #[.int .i64 kd,.string ⟨ky.toArray⟩,.string ⟨tx.toArray⟩,.int .i64 nu,.slice o4 ks.length m4,.int .i64 (pl:Nat)] 64 (0,0)):=by rw[<-hW,<-hbx];exact heap_alloc_new _ _
    have t1W:=gV.o.cell t1 (by simp);have afa:=gV.o.cell hlc (by simp);have BC:=ae5 F cp;have iw:Hd (wr.grownBy W.drew none):=au gV.o 1;have b0:W.cell? ⟨bx,0,none⟩=some (.int .i64 kd):=by rw[af hB];rfl
    have b1:W.cell? ⟨bx,1,none⟩=some (.string ⟨ky.toArray⟩):=by rw[af hB];rfl
    have b2:W.cell? ⟨bx,2,none⟩=some (.string ⟨tx.toArray⟩):=by rw[af hB];rfl
    have b3:W.cell? ⟨bx,3,none⟩=some (.int .i64 nu):=by rw[af hB];rfl
    have b4:W.cell? ⟨bx,4,none⟩=some (.slice o4 ks.length m4):=by rw[af hB];rfl
    have b5:W.cell? ⟨bx,5,none⟩=some (.int .i64 (pl:Nat)):=by rw[af hB];rfl
    have HEF:Hd (∀args w,(callFunc F args).run prog w=.ok (.enter F args) w):=eF;have rQ:Hd (W.drew.cell? ⟨bx,5,none⟩=some (.int .i64 (pl:Nat))):=(au (ak W none) 1).cell b5 (by simp)
    cases r with
    | error z =>
     have HY:Hd (R=.error (z,pl)):=nX.symm;have hz:(z != 0)=true:=by simpa using ae6 hr
     have CG:Hd (Calls prog F (#[.agg #[.int .i64 kd,.string ⟨ky.toArray⟩,.string ⟨tx.toArray⟩,.int .i64 nu,.slice o4 ks.length m4,.int .i64 (pl:Nat)]]++cp) W.drew fun e' w'=>e'=.returned (.int .i64 z)/\Hd (¬z=0/\w0.grownBy w' none)/\w'.cell? ⟨bx,5,none⟩=some (.int .i64 (pl:Nat))):=(lD.o _ iw.o).mono fun e' w' hh=>by
      obtain⟨a1,a2,a3⟩:=hh.2 z rfl;exact⟨a1,⟨a2,ai uJ.o.gb (ai iw.o a3)⟩,a3.cell rQ.o (by simp)⟩
     clear hlv hstp nX hkk CF hr hB lD rQ jo Oq;go_wp2;go_region_with (first|(refine CG.o.mono ?_;rintro e' w7 ⟨rfl,hq7,hc7⟩));go_wp2
     all_goals (
      go_quiet (fail);go_wp2;refine bodyPost_ret (results_tmp2 (t:=2) (u:=3) rfl _ _ _) rfl ?_;rw[HY.o];exact ae9 hq7.o.1 (au hq7.o.2 nq))
    | ok d' =>
     have gX:Hd (iJ ns (n-(i+1)) d'=R):=by show _=_;rw[<-HN.o.1];exact nX
     have Dv:Hd (DrI d'/\DrN d'/\d'.wt.length<=i+1/\∀q∈d'.tb,q<ns.length):=by
      have h1:=look_ok jo.o.1 (fun e' he=>jo.o.1.ky i e' (by rw[hkk,he])) (fun e' he=>jo.o.1.va i e' (by rw[hkk,he])) hr;refine⟨h1.1,ac0 jo.o.2.1 hr,by have:=jo.o.2.2.1;omega,fun q hq=>?_⟩
      rcases acZ hr q hq with h2|h2
      ·exact jo.o.2.2.2 q h2
      ·rw[h2];exact hin
     have CG:Hd (Calls prog F (#[.agg #[.int .i64 kd,.string ⟨ky.toArray⟩,.string ⟨tx.toArray⟩,.int .i64 nu,.slice o4 ks.length m4,.int .i64 (pl:Nat)]]++cp) W.drew fun e' w'=>e'=.returned (.int .i64 0)/\Hd (∃vt ve vw xs vs,Dm w0 T D Lb (.slice (some ⟨N,0,none⟩) n c) kv ns d' w' vt ve vw xs vs)):=(lD.o _ iw.o).mono fun e' w' hh=>hh.1 d' rfl
     clear hlv hstp nX hkk CF hr hB lD rQ;go_wp2;go_region_with (first|(refine CG.o.mono ?_;rintro e' w7 ⟨rfl,hq7⟩));go_wp2
     all_goals obtain⟨vt7,ve7,vw7,xs7,vs7,hD7⟩:=hq7.o
     all_goals exact⟨⟨i+1,d',vt7,ve7,vw7,xs7,vs7,by go_num,by omega,hD7,Dv.o,gX.o⟩,by simp[intOf];omega⟩
  ·have him:i=n:=by omega
   have HF:Hd (R=.ok di):=by
    show _=_;rw[<-Oq.o,him,Nat.sub_self];rfl
   go_wp2;refine bodyPost_ret (results_tmp2 (t:=2) (u:=3) rfl _ _ _) rfl ?_;rw[HF.o];exact ae8 ⟨jo.o.1,jo.o.2.1,by have:=jo.o.2.2.1;have:=HN.o;omega,jo.o.2.2.2⟩ uJ.o
end
end Go.Proofs.YtnnbgjaphfhibaaGreatDoor
