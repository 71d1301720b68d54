import Derived.Test.YtnnbgjaphfhibaaGreatDoorE39
import Derived.Test.YtnnbgjaphfhibaaGreatDoorE41
set_option linter.all false
set_option maxRecDepth 100000
set_option maxHeartbeats 0
open Go.Proofs.Tryz
namespace Go.Proofs.YtnnbgjaphfhibaaGreatDoor
open Go.RowKit Go.Maps Go.WideMaps Go.Joins
theorem aiZ:(prog.info? 109).map (fun i=>(i.zero,i.size,i.bytes))=some (some (.agg #[.string ⟨#[]⟩,.int .i64 0]),2,24):=by kernel_rfl
section
variable {w0:World} {T D Lb:Nat} {nv:Value} {kv:Nat->Value} {ns:List Tn} {d:Dr} {w w':World} {vt ve vw:Value} {xs:List Value} {vs:Nat->Value}
theorem QT{t:TypeId}{s n:Nat}{v:Value}{ys:List Value}{w1:World}(h:w0.grownBy w none)(hr:w.ownsRow w0.heap.size t s v n ys)(hg:w.grownBy w1 v.ownBlock):w0.grownBy w1 none:=by
 cases hb:v.ownBlock with
 | none=>rw[hb]at hg;exact ai h hg
 | some g =>
  rw[hb]at hg;exact nR h hg (bH hr hb).1
theorem Dm.need{E n c:Nat}(h:Dm w0 T D Lb nv kv ns d w vt (.slice (some ⟨E,0,none⟩) n c) vw xs vs){i:Nat}(hi:i<d.es.length)(s:ByteArray){w1:World}{v':Value}(ho:w1.ownsRow w0.heap.size 9 1 v' (d.es[i].nd.length+1) (d.es[i].nd.map Value.string++[.string s]))(hg:w.grownBy w1 (vs i).ownBlock)(hat:v'.ownBlock=(vs i).ownBlock\/v'.ownBlock=some w.heap.size\/∃g,v'.ownBlock=some g/\w.heap.size<=g) :
  Dm w0 T D Lb nv kv ns ⟨d.lk,d.fm,d.tb,d.es.set i ⟨d.es[i].nm,d.es[i].ve,d.es[i].dg,d.es[i].nd++[s]⟩,d.wt⟩ (w1.setCell ⟨E,i*4+3,none⟩ v') vt (.slice (some ⟨E,0,none⟩) n c) vw (xs.set (i*4+3) v') (fun j=>if j=i then v' else vs j):=by
 have hr:=h.ent.nee i hi;have kt:∀t,¬t=9->Kt t w w1:=fun t ht=>zB hr hg ht
 obtain⟨Qc,cur,hE⟩:=bH h.ent.row rfl;have hc:=(kt _ (by decide)).blk hE;have k3:∀t,¬t=9->¬t=33->Kt t w (w1.setCell ⟨E,i*4+3,none⟩ v'):=fun t h1 h2=>(kt t h1).two (iO _ hc h2)
 exact⟨nR (QT h.gb hr hg) (iL w1 E _ _) Qc,(k3 _ (by decide) (by decide)).blk h.tre,(k3 _ (by decide) (by decide)).blk h.dra,h.lok.keep (k3 _ (by decide) (by decide)) ⟨k3 _ (by decide) (by decide),k3 _ (by decide) (by decide),k3 _ (by decide) (by decide)⟩,(k3 _ (by decide) (by decide)).row h.tab,h.ent.need hi s ho hg hat,(k3 _ (by decide) (by decide)).row h.wan,h.bD,h.bL⟩
theorem Dm.want(h:Dm w0 T D Lb nv kv ns d w vt ve vw xs vs)(y:ByteArray × Nat){w1:World}{v':Value}(ho:w1.ownsRow w0.heap.size 109 2 v' (d.wt.length+1) (d.wt.flatMap yt++yt y))(hg:w.grownBy w1 vw.ownBlock):Dm w0 T D Lb nv kv ns ⟨d.lk,d.fm,d.tb,d.es,d.wt++[y]⟩ (w1.setCell ⟨D,4,none⟩ v') vt ve v' xs vs:=by
 have kt:∀t,¬t=109->Kt t w w1:=fun t ht=>zB h.wan hg ht
 have hc:=(kt _ (by decide)).blk h.dra;have k2:∀t,¬t=62->Kt t w1 (w1.setCell ⟨D,4,none⟩ v'):=fun t ht=>iO _ hc ht
 have k3:∀t,¬t=109->¬t=62->Kt t w (w1.setCell ⟨D,4,none⟩ v'):=fun t h1 h2=>(kt t h1).two (k2 t h2)
 refine⟨nR (QT h.gb h.wan hg) (iL w1 D 4 _) h.bD,(k3 _ (by decide) (by decide)).blk h.tre,block_setCell (i:=4) hc _,h.lok.keep (k3 _ (by decide) (by decide)) ⟨k3 _ (by decide) (by decide),k3 _ (by decide) (by decide),k3 _ (by decide) (by decide)⟩,(k3 _ (by decide) (by decide)).row h.tab,h.ent.keep (k3 _ (by decide) (by decide)) (k3 _ (by decide) (by decide)),?_,h.bD,h.bL⟩;rw[List.length_append,List.flatMap_append];simp only[List.length_cons,List.length_nil,List.flatMap_cons,List.flatMap_nil,List.append_nil];exact(k2 _ (by decide)).row ho
theorem ai0{W w3:World}{a bx nb e E n c3 m4 c4 g cap:Nat}{o4:Option Addr}{A6:Array Value}{TX:ByteArray}(h:Dm w0 T D Lb nv kv ns d W vt (.slice (some ⟨E,0,none⟩) n c3) vw xs vs)(he:e<d.es.length)(hv:vs e=.slice o4 m4 c4)(hm:d.es[e].nd.length=m4)(hb:W.heap[bx]?=some (.cells A6 64 (0,0)))(ha:W.heap[a]?=some (.cells #[.pointer (some ⟨D,0,none⟩)] 59 (0,0)))(hn:W.heap[nb]?=some (.cells #[.string TX] 9 (0,0)))
  (hfn:some nb≠(Value.slice o4 m4 c4).ownBlock) (ho:w3.ownsRow w0.heap.size 9 1 (.slice (some ⟨g,0,none⟩) (m4+1) cap) (m4+1) (d.es[e].nd.map Value.string++[.string TX])) (hg:(W.drew.alloc (.cells #[.string TX] 9)).grownBy w3 (Value.slice o4 m4 c4).ownBlock) (hat:(Value.slice o4 m4 c4).ownBlock=some g\/g=(W.drew.alloc (.cells #[.string TX] 9)).heap.size) :
  ∃xs' vs',Dm w0 T D Lb nv kv ns ⟨d.lk,d.fm,d.tb,d.es.set e ⟨d.es[e].nm,d.es[e].ve,d.es[e].dg,d.es[e].nd++[TX]⟩,d.wt⟩ (w3.setCell ⟨E,e*4+3,none⟩ (.slice (some ⟨g,0,none⟩) (m4+1) cap)) vt (.slice (some ⟨E,0,none⟩) n c3) vw xs' vs'/\(w3.setCell ⟨E,e*4+3,none⟩ (.slice (some ⟨g,0,none⟩) (m4+1) cap)).heap[bx]?=some (.cells A6 64 (0,0))/\(w3.setCell ⟨E,e*4+3,none⟩ (.slice (some ⟨g,0,none⟩) (m4+1) cap)).heap[a]?=some (.cells #[.pointer (some ⟨D,0,none⟩)] 59 (0,0))/\(w3.setCell ⟨E,e*4+3,none⟩ (.slice (some ⟨g,0,none⟩) (m4+1) cap)).heap[nb]?=some (.cells #[.string TX] 9 (0,0)):=by
 have h2:=h.grow (zO W (.cells #[.string TX] 9));have hr:=h.ent.nee e he;rw[hv]at hr;obtain⟨-,cur,hE⟩:=bH h.ent.row rfl;refine⟨_,_,h2.need he TX (v':=.slice (some ⟨g,0,none⟩) (m4+1) cap) (by rw[hm];exact ho) (by rw[hv];exact hg) ?_,zQ hb hg (uM hb hr (by decide)) hE (by decide),zQ ha hg (uM ha hr (by decide)) hE (by decide),zQ hn hg hfn hE (by decide)⟩;rw[hv]
 rcases hat with e1|e1
 ·exact Or.inl e1.symm
 ·exact Or.inr (Or.inr ⟨g,rfl,Nat.le_of_eq e1.symm⟩)
theorem ZJ{W w3:World}{wl c4 g cap pl:Nat}{o4:Option Addr}{TX:ByteArray}(h:Dm w0 T D Lb nv kv ns d W vt ve (.slice o4 wl c4) xs vs)(hm:d.wt.length=wl)(ho:w3.ownsRow w0.heap.size 109 2 (.slice (some ⟨g,0,none⟩) (wl+1) cap) (wl+1) (d.wt.flatMap yt++[.string TX,.int .i64 (pl:Nat)]))(hg:(W.drew.alloc (.cells #[.string TX,.int .i64 (pl:Nat)] 109)).grownBy w3 (Value.slice o4 wl c4).ownBlock) :
  ∃v',Dm w0 T D Lb nv kv ns ⟨d.lk,d.fm,d.tb,d.es,d.wt++[(TX,pl)]⟩ (w3.setCell ⟨D,4,none⟩ (.slice (some ⟨g,0,none⟩) (wl+1) cap)) vt ve v' xs vs :=
 ⟨_,(h.grow (zO W (.cells #[.string TX,.int .i64 (pl:Nat)] 109))).want (TX,pl) (v':=.slice (some ⟨g,0,none⟩) (wl+1) cap) (by rw[hm];exact ho) hg⟩
end
open Go.RowKit Go.Maps Go.WideMaps Go.Joins
theorem Ko{w w':World}{a nb bx:Nat}{r:Option Nat}{va vn vb:Value}(hg:w.grownBy w' r)(hf:some a≠r/\some nb≠r/\some bx≠r)(h:w.cell? ⟨a,0,none⟩=some va/\w.cell? ⟨nb,0,none⟩=some vn/\w.cell? ⟨bx,5,none⟩=some vb):w'.cell? ⟨a,0,none⟩=some va/\w'.cell? ⟨nb,0,none⟩=some vn/\w'.cell? ⟨bx,5,none⟩=some vb :=
 ⟨hg.cell h.1 hf.1,hg.cell h.2.1 hf.2.1,hg.cell h.2.2 hf.2.2⟩
theorem cellsS{w:World}{a nb bx D k:Nat}{va vn vb v:Value}(hn:some a≠some D/\some nb≠some D/\some bx≠some D)(h:w.cell? ⟨a,0,none⟩=some va/\w.cell? ⟨nb,0,none⟩=some vn/\w.cell? ⟨bx,5,none⟩=some vb):(w.setCell ⟨D,k,none⟩ v).cell? ⟨a,0,none⟩=some va/\(w.setCell ⟨D,k,none⟩ v).cell? ⟨nb,0,none⟩=some vn/\(w.setCell ⟨D,k,none⟩ v).cell? ⟨bx,5,none⟩=some vb:=Ko (iL w D k v) hn h
section
variable {w0:World} {T D Lb:Nat} {nv:Value} {kv:Nat->Value} {ns:List Tn} {d:Dr} {w w':World} {vt ve vw:Value} {xs:List Value} {vs:Nat->Value}
theorem ai1(h:Dm w0 T D Lb nv kv ns d w vt ve vw xs vs)(q:Nat)(x:Tn)(k:Value)(hk:NuS w0 k x.ks)(htx:x.tx.length<2 ^ 60)(e:Nat)(he:e<d.es.length)(hel:d.es.length<=1000)(hnd:(aW d.es e).nd.length<=1000)(hwl:d.wt.length<=1000000)(a b:Nat)(ha:w.heap[a]?=some (.cells #[.pointer (some ⟨D,0,none⟩)] 59 (0,0)))(hb:w.heap[b]?=some (.cells #[.int .i64 (e:Nat)] 3 (0,0))) :
  Calls prog 118 #[.agg (dQ x k),.pointer (some ⟨a,0,none⟩),.pointer (some ⟨b,0,none⟩)] w (sK w0 T D Lb nv kv ns (eQ d q x (.val e)) w):=by
 have HM4:Hd ((aW d.es e).nd.length<=1048576):=by show _<=_;omega
 have H5:Hd ((aW d.es e).nd.length<=1000/\d.wt.length<=1000000):=⟨hnd,hwl⟩;clear hnd hwl;have kG:=ae hk;obtain⟨o,c,hk0,-⟩:=hk;obtain⟨E,c3,sN,hle,-⟩:=h.entry he;subst sN;obtain⟨el,oO⟩:=zN d.es.length;have bn:Hd (d.es.length=el/\e<d.es.length):=⟨oO,he⟩;obtain⟨m,hm⟩:=zN (x.ks.length);have hk1:k=.slice o m c:=by rw[hk0,hm]
 rw[hk1]at kG ⊢
 -- what the calls leave
 obtain⟨kd,ky,tx,nu,ks,pl⟩:=x;obtain⟨KY,iC⟩:∃t:ByteArray,⟨ky.toArray⟩=t:=⟨_,rfl⟩;obtain⟨TX,eH⟩:∃t:ByteArray,⟨tx.toArray⟩=t:=⟨_,rfl⟩;have eP:=ae iC;have nU:=ae eH;obtain⟨bx,hbx⟩:=zN (w.heap.size);obtain⟨W,hW⟩:=zN (w.alloc (.cells #[.int .i64 kd,.string KY,.string TX,.int .i64 nu,.slice o m c,.int .i64 (pl:Nat)] 64));have HW:Hd (w.alloc (.cells #[.int .i64 kd,.string KY,.string TX,.int .i64 nu,.slice o m c,.int .i64 (pl:Nat)] 64)=W/\w.heap.size=bx):=⟨hW,hbx⟩;have hG:=hW ▸ bC (au w none) _;have HD:Hd (Dm w0 T D Lb nv kv ns d W vt (.slice (some ⟨E,0,none⟩) el c3) vw xs vs):=by have:=h.grow hG;rw[oO]at this;exact this
 have kH:Hd (W.heap[bx]?=some (.cells #[.int .i64 kd,.string KY,.string TX,.int .i64 nu,.slice o m c,.int .i64 (pl:Nat)] 64 (0,0))/\W.heap[a]?=some (.cells #[.pointer (some ⟨D,0,none⟩)] 59 (0,0))/\W.heap[b]?=some (.cells #[.int .i64 (e:Nat)] 3 (0,0))):=⟨by rw[<-hW,<-hbx];exact heap_alloc_new _ _,(aV hG).blk ha,(aV hG).blk hb⟩;have ca:W.cell? ⟨a,0,none⟩=some (.pointer (some ⟨D,0,none⟩)):=by rw[ag kH.o.2.1];rfl
 have cb:W.cell? ⟨b,0,none⟩=some (.int .i64 (e:Nat)):=by rw[ag kH.o.2.2];rfl
 obtain⟨-,-,-,-,-,d3,-,-⟩:=HD.o.cells;obtain⟨R,hR⟩:=zN (eQ d q ⟨kd,ky,tx,nu,ks,pl⟩ (.val e));have HR0:Hd (nT d ⟨kd,ky,tx,nu,ks,pl⟩ e=R):=hR;have hsz:(⟨tx.toArray⟩:ByteArray).size<2 ^ 62:=by
  show tx.toArray.size<2 ^ 62;rw[List.size_toArray];have:tx.length<2 ^ 60:=htx;omega
 have tN:Hd ((⟨tx.toArray⟩:ByteArray).size<2 ^ 62/\tx.length<2 ^ 60/\el<=1000):=⟨hsz,htx,by rw[<-oO];exact hel⟩;have heI:(e:Int)<(el:Int):=by omega
 have heN:e<el:=by omega
 rw[hR];unfold dQ;simp only[]at kG ⊢;rw[iC,eH];have hlc:el<=c3:=by omega
 have fJ:=ae hG;clear hR hsz h ha hb hk0 hm hk1 iC eH hW hbx hG htx hel oO he hle;go_enter func118,ntmps118;go_upto_region 1 with fail
 try rw[HW.o.1]
 try rw[HW.o.2]
 go_quiet (fail);obtain⟨V,hV⟩:=zN (W.drewN nq);have pV:=hV ▸ ay (au W none) nq;have sW:=ae (HD.o.grow pV);have dw:Hd (V.heap[bx]?=some (.cells #[.int .i64 kd,.string KY,.string TX,.int .i64 nu,.slice o m c,.int .i64 (pl:Nat)] 64 (0,0))/\V.heap[a]?=some (.cells #[.pointer (some ⟨D,0,none⟩)] 59 (0,0))/\V.heap[b]?=some (.cells #[.int .i64 (e:Nat)] 3 (0,0))):=⟨(aV pV).blk kH.o.1,(aV pV).blk kH.o.2.1,(aV pV).blk kH.o.2.2⟩;have l9:=ae (ai fJ.o pV);rw[hV];clear hV pV fJ HD kH ca cb d3 HW;have ca:V.cell? ⟨a,0,none⟩=some (.pointer (some ⟨D,0,none⟩)):=by rw[ag dw.o.2.1];rfl
 have cb:V.cell? ⟨b,0,none⟩=some (.int .i64 (e:Nat)):=by rw[ag dw.o.2.2];rfl
 have b0:V.cell? ⟨bx,0,none⟩=some (.int .i64 kd):=by rw[ag dw.o.1];rfl
 have b1:V.cell? ⟨bx,1,none⟩=some (.string KY):=by rw[ag dw.o.1];rfl
 have b2:V.cell? ⟨bx,2,none⟩=some (.string TX):=by rw[ag dw.o.1];rfl
 have b3:V.cell? ⟨bx,3,none⟩=some (.int .i64 nu):=by rw[ag dw.o.1];rfl
 have b4:V.cell? ⟨bx,4,none⟩=some (.slice o m c):=by rw[ag dw.o.1];rfl
 have b5:V.cell? ⟨bx,5,none⟩=some (.int .i64 (pl:Nat)):=by rw[ag dw.o.1];rfl
 obtain⟨-,-,d0,-,-,-,-,-⟩:=sW.o.cells;obtain⟨Z,hZ⟩:=zN (JX R);have HZ:=ae hZ;clear hZ;obtain⟨nb,hnb⟩:=zN (V.heap.size);obtain⟨W2,hW2⟩:=zN (V.alloc (.cells #[.string ⟨#[]⟩] 9));have HW2:Hd (V.alloc (.cells #[.string ⟨#[]⟩] 9)=W2/\V.heap.size=nb):=⟨hW2,hnb⟩;have uN:=ae (hW2 ▸ bC (au V none) _);have HN:Hd (W2.heap[nb]?=some (.cells #[.string ⟨#[]⟩] 9 (0,0))):=by rw[<-hW2,<-hnb];exact heap_alloc_new _ _
 have b02:=uN.o.cell b0 (by simp);have b12:=uN.o.cell b1 (by simp);have b22:=uN.o.cell b2 (by simp);have b32:=uN.o.cell b3 (by simp);have b42:=uN.o.cell b4 (by simp);have b52:=uN.o.cell b5 (by simp);have CT:Hd (Calls prog 77 #[.agg #[.int .i64 kd,.string KY,.string TX,.int .i64 nu,.slice o m c,.int .i64 (pl:Nat)],.func (.func 58) #[] #[],.pointer (some ⟨nb,0,none⟩)] W2 (P7 ⟨kd,ky,tx,nu,ks,pl⟩ (nameB TX) ⟨nb,0,none⟩ W2)):=by
  have:=P8 ⟨kd,ky,tx,nu,ks,pl⟩ o m c 58 nb 0 (nameB ⟨tx.toArray⟩) W2 YF (fun w'=>(name_any _ w' tN.o.1).mono fun e w'' h=>⟨h.1,h.2 ▸ au _ none⟩) #[.string ⟨#[]⟩] 9 HN.o _ rfl;unfold dQ at this;simp only[]at this;rw[eP.o,nU.o]at this;exact this
 have htk:takeD ⟨kd,ky,tx,nu,ks,pl⟩ nameB=if ¬kd=3 then 7 else if nameB TX=true then 0 else 2:=by
  unfold takeD bW;simp only[];rw[nU.o]
 clear hW2 hnb b0 b1 b2 b3 b4 b5 HZ
 by_cases g1:kd=3
 ·rw[if_neg (show ¬¬kd=3 by simpa using g1)]at htk
  by_cases g2:nameB TX=true
  ·rw[if_pos g2]at htk;have CG:Hd (Calls prog 77 #[.agg #[.int .i64 kd,.string KY,.string TX,.int .i64 nu,.slice o m c,.int .i64 (pl:Nat)],.func (.func 58) #[] #[],.pointer (some ⟨nb,0,none⟩)] W2 fun e' w'=>e'=.returned (.int .i64 0)/\w'.heap[nb]?=some (.cells #[.string TX] 9 (0,0))/\V.grownBy w' none):=CT.o.mono fun e' w' h=>by
    obtain⟨h1,w1,h2,h3⟩:=h.2.2 g1 g2;refine⟨h1,?_,?_⟩
    ·rw[h3,nU.o];exact block_setCell (i:=0) ((aV h2).blk HN.o) _
    ·rw[h3];exact nR (ai uN.o h2) (iL w1 _ 0 _) (Nat.le_of_eq HW2.o.2)
   have hR1:R=if(d.es[e]'bn.o.2).nd.any (fun y=>decide (y=TX))=true then .error 5 else if(d.es[e]'bn.o.2).nd.length=20 then .error 4 else .ok ⟨d.lk,d.fm,d.tb,d.es.set e ⟨(d.es[e]'bn.o.2).nm,(d.es[e]'bn.o.2).ve,(d.es[e]'bn.o.2).dg,(d.es[e]'bn.o.2).nd++[TX]⟩,d.wt++[(TX,pl)]⟩:=by
    rw[<-HR0.o];unfold nT;rw[htk,if_pos rfl,qO bn.o.2,show bW ⟨kd,ky,tx,nu,ks,pl⟩=TX from nU.o]
   have HR1:=ae hR1;clear CT g1 g2 HR0 htk hR1;go_upto_region 3 with fail
   try rw[HW2.o.1]
   try rw[HW2.o.2]
   go_wp2_with (go_at_call 77;refine CG.o.mono ?_)
   first|rintro e' w2 rfl hn2 hg2|rintro e' w2 ⟨rfl,hn2,hg2⟩
   have HD2:=ae (sW.o.grow hg2);have HB2:Hd (w2.heap[bx]?=some (.cells #[.int .i64 kd,.string KY,.string TX,.int .i64 nu,.slice o m c,.int .i64 (pl:Nat)] 64 (0,0))/\w2.heap[a]?=some (.cells #[.pointer (some ⟨D,0,none⟩)] 59 (0,0))/\w2.heap[nb]?=some (.cells #[.string TX] 9 (0,0))):=⟨(aV hg2).blk dw.o.1,(aV hg2).blk dw.o.2.1,hn2⟩;obtain⟨o4,c4,hv4⟩:=mG (sW.o.ent.nee e bn.o.2);have iI:Hd (some nb≠(vs e).ownBlock):=by
    show _≠_;intro e';obtain⟨cc,hcc⟩:=(bH (sW.o.ent.nee e bn.o.2) e'.symm).2;have:=aB hcc;have:=HW2.o.2;omega
   obtain⟨m4,hm4⟩:=zN ((d.es[e]'bn.o.2).nd.length);rw[hm4]at hv4 HR1;have uf:Hd (vs e=.slice o4 m4 c4/\(d.es[e]'bn.o.2).nd.length=m4):=⟨hv4,hm4⟩;rw[hv4]at iI;obtain⟨q4,hq4⟩:=zN ((d.es[e]'bn.o.2).nd.any (fun y=>decide (y=TX)));rw[hq4]at HR1;have c0:w2.cell? ⟨nb,0,none⟩=some (.string TX):=by rw[ag hn2];rfl
   have e3:w2.cell? ⟨E,e*4+3,none⟩=some (.slice o4 m4 c4):=by
    obtain⟨E',c',e1,-,cur,yw,-,-,-,q3⟩:=HD2.o.entry bn.o.2
    cases e1
    rw[ag yw,<-hv4];exact q3
   have iy:Hd (w2.grownBy w2.drew none):=ay (au w2 none) 1;have CC:Hd (Calls prog 61 #[.slice o4 m4 c4,.string TX] w2.drew fun e' w'=>e'=.returned (.bool q4)/\Hd (w2.grownBy w' none)/\w'.cell? ⟨E,e*4+3,none⟩=some (.slice o4 m4 c4)/\w'.cell? ⟨nb,0,none⟩=some (.string TX)):=by
    have ht:TxS w2.drew (.slice o4 m4 c4) (d.es[e]'bn.o.2).nd:=by
     have:=Nh (base:=w0.heap.size) rfl ((HD2.o.grow iy.o).ent.nee e bn.o.2);rw[hv4]at this;exact this
    have:=XM o4 m4 c4 TX (d.es[e]'bn.o.2).nd w2.drew hm4.symm ht (by have:=HM4.o;rw[qO bn.o.2]at this;exact this);rw[hq4]at this;exact this.mono fun e' w' ⟨a1,a2⟩=>⟨a1,ai iy.o a2,(ai iy.o a2).cell e3 (by simp),(ai iy.o a2).cell c0 (by simp)⟩
   have dW:=ae (ai l9.o hg2);clear hn2 hg2 hv4 hm4 hq4 sW dw uN HN CG HW2 b02 b12 b22 b32 b42 b52 ca cb d0;go_wp2
   go_region_held3 (fun u=>u.cell? ⟨E,e*4+3,none⟩=some (.slice o4 m4 c4)/\u.cell? ⟨nb,0,none⟩=some (.string TX)) ((first|assumption|exact⟨World.grownBy.cell (by assumption) (And.left (by assumption)) (by simp),World.grownBy.cell (by assumption) (And.right (by assumption)) (by simp)⟩|go_keep)) (first|(go_at_call 61;refine CC.o.mono ?_;rintro e' w7 ⟨rfl,hall,hcl⟩))
   have o6:Hd (w2.grownBy w7 none):=hall;have HD7:=ae (HD2.o.grow o6.o);have rE:Hd (w7.heap[bx]?=some (.cells #[.int .i64 kd,.string KY,.string TX,.int .i64 nu,.slice o m c,.int .i64 (pl:Nat)] 64 (0,0))/\w7.heap[a]?=some (.cells #[.pointer (some ⟨D,0,none⟩)] 59 (0,0))/\w7.heap[nb]?=some (.cells #[.string TX] 9 (0,0))):=⟨(aV o6.o).blk HB2.o.1,(aV o6.o).blk HB2.o.2.1,(aV o6.o).blk HB2.o.2.2⟩;replace dW:=ae (ai dW.o o6.o);obtain⟨f3,f0⟩:=hcl;clear hall HD2 HB2 o6 CC c0 e3 iy
   cases q4 with
   | true =>
    go_wp2;go_ret;rw[show R=.error 5 from HR1.o];exact mW (by decide) dW.o
   | false =>
    by_cases h20:m4=20
    ·have ai2:((m4:Int) == 20)=true:=by rw[h20];rfl
     have HY:Hd (R=.error 4):=by
      show _=_;rw[HR1.o,if_neg (by simp),if_pos h20]
     clear HR1 h20;go_wp2;go_ret;rw[HY.o];exact mW (by decide) dW.o
    ·have ai2:((m4:Int) == 20)=false:=by simpa using(show ¬(m4:Int)=20 by omega)
     have HY:Hd (R=.ok ⟨d.lk,d.fm,d.tb,d.es.set e ⟨(d.es[e]'bn.o.2).nm,(d.es[e]'bn.o.2).ve,(d.es[e]'bn.o.2).dg,(d.es[e]'bn.o.2).nd++[TX]⟩,d.wt++[(TX,pl)]⟩):=by
      show _=_;rw[HR1.o,if_neg (by simp),if_neg h20]
     clear HR1 h20;obtain⟨i0,hi0,hii⟩:=Option.map_eq_some_iff.1 Nj;simp only[Prod.mk.injEq]at hii;obtain⟨hz0,hz1,hzb⟩:=hii;have hrow:w7.ownsRow w0.heap.size 9 1 (.slice o4 m4 c4) m4 ((d.es[e]'bn.o.2).nd.map Value.string):=by
      have:=HD7.o.ent.nee e bn.o.2;rw[uf.o.1,uf.o.2]at this;exact this
     have hm4:m4<=1000:=by
      have:=H5.o.1;rw[qO bn.o.2,uf.o.2]at this;exact this
     obtain⟨ys,hys⟩:=zN ((d.es[e]'bn.o.2).nd.map Value.string);have lN:=ae hys;rw[hys]at hrow;have hone:∀u∈([.string TX]:List Value),u.oneCell'=true:=by simp[Value.oneCell']
     obtain⟨-,curE,hcE⟩:=bH HD7.o.ent.row rfl;have ZK:Hd (w7.heap[E]?=some (.cells curE 33 (0,0))):=hcE;have dV:Hd (some E≠(Value.slice o4 m4 c4).ownBlock):=uM hcE hrow (by decide);obtain⟨K,hK⟩:=zN (w7.heap.size);have hB0:w0.heap.size<=K:=by rw[<-hK];exact HD7.o.size
     have dY:Hd ((w7.drew.alloc (.cells #[.string TX] 9)).heap[K]?=some (.cells #[.string TX] 9 (0,0))):=by
      have:=heap_alloc_new w7.drew (.cells #[.string TX] 9);rw[show w7.drew.heap.size=K from hK]at this;exact this
     have f3A:(w7.alloc (.cells #[.string TX] 9)).cell? ⟨E,e*4+3,none⟩=some (.slice o4 m4 c4):=(World.grownBy_alloc w7 _ none).cell f3 (by simp);clear hys hcE;go_upto_region 10 with fail
     go_cut [] from 41 (fun wx=>∃xs' vs',Dm w0 T D Lb nv kv ns ⟨d.lk,d.fm,d.tb,d.es.set e ⟨(d.es[e]'bn.o.2).nm,(d.es[e]'bn.o.2).ve,(d.es[e]'bn.o.2).dg,(d.es[e]'bn.o.2).nd++[TX]⟩,d.wt⟩ wx vt (.slice (some ⟨E,0,none⟩) el c3) vw xs' vs'/\wx.heap[bx]?=some (.cells #[.int .i64 kd,.string KY,.string TX,.int .i64 nu,.slice o m c,.int .i64 (pl:Nat)] 64 (0,0))/\wx.heap[a]?=some (.cells #[.pointer (some ⟨D,0,none⟩)] 59 (0,0))/\wx.heap[nb]?=some (.cells #[.string TX] 9 (0,0)))
     case first =>
      go_region_law (refine step_append_lies _ (by rfl) _ _ _ (by rfl) w0.heap.size 9 i0 _ 1 16 underlying31 hi0 hz0 hz1 hzb (by rfl) (by decide) (.slice o4 m4 c4) m4 ys (by rfl) (hrow.drew.alloc _) ⟨K,0,none⟩ 1 1 [.string TX] (by rfl) (by rfl) (World.news_of_block dY.o) hone (by omega) (by unfold maxLen;omega) (by omega) (by simp;omega) _ rfl ?_;intro g cap w3 hown3 hgrow hat hlt3;have hc3:=nH f3 hgrow dV.o;have o8:w3.frozen? ⟨E,e*4+3,none⟩=false:=rH ZK.o hgrow dV.o)
      all_goals (
       go_wp2_with fail;go_meet;exact ai0 HD7.o bn.o.2 uf.o.1 uf.o.2 rE.o.1 rE.o.2.1 rE.o.2.2 iI.o (lN.o ▸ hown3) hgrow hat)
     case rest =>
      obtain⟨xs',vs',hd8,Kq,Kr,Ku⟩:=hcut;clear HD7 rE lN ZK dV dY hrow hi0 hz0 hz1 hzb f3 f0 f3A hm4 iI uf;obtain⟨i1,hi1,hjj⟩:=Option.map_eq_some_iff.1 aiZ;simp only[Prod.mk.injEq]at hjj;obtain⟨hy0,hy1,hyb⟩:=hjj;obtain⟨o5,c5,hvw⟩:=mG hd8.wan;subst hvw;obtain⟨wl,hwl⟩:=zN (d.wt.length);have Ii:=ae hwl;have ajK:wl<=1000000:=by rw[<-hwl];exact H5.o.2
      have hd9:Dm w0 T D Lb nv kv ns ⟨d.lk,d.fm,d.tb,d.es.set e ⟨(d.es[e]'bn.o.2).nm,(d.es[e]'bn.o.2).ve,(d.es[e]'bn.o.2).dg,(d.es[e]'bn.o.2).nd++[TX]⟩,d.wt⟩ wc vt (.slice (some ⟨E,0,none⟩) el c3) (.slice o5 wl c5) xs' vs':=by rw[<-hwl];exact hd8
      have hrow:wc.ownsRow w0.heap.size 109 2 (.slice o5 wl c5) wl (d.wt.flatMap yt):=by have:=hd9.wan;rw[show(⟨d.lk,d.fm,d.tb,d.es.set e ⟨(d.es[e]'bn.o.2).nm,(d.es[e]'bn.o.2).ve,(d.es[e]'bn.o.2).dg,(d.es[e]'bn.o.2).nd++[TX]⟩,d.wt⟩:Dr).wt.length=wl from hwl]at this;exact this
      obtain⟨ys,hys⟩:=zN (d.wt.flatMap yt);have lN:=ae hys;rw[hys]at hrow;have hone:∀u∈([.string TX,.int .i64 (pl:Nat)]:List Value),u.oneCell'=true:=by simp[Value.oneCell']
      obtain⟨-,-,-,-,-,-,d4,-⟩:=hd9.cells;have ca:wc.cell? ⟨a,0,none⟩=some (.pointer (some ⟨D,0,none⟩)):=by rw[ag Kr];rfl
      have c0:wc.cell? ⟨nb,0,none⟩=some (.string TX):=by rw[ag Ku];rfl
      have b5:wc.cell? ⟨bx,5,none⟩=some (.int .i64 (pl:Nat)):=by rw[ag Kq];rfl
      have qQ:=ae (QO hd9 hrow (by decide));have bi:=ae (uM Kr hrow (by decide));have oL:Hd (wc.heap[D]?=some (.cells #[.pointer (some ⟨T,0,none⟩),.bool d.fm,vt,.slice (some ⟨E,0,none⟩) el c3,.slice o5 wl c5] 62 (0,0))):=hd9.dra;obtain⟨K2,hK2⟩:=zN wc.heap.size;have hB2:w0.heap.size<=K2:=by rw[<-hK2];exact hd9.size
      have dY:Hd ((wc.drew.alloc (.cells #[.string TX,.int .i64 (pl:Nat)] 109)).heap[K2]?=some (.cells #[.string TX,.int .i64 (pl:Nat)] 109 (0,0))):=by
       have:=heap_alloc_new wc.drew (.cells #[.string TX,.int .i64 (pl:Nat)] 109);rw[show wc.drew.heap.size=K2 from hK2]at this;exact this
      have caA:(wc.alloc (.cells #[.string TX,.int .i64 (pl:Nat)] 109)).cell? ⟨a,0,none⟩=some (.pointer (some ⟨D,0,none⟩)):=(World.grownBy_alloc wc _ none).cell ca (by simp);have d4A:(wc.alloc (.cells #[.string TX,.int .i64 (pl:Nat)] 109)).cell? ⟨D,4,none⟩=some (.slice o5 wl c5):=(World.grownBy_alloc wc _ none).cell d4 (by simp);have FO:=ae hd9;have ZL:Hd (some a≠(Value.slice o5 wl c5).ownBlock/\some nb≠(Value.slice o5 wl c5).ownBlock/\some bx≠(Value.slice o5 wl c5).ownBlock):=⟨bi.o,uM Ku hrow (by decide),uM Kq hrow (by decide)⟩;have qc:Hd (some a≠some D/\some nb≠some D/\some bx≠some D):=⟨fun e=>aO Kr oL.o (by decide) (Option.some.inj e),fun e=>aO Ku oL.o (by decide) (Option.some.inj e),fun e=>aO Kq oL.o (by decide) (Option.some.inj e)⟩;clear hd8 hd9 Kq Kr Ku hys hwl;go_upto_region 11 with fail
      have ZM:Hd (wc.drew.cell? ⟨a,0,none⟩=some (.pointer (some ⟨D,0,none⟩))/\wc.drew.cell? ⟨nb,0,none⟩=some (.string TX)/\wc.drew.cell? ⟨bx,5,none⟩=some (.int .i64 (pl:Nat))):=⟨ca,c0,b5⟩;have HS2:Hd ((wc.drew.alloc (.cells #[.string TX,.int .i64 (pl:Nat)] 109)).cell? ⟨a,0,none⟩=some (.pointer (some ⟨D,0,none⟩))/\(wc.drew.alloc (.cells #[.string TX,.int .i64 (pl:Nat)] 109)).cell? ⟨nb,0,none⟩=some (.string TX)/\(wc.drew.alloc (.cells #[.string TX,.int .i64 (pl:Nat)] 109)).cell? ⟨bx,5,none⟩=some (.int .i64 (pl:Nat))):=Ko (World.grownBy_alloc wc.drew _ none) ⟨by simp,by simp,by simp⟩ ZM.o;have HD4:Hd ((wc.drew.alloc (.cells #[.string TX,.int .i64 (pl:Nat)] 109)).cell? ⟨D,4,none⟩=some (.slice o5 wl c5)):=(World.grownBy_alloc wc.drew _ none).cell d4 (by simp);refine wp_region_held_drew (S:=(fun u=>u.cell? ⟨a,0,none⟩=some (.pointer (some ⟨D,0,none⟩))/\u.cell? ⟨nb,0,none⟩=some (.string TX)/\u.cell? ⟨bx,5,none⟩=some (.int .i64 (pl:Nat)))) (by kernel_rfl) ZM.o (fun hHeld=>?_)
      refine wpAnyH_take (i:=0) (v:=.pointer (some ⟨D,0,none⟩)) rfl (by kernel_rfl) (by kernel_rfl) (by kernel_rfl) (fun _ _ _ h=>h) (Or.inl ⟨by rfl,fun w hSw=>by(try dsimp only at hSw);obtain⟨s1,s2,s3⟩:=hSw;go_simp⟩) hHeld ?_
      try simp only[Act.put,List.setIfInBounds_toArray,List.set_cons_zero,List.set_cons_succ]
      refine wpAnyH_take (i:=1) (v:=.pointer (some ⟨D,0,none⟩)) rfl (by kernel_rfl) (by kernel_rfl) (by kernel_rfl) (fun _ _ _ h=>h) (Or.inl ⟨by rfl,fun w hSw=>by(try dsimp only at hSw);obtain⟨s1,s2,s3⟩:=hSw;go_simp⟩) hHeld ?_
      try simp only[Act.put,List.setIfInBounds_toArray,List.set_cons_zero,List.set_cons_succ]
      refine wpAnyH_take (i:=2) (v:=.pointer (some ⟨D,0,none⟩)) rfl (by kernel_rfl) (by kernel_rfl) (by kernel_rfl) (fun _ _ _ h=>h) (Or.inl ⟨by rfl,fun w hSw=>by(try dsimp only at hSw);obtain⟨s1,s2,s3⟩:=hSw;go_simp⟩) hHeld ?_
      try simp only[Act.put,List.setIfInBounds_toArray,List.set_cons_zero,List.set_cons_succ]
      refine wpAnyH_take (i:=3) (v:=.pointer (some ⟨D,4,none⟩)) rfl (by kernel_rfl) (by kernel_rfl) (by kernel_rfl) (fun _ _ _ h=>h) (Or.inl ⟨by rfl,fun w hSw=>by(try dsimp only at hSw);obtain⟨s1,s2,s3⟩:=hSw;go_simp⟩) hHeld ?_
      try simp only[Act.put,List.setIfInBounds_toArray,List.set_cons_zero,List.set_cons_succ]
      refine wpAnyH_take (i:=5) (v:=.string TX) rfl (by kernel_rfl) (by kernel_rfl) (by kernel_rfl) (fun _ _ _ h=>h) (Or.inl ⟨by rfl,fun w hSw=>by(try dsimp only at hSw);obtain⟨s1,s2,s3⟩:=hSw;go_simp⟩) hHeld ?_
      try simp only[Act.put,List.setIfInBounds_toArray,List.set_cons_zero,List.set_cons_succ]
      refine wpAnyH_take (i:=6) (v:=.pointer (some ⟨bx,5,none⟩)) rfl (by kernel_rfl) (by kernel_rfl) (by kernel_rfl) (fun _ _ _ h=>h) (Or.inl ⟨by rfl,fun w hSw=>by(try dsimp only at hSw);obtain⟨s1,s2,s3⟩:=hSw;go_simp⟩) hHeld ?_
      try simp only[Act.put,List.setIfInBounds_toArray,List.set_cons_zero,List.set_cons_succ]
      refine wpAnyH_take (i:=7) (v:=.int .i64 (pl:Nat)) rfl (by kernel_rfl) (by kernel_rfl) (by kernel_rfl) (fun _ _ _ h=>h) (Or.inl ⟨by rfl,fun w hSw=>by(try dsimp only at hSw);obtain⟨s1,s2,s3⟩:=hSw;go_simp⟩) hHeld ?_
      try simp only[Act.put,List.setIfInBounds_toArray,List.set_cons_zero,List.set_cons_succ]
      refine wpAnyH_take (i:=8) (v:=.agg #[.string TX,.int .i64 (pl:Nat)]) rfl (by kernel_rfl) (by kernel_rfl) (by kernel_rfl) (fun _ _ _ h=>h) (Or.inl ⟨by rfl,fun w hSw=>by(try dsimp only at hSw);obtain⟨s1,s2,s3⟩:=hSw;go_simp⟩) hHeld ?_
      try simp only[Act.put,List.setIfInBounds_toArray,List.set_cons_zero,List.set_cons_succ]
      refine wpAnyH_ready (rs:=[4,9]) (by kernel_rfl) (by simp) ?_;refine AllReadyH.cons rfl (fun J1 hJ1=>?_) (AllReadyH.cons rfl (fun J1 hJ1=>?_) AllReadyH.nil)
      ·go_simp
       refine hJ1.out _ _ hHeld (fun _=>?_)
       try simp only[Act.put,List.setIfInBounds_toArray,List.set_cons_zero,List.set_cons_succ]
       refine wpAnyH_ready (rs:=[9]) (by kernel_rfl) (by simp) ?_;refine AllReadyH.cons rfl (fun J2 hJ2=>?_) AllReadyH.nil;clear hJ1
       go_simp
       refine hJ2.out _ _ HS2.o (fun _=>?_);clear hJ2
       try simp only[Act.put,List.setIfInBounds_toArray,List.set_cons_zero,List.set_cons_succ]
       refine wpAnyH_ready (rs:=[10]) (by kernel_rfl) (by simp) ?_;refine AllReadyH.cons rfl (fun J3 hJ3=>?_) AllReadyH.nil;refine step_append_lies _ (by rfl) _ _ _ (by rfl) w0.heap.size 109 i1 _ 2 24 underlying60 hi1 hy0 hy1 hyb (by rfl) (by decide) (.slice o5 wl c5) wl ys (by rfl) (hrow.drew.alloc _) ⟨K2,0,none⟩ 1 1 [.string TX,.int .i64 (pl:Nat)] (by rfl) (by rfl) (World.news_of_block dY.o) hone (by omega) (by unfold maxLen;omega) (by omega) (by simp;omega) _ rfl ?_;intro g cap w3 hown3 hgrow hat hlt3;have hs3:=Ko hgrow ZL.o HS2.o;have hc3:=nH d4 hgrow qQ.o;have o8:w3.frozen? ⟨D,4,none⟩=false:=rH oL.o hgrow qQ.o;have hs4:=fun v=>cellsS (k:=4) (v:=v) qc.o hs3
       refine hJ3.out _ _ hs3 (fun _=>?_)
       try simp only[Act.put,List.setIfInBounds_toArray,List.set_cons_zero,List.set_cons_succ]
       refine wpAnyH_take (i:=11) (v:=.pointer (some ⟨D,0,none⟩)) rfl (by kernel_rfl) (by kernel_rfl) (by kernel_rfl) (fun _ _ _ h=>h) (Or.inl ⟨by rfl,fun w hSw=>by(try dsimp only at hSw);obtain⟨s1,s2,s3⟩:=hSw;go_simp⟩) hs3 ?_
       try simp only[Act.put,List.setIfInBounds_toArray,List.set_cons_zero,List.set_cons_succ]
       refine wpAnyH_take (i:=12) (v:=.pointer (some ⟨D,4,none⟩)) rfl (by kernel_rfl) (by kernel_rfl) (by kernel_rfl) (fun _ _ _ h=>h) (Or.inl ⟨by rfl,fun w hSw=>by(try dsimp only at hSw);obtain⟨s1,s2,s3⟩:=hSw;go_simp⟩) hs3 ?_
       try simp only[Act.put,List.setIfInBounds_toArray,List.set_cons_zero,List.set_cons_succ]
       refine wpAnyH_ready (rs:=[13]) (by kernel_rfl) (by simp) ?_;refine AllReadyH.cons rfl (fun J4 hJ4=>?_) AllReadyH.nil;clear hJ3
       go_simp
       refine hJ4.out _ _ (hs4 _) (fun _=>?_);refine wpAnyH_done (by kernel_rfl) ?_ _;obtain⟨v',hd⟩:=ZJ FO.o Ii.o (lN.o ▸ hown3) hgrow;have HF:Hd (Dm w0 T D Lb nv kv ns ⟨d.lk,d.fm,d.tb,d.es.set e ⟨(d.es[e]'bn.o.2).nm,(d.es[e]'bn.o.2).ve,(d.es[e]'bn.o.2).dg,(d.es[e]'bn.o.2).nd++[TX]⟩,d.wt++[(TX,pl)]⟩ (w3.setCell ⟨D,4,none⟩ (.slice (some ⟨g,0,none⟩) (wl+1) cap)) vt (.slice (some ⟨E,0,none⟩) el c3) v' xs' vs'):=hd;clear hd hJ4 hs3 hs4 hown3 hgrow hat hlt3 hHeld;go_wp2;go_ret;rw[HY.o];exact yu HF.o
      ·go_simp
       refine hJ1.out _ _ HS2.o (fun _=>?_)
       try simp only[Act.put,List.setIfInBounds_toArray,List.set_cons_zero,List.set_cons_succ]
       refine wpAnyH_ready (rs:=[4]) (by kernel_rfl) (by simp) ?_;refine AllReadyH.cons rfl (fun J2 hJ2=>?_) AllReadyH.nil;clear hJ1;have cT2:=HD4.o
       go_simp
       refine hJ2.out _ _ HS2.o (fun _=>?_);clear hJ2 cT2
       try simp only[Act.put,List.setIfInBounds_toArray,List.set_cons_zero,List.set_cons_succ]
       refine wpAnyH_ready (rs:=[10]) (by kernel_rfl) (by simp) ?_;refine AllReadyH.cons rfl (fun J3 hJ3=>?_) AllReadyH.nil;refine step_append_lies _ (by rfl) _ _ _ (by rfl) w0.heap.size 109 i1 _ 2 24 underlying60 hi1 hy0 hy1 hyb (by rfl) (by decide) (.slice o5 wl c5) wl ys (by rfl) (hrow.drew.alloc _) ⟨K2,0,none⟩ 1 1 [.string TX,.int .i64 (pl:Nat)] (by rfl) (by rfl) (World.news_of_block dY.o) hone (by omega) (by unfold maxLen;omega) (by omega) (by simp;omega) _ rfl ?_;intro g cap w3 hown3 hgrow hat hlt3;have hs3:=Ko hgrow ZL.o HS2.o;have hc3:=nH d4 hgrow qQ.o;have o8:w3.frozen? ⟨D,4,none⟩=false:=rH oL.o hgrow qQ.o;have hs4:=fun v=>cellsS (k:=4) (v:=v) qc.o hs3
       refine hJ3.out _ _ hs3 (fun _=>?_)
       try simp only[Act.put,List.setIfInBounds_toArray,List.set_cons_zero,List.set_cons_succ]
       refine wpAnyH_take (i:=11) (v:=.pointer (some ⟨D,0,none⟩)) rfl (by kernel_rfl) (by kernel_rfl) (by kernel_rfl) (fun _ _ _ h=>h) (Or.inl ⟨by rfl,fun w hSw=>by(try dsimp only at hSw);obtain⟨s1,s2,s3⟩:=hSw;go_simp⟩) hs3 ?_
       try simp only[Act.put,List.setIfInBounds_toArray,List.set_cons_zero,List.set_cons_succ]
       refine wpAnyH_take (i:=12) (v:=.pointer (some ⟨D,4,none⟩)) rfl (by kernel_rfl) (by kernel_rfl) (by kernel_rfl) (fun _ _ _ h=>h) (Or.inl ⟨by rfl,fun w hSw=>by(try dsimp only at hSw);obtain⟨s1,s2,s3⟩:=hSw;go_simp⟩) hs3 ?_
       try simp only[Act.put,List.setIfInBounds_toArray,List.set_cons_zero,List.set_cons_succ]
       refine wpAnyH_ready (rs:=[13]) (by kernel_rfl) (by simp) ?_;refine AllReadyH.cons rfl (fun J4 hJ4=>?_) AllReadyH.nil;clear hJ3
       go_simp
       refine hJ4.out _ _ (hs4 _) (fun _=>?_);refine wpAnyH_done (by kernel_rfl) ?_ _;obtain⟨v',hd⟩:=ZJ FO.o Ii.o (lN.o ▸ hown3) hgrow;have HF:Hd (Dm w0 T D Lb nv kv ns ⟨d.lk,d.fm,d.tb,d.es.set e ⟨(d.es[e]'bn.o.2).nm,(d.es[e]'bn.o.2).ve,(d.es[e]'bn.o.2).dg,(d.es[e]'bn.o.2).nd++[TX]⟩,d.wt++[(TX,pl)]⟩ (w3.setCell ⟨D,4,none⟩ (.slice (some ⟨g,0,none⟩) (wl+1) cap)) vt (.slice (some ⟨E,0,none⟩) el c3) v' xs' vs'):=hd;clear hd hJ4 hs3 hs4 hown3 hgrow hat hlt3 hHeld;go_wp2;go_ret;rw[HY.o];exact yu HF.o
  ·have g2':nameB TX=false:=by simpa using g2
   rw[if_neg g2]at htk;have CG:=ae (CT.o.mono fun e' w' h=>h.2.1 g1 g2');have HY:Hd (R=.error 2):=by
    show _=_;rw[<-HR0.o];unfold nT;rw[htk,if_neg (show ¬(2:Int)=0 by decide)]
   clear CT g1 g2 g2' HR0 htk;go_upto_region 3 with fail
   try rw[HW2.o.1]
   try rw[HW2.o.2]
   go_wp2_with (go_at_call 77;refine CG.o.mono ?_)
   first|rintro e' w2 rfl hg2|rintro e' w2 ⟨rfl,hg2⟩
   have HG2:=ae (ai l9.o (ai uN.o hg2));clear hg2;go_wp2;go_ret;rw[HY.o];exact mW (by decide) HG2.o
 ·rw[if_pos g1]at htk;have CG:=ae (CT.o.mono fun e' w' h=>h.1 g1);have HY:Hd (R=.error 7):=by
   show _=_;rw[<-HR0.o];unfold nT;rw[htk,if_neg (show ¬(7:Int)=0 by decide)]
  clear CT g1 HR0 htk;go_upto_region 3 with fail
  try rw[HW2.o.1]
  try rw[HW2.o.2]
  go_wp2_with (go_at_call 77;refine CG.o.mono ?_)
  first|rintro e' w2 rfl hg2|rintro e' w2 ⟨rfl,hg2⟩
  have HG2:=ae (ai l9.o (ai uN.o hg2));clear hg2;go_wp2;go_ret;rw[HY.o];exact mW (by decide) HG2.o
end
open Go.RowKit Go.Maps Go.WideMaps Go.Joins
theorem eg1:∀args w,(callFunc 24 args).run prog w=.ok (.enter 24 args) w:=enters_of func24 (by kernel_rfl) rfl
theorem eg2:∀args w,(callFunc 49 args).run prog w=.ok (.enter 49 args) w:=enters_of func49 (by kernel_rfl) rfl
theorem eg3:∀args w,(callFunc 75 args).run prog w=.ok (.enter 75 args) w:=enters_of func75 (by kernel_rfl) rfl
theorem eg4:∀args w,(callFunc 118 args).run prog w=.ok (.enter 118 args) w:=enters_of func118 (by kernel_rfl) rfl
theorem ai3(W:World):(binOp .eql 67 .nilFunc .nilFunc).run prog W=.ok (.bool true) W:=by kernel_rfl
theorem ai4(F:Nat)(cp:Array Value)(W:World):(binOp .eql 67 (.func (.func F) #[] cp) .nilFunc).run prog W=.ok (.bool false) W:=by kernel_rfl
theorem ai5{d:Dr}{q:Nat}{x:Tn}{k:iw}{z:Int}(h:eQ d q x k=.error z):¬z=0:=by
 have put:∀{is:ByteArray->Bool} {e:Nat} {y:En},nS d x is e y=.error z->¬z=0:=fun h=>by
  unfold nS at h;split at h
  ·cases h
  ·rename_i h2;cases h;exact h2
 unfold eQ at h;split at h
 ·split at h
  ·split at h
   ·cases h;decide
   ·split at h
    ·cases h;decide
    ·cases h
  ·split at h
   ·cases h
   ·cases h;decide
 ·split at h
  ·cases h;decide
  ·cases h
 ·unfold jv at h;split at h
  ·split at h
   ·split at h
    ·cases h;decide
    ·cases h
   ·rename_i h2;cases h;exact h2
  ·split at h
   ·exact put h
   ·split at h
    ·exact put h
    ·split at h
     ·cases h
     ·cases h;decide
 ·unfold nT at h;split at h
  ·split at h
   ·cases h;decide
   ·split at h
    ·cases h;decide
    ·cases h
  ·rename_i h2;cases h;exact h2
section
variable {w0:World} {T D Lb:Nat} {nv:Value} {kv:Nat->Value} {ns:List Tn} {d:Dr} {w w':World} {vt ve vw:Value} {xs:List Value} {vs:Nat->Value}
theorem ai6{N c:Nat}(h:Dm w0 T D Lb nv kv ns d w vt ve vw xs vs)(H:Nd w0 N c kv ns)(I:DrI d)(hwt:d.wt.length<=1000000)(i:Nat)(hi:i<ns.length)(k:iw)(hk:d.lk i=some k)(v:Value)(hv:LkV w D T v (some k)):∃F cp,v=.func (.func F) #[] cp/\(∀args w,(callFunc F args).run prog w=.ok (.enter F args) w)/\∀w',w.grownBy w' none->Calls prog F (#[.agg (dQ ns[i] (kv i))]++cp) w' (sK w0 T D Lb nv kv ns (eQ d i ns[i] k) w'):=by
 have hel:d.es.length<=1000:=by have:=I.tl;have:=I.t50;omega
 match k,hk,hv with
 | .root,hk,⟨a,b,hv,ha,hb⟩=>exact⟨_,_,hv,eg1,fun w' hg=>ahm (h.grow hg) i ns[i] (kv i) (H.kid i hi) (H.rng i hi) (H.num i hi) a b ((aV hg).blk ha) ((aV hg).blk hb)⟩
 | .tabs,hk,⟨a,hv,ha⟩=>exact⟨_,_,hv,eg2,fun w' hg=>aiV (h.grow hg) i hi (H.kid i hi) (H.rng i hi) (H.num i hi) hel (by have:=I.t50;omega) a ((aV hg).blk ha)⟩
 | .key e,hk,⟨a,b,hv,ha,hb⟩=>exact⟨_,_,hv,eg3,fun w' hg=>aiE (h.grow hg) i ns[i] (kv i) (H.kid i hi) (H.rng i hi) (H.num i hi) (H.tex i hi) e (I.ky i e hk) hel a b ((aV hg).blk ha) ((aV hg).blk hb)⟩
 | .val e,hk,⟨a,b,hv,ha,hb⟩=>exact⟨_,_,hv,eg4,fun w' hg=>ai1 (h.grow hg) i ns[i] (kv i) (H.kid i hi) (H.tex i hi) e (I.va i e hk) hel (by have:=I.nd e;omega) hwt a b ((aV hg).blk ha) ((aV hg).blk hb)⟩
def Kv(w0:World)(T D Lb:Nat)(nv:Value)(kv:Nat->Value)(ns:List Tn)(r:Rs Dr)(e:Ending)(w':World):Prop :=
 (∀d',r=.ok d'->e=.returned (.tuple #[.int .i64 0,.int .i64 0])/\(DrI d'/\DrN d'/\d'.wt.length<=1000000/\∀q∈d'.tb,q<ns.length)/\∃vt ve vw xs vs,Dm w0 T D Lb nv kv ns d' w' vt ve vw xs vs)/\(∀c,r=.error c->e=.returned (.tuple #[.int .i64 c.1,.int .i64 (c.2:Nat)])/\¬c.1=0/\w0.grownBy w' none)
theorem ai7{w0:World}{T D Lb:Nat}{nv:Value}{kv:Nat->Value}{ns:List Tn}{d':Dr}{w':World}{vt ve vw:Value}{xs:List Value}{vs:Nat->Value}(hI:DrI d'/\DrN d'/\d'.wt.length<=1000000/\∀q∈d'.tb,q<ns.length)(h:Dm w0 T D Lb nv kv ns d' w' vt ve vw xs vs):Kv w0 T D Lb nv kv ns (.ok d') (.returned (.tuple #[.int .i64 0,.int .i64 0])) w' :=
 ⟨fun d e=>(by cases e;exact⟨rfl,hI,_,_,_,_,_,h⟩),fun c e=>(by cases e)⟩
theorem ai8{w0:World}{T D Lb:Nat}{nv:Value}{kv:Nat->Value}{ns:List Tn}{z:Int}{p:Nat}{w':World}(hz:¬z=0)(h:w0.grownBy w' none):Kv w0 T D Lb nv kv ns (.error (z,p)) (.returned (.tuple #[.int .i64 z,.int .i64 (p:Nat)])) w' :=
 ⟨fun d e=>(by cases e),fun c e=>(by cases e;exact⟨rfl,hz,h⟩)⟩
theorem check_any(N c:Nat)(h:Dm w0 T D Lb (.slice (some ⟨N,0,none⟩) ns.length c) kv ns d w vt ve vw xs vs)(H:Nd w0 N c kv ns)(I:DrI d)(M:DrN d)(hwt:d.wt.length=0)(htb:d.tb=[])(hc:ns.length<=c) :
  Calls prog 27 #[.pointer (some ⟨T,0,none⟩)] w (Kv w0 T D Lb (.slice (some ⟨N,0,none⟩) ns.length c) kv ns (fV ns ns.length d)):=by
 obtain⟨n,hn⟩:=zN (ns.length);have HN:Hd (ns.length=n/\ns.length<=1000000):=⟨hn,H.len⟩;have HH:=ae H;obtain⟨R,hR⟩:∃R:Rs Dr,fV ns ns.length d=R:=⟨_,rfl⟩;rw[hR];have HR:=ae hR;have HD:Hd (Dm w0 T D Lb (.slice (some ⟨N,0,none⟩) n c) kv ns d w vt ve vw xs vs):=by rw[<-hn];exact h
 have HI:Hd (DrI d/\DrN d/\d.wt.length=0/\d.tb=[]):=⟨I,M,hwt,htb⟩;obtain⟨t0,-,-,-,-,-,-,-⟩:=HD.o.cells;rw[hn]at hc ⊢;clear h H I M hwt htb hR hn;go_enter func27,ntmps27;go_wp2;go_loopw [12] (fun vi wr=>∃(i:Nat) (di:Dr) (vt ve vw:Value) (xs:List Value) (vs:Nat->Value),vi=.int .i64 (i:Nat)/\i<=n/\Dm w0 T D Lb (.slice (some ⟨N,0,none⟩) n c) kv ns di wr vt ve vw xs vs/\(DrI di/\DrN di/\di.wt.length<=i/\∀q∈di.tb,q<ns.length)/\fV ns (n-i) di=R) (fun vi _=>n-(intOf vi).toNat)
 case atStart =>
  refine⟨0,d,vt,ve,vw,xs,vs,rfl,by omega,HD.o,⟨HI.o.1,HI.o.2.1,by rw[HI.o.2.2.1];omega,by rw[HI.o.2.2.2];intro q hq;cases hq⟩,?_⟩;rw[<-HR.o,HN.o.1];rfl
 case round =>
  obtain⟨i,di,vt,ve,vw,xs,vs,rfl,hi,hd,hI,hch⟩:=hrel;have wu:=ae hd;have jO:=ae hI;have QU:=ae hch;clear HD HI HR t0 hd hI hch;have hn6:n<=1000000:=by have:=HN.o;omega
  by_cases hlt:i<n
  ·have hin:i<ns.length:=by rw[HN.o.1];exact hlt
   obtain⟨c0,c1,c2,c3,c4,c5⟩:=HH.o.cel i hin;obtain⟨o4,m4,hk4,-⟩:=HH.o.kid i hin;obtain⟨v,hlc,hlv,-⟩:=wu.o.lcell hin;obtain⟨x,hx⟩:=zN (ns[i]);have HX:Hd (ns[i]=x/\i<ns.length):=⟨hx,hin⟩;rw[hx]at c0 c1 c2 c3 c5 hk4;rw[hk4]at c4;have nO:=ae hk4;have hG:=wu.o.gb;have e0:=hG.cell c0 (by simp);have e1:=hG.cell c1 (by simp);have e2:=hG.cell c2 (by simp);have e3:=hG.cell c3 (by simp);have e4:=hG.cell c4 (by simp);have e5:=hG.cell c5 (by simp);obtain⟨-,t1,-,-,-,-,-,-⟩:=wu.o.cells;rw[HN.o.1]at t1;have hstp:fV ns (ns.length-i) di=match stepD ns i di with | .error e=>.error e | .ok d'=>fV ns (ns.length-(i+1)) d':=Ov di hin
   have oV:fV ns (ns.length-i) di=R:=by rw[HN.o.1];exact QU.o
   clear c0 c1 c2 c3 c4 c5 hk4 hG hx
   cases hkk:di.lk i with
   | none =>
    rw[hkk]at hlv;have hv:v=.nilFunc:=hlv;subst hv;have gq:Hd (fV ns (n-(i+1)) di=R):=by
     show _=_;rw[<-oV,hstp];unfold stepD;rw[List.getElem?_eq_getElem hin];simp only[];rw[hkk,HN.o.1]
    obtain⟨W,hW⟩:=zN (wr.alloc (.cells (dQ x (.slice o4 x.ks.length m4)) 64));have fJ:=ae (hW ▸ bC (au wr none) _);unfold dQ at hW;have t1W:=fJ.o.cell t1 (by simp);have ai9:=fJ.o.cell hlc (by simp);clear hlv hstp oV hkk;have AZ:=ai3;go_wp2;exact⟨⟨i+1,di,vt,ve,vw,xs,vs,by go_num,by omega,wu.o.grow fJ.o,⟨jO.o.1,jO.o.2.1,by have:=jO.o.2.2.1;omega,jO.o.2.2.2⟩,gq.o⟩,by simp[intOf];omega⟩
   | some k =>
    rw[hkk]at hlv;obtain⟨F,cp,hv,eF,CF⟩:=ai6 wu.o HH.o jO.o.1 (by have:=jO.o.2.2.1;have:=HN.o;omega) i hin k hkk v hlv;subst hv;have mg:=ae CF;obtain⟨r,hr⟩:=zN (eQ di i ns[i] k);rw[hr,HX.o.1,nO.o]at mg;rw[hstp]at oV;unfold stepD at oV;rw[List.getElem?_eq_getElem hin]at oV;simp only[]at oV;rw[hkk]at oV;simp only[]at oV;rw[hr,HX.o.1]at oV;unfold dQ at mg;obtain⟨kd,ky,tx,nu,ks,pl⟩:=x;simp only[]at e0 e1 e2 e3 e4 e5 mg oV;obtain⟨bx,hbx⟩:=zN (wr.heap.size);obtain⟨W,hW⟩:=zN (wr.alloc (.cells #[.int .i64 kd,.string ⟨ky.toArray⟩,.string ⟨tx.toArray⟩,.int .i64 nu,.slice o4 ks.length m4,.int .i64 (pl:Nat)] 64));have fJ:=ae (hW ▸ bC (au wr none) _);have hB:W.heap[bx]?=some (.cells #[.int .i64 kd,.string ⟨ky.toArray⟩,.string ⟨tx.toArray⟩,.int .i64 nu,.slice o4 ks.length m4,.int .i64 (pl:Nat)] 64 (0,0)):=by rw[<-hW,<-hbx];exact heap_alloc_new _ _
    have t1W:=fJ.o.cell t1 (by simp);have ai9:=fJ.o.cell hlc (by simp);have AZ:=ai4 F cp;have iy:Hd (wr.grownBy W.drew none):=ay fJ.o 1;have b0:W.cell? ⟨bx,0,none⟩=some (.int .i64 kd):=by rw[ag hB];rfl
    have b1:W.cell? ⟨bx,1,none⟩=some (.string ⟨ky.toArray⟩):=by rw[ag hB];rfl
    have b2:W.cell? ⟨bx,2,none⟩=some (.string ⟨tx.toArray⟩):=by rw[ag hB];rfl
    have b3:W.cell? ⟨bx,3,none⟩=some (.int .i64 nu):=by rw[ag hB];rfl
    have b4:W.cell? ⟨bx,4,none⟩=some (.slice o4 ks.length m4):=by rw[ag hB];rfl
    have b5:W.cell? ⟨bx,5,none⟩=some (.int .i64 (pl:Nat)):=by rw[ag hB];rfl
    have HEF:=ae eF;have tK:Hd (W.drew.cell? ⟨bx,5,none⟩=some (.int .i64 (pl:Nat))):=(ay (au W none) 1).cell b5 (by simp)
    cases r with
    | error z =>
     have HY:Hd (R=.error (z,pl)):=oV.symm;have hz:(z != 0)=true:=by simpa using ai5 hr
     have CG:Hd (Calls prog F (#[.agg #[.int .i64 kd,.string ⟨ky.toArray⟩,.string ⟨tx.toArray⟩,.int .i64 nu,.slice o4 ks.length m4,.int .i64 (pl:Nat)]]++cp) W.drew fun e' w'=>e'=.returned (.int .i64 z)/\Hd (¬z=0/\w0.grownBy w' none)/\w'.cell? ⟨bx,5,none⟩=some (.int .i64 (pl:Nat))):=(mg.o _ iy.o).mono fun e' w' hh=>by
      obtain⟨a1,a2,a3⟩:=hh.2 z rfl;exact⟨a1,⟨a2,ai wu.o.gb (ai iy.o a3)⟩,a3.cell tK.o (by simp)⟩
     clear hlv hstp oV hkk CF hr hB mg tK jO QU;go_wp2;go_region_with (first|(refine CG.o.mono ?_;rintro e' w7 ⟨rfl,hq7,hc7⟩));go_wp2
     all_goals (
      go_quiet (fail);go_wp2;refine bodyPost_ret (results_tmp2 (t:=2) (u:=3) rfl _ _ _) rfl ?_;rw[HY.o];exact ai8 hq7.o.1 (ay hq7.o.2 nq))
    | ok d' =>
     have gq:Hd (fV ns (n-(i+1)) d'=R):=by show _=_;rw[<-HN.o.1];exact oV
     have zo:Hd (DrI d'/\DrN d'/\d'.wt.length<=i+1/\∀q∈d'.tb,q<ns.length):=by
      have h1:=look_ok jO.o.1 (fun e' he=>jO.o.1.ky i e' (by rw[hkk,he])) (fun e' he=>jO.o.1.va i e' (by rw[hkk,he])) hr;refine⟨h1.1,afH jO.o.2.1 hr,by have:=jO.o.2.2.1;omega,fun q hq=>?_⟩
      rcases afG hr q hq with h2|h2
      ·exact jO.o.2.2.2 q h2
      ·rw[h2];exact hin
     have CG:Hd (Calls prog F (#[.agg #[.int .i64 kd,.string ⟨ky.toArray⟩,.string ⟨tx.toArray⟩,.int .i64 nu,.slice o4 ks.length m4,.int .i64 (pl:Nat)]]++cp) W.drew fun e' w'=>e'=.returned (.int .i64 0)/\Hd (∃vt ve vw xs vs,Dm w0 T D Lb (.slice (some ⟨N,0,none⟩) n c) kv ns d' w' vt ve vw xs vs)):=(mg.o _ iy.o).mono fun e' w' hh=>hh.1 d' rfl
     clear hlv hstp oV hkk CF hr hB mg tK;go_wp2;go_region_with (first|(refine CG.o.mono ?_;rintro e' w7 ⟨rfl,hq7⟩));go_wp2
     all_goals obtain⟨vt7,ve7,vw7,xs7,vs7,hD7⟩:=hq7.o
     all_goals exact⟨⟨i+1,d',vt7,ve7,vw7,xs7,vs7,by go_num,by omega,hD7,zo.o,gq.o⟩,by simp[intOf];omega⟩
  ·have him:i=n:=by omega
   have HF:Hd (R=.ok di):=by
    show _=_;rw[<-QU.o,him,Nat.sub_self];rfl
   go_wp2;refine bodyPost_ret (results_tmp2 (t:=2) (u:=3) rfl _ _ _) rfl ?_;rw[HF.o];exact ai7 ⟨jO.o.1,jO.o.2.1,by have:=jO.o.2.2.1;have:=HN.o;omega,jO.o.2.2.2⟩ wu.o
end
open Go.RowKit Go.Maps Go.WideMaps Go.Joins
def Kw(ns:List Tn):Rs Dr->Rs (List En)
 | .error e=>.error e
 | .ok d=>if(lC ns d).1=0 then .ok d.es else .error (lC ns d)
theorem aja(ns:List Tn):oJ ns=Kw ns (fV ns ns.length (keepD iT (af ns 0) .root)):=by
 unfold oJ Kw;rfl
def wK(B:Nat)(w0:World)(r:Rs (List En))(e:Ending)(w':World):Prop :=
 (∀es,r=.ok es->∃ve xs vs,e=.returned (.tuple #[ve,.int .i64 0,.int .i64 0])/\EnB B w' es ve xs vs)/\(∀c,r=.error c->e=.returned (.tuple #[.slice none 0 0,.int .i64 c.1,.int .i64 (c.2:Nat)])/\¬c.1=0)/\w0.grownBy w' none
theorem ajb{B:Nat}{w0 w':World}{es:List En}{ve:Value}{xs:List Value}{vs:Nat->Value}(h:EnB B w' es ve xs vs)(hg:w0.grownBy w' none):wK B w0 (.ok es) (.returned (.tuple #[ve,.int .i64 0,.int .i64 0])) w' :=
 ⟨fun es' e=>(by cases e;exact⟨ve,xs,vs,rfl,h⟩),fun c e=>(by cases e),hg⟩
theorem QV{B:Nat}{w0 w':World}{z:Int}{p:Nat}(hz:¬z=0)(hg:w0.grownBy w' none):wK B w0 (.error (z,p)) (.returned (.tuple #[.slice none 0 0,.int .i64 z,.int .i64 (p:Nat)])) w' :=
 ⟨fun es' e=>(by cases e),fun c e=>(by cases e;exact⟨rfl,hz⟩),hg⟩
theorem ajc{w0:World}{T D Lb:Nat}{nv:Value}{kv:Nat->Value}{ns:List Tn}{r:Rs Dr}{e:Ending}{w':World}(h:Kv w0 T D Lb nv kv ns r e w'):∃(z:Int) (p:Nat),e=.returned (.tuple #[.int .i64 z,.int .i64 (p:Nat)])/\(∀c,r=.error c->z=c.1/\p=c.2/\¬c.1=0/\w0.grownBy w' none)/\(∀d',r=.ok d'->z=0/\(DrI d'/\DrN d'/\d'.wt.length<=1000000/\∀q∈d'.tb,q<ns.length)/\∃vt ve vw xs vs,Dm w0 T D Lb nv kv ns d' w' vt ve vw xs vs):=by
 match r,h with
 | .error c,h=>exact⟨c.1,c.2,(h.2 c rfl).1,fun c' e=>(by cases e;exact⟨rfl,rfl,(h.2 _ rfl).2⟩),fun d e=>(by cases e)⟩
 | .ok d,h=>exact⟨0,0,(h.1 d rfl).1,fun c' e=>(by cases e),fun d' e=>(by cases e;exact⟨rfl,(h.1 _ rfl).2⟩)⟩
theorem ajd{w0 w:World}{T D Lb:Nat}{nv:Value}{kv:Nat->Value}{ns:List Tn}(hg:w0.grownBy w none)(hT:w.heap[T]?=some (.cells #[nv,.slice (some ⟨Lb,0,none⟩) ns.length ns.length] 106 (0,0)))(hD:w.heap[D]?=some (.cells #[.pointer (some ⟨T,0,none⟩),.bool false,.slice none 0 0,.slice none 0 0,.slice none 0 0] 62 (0,0)))(hL:w.heap[Lb]?=some (.cells (Array.replicate ns.length .nilFunc) 67 (0,0)))(hB:YC w D T)(bD:w0.heap.size<=D)(bL:w0.heap.size<=Lb):Dm w0 T D Lb nv kv ns iT w (.slice none 0 0) (.slice none 0 0) (.slice none 0 0) [] (fun _=>.slice none 0 0) :=
 ⟨hg,hT,hD,⟨_,hL,by simp,fun q hq=>by simp[iT,LkV],hB⟩,⟨rfl,Or.inl ⟨rfl,rfl⟩⟩,⟨⟨rfl,Or.inl ⟨rfl,rfl⟩⟩,fun i hi=>absurd hi (by simp[iT]),fun i hi=>absurd hi (by simp[iT]),fun i j g hi=>absurd hi (by simp[iT])⟩,⟨rfl,Or.inl ⟨rfl,rfl⟩⟩,bD,bL⟩
theorem aje(N c T Lb:Nat)(kv:Nat->Value)(ns:List Tn)(w0 w:World)(H:Nd w0 N c kv ns)(hc:ns.length<=c)(hg:w0.grownBy w none)(hT:w.heap[T]?=some (.cells #[.slice (some ⟨N,0,none⟩) ns.length c,.slice (some ⟨Lb,0,none⟩) ns.length ns.length] 106 (0,0)))(hL:w.heap[Lb]?=some (.cells (Array.replicate ns.length .nilFunc) 67 (0,0)))(bL:w0.heap.size<=Lb) :
  Calls prog 11 #[.pointer (some ⟨T,0,none⟩)] w (wK w0.heap.size w0 (oJ ns)):=by
 obtain⟨B,hB⟩:=zN (w.heap.size);obtain⟨W,hW⟩:=zN (((w.alloc (.cells #[.pointer (some ⟨T,0,none⟩)] 57)).alloc (.cells #[.pointer (some ⟨T,0,none⟩),.bool false,.slice none 0 0,.slice none 0 0,.slice none 0 0] 62)).alloc (.cells #[.pointer (some ⟨B+1,0,none⟩)] 59));have qN:=hW ▸ bC (bC (bC (au w none) _) _) _;have h1:W.heap[B]?=some (.cells #[.pointer (some ⟨T,0,none⟩)] 57 (0,0)):=by
  rw[<-hW,<-hB,Lib.alloc_old _ _ _ (by simp;omega),Lib.alloc_old _ _ _ (by simp)];exact heap_alloc_new _ _
 have h2:W.heap[B+1]?=some (.cells #[.pointer (some ⟨T,0,none⟩),.bool false,.slice none 0 0,.slice none 0 0,.slice none 0 0] 62 (0,0)):=by
  rw[<-hW,<-hB,Lib.alloc_old _ _ _ (by simp)];have:=heap_alloc_new (w.alloc (.cells #[.pointer (some ⟨T,0,none⟩)] 57)) (.cells #[.pointer (some ⟨T,0,none⟩),.bool false,.slice none 0 0,.slice none 0 0,.slice none 0 0] 62)
  rwa [World.size_alloc]at this
 have h3:W.heap[B+2]?=some (.cells #[.pointer (some ⟨B+1,0,none⟩)] 59 (0,0)):=by
  rw[<-hW,<-hB];have:=heap_alloc_new ((w.alloc (.cells #[.pointer (some ⟨T,0,none⟩)] 57)).alloc (.cells #[.pointer (some ⟨T,0,none⟩),.bool false,.slice none 0 0,.slice none 0 0,.slice none 0 0] 62)) (.cells #[.pointer (some ⟨w.heap.size+1,0,none⟩)] 59)
  rwa [World.size_alloc,World.size_alloc]at this
 have hd:Dm w0 T (B+1) Lb (.slice (some ⟨N,0,none⟩) ns.length c) kv ns iT W (.slice none 0 0) (.slice none 0 0) (.slice none 0 0) [] (fun _=>.slice none 0 0):=ajd (ai hg qN) ((aV qN).blk hT) h2 ((aV qN).blk hL) ⟨h3,h1⟩ (by have:=hg.size;omega) bL;have HD:=ae hd;have DZ:Hd (W.heap[B]?=some (.cells #[.pointer (some ⟨T,0,none⟩)] 57 (0,0))/\W.heap[B+2]?=some (.cells #[.pointer (some ⟨B+1,0,none⟩)] 59 (0,0))):=⟨h1,h3⟩;have HH:Hd (Nd w0 N c kv ns/\ns.length<=c):=⟨H,hc⟩;obtain⟨x,hx⟩:=zN (ns[0]'H.pos);have hks:af ns 0=x.ks:=by unfold af;rw[List.getElem?_eq_getElem H.pos,hx]
 obtain⟨o4,m4,hk4,-⟩:=H.kid 0 H.pos;rw[hx]at hk4;have HX:Hd (ns[0]'H.pos=x/\kv 0=.slice o4 x.ks.length m4):=⟨hx,hk4⟩;obtain⟨RC,QW⟩:=zN (fV ns ns.length (keepD iT x.ks .root));obtain⟨R,hR⟩:=zN (oJ ns);have HR:Hd (R=Kw ns RC):=by
  show _=_;rw[<-hR,<-QW,<-hks,aja]
 rw[hR];have c1:W.cell? ⟨B,0,none⟩=some (.pointer (some ⟨T,0,none⟩)):=by rw[ag h1];rfl
 have iy:Hd (W.grownBy W.drew none):=ay (au W none) 1;have CR:Hd (Calls prog 23 #[.pointer (some ⟨T,0,none⟩)] W.drew fun e w'=>e=.returned (.agg (dQ x (.slice o4 x.ks.length m4)))/\W.drew.grownBy w' none/\w'.cell? ⟨B,0,none⟩=some (.pointer (some ⟨T,0,none⟩))):=by
  have:=ahl N c (hd.grow iy.o) H;rw[hx,hk4]at this;exact this.mono fun e w' hh=>⟨hh.1,hh.2,(ai iy.o hh.2).cell c1 (by simp)⟩
 have CK:Hd (∀w2,W.drew.grownBy w2 none->Calls prog 22 #[.pointer (some ⟨T,0,none⟩),.agg (dQ x (.slice o4 x.ks.length m4)),.func (.func 24) #[] #[.pointer (some ⟨B+2,0,none⟩),.pointer (some ⟨B,0,none⟩)]] w2 fun e w3=>e=.returned (.tuple #[])/\Hd (Dm w0 T (B+1) Lb (.slice (some ⟨N,0,none⟩) ns.length c) kv ns (keepD iT x.ks .root) w3 (.slice none 0 0) (.slice none 0 0) (.slice none 0 0) [] (fun _=>.slice none 0 0)/\w3.heap[B]?=some (.cells #[.pointer (some ⟨T,0,none⟩)] 57 (0,0))/\w3.heap[B+2]?=some (.cells #[.pointer (some ⟨B+1,0,none⟩)] 59 (0,0)))/\w3.cell? ⟨B,0,none⟩=some (.pointer (some ⟨T,0,none⟩))):=fun w2 hg2=>by
  have hgW:=ai iy.o hg2;have:=keep_any (hd.grow hgW) x (.slice o4 x.ks.length m4) (by have:=H.kid 0 H.pos;rw[hx,hk4]at this;exact this) (by have:=H.rng 0 H.pos;rw[hx]at this;exact this) (by have:=H.num 0 H.pos;rw[hx]at this;exact this) 24 #[.pointer (some ⟨B+2,0,none⟩),.pointer (some ⟨B,0,none⟩)] .root ⟨B+2,B,rfl,(aV hgW).blk h3,(aV hgW).blk h1⟩;refine this.mono fun e w3 ⟨a1,a2,a3⟩=>?_
  have y1:=(a3 _ (by decide)).blk ((aV hgW).blk h1);have y3:=(a3 _ (by decide)).blk ((aV hgW).blk h3);exact⟨a1,⟨a2,y1,y3⟩,by rw[ag y1];rfl⟩
 unfold dQ at CR CK;have HW:Hd (((w.alloc (.cells #[.pointer (some ⟨T,0,none⟩)] 57)).alloc (.cells #[.pointer (some ⟨T,0,none⟩),.bool false,.slice none 0 0,.slice none 0 0,.slice none 0 0] 62)).alloc (.cells #[.pointer (some ⟨B+1,0,none⟩)] 59)=W/\w.heap.size=B):=⟨hW,hB⟩;have CC:Hd (∀w3,Hd (Dm w0 T (B+1) Lb (.slice (some ⟨N,0,none⟩) ns.length c) kv ns (keepD iT x.ks .root) w3 (.slice none 0 0) (.slice none 0 0) (.slice none 0 0) [] (fun _=>.slice none 0 0)/\w3.heap[B]?=some (.cells #[.pointer (some ⟨T,0,none⟩)] 57 (0,0))/\w3.heap[B+2]?=some (.cells #[.pointer (some ⟨B+1,0,none⟩)] 59 (0,0)))->Calls prog 27 #[.pointer (some ⟨T,0,none⟩)] w3 fun e w4=>∃(z:Int) (p:Nat),e=.returned (.tuple #[.int .i64 z,.int .i64 (p:Nat)])/\Hd ((∀c,RC=.error c->z=c.1/\p=c.2/\¬c.1=0/\w0.grownBy w4 none)/\(∀d',RC=.ok d'->z=0/\(DrI d'/\DrN d'/\d'.wt.length<=1000000/\∀q∈d'.tb,q<ns.length)/\∃vt ve vw xs vs,Dm w0 T (B+1) Lb (.slice (some ⟨N,0,none⟩) ns.length c) kv ns d' w4 vt ve vw xs vs))):=fun w3 hh=>(check_any N c hh.o.1 H (afF _) ⟨fun y hy=>(by cases hy),fun y hy=>(by cases hy)⟩ rfl rfl hc).mono fun e w4 h4=>by rw[QW]at h4;exact ajc h4
 clear hW qN h1 h2 h3 hd hx hks hk4 hR QW HX H hc hg hT hL bL;go_enter func11,ntmps11;go_upto_region 2 with fail
 try rw[HW.o.1]
 try rw[HW.o.2]
 go_region_held3 (fun u=>u.cell? ⟨B,0,none⟩=some (.pointer (some ⟨T,0,none⟩))) ((first|assumption|exact iy.o.cell (by assumption) (by simp)|go_keep)) (first|(go_at_call 23;refine CR.o.mono ?_;rintro e2 w2 ⟨rfl,hg2,ajf⟩)|(go_at_call 22;refine(CK.o _ (by assumption)).mono ?_;rintro e3 w3 ⟨rfl,hall,hcl⟩))
 all_goals
  clear CR CK HD DZ c1 ajf hcl hg2;have hcB:w3.cell? ⟨B,0,none⟩=some (.pointer (some ⟨T,0,none⟩)):=by rw[ag hall.o.2.1];rfl
  go_wp2_with (go_at_call 27;refine(CC.o _ hall).mono ?_);rintro e4 w4 ⟨z4,p4,rfl,h4⟩
  rcases RC with c0|dR
  ·obtain⟨rfl,rfl,hz,hg4⟩:=h4.o.1 c0 rfl;obtain⟨z4,p4⟩:=c0;have HY:Hd (R=.error (z4,p4)):=HR.o;have HZ:Hd (¬z4=0/\w0.grownBy w4 none):=⟨hz,hg4⟩;have hzb:(z4 != 0)=true:=by simpa using hz
   clear hcB hall CC h4 hz hg4 HR;go_wp2;refine bodyPost_ret (results_tmp3 (t:=2) (u:=3) (v:=4) rfl _ _ _) rfl ?_;rw[HY.o];exact QV HZ.o.1 HZ.o.2
  ·obtain⟨rfl,⟨hI,hM,hwt,htb⟩,vt,ve,vw,xs,vs,hd4⟩:=h4.o.2 dR rfl;obtain⟨Z,Y,QX⟩:∃Z Y,lC ns dR=(Z,Y):=⟨_,_,rfl⟩;have Ky:Hd (R=if Z=0 then .ok dR.es else .error (Z,Y)):=by
    have h1:=HR.o;unfold Kw at h1;simp only[QX]at h1;exact h1
   have CL:Hd (Calls prog 28 #[.pointer (some ⟨B+1,0,none⟩)] w4 fun e w5=>e=.returned (.tuple #[.int .i64 Z,.int .i64 (Y:Nat)])/\Hd (w4.grownBy w5 none)):=(aiY hd4 HH.o.1 hI hM hwt htb).mono fun e w5 hh=>by rw[QX]at hh;exact hh
   have HD4:=ae hd4;obtain⟨cs,-,-,-,hbt⟩:=hd4.lok;have ZN:w4.cell? ⟨B+1+1,0,none⟩=some (.pointer (some ⟨B+1,0,none⟩)):=by rw[ag hbt.1];rfl
   clear hcB hall CC h4 hI hM hwt htb hd4 hbt HR QX;go_wp2_with (go_at_call 28;refine CL.o.mono ?_);rintro e5 w5 ⟨rfl,h5⟩;have HD5:=HD4.o.grow h5.o;have ajL:=h5.o.cell ZN (by simp);obtain⟨-,-,-,-,-,d3,-,-⟩:=HD5.cells;have QY:=ae HD5;clear ZN HD4 CL HD5
   by_cases hZ:Z=0
   ·have HY:Hd (R=.ok dR.es):=by show _=_;rw[Ky.o,if_pos hZ]
    subst hZ;clear Ky;go_wp2;refine bodyPost_ret (results_tmp3 (t:=2) (u:=3) (v:=4) rfl _ _ _) rfl ?_;rw[HY.o];exact ajb QY.o.ent QY.o.gb
   ·have HY:Hd (R=.error (Z,Y)):=by show _=_;rw[Ky.o,if_neg hZ]
    have hzb:(Z != 0)=true:=by simpa using hZ
    clear Ky;go_wp2;refine bodyPost_ret (results_tmp3 (t:=2) (u:=3) (v:=4) rfl _ _ _) rfl ?_;rw[HY.o];exact QV hZ QY.o.gb
open Go.RowKit Go.Maps Go.WideMaps Go.Joins
theorem ajg{w:World}{B T:Nat}{ns:List Tn}{now N c M:Nat}{xs:List Value}{ks:Nat->Value}{n:Nat}{f:Nat->List UInt8->Option (Nat × Bool)}(h:TrD w B T ns now N c M xs ks n f)(l:List UInt8)(hl:jK l=.ok ns):Nd w N c ks ns/\ns.length<=c:=by
 obtain⟨tv,own,wf,hn⟩:=Jv l ns hl;have kAt:∀i (hi:i<ns.length),af ns i=ns[i].ks:=fun i hi=>by unfold af;rw[List.getElem?_eq_getElem hi]
 refine⟨⟨fun i hi=>?_,fun i hi=>NuS.of (h.kid i hi),fun i hi q hq=>tv.lt i q (by rw[kAt i hi];exact hq),fun i hi=>Yd hl i hi,by omega,tv.root.1,fun i hi=>by have:=(tv.txt _ (List.getElem_mem hi)).2.1;omega⟩,?_⟩
 ·obtain⟨h0,h1,h2,h3,h4,h5,-⟩:=h.node i hi;exact⟨h0,h1,h2,h3,h4,h5⟩
 ·rcases h.row.2 with⟨e1,_⟩|⟨g,cap,cu,e1,hb,hgg,hn',hm,hs,ht⟩
  ·cases e1
  ·cases e1;exact hn'
theorem egM:∀args w,(callFunc 11 args).run prog w=.ok (.enter 11 args) w:=enters_of func11 (by kernel_rfl) rfl
noncomputable def nV(l:List UInt8):Rs (List En):=match jK l with | .error e=>.error e | .ok ns=>oJ ns
theorem ajh(s:ByteArray)(E:Int->TypeId × Value)(b:Int->Addr)(w:World)(G:Gl w w.heap.size E)(S:Sn w E b)(hmx:s.size<2 ^ 62) :
  Calls prog 10 #[.string s,.func (.func 11) #[] #[]] w (wK w.heap.size w (nV s.data.toList)):=by
 have C0:=ag7 s E b w G S hmx;obtain⟨R,hR⟩:=zN (nV s.data.toList);rw[hR];unfold nV at hR
 cases hns:jK s.data.toList with
 | error c0 =>
  obtain⟨z,p⟩:=c0;have hz:¬z=0:=by have:=PE _ _ _ hns;omega
  have HY:Hd (R=.error (z,p)):=by show _=_;rw[<-hR,hns]
  have HZ:=ae hz;have hzb:(z != 0)=true:=by simpa using hz
  have CP:Hd (Calls prog 20 #[.string s] w fun e w2=>e=.returned (.tuple #[.slice none 0 0,.int .i64 z,.int .i64 (p:Nat)])/\Hd (w.grownBy w2 none)):=C0.mono fun e w2 hh=>⟨hh.2.1 z p hns,hh.2.2⟩
  clear G S hns C0 hR hz;go_enter func10,ntmps10;go_wp2_with (go_at_call 20;refine CP.o.mono ?_);rintro e w2 ⟨rfl,hP⟩;go_wp2;refine bodyPost_ret (results_tmp3 (t:=4) (u:=5) (v:=6) rfl _ _ _) rfl ?_;rw[HY.o];exact QV HZ.o hP.o
 | ok ns =>
  have HES:Hd (oJ ns=R):=by show _=_;rw[<-hR,hns]
  have CP:Hd (Calls prog 20 #[.string s] w fun e w2=>∃N c,e=.returned (.tuple #[.slice (some ⟨N,0,none⟩) ns.length c,.int .i64 0,.int .i64 0])/\Hd (w.grownBy w2 none/\ns.length<=1000000/\ns.length<=c/\∃kv,Nd w2 N c kv ns)):=C0.mono fun e w2 hh=>by
   obtain⟨N,c,M,T,xs,ks,now,n,f,he,hD⟩:=hh.1 ns hns;have:=ajg hD _ hns;exact⟨N,c,he,hh.2.2,this.1.len,this.2,ks,this.1⟩
  clear G S hns C0 hR;go_enter func10,ntmps10;go_wp2_with (go_at_call 20;refine CP.o.mono ?_);rintro e w2 ⟨N,c,rfl,hP⟩;have CN:Hd (Calls prog 21 #[.slice (some ⟨N,0,none⟩) ns.length c] w2 fun e w3=>e=.returned (.pointer (some ⟨w2.heap.size+1,0,none⟩))/\Hd (w3=(w2.alloc (.cells (Array.replicate ns.length .nilFunc) 67)).alloc (.cells #[.slice (some ⟨N,0,none⟩) ns.length c,.slice (some ⟨w2.heap.size,0,none⟩) ns.length ns.length] 106))):=ahg N c ns.length w2 (by have:=hP.o.2.1;omega);obtain⟨T,hT⟩:=zN (w2.heap.size+1);have CM:Hd (∀w3,Hd (w3=(w2.alloc (.cells (Array.replicate ns.length .nilFunc) 67)).alloc (.cells #[.slice (some ⟨N,0,none⟩) ns.length c,.slice (some ⟨w2.heap.size,0,none⟩) ns.length ns.length] 106))->Calls prog 11 #[.pointer (some ⟨T,0,none⟩)] w3 fun e w4=>∃(v:Value) (z p:Int),e=.returned (.tuple #[v,.int .i64 z,.int .i64 p])/\Hd (wK w.heap.size w R e w4/\(z=0->p=0)/\(¬z=0->v=.slice none 0 0))):=fun w3 hw3=>by
   obtain⟨hg,hl,hc,kv,H⟩:=hP.o;have h3:w3=_:=hw3;have hg3:w2.grownBy w3 none:=by rw[h3];exact bC (bC (au w2 none) _) _
   have hT3:w3.heap[T]?=some (.cells #[.slice (some ⟨N,0,none⟩) ns.length c,.slice (some ⟨w2.heap.size,0,none⟩) ns.length ns.length] 106 (0,0)):=by
    rw[h3,<-hT];have:=heap_alloc_new (w2.alloc (.cells (Array.replicate ns.length .nilFunc) 67)) (.cells #[.slice (some ⟨N,0,none⟩) ns.length c,.slice (some ⟨w2.heap.size,0,none⟩) ns.length ns.length] 106)
    rwa [World.size_alloc]at this
   have hL3:w3.heap[w2.heap.size]?=some (.cells (Array.replicate ns.length .nilFunc) 67 (0,0)):=by
    rw[h3,Lib.alloc_old _ _ _ (by simp)];exact heap_alloc_new _ _
   refine(aje N c T w2.heap.size kv ns w2 w3 H hc hg3 hT3 hL3 (Nat.le_refl _)).mono fun e w4 hh=>?_
   rw[HES.o]at hh;have hsz:=hg.size;have up:∀{X:TypeId} {k n:Nat} {v:Value} {xs:List Value},w4.ownsRow w2.heap.size X k v n xs->w4.ownsRow w.heap.size X k v n xs:=fun h=>⟨h.1,h.2.imp id fun⟨g,cap,cu,e1,hb,r⟩=>⟨g,cap,cu,e1,by omega,r⟩⟩
   have hM:wK w.heap.size w R e w4:=⟨fun es he=>by
    obtain⟨ve,xs,vs,e1,hE⟩:=hh.1 es he;exact⟨ve,xs,vs,e1,up hE.row,hE.cel,fun i hi=>up (hE.nee i hi),hE.apa⟩,hh.2.1,ai hg hh.2.2⟩
   rcases R with c0|es
   ·obtain⟨e1,hz⟩:=hh.2.1 c0 rfl;exact⟨_,_,_,e1,hM,fun h=>absurd h hz,fun _=>rfl⟩
   ·obtain⟨ve,xs,vs,e1,hE⟩:=hh.1 es rfl;exact⟨_,_,_,e1,hM,fun _=>rfl,fun h=>absurd rfl h⟩
  rw[hT]at CN;have hEM:=egM;clear hT CP;go_wp2_with (first|(go_at_call 21;refine CN.o.mono ?_;rintro e w3 ⟨rfl,h3⟩)|(refine(CM.o _ (by assumption)).mono ?_));rintro e w4 ⟨v4,z4,p4,rfl,h4⟩
  by_cases hz:z4=0
  ·have hp:=h4.o.2.1 hz;subst hz hp;go_wp2;refine bodyPost_ret (results_tmp3 (t:=4) (u:=5) (v:=6) rfl _ _ _) rfl ?_;exact h4.o.1
  ·have hv:=h4.o.2.2 hz;subst hv;have hzb:(z4 != 0)=true:=by simpa using hz
   go_wp2;refine bodyPost_ret (results_tmp3 (t:=4) (u:=5) (v:=6) rfl _ _ _) rfl ?_;exact h4.o.1
theorem aji(s:ByteArray)(E:Int->TypeId × Value)(b:Int->Addr)(w:World)(G:Gl w w.heap.size E)(S:Sn w E b)(hmx:s.size<2 ^ 62) :
  Calls prog 5 #[.string s] w (wK w.heap.size w (nV s.data.toList)):=by
 obtain⟨R,hR⟩:=zN (nV s.data.toList);rw[hR];have CR:Hd (Calls prog 10 #[.string s,.func (.func 11) #[] #[]] w fun e w'=>∃v z p,e=.returned (.tuple #[v,z,p])/\Hd (wK w.heap.size w R e w')):=(ajh s E b w G S hmx).mono fun e w' hh=>by
  rw[hR]at hh
  rcases R with c0|es
  ·exact⟨_,_,_,(hh.2.1 c0 rfl).1,hh⟩
  ·obtain⟨ve,xs,vs,e1,-⟩:=hh.1 es rfl;exact⟨_,_,_,e1,hh⟩
 clear G S hR;go_enter func5,ntmps5;go_wp2_with (go_at_call 10;refine CR.o.mono ?_;rintro e w4 ⟨v4,z4,p4,rfl,h4⟩);refine bodyPost_ret (by first|exact results_tmp3 (t:=2) (u:=3) (v:=4) rfl _ _ _|exact results_tmp3 (t:=3) (u:=4) (v:=5) rfl _ _ _) rfl ?_;exact h4.o
end Go.Proofs.YtnnbgjaphfhibaaGreatDoor
