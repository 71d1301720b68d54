import Derived.Test.YtnnbgjaphfhibaaGreatDoorM27
import Derived.Test.YtnnbgjaphfhibaaGreatDoorM06
set_option linter.unusedVariables false
set_option linter.unusedSimpArgs false
set_option maxRecDepth 100000
set_option maxHeartbeats 6400000
open Go.Proofs.Tryz
namespace Go.Proofs.YtnnbgjaphfhibaaGreatDoor
open Go.RowKit Go.Maps Go.WideMaps Go.Joins
theorem IR{w w':World}{a nb bx:Nat}{r:Option Nat}{va vn vb:Value}(hg:w.grownBy w' r)(hf:some a≠r/\some nb≠r/\some bx≠r)(h:w.cell? ⟨a,0,none⟩=some va/\w.cell? ⟨nb,0,none⟩=some vn/\w.cell? ⟨bx,5,none⟩=some vb):w'.cell? ⟨a,0,none⟩=some va/\w'.cell? ⟨nb,0,none⟩=some vn/\w'.cell? ⟨bx,5,none⟩=some vb :=
 ⟨hg.cell h.1 hf.1,hg.cell h.2.1 hf.2.1,hg.cell h.2.2 hf.2.2⟩
theorem cellsS{w:World}{a nb bx D k:Nat}{va vn vb v:Value}(hn:some a≠some D/\some nb≠some D/\some bx≠some D)(h:w.cell? ⟨a,0,none⟩=some va/\w.cell? ⟨nb,0,none⟩=some vn/\w.cell? ⟨bx,5,none⟩=some vb):(w.setCell ⟨D,k,none⟩ v).cell? ⟨a,0,none⟩=some va/\(w.setCell ⟨D,k,none⟩ v).cell? ⟨nb,0,none⟩=some vn/\(w.setCell ⟨D,k,none⟩ v).cell? ⟨bx,5,none⟩=some vb:=IR (iM w D k v) hn h
section
variable {w0:World} {T D Lb:Nat} {nv:Value} {kv:Nat->Value} {ns:List Tn} {d:Dr} {w w':World} {vt ve vw:Value} {xs:List Value} {vs:Nat->Value}
theorem aeP(h:Dm w0 T D Lb nv kv ns d w vt ve vw xs vs)(q:Nat)(x:Tn)(k:Value)(hk:NuS w0 k x.ks)(htx:x.tx.length<2 ^ 60)(e:Nat)(he:e<d.es.length)(hel:d.es.length<=1000)(hnd:(bn d.es e).nd.length<=1000)(hwl:d.wt.length<=1000000)(a b:Nat)(ha:w.heap[a]?=some (.cells #[.pointer (some ⟨D,0,none⟩)] 59 (0,0)))(hb:w.heap[b]?=some (.cells #[.int .i64 (e:Nat)] 3 (0,0))) :
  Calls prog 118 #[.agg (dL x k),.pointer (some ⟨a,0,none⟩),.pointer (some ⟨b,0,none⟩)] w (qi w0 T D Lb nv kv ns (gJ d q x (.val e)) w):=by
 have O4:Hd ((bn d.es e).nd.length<=1048576):=by show _<=_;omega
 have Gm:Hd ((bn d.es e).nd.length<=1000/\d.wt.length<=1000000):=⟨hnd,hwl⟩;clear hnd hwl;have kF:Hd (NuS w0 k x.ks):=hk;obtain⟨o,c,hk0,-⟩:=hk;obtain⟨E,c3,uV,hle,-⟩:=h.entry he;subst uV;obtain⟨el,og⟩:∃el,d.es.length=el:=⟨_,rfl⟩;have aY:Hd (d.es.length=el/\e<d.es.length):=⟨og,he⟩;obtain⟨m,hm⟩:=zN (x.ks.length);have hk1:k=.slice o m c:=by rw[hk0,hm]
 rw[hk1]at kF ⊢
 -- what the calls leave
 obtain⟨kd,ky,tx,nu,ks,pl⟩:=x;obtain⟨KY,iC⟩:∃t:ByteArray,⟨ky.toArray⟩=t:=⟨_,rfl⟩;obtain⟨TX,eu⟩:∃t:ByteArray,⟨tx.toArray⟩=t:=⟨_,rfl⟩;have eP:Hd ((⟨ky.toArray⟩:ByteArray)=KY):=iC;have nI:Hd ((⟨tx.toArray⟩:ByteArray)=TX):=eu;obtain⟨bx,hbx⟩:=zN (w.heap.size);obtain⟨W,hW⟩:=zN (w.alloc (.cells #[.int .i64 kd,.string KY,.string TX,.int .i64 nu,.slice o m c,.int .i64 (pl:Nat)] 64));have HW:Hd (w.alloc (.cells #[.int .i64 kd,.string KY,.string TX,.int .i64 nu,.slice o m c,.int .i64 (pl:Nat)] 64)=W/\w.heap.size=bx):=⟨hW,hbx⟩;have hG:w.grownBy W none:=hW ▸ dw (ax w none) _;have HD:Hd (Dm w0 T D Lb nv kv ns d W vt (.slice (some ⟨E,0,none⟩) el c3) vw xs vs):=by have:=h.grow hG;rw[og]at this;exact this
 have kG:Hd (W.heap[bx]?=some (.cells #[.int .i64 kd,.string KY,.string TX,.int .i64 nu,.slice o m c,.int .i64 (pl:Nat)] 64 (0,0))/\W.heap[a]?=some (.cells #[.pointer (some ⟨D,0,none⟩)] 59 (0,0))/\W.heap[b]?=some (.cells #[.int .i64 (e:Nat)] 3 (0,0))):=⟨by rw[<-hW,<-hbx];exact heap_alloc_new _ _,(bf hG).blk ha,(bf hG).blk hb⟩;have ca:W.cell? ⟨a,0,none⟩=some (.pointer (some ⟨D,0,none⟩)):=by rw[af kG.o.2.1];rfl
 have cb:W.cell? ⟨b,0,none⟩=some (.int .i64 (e:Nat)):=by rw[af kG.o.2.2];rfl
 obtain⟨-,-,-,-,-,d3,-,-⟩:=HD.o.cells;obtain⟨R,hR⟩:=zN (gJ d q ⟨kd,ky,tx,nu,ks,pl⟩ (.val e));have HR0:Hd (oD d ⟨kd,ky,tx,nu,ks,pl⟩ e=R):=hR;have hsz:(⟨tx.toArray⟩:ByteArray).size<2 ^ 62:=by
  show tx.toArray.size<2 ^ 62;rw[List.size_toArray];have:tx.length<2 ^ 60:=htx;omega
 have sF:Hd ((⟨tx.toArray⟩:ByteArray).size<2 ^ 62/\tx.length<2 ^ 60/\el<=1000):=⟨hsz,htx,by rw[<-og];exact hel⟩;have heI:(e:Int)<(el:Int):=by omega
 have heN:e<el:=by omega
 rw[hR];unfold dL;simp only[]at kF ⊢;rw[iC,eu];have hlc:el<=c3:=by omega
 have iD:Hd (w.grownBy W none):=hG;clear hR hsz h ha hb hk0 hm hk1 iC eu hW hbx hG htx hel og he hle;go_enter func118,ntmps118;go_upto_region 1 with fail
 try rw[HW.o.1]
 try rw[HW.o.2]
 go_quiet (fail);obtain⟨V,hV⟩:=zN (W.drewN nq);have oV:W.grownBy V none:=hV ▸ aj (ax W none) nq;have rF:Hd (Dm w0 T D Lb nv kv ns d V vt (.slice (some ⟨E,0,none⟩) el c3) vw xs vs):=HD.o.grow oV;have bW:Hd (V.heap[bx]?=some (.cells #[.int .i64 kd,.string KY,.string TX,.int .i64 nu,.slice o m c,.int .i64 (pl:Nat)] 64 (0,0))/\V.heap[a]?=some (.cells #[.pointer (some ⟨D,0,none⟩)] 59 (0,0))/\V.heap[b]?=some (.cells #[.int .i64 (e:Nat)] 3 (0,0))):=⟨(bf oV).blk kG.o.1,(bf oV).blk kG.o.2.1,(bf oV).blk kG.o.2.2⟩;have lT:Hd (w.grownBy V none):=ah iD.o oV;rw[hV];clear hV oV iD HD kG ca cb d3 HW;have ca:V.cell? ⟨a,0,none⟩=some (.pointer (some ⟨D,0,none⟩)):=by rw[af bW.o.2.1];rfl
 have cb:V.cell? ⟨b,0,none⟩=some (.int .i64 (e:Nat)):=by rw[af bW.o.2.2];rfl
 have b0:V.cell? ⟨bx,0,none⟩=some (.int .i64 kd):=by rw[af bW.o.1];rfl
 have b1:V.cell? ⟨bx,1,none⟩=some (.string KY):=by rw[af bW.o.1];rfl
 have b2:V.cell? ⟨bx,2,none⟩=some (.string TX):=by rw[af bW.o.1];rfl
 have b3:V.cell? ⟨bx,3,none⟩=some (.int .i64 nu):=by rw[af bW.o.1];rfl
 have b4:V.cell? ⟨bx,4,none⟩=some (.slice o m c):=by rw[af bW.o.1];rfl
 have b5:V.cell? ⟨bx,5,none⟩=some (.int .i64 (pl:Nat)):=by rw[af bW.o.1];rfl
 obtain⟨-,-,d0,-,-,-,-,-⟩:=rF.o.cells;obtain⟨Z,hZ⟩:=zN (Ae R);have HZ:Hd (Ae R=Z):=hZ;clear hZ;obtain⟨nb,hnb⟩:=zN (V.heap.size);obtain⟨W2,hW2⟩:=zN (V.alloc (.cells #[.string ⟨#[]⟩] 9));have HW2:Hd (V.alloc (.cells #[.string ⟨#[]⟩] 9)=W2/\V.heap.size=nb):=⟨hW2,hnb⟩;have tJ:Hd (V.grownBy W2 none):=hW2 ▸ dw (ax V none) _;have HN:Hd (W2.heap[nb]?=some (.cells #[.string ⟨#[]⟩] 9 (0,0))):=by rw[<-hW2,<-hnb];exact heap_alloc_new _ _
 have b02:=tJ.o.cell b0 (by simp);have b12:=tJ.o.cell b1 (by simp);have b22:=tJ.o.cell b2 (by simp);have b32:=tJ.o.cell b3 (by simp);have b42:=tJ.o.cell b4 (by simp);have b52:=tJ.o.cell b5 (by simp);have CT:Hd (Calls prog 77 #[.agg #[.int .i64 kd,.string KY,.string TX,.int .i64 nu,.slice o m c,.int .i64 (pl:Nat)],.func (.func 58) #[] #[],.pointer (some ⟨nb,0,none⟩)] W2 (Om ⟨kd,ky,tx,nu,ks,pl⟩ (nameB TX) ⟨nb,0,none⟩ W2)):=by
  have:=Oo ⟨kd,ky,tx,nu,ks,pl⟩ o m c 58 nb 0 (nameB ⟨tx.toArray⟩) W2 V9 (fun w'=>(name_any _ w' sF.o.1).mono fun e w'' h=>⟨h.1,h.2 ▸ ax _ none⟩) #[.string ⟨#[]⟩] 9 HN.o _ rfl;unfold dL at this;simp only[]at this;rw[eP.o,nI.o]at this;exact this
 have htk:takeD ⟨kd,ky,tx,nu,ks,pl⟩ nameB=if ¬kd=3 then 7 else if nameB TX=true then 0 else 2:=by
  unfold takeD dn;simp only[];rw[nI.o]
 clear hW2 hnb b0 b1 b2 b3 b4 b5 HZ
 by_cases g1:kd=3
 ·rw[if_neg (show ¬¬kd=3 by simpa using g1)]at htk
  by_cases g2:nameB TX=true
  ·rw[if_pos g2]at htk;have CG:Hd (Calls prog 77 #[.agg #[.int .i64 kd,.string KY,.string TX,.int .i64 nu,.slice o m c,.int .i64 (pl:Nat)],.func (.func 58) #[] #[],.pointer (some ⟨nb,0,none⟩)] W2 fun e' w'=>e'=.returned (.int .i64 0)/\w'.heap[nb]?=some (.cells #[.string TX] 9 (0,0))/\V.grownBy w' none):=CT.o.mono fun e' w' h=>by
    obtain⟨h1,w1,h2,h3⟩:=h.2.2 g1 g2;refine⟨h1,?_,?_⟩
    ·rw[h3,nI.o];exact block_setCell (i:=0) ((bf h2).blk HN.o) _
    ·rw[h3];exact mP (ah tJ.o h2) (iM w1 _ 0 _) (Nat.le_of_eq HW2.o.2)
   have hR1:R=if(d.es[e]'aY.o.2).nd.any (fun y=>decide (y=TX))=true then .error 5 else if(d.es[e]'aY.o.2).nd.length=20 then .error 4 else .ok ⟨d.lk,d.fm,d.tb,d.es.set e ⟨(d.es[e]'aY.o.2).nm,(d.es[e]'aY.o.2).ve,(d.es[e]'aY.o.2).dg,(d.es[e]'aY.o.2).nd++[TX]⟩,d.wt++[(TX,pl)]⟩:=by
    rw[<-HR0.o];unfold oD;rw[htk,if_pos rfl,qj aY.o.2,show dn ⟨kd,ky,tx,nu,ks,pl⟩=TX from nI.o]
   have HR1:Hd (R=if(d.es[e]'aY.o.2).nd.any (fun y=>decide (y=TX))=true then .error 5 else if(d.es[e]'aY.o.2).nd.length=20 then .error 4 else .ok ⟨d.lk,d.fm,d.tb,d.es.set e ⟨(d.es[e]'aY.o.2).nm,(d.es[e]'aY.o.2).ve,(d.es[e]'aY.o.2).dg,(d.es[e]'aY.o.2).nd++[TX]⟩,d.wt++[(TX,pl)]⟩):=hR1;clear CT g1 g2 HR0 htk hR1;go_upto_region 3 with fail
   try rw[HW2.o.1]
   try rw[HW2.o.2]
   go_wp2_with (go_at_call 77;refine CG.o.mono ?_)
   first|rintro e' w2 rfl hn2 hg2|rintro e' w2 ⟨rfl,hn2,hg2⟩
   have HD2:Hd (Dm w0 T D Lb nv kv ns d w2 vt (.slice (some ⟨E,0,none⟩) el c3) vw xs vs):=rF.o.grow hg2;have HB2:Hd (w2.heap[bx]?=some (.cells #[.int .i64 kd,.string KY,.string TX,.int .i64 nu,.slice o m c,.int .i64 (pl:Nat)] 64 (0,0))/\w2.heap[a]?=some (.cells #[.pointer (some ⟨D,0,none⟩)] 59 (0,0))/\w2.heap[nb]?=some (.cells #[.string TX] 9 (0,0))):=⟨(bf hg2).blk bW.o.1,(bf hg2).blk bW.o.2.1,hn2⟩;obtain⟨o4,c4,hv4⟩:=lL (rF.o.ent.nee e aY.o.2);have iL:Hd (some nb≠(vs e).ownBlock):=by
    show _≠_;intro e';obtain⟨cc,hcc⟩:=(bz (rF.o.ent.nee e aY.o.2) e'.symm).2;have:=aB hcc;have:=HW2.o.2;omega
   obtain⟨m4,hm4⟩:=zN ((d.es[e]'aY.o.2).nd.length);rw[hm4]at hv4 HR1;have sG:Hd (vs e=.slice o4 m4 c4/\(d.es[e]'aY.o.2).nd.length=m4):=⟨hv4,hm4⟩;rw[hv4]at iL;obtain⟨q4,hq4⟩:=zN ((d.es[e]'aY.o.2).nd.any (fun y=>decide (y=TX)));rw[hq4]at HR1;have c0:w2.cell? ⟨nb,0,none⟩=some (.string TX):=by rw[af hn2];rfl
   have e3:w2.cell? ⟨E,e*4+3,none⟩=some (.slice o4 m4 c4):=by
    obtain⟨E',c',e1,-,cur,xu,-,-,-,q3⟩:=HD2.o.entry aY.o.2
    cases e1
    rw[af xu,<-hv4];exact q3
   have iO:Hd (w2.grownBy w2.drew none):=aj (ax w2 none) 1;have CC:Hd (Calls prog 61 #[.slice o4 m4 c4,.string TX] w2.drew fun e' w'=>e'=.returned (.bool q4)/\Hd (w2.grownBy w' none)/\w'.cell? ⟨E,e*4+3,none⟩=some (.slice o4 m4 c4)/\w'.cell? ⟨nb,0,none⟩=some (.string TX)):=by
    have ht:TxS w2.drew (.slice o4 m4 c4) (d.es[e]'aY.o.2).nd:=by
     have:=Ja (base:=w0.heap.size) rfl ((HD2.o.grow iO.o).ent.nee e aY.o.2);rw[hv4]at this;exact this
    have:=adY o4 m4 c4 TX (d.es[e]'aY.o.2).nd w2.drew hm4.symm ht (by have:=O4.o;rw[qj aY.o.2]at this;exact this);rw[hq4]at this;exact this.mono fun e' w' ⟨a1,a2⟩=>⟨a1,ah iO.o a2,(ah iO.o a2).cell e3 (by simp),(ah iO.o a2).cell c0 (by simp)⟩
   have dO:Hd (w.grownBy w2 none):=ah lT.o hg2;clear hn2 hg2 hv4 hm4 hq4 rF bW tJ HN CG HW2 b02 b12 b22 b32 b42 b52 ca cb d0;go_wp2
   go_region_held3 (fun u=>u.cell? ⟨E,e*4+3,none⟩=some (.slice o4 m4 c4)/\u.cell? ⟨nb,0,none⟩=some (.string TX)) ((first|assumption|exact⟨World.grownBy.cell (by assumption) (And.left (by assumption)) (by simp),World.grownBy.cell (by assumption) (And.right (by assumption)) (by simp)⟩|go_keep)) (first|(go_at_call 61;refine CC.o.mono ?_;rintro e' w7 ⟨rfl,hall,hcl⟩))
   have oJ:Hd (w2.grownBy w7 none):=hall;have HD7:Hd (Dm w0 T D Lb nv kv ns d w7 vt (.slice (some ⟨E,0,none⟩) el c3) vw xs vs):=HD2.o.grow oJ.o;have qR:Hd (w7.heap[bx]?=some (.cells #[.int .i64 kd,.string KY,.string TX,.int .i64 nu,.slice o m c,.int .i64 (pl:Nat)] 64 (0,0))/\w7.heap[a]?=some (.cells #[.pointer (some ⟨D,0,none⟩)] 59 (0,0))/\w7.heap[nb]?=some (.cells #[.string TX] 9 (0,0))):=⟨(bf oJ.o).blk HB2.o.1,(bf oJ.o).blk HB2.o.2.1,(bf oJ.o).blk HB2.o.2.2⟩;replace dO:Hd (w.grownBy w7 none):=ah dO.o oJ.o;obtain⟨f3,f0⟩:=hcl;clear hall HD2 HB2 oJ CC c0 e3 iO
   cases q4 with
   | true =>
    go_wp2;go_ret;rw[show R=.error 5 from HR1.o];exact mG (by decide) dO.o
   | false =>
    by_cases h20:m4=20
    ·have aeQ:((m4:Int) == 20)=true:=by rw[h20];rfl
     have HY:Hd (R=.error 4):=by
      show _=_;rw[HR1.o,if_neg (by simp),if_pos h20]
     clear HR1 h20;go_wp2;go_ret;rw[HY.o];exact mG (by decide) dO.o
    ·have aeQ:((m4:Int) == 20)=false:=by simpa using(show ¬(m4:Int)=20 by omega)
     have HY:Hd (R=.ok ⟨d.lk,d.fm,d.tb,d.es.set e ⟨(d.es[e]'aY.o.2).nm,(d.es[e]'aY.o.2).ve,(d.es[e]'aY.o.2).dg,(d.es[e]'aY.o.2).nd++[TX]⟩,d.wt++[(TX,pl)]⟩):=by
      show _=_;rw[HR1.o,if_neg (by simp),if_neg h20]
     clear HR1 h20;obtain⟨i0,hi0,hii⟩:=Option.map_eq_some_iff.1 PI;simp only[Prod.mk.injEq]at hii;obtain⟨hz0,hz1,hzb⟩:=hii;have hrow:w7.ownsRow w0.heap.size 9 1 (.slice o4 m4 c4) m4 ((d.es[e]'aY.o.2).nd.map Value.string):=by
      have:=HD7.o.ent.nee e aY.o.2;rw[sG.o.1,sG.o.2]at this;exact this
     have hm4:m4<=1000:=by
      have:=Gm.o.1;rw[qj aY.o.2,sG.o.2]at this;exact this
     obtain⟨ys,hys⟩:=zN ((d.es[e]'aY.o.2).nd.map Value.string);have lH:Hd ((d.es[e]'aY.o.2).nd.map Value.string=ys):=hys;rw[hys]at hrow;have hone:∀u∈([.string TX]:List Value),u.oneCell'=true:=by simp[Value.oneCell']
     obtain⟨-,curE,hcE⟩:=bz HD7.o.ent.row rfl;have Wv:Hd (w7.heap[E]?=some (.cells curE 33 (0,0))):=hcE;have dP:Hd (some E≠(Value.slice o4 m4 c4).ownBlock):=tH hcE hrow (by decide);obtain⟨K,hK⟩:=zN (w7.heap.size);have hB0:w0.heap.size<=K:=by rw[<-hK];exact HD7.o.size
     have dQ:Hd ((w7.drew.alloc (.cells #[.string TX] 9)).heap[K]?=some (.cells #[.string TX] 9 (0,0))):=by
      have:=heap_alloc_new w7.drew (.cells #[.string TX] 9);rw[show w7.drew.heap.size=K from hK]at this;exact this
     have f3A:(w7.alloc (.cells #[.string TX] 9)).cell? ⟨E,e*4+3,none⟩=some (.slice o4 m4 c4):=(World.grownBy_alloc w7 _ none).cell f3 (by simp);clear hys hcE;go_upto_region 10 with fail
     go_cut [] from 41 (fun wx=>∃xs' vs',Dm w0 T D Lb nv kv ns ⟨d.lk,d.fm,d.tb,d.es.set e ⟨(d.es[e]'aY.o.2).nm,(d.es[e]'aY.o.2).ve,(d.es[e]'aY.o.2).dg,(d.es[e]'aY.o.2).nd++[TX]⟩,d.wt⟩ wx vt (.slice (some ⟨E,0,none⟩) el c3) vw xs' vs'/\wx.heap[bx]?=some (.cells #[.int .i64 kd,.string KY,.string TX,.int .i64 nu,.slice o m c,.int .i64 (pl:Nat)] 64 (0,0))/\wx.heap[a]?=some (.cells #[.pointer (some ⟨D,0,none⟩)] 59 (0,0))/\wx.heap[nb]?=some (.cells #[.string TX] 9 (0,0)))
     case first =>
      go_region_law (refine step_append_lies _ (by rfl) _ _ _ (by rfl) w0.heap.size 9 i0 _ 1 16 underlying31 hi0 hz0 hz1 hzb (by rfl) (by decide) (.slice o4 m4 c4) m4 ys (by rfl) (hrow.drew.alloc _) ⟨K,0,none⟩ 1 1 [.string TX] (by rfl) (by rfl) (World.news_of_block dQ.o) hone (by omega) (by unfold maxLen;omega) (by omega) (by simp;omega) _ rfl ?_;intro g cap w3 hown3 hgrow hat hlt3;have hc3:w3.cell? ⟨E,e*4+3,none⟩=some (.slice o4 m4 c4):=nz f3 hgrow dP.o;have oM:w3.frozen? ⟨E,e*4+3,none⟩=false:=qV Wv.o hgrow dP.o)
      all_goals (
       go_wp2_with fail;go_meet;exact aeE HD7.o aY.o.2 sG.o.1 sG.o.2 qR.o.1 qR.o.2.1 qR.o.2.2 iL.o (lH.o ▸ hown3) hgrow hat)
     case rest =>
      obtain⟨xs',vs',hd8,IU,IV,IW⟩:=hcut;clear HD7 qR lH Wv dP dQ hrow hi0 hz0 hz1 hzb f3 f0 f3A hm4 iL sG;obtain⟨i1,hi1,hjj⟩:=Option.map_eq_some_iff.1 aeD;simp only[Prod.mk.injEq]at hjj;obtain⟨hy0,hy1,hyb⟩:=hjj;obtain⟨o5,c5,hvw⟩:=lL hd8.wan;subst hvw;obtain⟨wl,hwl⟩:=zN (d.wt.length);have FU:Hd (d.wt.length=wl):=hwl;have afR:wl<=1000000:=by rw[<-hwl];exact Gm.o.2
      have hd9:Dm w0 T D Lb nv kv ns ⟨d.lk,d.fm,d.tb,d.es.set e ⟨(d.es[e]'aY.o.2).nm,(d.es[e]'aY.o.2).ve,(d.es[e]'aY.o.2).dg,(d.es[e]'aY.o.2).nd++[TX]⟩,d.wt⟩ wc vt (.slice (some ⟨E,0,none⟩) el c3) (.slice o5 wl c5) xs' vs':=by rw[<-hwl];exact hd8
      have hrow:wc.ownsRow w0.heap.size 109 2 (.slice o5 wl c5) wl (d.wt.flatMap tu):=by have:=hd9.wan;rw[show(⟨d.lk,d.fm,d.tb,d.es.set e ⟨(d.es[e]'aY.o.2).nm,(d.es[e]'aY.o.2).ve,(d.es[e]'aY.o.2).dg,(d.es[e]'aY.o.2).nd++[TX]⟩,d.wt⟩:Dr).wt.length=wl from hwl]at this;exact this
      obtain⟨ys,hys⟩:=zN (d.wt.flatMap tu);have lH:Hd (d.wt.flatMap tu=ys):=hys;rw[hys]at hrow;have hone:∀u∈([.string TX,.int .i64 (pl:Nat)]:List Value),u.oneCell'=true:=by simp[Value.oneCell']
      obtain⟨-,-,-,-,-,-,d4,-⟩:=hd9.cells;have ca:wc.cell? ⟨a,0,none⟩=some (.pointer (some ⟨D,0,none⟩)):=by rw[af IV];rfl
      have c0:wc.cell? ⟨nb,0,none⟩=some (.string TX):=by rw[af IW];rfl
      have b5:wc.cell? ⟨bx,5,none⟩=some (.int .i64 (pl:Nat)):=by rw[af IU];rfl
      have ql:Hd (some D≠(Value.slice o5 wl c5).ownBlock):=OH hd9 hrow (by decide);have bK:Hd (some a≠(Value.slice o5 wl c5).ownBlock):=tH IV hrow (by decide);have nU:Hd (wc.heap[D]?=some (.cells #[.pointer (some ⟨T,0,none⟩),.bool d.fm,vt,.slice (some ⟨E,0,none⟩) el c3,.slice o5 wl c5] 62 (0,0))):=hd9.dra;obtain⟨K2,hK2⟩:∃K,wc.heap.size=K:=⟨_,rfl⟩;have hB2:w0.heap.size<=K2:=by rw[<-hK2];exact hd9.size
      have dQ:Hd ((wc.drew.alloc (.cells #[.string TX,.int .i64 (pl:Nat)] 109)).heap[K2]?=some (.cells #[.string TX,.int .i64 (pl:Nat)] 109 (0,0))):=by
       have:=heap_alloc_new wc.drew (.cells #[.string TX,.int .i64 (pl:Nat)] 109);rw[show wc.drew.heap.size=K2 from hK2]at this;exact this
      have caA:(wc.alloc (.cells #[.string TX,.int .i64 (pl:Nat)] 109)).cell? ⟨a,0,none⟩=some (.pointer (some ⟨D,0,none⟩)):=(World.grownBy_alloc wc _ none).cell ca (by simp);have d4A:(wc.alloc (.cells #[.string TX,.int .i64 (pl:Nat)] 109)).cell? ⟨D,4,none⟩=some (.slice o5 wl c5):=(World.grownBy_alloc wc _ none).cell d4 (by simp);have Ec:Hd (Dm w0 T D Lb nv kv ns ⟨d.lk,d.fm,d.tb,d.es.set e ⟨(d.es[e]'aY.o.2).nm,(d.es[e]'aY.o.2).ve,(d.es[e]'aY.o.2).dg,(d.es[e]'aY.o.2).nd++[TX]⟩,d.wt⟩ wc vt (.slice (some ⟨E,0,none⟩) el c3) (.slice o5 wl c5) xs' vs'):=hd9;have Wx:Hd (some a≠(Value.slice o5 wl c5).ownBlock/\some nb≠(Value.slice o5 wl c5).ownBlock/\some bx≠(Value.slice o5 wl c5).ownBlock):=⟨bK.o,tH IW hrow (by decide),tH IU hrow (by decide)⟩;have o6:Hd (some a≠some D/\some nb≠some D/\some bx≠some D):=⟨fun e=>aP IV nU.o (by decide) (Option.some.inj e),fun e=>aP IW nU.o (by decide) (Option.some.inj e),fun e=>aP IU nU.o (by decide) (Option.some.inj e)⟩
      clear hd8 hd9 IU IV IW hys hwl;go_upto_region 11 with fail
      have Wy:Hd (wc.drew.cell? ⟨a,0,none⟩=some (.pointer (some ⟨D,0,none⟩))/\wc.drew.cell? ⟨nb,0,none⟩=some (.string TX)/\wc.drew.cell? ⟨bx,5,none⟩=some (.int .i64 (pl:Nat))):=⟨ca,c0,b5⟩;have HS2:Hd ((wc.drew.alloc (.cells #[.string TX,.int .i64 (pl:Nat)] 109)).cell? ⟨a,0,none⟩=some (.pointer (some ⟨D,0,none⟩))/\(wc.drew.alloc (.cells #[.string TX,.int .i64 (pl:Nat)] 109)).cell? ⟨nb,0,none⟩=some (.string TX)/\(wc.drew.alloc (.cells #[.string TX,.int .i64 (pl:Nat)] 109)).cell? ⟨bx,5,none⟩=some (.int .i64 (pl:Nat))):=IR (World.grownBy_alloc wc.drew _ none) ⟨by simp,by simp,by simp⟩ Wy.o;have HD4:Hd ((wc.drew.alloc (.cells #[.string TX,.int .i64 (pl:Nat)] 109)).cell? ⟨D,4,none⟩=some (.slice o5 wl c5)):=(World.grownBy_alloc wc.drew _ none).cell d4 (by simp);refine wp_region_held_drew (S:=(fun u=>u.cell? ⟨a,0,none⟩=some (.pointer (some ⟨D,0,none⟩))/\u.cell? ⟨nb,0,none⟩=some (.string TX)/\u.cell? ⟨bx,5,none⟩=some (.int .i64 (pl:Nat)))) (by kernel_rfl) Wy.o (fun hHeld=>?_)
      refine wpAnyH_take (i:=0) (v:=.pointer (some ⟨D,0,none⟩)) rfl (by kernel_rfl) (by kernel_rfl) (by kernel_rfl) (fun _ _ _ h=>h) (Or.inl ⟨by rfl,fun w hSw=>by(try dsimp only at hSw);obtain⟨s1,s2,s3⟩:=hSw;go_simp⟩) hHeld ?_
      try simp only[Act.put,List.setIfInBounds_toArray,List.set_cons_zero,List.set_cons_succ]
      refine wpAnyH_take (i:=1) (v:=.pointer (some ⟨D,0,none⟩)) rfl (by kernel_rfl) (by kernel_rfl) (by kernel_rfl) (fun _ _ _ h=>h) (Or.inl ⟨by rfl,fun w hSw=>by(try dsimp only at hSw);obtain⟨s1,s2,s3⟩:=hSw;go_simp⟩) hHeld ?_
      try simp only[Act.put,List.setIfInBounds_toArray,List.set_cons_zero,List.set_cons_succ]
      refine wpAnyH_take (i:=2) (v:=.pointer (some ⟨D,0,none⟩)) rfl (by kernel_rfl) (by kernel_rfl) (by kernel_rfl) (fun _ _ _ h=>h) (Or.inl ⟨by rfl,fun w hSw=>by(try dsimp only at hSw);obtain⟨s1,s2,s3⟩:=hSw;go_simp⟩) hHeld ?_
      try simp only[Act.put,List.setIfInBounds_toArray,List.set_cons_zero,List.set_cons_succ]
      refine wpAnyH_take (i:=3) (v:=.pointer (some ⟨D,4,none⟩)) rfl (by kernel_rfl) (by kernel_rfl) (by kernel_rfl) (fun _ _ _ h=>h) (Or.inl ⟨by rfl,fun w hSw=>by(try dsimp only at hSw);obtain⟨s1,s2,s3⟩:=hSw;go_simp⟩) hHeld ?_
      try simp only[Act.put,List.setIfInBounds_toArray,List.set_cons_zero,List.set_cons_succ]
      refine wpAnyH_take (i:=5) (v:=.string TX) rfl (by kernel_rfl) (by kernel_rfl) (by kernel_rfl) (fun _ _ _ h=>h) (Or.inl ⟨by rfl,fun w hSw=>by(try dsimp only at hSw);obtain⟨s1,s2,s3⟩:=hSw;go_simp⟩) hHeld ?_
      try simp only[Act.put,List.setIfInBounds_toArray,List.set_cons_zero,List.set_cons_succ]
      refine wpAnyH_take (i:=6) (v:=.pointer (some ⟨bx,5,none⟩)) rfl (by kernel_rfl) (by kernel_rfl) (by kernel_rfl) (fun _ _ _ h=>h) (Or.inl ⟨by rfl,fun w hSw=>by(try dsimp only at hSw);obtain⟨s1,s2,s3⟩:=hSw;go_simp⟩) hHeld ?_
      try simp only[Act.put,List.setIfInBounds_toArray,List.set_cons_zero,List.set_cons_succ]
      refine wpAnyH_take (i:=7) (v:=.int .i64 (pl:Nat)) rfl (by kernel_rfl) (by kernel_rfl) (by kernel_rfl) (fun _ _ _ h=>h) (Or.inl ⟨by rfl,fun w hSw=>by(try dsimp only at hSw);obtain⟨s1,s2,s3⟩:=hSw;go_simp⟩) hHeld ?_
      try simp only[Act.put,List.setIfInBounds_toArray,List.set_cons_zero,List.set_cons_succ]
      refine wpAnyH_take (i:=8) (v:=.agg #[.string TX,.int .i64 (pl:Nat)]) rfl (by kernel_rfl) (by kernel_rfl) (by kernel_rfl) (fun _ _ _ h=>h) (Or.inl ⟨by rfl,fun w hSw=>by(try dsimp only at hSw);obtain⟨s1,s2,s3⟩:=hSw;go_simp⟩) hHeld ?_
      try simp only[Act.put,List.setIfInBounds_toArray,List.set_cons_zero,List.set_cons_succ]
      refine wpAnyH_ready (rs:=[4,9]) (by kernel_rfl) (by simp) ?_;refine AllReadyH.cons rfl (fun J1 hJ1=>?_) (AllReadyH.cons rfl (fun J1 hJ1=>?_) AllReadyH.nil)
      ·go_simp
       refine hJ1.out _ _ hHeld (fun _=>?_)
       try simp only[Act.put,List.setIfInBounds_toArray,List.set_cons_zero,List.set_cons_succ]
       refine wpAnyH_ready (rs:=[9]) (by kernel_rfl) (by simp) ?_;refine AllReadyH.cons rfl (fun J2 hJ2=>?_) AllReadyH.nil;clear hJ1
       go_simp
       refine hJ2.out _ _ HS2.o (fun _=>?_);clear hJ2
       try simp only[Act.put,List.setIfInBounds_toArray,List.set_cons_zero,List.set_cons_succ]
       refine wpAnyH_ready (rs:=[10]) (by kernel_rfl) (by simp) ?_;refine AllReadyH.cons rfl (fun J3 hJ3=>?_) AllReadyH.nil;refine step_append_lies _ (by rfl) _ _ _ (by rfl) w0.heap.size 109 i1 _ 2 24 underlying60 hi1 hy0 hy1 hyb (by rfl) (by decide) (.slice o5 wl c5) wl ys (by rfl) (hrow.drew.alloc _) ⟨K2,0,none⟩ 1 1 [.string TX,.int .i64 (pl:Nat)] (by rfl) (by rfl) (World.news_of_block dQ.o) hone (by omega) (by unfold maxLen;omega) (by omega) (by simp;omega) _ rfl ?_;intro g cap w3 hown3 hgrow hat hlt3;have hs3:=IR hgrow Wx.o HS2.o;have hc3:w3.cell? ⟨D,4,none⟩=some (.slice o5 wl c5):=nz d4 hgrow ql.o;have oM:w3.frozen? ⟨D,4,none⟩=false:=qV nU.o hgrow ql.o;have hs4:=fun v=>cellsS (k:=4) (v:=v) o6.o hs3
       refine hJ3.out _ _ hs3 (fun _=>?_)
       try simp only[Act.put,List.setIfInBounds_toArray,List.set_cons_zero,List.set_cons_succ]
       refine wpAnyH_take (i:=11) (v:=.pointer (some ⟨D,0,none⟩)) rfl (by kernel_rfl) (by kernel_rfl) (by kernel_rfl) (fun _ _ _ h=>h) (Or.inl ⟨by rfl,fun w hSw=>by(try dsimp only at hSw);obtain⟨s1,s2,s3⟩:=hSw;go_simp⟩) hs3 ?_
       try simp only[Act.put,List.setIfInBounds_toArray,List.set_cons_zero,List.set_cons_succ]
       refine wpAnyH_take (i:=12) (v:=.pointer (some ⟨D,4,none⟩)) rfl (by kernel_rfl) (by kernel_rfl) (by kernel_rfl) (fun _ _ _ h=>h) (Or.inl ⟨by rfl,fun w hSw=>by(try dsimp only at hSw);obtain⟨s1,s2,s3⟩:=hSw;go_simp⟩) hs3 ?_
       try simp only[Act.put,List.setIfInBounds_toArray,List.set_cons_zero,List.set_cons_succ]
       refine wpAnyH_ready (rs:=[13]) (by kernel_rfl) (by simp) ?_;refine AllReadyH.cons rfl (fun J4 hJ4=>?_) AllReadyH.nil;clear hJ3
       go_simp
       refine hJ4.out _ _ (hs4 _) (fun _=>?_);refine wpAnyH_done (by kernel_rfl) ?_ _;obtain⟨v',hd⟩:=Wj Ec.o FU.o (lH.o ▸ hown3) hgrow;have HF:Hd (Dm w0 T D Lb nv kv ns ⟨d.lk,d.fm,d.tb,d.es.set e ⟨(d.es[e]'aY.o.2).nm,(d.es[e]'aY.o.2).ve,(d.es[e]'aY.o.2).dg,(d.es[e]'aY.o.2).nd++[TX]⟩,d.wt++[(TX,pl)]⟩ (w3.setCell ⟨D,4,none⟩ (.slice (some ⟨g,0,none⟩) (wl+1) cap)) vt (.slice (some ⟨E,0,none⟩) el c3) v' xs' vs'):=hd;clear hd hJ4 hs3 hs4 hown3 hgrow hat hlt3 hHeld;go_wp2;go_ret;rw[HY.o];exact xn HF.o
      ·go_simp
       refine hJ1.out _ _ HS2.o (fun _=>?_)
       try simp only[Act.put,List.setIfInBounds_toArray,List.set_cons_zero,List.set_cons_succ]
       refine wpAnyH_ready (rs:=[4]) (by kernel_rfl) (by simp) ?_;refine AllReadyH.cons rfl (fun J2 hJ2=>?_) AllReadyH.nil;clear hJ1;have cT2:=HD4.o
       go_simp
       refine hJ2.out _ _ HS2.o (fun _=>?_);clear hJ2 cT2
       try simp only[Act.put,List.setIfInBounds_toArray,List.set_cons_zero,List.set_cons_succ]
       refine wpAnyH_ready (rs:=[10]) (by kernel_rfl) (by simp) ?_;refine AllReadyH.cons rfl (fun J3 hJ3=>?_) AllReadyH.nil;refine step_append_lies _ (by rfl) _ _ _ (by rfl) w0.heap.size 109 i1 _ 2 24 underlying60 hi1 hy0 hy1 hyb (by rfl) (by decide) (.slice o5 wl c5) wl ys (by rfl) (hrow.drew.alloc _) ⟨K2,0,none⟩ 1 1 [.string TX,.int .i64 (pl:Nat)] (by rfl) (by rfl) (World.news_of_block dQ.o) hone (by omega) (by unfold maxLen;omega) (by omega) (by simp;omega) _ rfl ?_;intro g cap w3 hown3 hgrow hat hlt3;have hs3:=IR hgrow Wx.o HS2.o;have hc3:w3.cell? ⟨D,4,none⟩=some (.slice o5 wl c5):=nz d4 hgrow ql.o;have oM:w3.frozen? ⟨D,4,none⟩=false:=qV nU.o hgrow ql.o;have hs4:=fun v=>cellsS (k:=4) (v:=v) o6.o hs3
       refine hJ3.out _ _ hs3 (fun _=>?_)
       try simp only[Act.put,List.setIfInBounds_toArray,List.set_cons_zero,List.set_cons_succ]
       refine wpAnyH_take (i:=11) (v:=.pointer (some ⟨D,0,none⟩)) rfl (by kernel_rfl) (by kernel_rfl) (by kernel_rfl) (fun _ _ _ h=>h) (Or.inl ⟨by rfl,fun w hSw=>by(try dsimp only at hSw);obtain⟨s1,s2,s3⟩:=hSw;go_simp⟩) hs3 ?_
       try simp only[Act.put,List.setIfInBounds_toArray,List.set_cons_zero,List.set_cons_succ]
       refine wpAnyH_take (i:=12) (v:=.pointer (some ⟨D,4,none⟩)) rfl (by kernel_rfl) (by kernel_rfl) (by kernel_rfl) (fun _ _ _ h=>h) (Or.inl ⟨by rfl,fun w hSw=>by(try dsimp only at hSw);obtain⟨s1,s2,s3⟩:=hSw;go_simp⟩) hs3 ?_
       try simp only[Act.put,List.setIfInBounds_toArray,List.set_cons_zero,List.set_cons_succ]
       refine wpAnyH_ready (rs:=[13]) (by kernel_rfl) (by simp) ?_;refine AllReadyH.cons rfl (fun J4 hJ4=>?_) AllReadyH.nil;clear hJ3
       go_simp
       refine hJ4.out _ _ (hs4 _) (fun _=>?_);refine wpAnyH_done (by kernel_rfl) ?_ _;obtain⟨v',hd⟩:=Wj Ec.o FU.o (lH.o ▸ hown3) hgrow;have HF:Hd (Dm w0 T D Lb nv kv ns ⟨d.lk,d.fm,d.tb,d.es.set e ⟨(d.es[e]'aY.o.2).nm,(d.es[e]'aY.o.2).ve,(d.es[e]'aY.o.2).dg,(d.es[e]'aY.o.2).nd++[TX]⟩,d.wt++[(TX,pl)]⟩ (w3.setCell ⟨D,4,none⟩ (.slice (some ⟨g,0,none⟩) (wl+1) cap)) vt (.slice (some ⟨E,0,none⟩) el c3) v' xs' vs'):=hd;clear hd hJ4 hs3 hs4 hown3 hgrow hat hlt3 hHeld;go_wp2;go_ret;rw[HY.o];exact xn HF.o
  ·have g2':nameB TX=false:=by simpa using g2
   rw[if_neg g2]at htk;have CG:Hd (Calls prog 77 #[.agg #[.int .i64 kd,.string KY,.string TX,.int .i64 nu,.slice o m c,.int .i64 (pl:Nat)],.func (.func 58) #[] #[],.pointer (some ⟨nb,0,none⟩)] W2 fun e' w'=>e'=.returned (.int .i64 2)/\W2.grownBy w' none):=CT.o.mono fun e' w' h=>h.2.1 g1 g2'
   have HY:Hd (R=.error 2):=by
    show _=_;rw[<-HR0.o];unfold oD;rw[htk,if_neg (show ¬(2:Int)=0 by decide)]
   clear CT g1 g2 g2' HR0 htk;go_upto_region 3 with fail
   try rw[HW2.o.1]
   try rw[HW2.o.2]
   go_wp2_with (go_at_call 77;refine CG.o.mono ?_)
   first|rintro e' w2 rfl hg2|rintro e' w2 ⟨rfl,hg2⟩
   have HG2:Hd (w.grownBy w2 none):=ah lT.o (ah tJ.o hg2);clear hg2;go_wp2;go_ret;rw[HY.o];exact mG (by decide) HG2.o
 ·rw[if_pos g1]at htk;have CG:Hd (Calls prog 77 #[.agg #[.int .i64 kd,.string KY,.string TX,.int .i64 nu,.slice o m c,.int .i64 (pl:Nat)],.func (.func 58) #[] #[],.pointer (some ⟨nb,0,none⟩)] W2 fun e' w'=>e'=.returned (.int .i64 7)/\W2.grownBy w' none):=CT.o.mono fun e' w' h=>h.1 g1
  have HY:Hd (R=.error 7):=by
   show _=_;rw[<-HR0.o];unfold oD;rw[htk,if_neg (show ¬(7:Int)=0 by decide)]
  clear CT g1 HR0 htk;go_upto_region 3 with fail
  try rw[HW2.o.1]
  try rw[HW2.o.2]
  go_wp2_with (go_at_call 77;refine CG.o.mono ?_)
  first|rintro e' w2 rfl hg2|rintro e' w2 ⟨rfl,hg2⟩
  have HG2:Hd (w.grownBy w2 none):=ah lT.o (ah tJ.o hg2);clear hg2;go_wp2;go_ret;rw[HY.o];exact mG (by decide) HG2.o
end
open Go.RowKit
structure DrI(d:Dr):Prop where
 tl:d.tb.length=d.es.length
 t50:d.tb.length<=50
 ky:∀q e,d.lk q=some (.key e)->e<d.es.length
 va:∀q e,d.lk q=some (.val e)->e<d.es.length
 nd:∀e,(bn d.es e).nd.length<=20
theorem WA(es:List En)(e:Nat)(y:En)(i:Nat):bn (es.set e y) i=if i=e/\e<es.length then y else bn es i:=by
 unfold bn;rw[List.getElem?_set]
 by_cases h:e=i
 ·subst h
  by_cases h2:e<es.length
  ·rw[if_pos rfl,if_pos h2,if_pos ⟨rfl,h2⟩];rfl
  ·rw[if_pos rfl,if_neg h2,if_neg (fun h=>h2 h.2),List.getElem?_eq_none (by omega)]
 ·rw[if_neg h,if_neg (fun h2=>h h2.1.symm)]
theorem aeR(es:List En)(i:Nat):(bn (es++[en0]) i).nd.length=(bn es i).nd.length:=by
 unfold bn
 by_cases h:i<es.length
 ·rw[List.getElem?_append_left h]
 ·rw[List.getElem?_append_right (by omega),List.getElem?_eq_none (show es.length<=i by omega)]
  by_cases h2:i-es.length=0
  ·rw[h2];rfl
  ·rw[List.getElem?_eq_none (by simp;omega)]
theorem DrI.keepT{d:Dr}(h:DrI d)(ks:List Nat)(k:iT)(h1:∀e,k=.key e->e<d.es.length)(h2:∀e,k=.val e->e<d.es.length):DrI (keepD d ks k):=by
 refine⟨h.tl,h.t50,fun q e hq=>?_,fun q e hq=>?_,h.nd⟩
 ·unfold keepD at hq;simp only[]at hq;split at hq
  ·injection hq with hq;exact h1 e hq
  ·exact h.ky q e hq
 ·unfold keepD at hq;simp only[]at hq;split at hq
  ·injection hq with hq;exact h2 e hq
  ·exact h.va q e hq
theorem DrI.setT{d:Dr}(h:DrI d)(e:Nat)(y:En)(hy:y.nd=(bn d.es e).nd):DrI (setD d e y):=by
 refine⟨by show d.tb.length=(d.es.set e y).length;rw[List.length_set];exact h.tl,h.t50,fun q i hq=>?_,fun q i hq=>?_,fun i=>?_⟩
 ·show i<(d.es.set e y).length;rw[List.length_set];exact h.ky q i hq
 ·show i<(d.es.set e y).length;rw[List.length_set];exact h.va q i hq
 ·show(bn (d.es.set e y) i).nd.length<=20;rw[WA];split
  ·rw[hy];exact h.nd e
  ·exact h.nd i
theorem look_ok{d d':Dr}{q:Nat}{x:Tn}{k:iT}(h:DrI d)(h1:∀e,k=.key e->e<d.es.length)(h2:∀e,k=.val e->e<d.es.length)(hl:gJ d q x k=.ok d'):DrI d'/\d'.wt.length<=d.wt.length+1:=by
 match k,h1,h2,hl with
 | .root,h1,h2,hl =>
  unfold gJ at hl;simp only[]at hl;split at hl
  ·split at hl
   ·cases hl
   ·split at hl
    ·cases hl
    ·cases hl;exact⟨⟨h.tl,h.t50,h.ky,h.va,h.nd⟩,by simp⟩
  ·split at hl
   ·cases hl;exact⟨h.keepT _ _ (fun e he=>by cases he) (fun e he=>by cases he),by simp[keepD]⟩
   ·cases hl
 | .tabs,h1,h2,hl =>
  unfold gJ at hl;simp only[]at hl;split at hl
  ·cases hl
  ·rename_i h50
   cases hl
   have hb:DrI ⟨d.lk,d.fm,d.tb++[q],d.es++[en0],d.wt⟩:=by
    refine⟨by simp only[List.length_append,List.length_cons,List.length_nil];rw[h.tl],by simp only[List.length_append,List.length_cons,List.length_nil];have:=h.t50;omega,fun q e hq=>?_,fun q e hq=>?_,fun e=>?_⟩
    ·have:=h.ky q e hq;simp only[List.length_append,List.length_cons,List.length_nil];omega
    ·have:=h.va q e hq;simp only[List.length_append,List.length_cons,List.length_nil];omega
    ·rw[aeR];exact h.nd e
   exact⟨hb.keepT _ _ (fun e he=>by cases he;simp) (fun e he=>by cases he),by simp[keepD]⟩
 | .key e,h1,h2,hl =>
  have hl':lY d x e=.ok d':=hl;unfold lY oC at hl';split at hl'
  ·split at hl'
   ·split at hl'
    ·cases hl'
    ·cases hl';exact⟨h.setT _ _ rfl,by simp[setD]⟩
   ·cases hl'
  ·split at hl'
   ·split at hl'
    ·cases hl';exact⟨h.setT _ _ rfl,by simp[setD]⟩
    ·cases hl'
   ·split at hl'
    ·split at hl'
     ·cases hl';exact⟨h.setT _ _ rfl,by simp[setD]⟩
     ·cases hl'
    ·split at hl'
     ·cases hl';exact⟨h.keepT _ _ (fun e he=>by cases he) (fun e' he=>by cases he;exact h1 _ rfl),by simp[keepD]⟩
     ·cases hl'
 | .val e,h1,h2,hl =>
  have hl':oD d x e=.ok d':=hl;unfold oD at hl';split at hl'
  ·split at hl'
   ·cases hl'
   ·split at hl'
    ·cases hl'
    ·rename_i h20
     cases hl'
     refine⟨⟨by simp only[List.length_set];exact h.tl,h.t50,fun q i hq=>by simp only[List.length_set];exact h.ky q i hq,fun q i hq=>by simp only[List.length_set];exact h.va q i hq,fun i=>?_⟩,by simp⟩;simp only[];rw[WA];split
     ·have:=h.nd e;simp only[List.length_append,List.length_cons,List.length_nil];omega
     ·exact h.nd i
  ·cases hl'
theorem aeS(ks:List Nat):DrI (keepD jW ks .root) :=
 DrI.keepT ⟨rfl,by simp[jW],fun q e h=>by simp[jW]at h,fun q e h=>by simp[jW]at h,fun e=>by simp[bn,jW,en0]⟩ _ _ (fun e he=>by cases he) (fun e he=>by cases he)
theorem aeT{d d':Dr}{q:Nat}{x:Tn}{k:iT}(hl:gJ d q x k=.ok d'):∀p∈d'.tb,p∈d.tb\/p=q:=by
 match k,hl with
 | .root,hl =>
  unfold gJ at hl;simp only[]at hl
  repeat' split at hl
  all_goals first|(cases hl;done)|(cases hl;exact fun p hp=>Or.inl hp)
 | .tabs,hl =>
  unfold gJ at hl;simp only[]at hl;split at hl
  ·cases hl
  ·cases hl
   intro p hp;have hp':p∈d.tb++[q]:=hp;simpa using hp'
 | .key e,hl =>
  have hl':lY d x e=.ok d':=hl;unfold lY oC at hl'
  repeat' split at hl'
  all_goals first|(cases hl';done)|(cases hl';exact fun p hp=>Or.inl hp)
 | .val e,hl =>
  have hl':oD d x e=.ok d':=hl;unfold oD at hl'
  repeat' split at hl'
  all_goals first|(cases hl';done)|(cases hl';exact fun p hp=>Or.inl hp)
structure DrN(d:Dr):Prop where
 es:∀x∈d.es,x.nm.size<=30
 wt:∀y∈d.wt,y.1.size<=30
theorem WB{x:Tn}(h:takeD x nameB=0):(dn x).size<=30:=by
 unfold takeD at h;split at h
 ·cases h
 ·split at h
  ·rename_i hn;have:EM (dn x):=Classical.byContradiction fun hh=>by rw[rM hh]at hn;cases hn
   exact this.2.1
  ·cases h
theorem DrN.at{d:Dr}(h:DrN d)(e:Nat):(bn d.es e).nm.size<=30:=by
 unfold bn
 cases hx:d.es[e]? with
 | none=>show(en0).nm.size<=30;decide
 | some x=>exact h.es x (List.mem_of_getElem? hx)
theorem DrN.set{d:Dr}(h:DrN d)(e:Nat)(y:En)(hy:y.nm.size<=30):∀x∈d.es.set e y,x.nm.size<=30:=fun x hx=>by
 rcases List.mem_or_eq_of_mem_set hx with h1|h1
 ·exact h.es x h1
 ·rw[h1];exact hy
theorem aeU{d d':Dr}{q:Nat}{x:Tn}{k:iT}(h:DrN d)(hl:gJ d q x k=.ok d'):DrN d':=by
 match k,hl with
 | .root,hl =>
  unfold gJ at hl;simp only[]at hl
  repeat' split at hl
  all_goals first|(cases hl;done)|(cases hl;exact⟨h.es,h.wt⟩)
 | .tabs,hl =>
  unfold gJ at hl;simp only[]at hl;split at hl
  ·cases hl
  ·cases hl
   refine⟨fun y hy=>?_,h.wt⟩;have hy':y∈d.es++[en0]:=hy
   rcases List.mem_append.1 hy' with h1|h1
   ·exact h.es y h1
   ·rw[List.mem_singleton.1 h1];decide
 | .key e,hl =>
  have hl':lY d x e=.ok d':=hl;unfold lY oC at hl';split at hl'
  ·split at hl'
   ·rename_i ht;split at hl'
    ·cases hl'
    ·cases hl';exact⟨h.set e _ (WB ht),h.wt⟩
   ·cases hl'
  ·split at hl'
   ·split at hl'
    ·cases hl';exact⟨h.set e _ (h.at e),h.wt⟩
    ·cases hl'
   ·split at hl'
    ·split at hl'
     ·cases hl';exact⟨h.set e _ (h.at e),h.wt⟩
     ·cases hl'
    ·split at hl'
     ·cases hl';exact⟨h.es,h.wt⟩
     ·cases hl'
 | .val e,hl =>
  have hl':oD d x e=.ok d':=hl;unfold oD at hl';split at hl'
  ·rename_i ht;split at hl'
   ·cases hl'
   ·split at hl'
    ·cases hl'
    ·cases hl'
     refine⟨h.set e _ (h.at e),fun y hy=>?_⟩
     rcases List.mem_append.1 hy with h1|h1
     ·exact h.wt y h1
     ·rw[List.mem_singleton.1 h1];exact WB ht
  ·cases hl'
open Go.RowKit Go.Maps Go.WideMaps Go.Joins
theorem eg1:∀args w,(callFunc 24 args).run prog w=.ok (.enter 24 args) w:=enters_of func24 (by kernel_rfl) rfl
theorem eg2:∀args w,(callFunc 49 args).run prog w=.ok (.enter 49 args) w:=enters_of func49 (by kernel_rfl) rfl
theorem eg3:∀args w,(callFunc 75 args).run prog w=.ok (.enter 75 args) w:=enters_of func75 (by kernel_rfl) rfl
theorem eg4:∀args w,(callFunc 118 args).run prog w=.ok (.enter 118 args) w:=enters_of func118 (by kernel_rfl) rfl
theorem aeV(W:World):(binOp .eql 67 .nilFunc .nilFunc).run prog W=.ok (.bool true) W:=by kernel_rfl
theorem aeW(F:Nat)(cp:Array Value)(W:World):(binOp .eql 67 (.func (.func F) #[] cp) .nilFunc).run prog W=.ok (.bool false) W:=by kernel_rfl
theorem aeX{d:Dr}{q:Nat}{x:Tn}{k:iT}{z:Int}(h:gJ d q x k=.error z):¬z=0:=by
 have put:∀{is:ByteArray->Bool} {e:Nat} {y:En},oC d x is e y=.error z->¬z=0:=fun h=>by
  unfold oC at h;split at h
  ·cases h
  ·rename_i h2;cases h;exact h2
 unfold gJ at h;split at h
 ·split at h
  ·split at h
   ·cases h;decide
   ·split at h
    ·cases h;decide
    ·cases h
  ·split at h
   ·cases h
   ·cases h;decide
 ·split at h
  ·cases h;decide
  ·cases h
 ·unfold lY at h;split at h
  ·split at h
   ·split at h
    ·cases h;decide
    ·cases h
   ·rename_i h2;cases h;exact h2
  ·split at h
   ·exact put h
   ·split at h
    ·exact put h
    ·split at h
     ·cases h
     ·cases h;decide
 ·unfold oD at h;split at h
  ·split at h
   ·cases h;decide
   ·split at h
    ·cases h;decide
    ·cases h
  ·rename_i h2;cases h;exact h2
section
variable {w0:World} {T D Lb:Nat} {nv:Value} {kv:Nat->Value} {ns:List Tn} {d:Dr} {w w':World} {vt ve vw:Value} {xs:List Value} {vs:Nat->Value}
theorem aeY{N c:Nat}(h:Dm w0 T D Lb nv kv ns d w vt ve vw xs vs)(H:Nd w0 N c kv ns)(I:DrI d)(hwt:d.wt.length<=1000000)(i:Nat)(hi:i<ns.length)(k:iT)(hk:d.lk i=some k)(v:Value)(hv:LkV w D T v (some k)):∃F cp,v=.func (.func F) #[] cp/\(∀args w,(callFunc F args).run prog w=.ok (.enter F args) w)/\∀w',w.grownBy w' none->Calls prog F (#[.agg (dL ns[i] (kv i))]++cp) w' (qi w0 T D Lb nv kv ns (gJ d i ns[i] k) w'):=by
 have hel:d.es.length<=1000:=by have:=I.tl;have:=I.t50;omega
 match k,hk,hv with
 | .root,hk,⟨a,b,hv,ha,hb⟩=>exact⟨_,_,hv,eg1,fun w' hg=>aeh (h.grow hg) i ns[i] (kv i) (H.kid i hi) (H.rng i hi) (H.num i hi) a b ((bf hg).blk ha) ((bf hg).blk hb)⟩
 | .tabs,hk,⟨a,hv,ha⟩=>exact⟨_,_,hv,eg2,fun w' hg=>aeB (h.grow hg) i hi (H.kid i hi) (H.rng i hi) (H.num i hi) hel (by have:=I.t50;omega) a ((bf hg).blk ha)⟩
 | .key e,hk,⟨a,b,hv,ha,hb⟩=>exact⟨_,_,hv,eg3,fun w' hg=>aey (h.grow hg) i ns[i] (kv i) (H.kid i hi) (H.rng i hi) (H.num i hi) (H.tex i hi) e (I.ky i e hk) hel a b ((bf hg).blk ha) ((bf hg).blk hb)⟩
 | .val e,hk,⟨a,b,hv,ha,hb⟩=>exact⟨_,_,hv,eg4,fun w' hg=>aeP (h.grow hg) i ns[i] (kv i) (H.kid i hi) (H.tex i hi) e (I.va i e hk) hel (by have:=I.nd e;omega) hwt a b ((bf hg).blk ha) ((bf hg).blk hb)⟩
def IX(w0:World)(T D Lb:Nat)(nv:Value)(kv:Nat->Value)(ns:List Tn)(r:Rs Dr)(e:Ending)(w':World):Prop :=
 (∀d',r=.ok d'->e=.returned (.tuple #[.int .i64 0,.int .i64 0])/\(DrI d'/\DrN d'/\d'.wt.length<=1000000/\∀q∈d'.tb,q<ns.length)/\∃vt ve vw xs vs,Dm w0 T D Lb nv kv ns d' w' vt ve vw xs vs)/\(∀c,r=.error c->e=.returned (.tuple #[.int .i64 c.1,.int .i64 (c.2:Nat)])/\¬c.1=0/\w0.grownBy w' none)
theorem aeZ{w0:World}{T D Lb:Nat}{nv:Value}{kv:Nat->Value}{ns:List Tn}{d':Dr}{w':World}{vt ve vw:Value}{xs:List Value}{vs:Nat->Value}(hI:DrI d'/\DrN d'/\d'.wt.length<=1000000/\∀q∈d'.tb,q<ns.length)(h:Dm w0 T D Lb nv kv ns d' w' vt ve vw xs vs):IX w0 T D Lb nv kv ns (.ok d') (.returned (.tuple #[.int .i64 0,.int .i64 0])) w' :=
 ⟨fun d e=>(by cases e;exact⟨rfl,hI,_,_,_,_,_,h⟩),fun c e=>(by cases e)⟩
theorem ae0{w0:World}{T D Lb:Nat}{nv:Value}{kv:Nat->Value}{ns:List Tn}{z:Int}{p:Nat}{w':World}(hz:¬z=0)(h:w0.grownBy w' none):IX w0 T D Lb nv kv ns (.error (z,p)) (.returned (.tuple #[.int .i64 z,.int .i64 (p:Nat)])) w' :=
 ⟨fun d e=>(by cases e),fun c e=>(by cases e;exact⟨rfl,hz,h⟩)⟩
theorem check_any(N c:Nat)(h:Dm w0 T D Lb (.slice (some ⟨N,0,none⟩) ns.length c) kv ns d w vt ve vw xs vs)(H:Nd w0 N c kv ns)(I:DrI d)(M:DrN d)(hwt:d.wt.length=0)(htb:d.tb=[])(hc:ns.length<=c) :
  Calls prog 27 #[.pointer (some ⟨T,0,none⟩)] w (IX w0 T D Lb (.slice (some ⟨N,0,none⟩) ns.length c) kv ns (iU ns ns.length d)):=by
 obtain⟨n,hn⟩:=zN (ns.length);have HN:Hd (ns.length=n/\ns.length<=1000000):=⟨hn,H.len⟩;have HH:Hd (Nd w0 N c kv ns):=H;obtain⟨R,hR⟩:∃R:Rs Dr,iU ns ns.length d=R:=⟨_,rfl⟩;rw[hR];have HR:Hd (iU ns ns.length d=R):=hR;have HD:Hd (Dm w0 T D Lb (.slice (some ⟨N,0,none⟩) n c) kv ns d w vt ve vw xs vs):=by rw[<-hn];exact h
 have HI:Hd (DrI d/\DrN d/\d.wt.length=0/\d.tb=[]):=⟨I,M,hwt,htb⟩;obtain⟨t0,-,-,-,-,-,-,-⟩:=HD.o.cells;rw[hn]at hc ⊢;clear h H I M hwt htb hR hn;go_enter func27,ntmps27;go_wp2;go_loopw [12] (fun vi wr=>∃(i:Nat) (di:Dr) (vt ve vw:Value) (xs:List Value) (vs:Nat->Value),vi=.int .i64 (i:Nat)/\i<=n/\Dm w0 T D Lb (.slice (some ⟨N,0,none⟩) n c) kv ns di wr vt ve vw xs vs/\(DrI di/\DrN di/\di.wt.length<=i/\∀q∈di.tb,q<ns.length)/\iU ns (n-i) di=R) (fun vi _=>n-(intOf vi).toNat)
 case atStart =>
  refine⟨0,d,vt,ve,vw,xs,vs,rfl,by omega,HD.o,⟨HI.o.1,HI.o.2.1,by rw[HI.o.2.2.1];omega,by rw[HI.o.2.2.2];intro q hq;cases hq⟩,?_⟩;rw[<-HR.o,HN.o.1];rfl
 case round =>
  obtain⟨i,di,vt,ve,vw,xs,vs,rfl,hi,hd,hI,hch⟩:=hrel;have uS:Hd (Dm w0 T D Lb (.slice (some ⟨N,0,none⟩) n c) kv ns di wr vt ve vw xs vs):=hd;have jv:Hd (DrI di/\DrN di/\di.wt.length<=i/\∀q∈di.tb,q<ns.length):=hI;have O5:Hd (iU ns (n-i) di=R):=hch;clear HD HI HR t0 hd hI hch;have hn6:n<=1000000:=by have:=HN.o;omega
  by_cases hlt:i<n
  ·have hin:i<ns.length:=by rw[HN.o.1];exact hlt
   obtain⟨c0,c1,c2,c3,c4,c5⟩:=HH.o.cel i hin;obtain⟨o4,m4,hk4,-⟩:=HH.o.kid i hin;obtain⟨v,hlc,hlv,-⟩:=uS.o.lcell hin;obtain⟨x,hx⟩:=zN (ns[i]);have HX:Hd (ns[i]=x/\i<ns.length):=⟨hx,hin⟩;rw[hx]at c0 c1 c2 c3 c5 hk4;rw[hk4]at c4;have mO:Hd (kv i=.slice o4 x.ks.length m4):=hk4;have hG:=uS.o.gb;have e0:=hG.cell c0 (by simp);have e1:=hG.cell c1 (by simp);have e2:=hG.cell c2 (by simp);have e3:=hG.cell c3 (by simp);have e4:=hG.cell c4 (by simp);have e5:=hG.cell c5 (by simp);obtain⟨-,t1,-,-,-,-,-,-⟩:=uS.o.cells;rw[HN.o.1]at t1;have hstp:iU ns (ns.length-i) di=match stepD ns i di with | .error e=>.error e | .ok d'=>iU ns (ns.length-(i+1)) d':=Qs di hin
   have oh:iU ns (ns.length-i) di=R:=by rw[HN.o.1];exact O5.o
   clear c0 c1 c2 c3 c4 c5 hk4 hG hx
   cases hkk:di.lk i with
   | none =>
    rw[hkk]at hlv;have hv:v=.nilFunc:=hlv;subst hv;have iE:Hd (iU ns (n-(i+1)) di=R):=by
     show _=_;rw[<-oh,hstp];unfold stepD;rw[List.getElem?_eq_getElem hin];simp only[];rw[hkk,HN.o.1]
    obtain⟨W,hW⟩:=zN (wr.alloc (.cells (dL x (.slice o4 x.ks.length m4)) 64));have iD:Hd (wr.grownBy W none):=hW ▸ dw (ax wr none) _;unfold dL at hW;have t1W:=iD.o.cell t1 (by simp);have ae1:=iD.o.cell hlc (by simp);clear hlv hstp oh hkk;have EW:=aeV;go_wp2;exact⟨⟨i+1,di,vt,ve,vw,xs,vs,by go_num,by omega,uS.o.grow iD.o,⟨jv.o.1,jv.o.2.1,by have:=jv.o.2.2.1;omega,jv.o.2.2.2⟩,iE.o⟩,by simp[intOf];omega⟩
   | some k =>
    rw[hkk]at hlv;obtain⟨F,cp,hv,eF,CF⟩:=aeY uS.o HH.o jv.o.1 (by have:=jv.o.2.2.1;have:=HN.o;omega) i hin k hkk v hlv;subst hv;have lU:Hd (∀w',wr.grownBy w' none->Calls prog F (#[.agg (dL ns[i] (kv i))]++cp) w' (qi w0 T D Lb (.slice (some ⟨N,0,none⟩) n c) kv ns (gJ di i ns[i] k) w')):=CF;obtain⟨r,hr⟩:=zN (gJ di i ns[i] k);rw[hr,HX.o.1,mO.o]at lU;rw[hstp]at oh;unfold stepD at oh;rw[List.getElem?_eq_getElem hin]at oh;simp only[]at oh;rw[hkk]at oh;simp only[]at oh;rw[hr,HX.o.1]at oh;unfold dL at lU;obtain⟨kd,ky,tx,nu,ks,pl⟩:=x;simp only[]at e0 e1 e2 e3 e4 e5 lU oh;obtain⟨bx,hbx⟩:=zN (wr.heap.size);obtain⟨W,hW⟩:=zN (wr.alloc (.cells #[.int .i64 kd,.string ⟨ky.toArray⟩,.string ⟨tx.toArray⟩,.int .i64 nu,.slice o4 ks.length m4,.int .i64 (pl:Nat)] 64));have iD:Hd (wr.grownBy W none):=hW ▸ dw (ax wr none) _
    have hB:W.heap[bx]?=some (.cells #[.int .i64 kd,.string ⟨ky.toArray⟩,.string ⟨tx.toArray⟩,.int .i64 nu,.slice o4 ks.length m4,.int .i64 (pl:Nat)] 64 (0,0)):=by rw[<-hW,<-hbx];exact heap_alloc_new _ _
    have t1W:=iD.o.cell t1 (by simp);have ae1:=iD.o.cell hlc (by simp);have EW:=aeW F cp;have iO:Hd (wr.grownBy W.drew none):=aj iD.o 1;have b0:W.cell? ⟨bx,0,none⟩=some (.int .i64 kd):=by rw[af hB];rfl
    have b1:W.cell? ⟨bx,1,none⟩=some (.string ⟨ky.toArray⟩):=by rw[af hB];rfl
    have b2:W.cell? ⟨bx,2,none⟩=some (.string ⟨tx.toArray⟩):=by rw[af hB];rfl
    have b3:W.cell? ⟨bx,3,none⟩=some (.int .i64 nu):=by rw[af hB];rfl
    have b4:W.cell? ⟨bx,4,none⟩=some (.slice o4 ks.length m4):=by rw[af hB];rfl
    have b5:W.cell? ⟨bx,5,none⟩=some (.int .i64 (pl:Nat)):=by rw[af hB];rfl
    have HEF:Hd (∀args w,(callFunc F args).run prog w=.ok (.enter F args) w):=eF;have sD:Hd (W.drew.cell? ⟨bx,5,none⟩=some (.int .i64 (pl:Nat))):=(aj (ax W none) 1).cell b5 (by simp)
    cases r with
    | error z =>
     have HY:Hd (R=.error (z,pl)):=oh.symm;have hz:(z != 0)=true:=by simpa using aeX hr
     have CG:Hd (Calls prog F (#[.agg #[.int .i64 kd,.string ⟨ky.toArray⟩,.string ⟨tx.toArray⟩,.int .i64 nu,.slice o4 ks.length m4,.int .i64 (pl:Nat)]]++cp) W.drew fun e' w'=>e'=.returned (.int .i64 z)/\Hd (¬z=0/\w0.grownBy w' none)/\w'.cell? ⟨bx,5,none⟩=some (.int .i64 (pl:Nat))):=(lU.o _ iO.o).mono fun e' w' hh=>by
      obtain⟨a1,a2,a3⟩:=hh.2 z rfl;exact⟨a1,⟨a2,ah uS.o.gb (ah iO.o a3)⟩,a3.cell sD.o (by simp)⟩
     clear hlv hstp oh hkk CF hr hB lU sD jv O5;go_wp2;go_region_with (first|(refine CG.o.mono ?_;rintro e' w7 ⟨rfl,hq7,hc7⟩));go_wp2
     all_goals (
      go_quiet (fail);go_wp2;refine bodyPost_ret (results_tmp2 (t:=2) (u:=3) rfl _ _ _) rfl ?_;rw[HY.o];exact ae0 hq7.o.1 (aj hq7.o.2 nq))
    | ok d' =>
     have iE:Hd (iU ns (n-(i+1)) d'=R):=by show _=_;rw[<-HN.o.1];exact oh
     have DW:Hd (DrI d'/\DrN d'/\d'.wt.length<=i+1/\∀q∈d'.tb,q<ns.length):=by
      have h1:=look_ok jv.o.1 (fun e' he=>jv.o.1.ky i e' (by rw[hkk,he])) (fun e' he=>jv.o.1.va i e' (by rw[hkk,he])) hr;refine⟨h1.1,aeU jv.o.2.1 hr,by have:=jv.o.2.2.1;omega,fun q hq=>?_⟩
      rcases aeT hr q hq with h2|h2
      ·exact jv.o.2.2.2 q h2
      ·rw[h2];exact hin
     have CG:Hd (Calls prog F (#[.agg #[.int .i64 kd,.string ⟨ky.toArray⟩,.string ⟨tx.toArray⟩,.int .i64 nu,.slice o4 ks.length m4,.int .i64 (pl:Nat)]]++cp) W.drew fun e' w'=>e'=.returned (.int .i64 0)/\Hd (∃vt ve vw xs vs,Dm w0 T D Lb (.slice (some ⟨N,0,none⟩) n c) kv ns d' w' vt ve vw xs vs)):=(lU.o _ iO.o).mono fun e' w' hh=>hh.1 d' rfl
     clear hlv hstp oh hkk CF hr hB lU sD;go_wp2;go_region_with (first|(refine CG.o.mono ?_;rintro e' w7 ⟨rfl,hq7⟩));go_wp2
     all_goals obtain⟨vt7,ve7,vw7,xs7,vs7,hD7⟩:=hq7.o
     all_goals exact⟨⟨i+1,d',vt7,ve7,vw7,xs7,vs7,by go_num,by omega,hD7,DW.o,iE.o⟩,by simp[intOf];omega⟩
  ·have him:i=n:=by omega
   have HF:Hd (R=.ok di):=by
    show _=_;rw[<-O5.o,him,Nat.sub_self];rfl
   go_wp2;refine bodyPost_ret (results_tmp2 (t:=2) (u:=3) rfl _ _ _) rfl ?_;rw[HF.o];exact aeZ ⟨jv.o.1,jv.o.2.1,by have:=jv.o.2.2.1;have:=HN.o;omega,jv.o.2.2.2⟩ uS.o
end
end Go.Proofs.YtnnbgjaphfhibaaGreatDoor
