import Derived.Test.YtnnbgjaphfhibaaGreatDoorM25
import Derived.Test.YtnnbgjaphfhibaaGreatDoorM26
import Derived.Test.YtnnbgjaphfhibaaGreatDoorM13
set_option linter.unusedVariables false
set_option linter.unusedSimpArgs false
set_option maxRecDepth 100000
set_option maxHeartbeats 6400000
open Go.Proofs.Tryz
namespace Go.Proofs.YtnnbgjaphfhibaaGreatDoor
open Go.RowKit Go.Maps Go.WideMaps Go.Joins
section
variable {w0:World} {T D Lb:Nat} {nv:Value} {kv:Nat->Value} {ns:List Tn} {d:Dr} {w w':World} {vt ve vw:Value} {xs:List Value} {vs:Nat->Value}
theorem Dm.txt{E n c:Nat}(h:Dm w0 T D Lb nv kv ns d w vt (.slice (some ⟨E,0,none⟩) n c) vw xs vs){i:Nat}(hi:i<d.es.length)(o:Nat)(ho:o<3)(s:ByteArray)(y:En)(h0:y.nm=if o=0 then s else d.es[i].nm)(h1:y.ve=if o=1 then s else d.es[i].ve)(h2:y.dg=if o=2 then s else d.es[i].dg)(h3:y.nd=d.es[i].nd):Dm w0 T D Lb nv kv ns (setD d i y) (w.setCell ⟨E,i*4+o,none⟩ (.string s)) vt (.slice (some ⟨E,0,none⟩) n c) vw (xs.set (i*4+o) (.string s)) vs:=by
 obtain⟨OC,cur,hE⟩:=bz h.ent.row rfl;have k:∀t,¬t=33->Kt t w (w.setCell ⟨E,i*4+o,none⟩ (.string s)):=fun t ht=>iP _ hE ht
 exact⟨mP h.gb (iM w E _ _) OC,(k _ (by decide)).blk h.tre,(k _ (by decide)).blk h.dra,h.lok.keep (k _ (by decide)) ⟨k _ (by decide),k _ (by decide),k _ (by decide)⟩,(k _ (by decide)).row h.tab,h.ent.txt hi o ho s y h0 h1 h2 h3,(k _ (by decide)).row h.wan,h.bD,h.bL⟩
theorem qj{es:List En}{e:Nat}(he:e<es.length):bn es e=es[e]:=by
 unfold bn;rw[List.getElem?_eq_getElem he];rfl
theorem Dm.entry(h:Dm w0 T D Lb nv kv ns d w vt ve vw xs vs){e:Nat}(he:e<d.es.length):∃E c,ve=.slice (some ⟨E,0,none⟩) d.es.length c/\d.es.length<=c/\(∃cur,w.heap[E]?=some (.cells cur 33 (0,0))/\cur[e*4]?=some (.string d.es[e].nm)/\cur[e*4+1]?=some (.string d.es[e].ve)/\cur[e*4+2]?=some (.string d.es[e].dg)/\cur[e*4+3]?=some (vs e)):=by
 obtain⟨E,c,e1,-,⟨cur,hc⟩,c0,c1,c2,c3,hle⟩:=h.ent.at he;refine⟨E,c,e1,hle,cur,hc,?_,?_,?_,?_⟩
 ·rw[af hc]at c0;exact c0
 ·rw[af hc]at c1;exact c1
 ·rw[af hc]at c2;exact c2
 ·rw[af hc]at c3;exact c3
theorem V9:∀args w,(callFunc 58 args).run prog w=.ok (.enter 58 args) w:=enters_of func58 (by kernel_rfl) rfl
theorem egV:∀args w,(callFunc 59 args).run prog w=.ok (.enter 59 args) w:=enters_of func59 (by kernel_rfl) rfl
theorem egD:∀args w,(callFunc 60 args).run prog w=.ok (.enter 60 args) w:=enters_of func60 (by kernel_rfl) rfl
theorem aex(h:Dm w0 T D Lb nv kv ns d w vt ve vw xs vs)(x:Tn)(o:Option Addr)(m c e E n c3:Nat)(he:e<d.es.length)(uV:ve=.slice (some ⟨E,0,none⟩) n c3)(hel:d.es.length<=1000)(htx:x.tx.length<2 ^ 60) :
  Calls prog 76 #[.pointer (some ⟨D,0,none⟩),.agg (dL x (.slice o m c)),.pointer (some ⟨E,e*4,none⟩)] w (qi w0 T D Lb nv kv ns (if takeD x nameB=0 then if aZ d.es (dn x)=true then .error 5 else .ok (setD d e ⟨dn x,(bn d.es e).ve,(bn d.es e).dg,(bn d.es e).nd⟩) else .error (takeD x nameB)) w):=by
 subst uV;obtain⟨kd,ky,tx,nu,ks,pl⟩:=x;obtain⟨KY,iC⟩:∃t:ByteArray,⟨ky.toArray⟩=t:=⟨_,rfl⟩;obtain⟨TX,eu⟩:∃t:ByteArray,⟨tx.toArray⟩=t:=⟨_,rfl⟩;obtain⟨bx,hbx⟩:=zN (w.heap.size);obtain⟨W,hW⟩:=zN ((w.alloc (.cells #[.int .i64 kd,.string KY,.string TX,.int .i64 nu,.slice o m c,.int .i64 (pl:Nat)] 64)).alloc (.cells #[.string ⟨#[]⟩] 9));have HG:Hd (w.grownBy W none):=hW ▸ dw (dw (ax w none) _) _;have HD0:Hd (Dm w0 T D Lb nv kv ns d w vt (.slice (some ⟨E,0,none⟩) n c3) vw xs vs):=h;have hB:W.heap[bx]?=some (.cells #[.int .i64 kd,.string KY,.string TX,.int .i64 nu,.slice o m c,.int .i64 (pl:Nat)] 64 (0,0)):=by rw[<-hW,<-hbx,Lib.alloc_old _ _ _ (by simp)];exact heap_alloc_new _ _
 have hN:W.heap[bx+1]?=some (.cells #[.string ⟨#[]⟩] 9 (0,0)):=by
  rw[<-hW,<-hbx];have:=heap_alloc_new (w.alloc (.cells #[.int .i64 kd,.string KY,.string TX,.int .i64 nu,.slice o m c,.int .i64 (pl:Nat)] 64)) (.cells #[.string ⟨#[]⟩] 9)
  rwa [World.size_alloc]at this
 have b0:W.cell? ⟨bx,0,none⟩=some (.int .i64 kd):=by rw[af hB];rfl
 have b1:W.cell? ⟨bx,1,none⟩=some (.string KY):=by rw[af hB];rfl
 have b2:W.cell? ⟨bx,2,none⟩=some (.string TX):=by rw[af hB];rfl
 have b3:W.cell? ⟨bx,3,none⟩=some (.int .i64 nu):=by rw[af hB];rfl
 have b4:W.cell? ⟨bx,4,none⟩=some (.slice o m c):=by rw[af hB];rfl
 have b5:W.cell? ⟨bx,5,none⟩=some (.int .i64 (pl:Nat)):=by rw[af hB];rfl
 have hsz:(⟨tx.toArray⟩:ByteArray).size<2 ^ 62:=by
  show tx.toArray.size<2 ^ 62;rw[List.size_toArray];have:tx.length<2 ^ 60:=htx;omega
 have CT:Hd (Calls prog 77 #[.agg #[.int .i64 kd,.string KY,.string TX,.int .i64 nu,.slice o m c,.int .i64 (pl:Nat)],.func (.func 58) #[] #[],.pointer (some ⟨bx+1,0,none⟩)] W (Om ⟨kd,ky,tx,nu,ks,pl⟩ (nameB TX) ⟨bx+1,0,none⟩ W)):=by
  have:=Oo ⟨kd,ky,tx,nu,ks,pl⟩ o m c 58 (bx+1) 0 (nameB ⟨tx.toArray⟩) W V9 (fun w'=>(name_any _ w' hsz).mono fun e w'' h=>⟨h.1,h.2 ▸ ax _ none⟩) #[.string ⟨#[]⟩] 9 hN _ rfl;unfold dL at this;simp only[]at this;rw[iC,eu]at this;exact this
 have HT:Hd ((⟨tx.toArray⟩:ByteArray)=TX):=eu;have HW:Hd ((w.alloc (.cells #[.int .i64 kd,.string KY,.string TX,.int .i64 nu,.slice o m c,.int .i64 (pl:Nat)] 64)).alloc (.cells #[.string ⟨#[]⟩] 9)=W/\w.heap.size=bx):=⟨hW,hbx⟩;have HN:Hd (W.heap[bx+1]?=some (.cells #[.string ⟨#[]⟩] 9 (0,0))):=hN;have htk:takeD ⟨kd,ky,tx,nu,ks,pl⟩ nameB=if ¬kd=3 then 7 else if nameB TX=true then 0 else 2:=by
  unfold takeD dn;simp only[];rw[eu]
 have htb:dn ⟨kd,ky,tx,nu,ks,pl⟩=TX:=eu;unfold dL;simp only[];rw[iC,eu,htk,htb];clear htk htb hsz htx;clear hW hbx hB hN iC eu h
 by_cases g1:kd=3
 ·rw[if_neg (show ¬¬kd=3 by simpa using g1)]
  by_cases g2:nameB TX=true
  ·rw[if_pos g2,if_pos rfl];have CG:Hd (Calls prog 77 #[.agg #[.int .i64 kd,.string KY,.string TX,.int .i64 nu,.slice o m c,.int .i64 (pl:Nat)],.func (.func 58) #[] #[],.pointer (some ⟨bx+1,0,none⟩)] W fun e w'=>e=.returned (.int .i64 0)/\w'.heap[bx+1]?=some (.cells #[.string TX] 9 (0,0))/\w.grownBy w' none):=CT.o.mono fun e w' h=>by
    obtain⟨h1,w1,h2,h3⟩:=h.2.2 g1 g2;refine⟨h1,?_,?_⟩
    ·rw[h3,HT.o];exact block_setCell (i:=0) ((bf h2).blk HN.o) _
    ·rw[h3];exact mP (ah HG.o h2) (iM w1 _ 0 _) (by rw[HW.o.2];omega)
   clear CT g1 g2;obtain⟨q,hq⟩:=zN (aZ d.es TX);have HQ:Hd (aZ d.es TX=q):=hq;rw[hq];obtain⟨R,hR⟩:∃R:Except Int Dr,(if q=true then .error 5 else .ok (setD d e ⟨TX,(bn d.es e).ve,(bn d.es e).dg,(bn d.es e).nd⟩))=R:=⟨_,rfl⟩;rw[hR];have HR:Hd ((if q=true then .error 5 else .ok (setD d e ⟨TX,(bn d.es e).ve,(bn d.es e).dg,(bn d.es e).nd⟩))=R):=hR;clear hq hR;go_enter func76,ntmps76;go_upto_region 2 with fail
   try rw[HW.o.1]
   try rw[HW.o.2]
   go_wp2_with (go_at_call 77;refine CG.o.mono ?_)
   first|rintro e2 w2 rfl hn2 hg2|rintro e2 w2 ⟨rfl,hn2,hg2⟩
   have HD2:Hd (Dm w0 T D Lb nv kv ns d w2 vt (.slice (some ⟨E,0,none⟩) n c3) vw xs vs):=HD0.o.grow hg2;have c0:w2.cell? ⟨bx+1,0,none⟩=some (.string TX):=by rw[af hn2];rfl
   obtain⟨-,-,-,-,-,d3,-,-⟩:=HD2.o.cells;have hnn:n=d.es.length:=by
    obtain⟨E',c',e1,-⟩:=HD2.o.entry he
    cases e1;rfl
   have CC:Hd (Calls prog 116 #[.slice (some ⟨E,0,none⟩) n c3,.func (.func 117) #[] #[.pointer (some ⟨bx+1,0,none⟩)]] w2 fun e w'=>e=.returned (.bool q)/\w2.grownBy w' none):=by
    have:=aew (some ⟨E,0,none⟩) n c3 (bx+1) TX d.es w2 hnn HD2.o.ent.ens (by omega) c0;rw[HQ.o]at this;exact this
   have rY:Hd (w2.heap[bx+1]?=some (.cells #[.string TX] 9 (0,0))):=hn2;have iD:Hd (w.grownBy w2 none):=hg2;clear hn2 hg2 HD0 CG HN HG hnn;go_wp2_with (go_at_call 116;refine CC.o.mono ?_)
   first|rintro e3 w3 rfl hg3|rintro e3 w3 ⟨rfl,hg3⟩
   have HD3:Hd (Dm w0 T D Lb nv kv ns d w3 vt (.slice (some ⟨E,0,none⟩) n c3) vw xs vs):=HD2.o.grow hg3;have c03:w3.cell? ⟨bx+1,0,none⟩=some (.string TX):=hg3.cell c0 (by simp);replace iD:Hd (w.grownBy w3 none):=ah iD.o hg3;clear hg3
   cases q with
   | true =>
    go_wp2;go_ret;rw[show R=.error 5 from HR.o.symm];exact mG (by decide) iD.o
   | false =>
    obtain⟨E',c',e1,-,cur,xu,q0,-,-,-⟩:=HD3.o.entry he
    cases e1
    have cE:w3.cell? ⟨E,e*4,none⟩=some (.string d.es[e].nm):=by rw[af xu];exact q0
    have fE:w3.frozen? ⟨E,e*4,none⟩=false:=Lib.frozen_of_heap xu _;have HF:Hd (Dm w0 T D Lb nv kv ns (setD d e ⟨TX,(bn d.es e).ve,(bn d.es e).dg,(bn d.es e).nd⟩) (w3.setCell ⟨E,e*4,none⟩ (.string TX)) vt (.slice (some ⟨E,0,none⟩) d.es.length c3) vw (xs.set (e*4+0) (.string TX)) vs):=by
     rw[qj he];exact HD3.o.txt he 0 (by decide) TX _ rfl rfl rfl rfl
    clear xu q0 HD2 HD3 rY;go_wp2;go_ret;rw[show R=.ok (setD d e ⟨TX,(bn d.es e).ve,(bn d.es e).dg,(bn d.es e).nd⟩) from HR.o.symm];exact xn HF.o
  ·have g2':nameB TX=false:=by simpa using g2
   rw[if_neg g2,if_neg (show ¬(2:Int)=0 by decide)];have CG:Hd (Calls prog 77 #[.agg #[.int .i64 kd,.string KY,.string TX,.int .i64 nu,.slice o m c,.int .i64 (pl:Nat)],.func (.func 58) #[] #[],.pointer (some ⟨bx+1,0,none⟩)] W fun e w'=>e=.returned (.int .i64 2)/\W.grownBy w' none):=CT.o.mono fun e w' h=>h.2.1 g1 g2'
   clear CT g1 g2 g2';go_enter func76,ntmps76;go_upto_region 2 with fail
   try rw[HW.o.1]
   try rw[HW.o.2]
   go_wp2_with (go_at_call 77;refine CG.o.mono ?_)
   first|rintro e2 w2 rfl hg2|rintro e2 w2 ⟨rfl,hg2⟩
   have HG2:Hd (w.grownBy w2 none):=ah HG.o hg2;clear hg2;go_wp2;go_ret;exact mG (by decide) HG2.o
 ·rw[if_pos g1,if_neg (show ¬(7:Int)=0 by decide)];have CG:Hd (Calls prog 77 #[.agg #[.int .i64 kd,.string KY,.string TX,.int .i64 nu,.slice o m c,.int .i64 (pl:Nat)],.func (.func 58) #[] #[],.pointer (some ⟨bx+1,0,none⟩)] W fun e w'=>e=.returned (.int .i64 7)/\W.grownBy w' none):=CT.o.mono fun e w' h=>h.1 g1
  clear CT g1;go_enter func76,ntmps76;go_upto_region 2 with fail
  try rw[HW.o.1]
  try rw[HW.o.2]
  go_wp2_with (go_at_call 77;refine CG.o.mono ?_)
  first|rintro e2 w2 rfl hg2|rintro e2 w2 ⟨rfl,hg2⟩
  have HG2:Hd (w.grownBy w2 none):=ah HG.o hg2;clear hg2;go_wp2;go_ret;exact mG (by decide) HG2.o
end
open Go.RowKit Go.Maps Go.WideMaps Go.Joins
theorem cellsA{w w':World}{a b D bx:Nat}{va vb vc v0 v1 v2 v3 v4 v5:Value}(hg:w.grownBy w' none)(h:w.cell? ⟨a,0,none⟩=some va/\w.cell? ⟨b,0,none⟩=some vb/\w.cell? ⟨D,0,none⟩=some vc/\w.cell? ⟨bx,0,none⟩=some v0/\w.cell? ⟨bx,1,none⟩=some v1/\w.cell? ⟨bx,2,none⟩=some v2/\w.cell? ⟨bx,3,none⟩=some v3/\w.cell? ⟨bx,4,none⟩=some v4/\w.cell? ⟨bx,5,none⟩=some v5):w'.cell? ⟨a,0,none⟩=some va/\w'.cell? ⟨b,0,none⟩=some vb/\w'.cell? ⟨D,0,none⟩=some vc/\w'.cell? ⟨bx,0,none⟩=some v0/\w'.cell? ⟨bx,1,none⟩=some v1/\w'.cell? ⟨bx,2,none⟩=some v2/\w'.cell? ⟨bx,3,none⟩=some v3/\w'.cell? ⟨bx,4,none⟩=some v4/\w'.cell? ⟨bx,5,none⟩=some v5 :=
 ⟨hg.cell h.1 (by simp),hg.cell h.2.1 (by simp),hg.cell h.2.2.1 (by simp),hg.cell h.2.2.2.1 (by simp),hg.cell h.2.2.2.2.1 (by simp),hg.cell h.2.2.2.2.2.1 (by simp),hg.cell h.2.2.2.2.2.2.1 (by simp),hg.cell h.2.2.2.2.2.2.2.1 (by simp),hg.cell h.2.2.2.2.2.2.2.2 (by simp)⟩
def Ae:Except Int Dr->Int
 | .ok _=>0
 | .error c=>c
def yJ(w0:World)(T D Lb:Nat)(nv:Value)(kv:Nat->Value)(ns:List Tn)(r:Except Int Dr)(w w':World):Prop :=
 (∀d',r=.ok d'->∃vt ve vw xs vs,Dm w0 T D Lb nv kv ns d' w' vt ve vw xs vs)/\(∀c,r=.error c->¬c=0/\w.grownBy w' none)
theorem OD{w0:World}{T D Lb:Nat}{nv:Value}{kv:Nat->Value}{ns:List Tn}{r:Except Int Dr}{w w':World}{z:Int}(hz:Ae r=z)(h:yJ w0 T D Lb nv kv ns r w w'):qi w0 T D Lb nv kv ns r w (.returned (.int .i64 z)) w':=by
 subst hz;exact⟨fun d' e=>⟨by rw[e];rfl,h.1 d' e⟩,fun c e=>⟨by rw[e];rfl,h.2 c e⟩⟩
theorem OE{w0:World}{T D Lb:Nat}{nv:Value}{kv:Nat->Value}{ns:List Tn}{r:Except Int Dr}{w w':World}{e:Ending}(h:qi w0 T D Lb nv kv ns r w e w'):e=.returned (.int .i64 (Ae r))/\yJ w0 T D Lb nv kv ns r w w':=by
 match r,h with
 | .ok d',h=>exact⟨(h.1 d' rfl).1,fun d'' e=>(h.1 d'' e).2,fun c e=>(by cases e)⟩
 | .error c,h=>exact⟨(h.2 c rfl).1,fun d'' e=>(by cases e),fun c' e=>(h.2 c' e).2⟩
theorem OG{w0:World}{T D Lb:Nat}{nv:Value}{kv:Nat->Value}{ns:List Tn}{r:Except Int Dr}{w w1 w':World}(hg:w.grownBy w1 none)(h:yJ w0 T D Lb nv kv ns r w1 w'):yJ w0 T D Lb nv kv ns r w w' :=
 ⟨h.1,fun c e=>⟨(h.2 c e).1,ah hg (h.2 c e).2⟩⟩
section
variable {w0:World} {T D Lb:Nat} {nv:Value} {kv:Nat->Value} {ns:List Tn} {d:Dr} {w w':World} {vt ve vw:Value} {xs:List Value} {vs:Nat->Value}
theorem We{E n c3:Nat}(h:Dm w0 T D Lb nv kv ns d w vt (.slice (some ⟨E,0,none⟩) n c3) vw xs vs)(x:Tn)(o:Option Addr)(m c e F k:Nat)(he:e<d.es.length)(hk:k=1\/k=2)(is:ByteArray->Bool)(eF:∀args w,(callFunc F args).run prog w=.ok (.enter F args) w)(CF:∀w',Calls prog F #[.string ⟨x.tx.toArray⟩] w' fun e w''=>e=.returned (.bool (is (dn x)))/\w'.grownBy w'' none)(y:En)(h0:y.nm=d.es[e].nm)(h1:y.ve=if k=1 then dn x else d.es[e].ve)(h2:y.dg=if k=2 then dn x else d.es[e].dg)(h3:y.nd=d.es[e].nd) :
  Calls prog 77 #[.agg (dL x (.slice o m c)),.func (.func F) #[] #[],.pointer (some ⟨E,e*4+k,none⟩)] w fun e' w'=>qi w0 T D Lb nv kv ns (oC d x is e y) w e' w'/\∀t,¬t=33->Kt t w w':=by
 obtain⟨E',c',e1,-,cur,xu,q0,q1,q2,q3⟩:=h.entry he
 cases e1
 have hck:∃v0,cur[e*4+k]?=some v0:=by
  rcases hk with rfl|rfl
  ·exact⟨_,q1⟩
  ·exact⟨_,q2⟩
 obtain⟨v0,hv0⟩:=hck;refine(Oo x o m c F E (e*4+k) (is (dn x)) w eF CF cur 33 xu v0 hv0).mono fun e' w' hT=>?_
 unfold oC takeD
 by_cases g1:x.kd=3
 ·by_cases g2:is (dn x)=true
  ·obtain⟨a1,w1,a2,a3⟩:=hT.2.2 g1 g2;rw[if_neg (show ¬¬x.kd=3 by simpa using g1),if_pos g2,if_pos rfl,a1,a3];have hd:=h.grow a2;refine⟨xn (hd.txt he k (by omega) (dn x) y ?_ h1 h2 h3),fun t ht=>(bf a2).two (iP _ ((bf a2).blk xu) ht)⟩;rw[h0,if_neg (by omega)]
  ·have g2':is (dn x)=false:=by simpa using g2
   obtain⟨a1,a2⟩:=hT.2.1 g1 g2';rw[if_neg (show ¬¬x.kd=3 by simpa using g1),if_neg g2,if_neg (by decide),a1];exact⟨mG (by decide) a2,fun t _=>bf a2⟩
 ·obtain⟨a1,a2⟩:=hT.1 g1;rw[if_pos g1,if_neg (by decide),a1];exact⟨mG (by decide) a2,fun t _=>bf a2⟩
theorem aey(h:Dm w0 T D Lb nv kv ns d w vt ve vw xs vs)(q:Nat)(x:Tn)(k:Value)(hk:NuS w0 k x.ks)(hr:∀q∈x.ks,q<ns.length)(hl:x.ks.length<=1000000)(htx:x.tx.length<2 ^ 60)(e:Nat)(he:e<d.es.length)(hel:d.es.length<=1000)(a b:Nat)(ha:w.heap[a]?=some (.cells #[.pointer (some ⟨D,0,none⟩)] 59 (0,0)))(hb:w.heap[b]?=some (.cells #[.int .i64 (e:Nat)] 3 (0,0))) :
  Calls prog 75 #[.agg (dL x k),.pointer (some ⟨a,0,none⟩),.pointer (some ⟨b,0,none⟩)] w (qi w0 T D Lb nv kv ns (gJ d q x (.key e)) w):=by
 have kF:Hd (NuS w0 k x.ks):=hk;obtain⟨o,c,hk0,-⟩:=hk;have HR:Hd (∀q∈x.ks,q<ns.length):=hr;obtain⟨E,c3,uV,hle,-⟩:=h.entry he;subst uV;obtain⟨el,og⟩:∃el,d.es.length=el:=⟨_,rfl⟩;have aY:Hd (d.es.length=el/\e<d.es.length):=⟨og,he⟩;obtain⟨m,hm⟩:=zN (x.ks.length);have hk1:k=.slice o m c:=by rw[hk0,hm]
 rw[hk1]at kF ⊢
 -- what the calls leave
 obtain⟨kd,ky,tx,nu,ks,pl⟩:=x;obtain⟨KY,iC⟩:∃t:ByteArray,⟨ky.toArray⟩=t:=⟨_,rfl⟩;obtain⟨TX,eu⟩:∃t:ByteArray,⟨tx.toArray⟩=t:=⟨_,rfl⟩;have eP:Hd ((⟨ky.toArray⟩:ByteArray)=KY):=iC;have nI:Hd ((⟨tx.toArray⟩:ByteArray)=TX):=eu;obtain⟨bx,hbx⟩:=zN (w.heap.size);obtain⟨W,hW⟩:=zN (w.alloc (.cells #[.int .i64 kd,.string KY,.string TX,.int .i64 nu,.slice o m c,.int .i64 (pl:Nat)] 64));have HW:Hd (w.alloc (.cells #[.int .i64 kd,.string KY,.string TX,.int .i64 nu,.slice o m c,.int .i64 (pl:Nat)] 64)=W/\w.heap.size=bx):=⟨hW,hbx⟩;have hG:w.grownBy W none:=hW ▸ dw (ax w none) _;have HD:Hd (Dm w0 T D Lb nv kv ns d W vt (.slice (some ⟨E,0,none⟩) el c3) vw xs vs):=by have:=h.grow hG;rw[og]at this;exact this
 have kG:Hd (W.heap[bx]?=some (.cells #[.int .i64 kd,.string KY,.string TX,.int .i64 nu,.slice o m c,.int .i64 (pl:Nat)] 64 (0,0))/\W.heap[a]?=some (.cells #[.pointer (some ⟨D,0,none⟩)] 59 (0,0))/\W.heap[b]?=some (.cells #[.int .i64 (e:Nat)] 3 (0,0))):=⟨by rw[<-hW,<-hbx];exact heap_alloc_new _ _,(bf hG).blk ha,(bf hG).blk hb⟩;have ca:W.cell? ⟨a,0,none⟩=some (.pointer (some ⟨D,0,none⟩)):=by rw[af kG.o.2.1];rfl
 have cb:W.cell? ⟨b,0,none⟩=some (.int .i64 (e:Nat)):=by rw[af kG.o.2.2];rfl
 obtain⟨-,-,-,-,-,d3,-,-⟩:=HD.o.cells;obtain⟨R,hR⟩:=zN (gJ d q ⟨kd,ky,tx,nu,ks,pl⟩ (.key e));have HR0:Hd (lY d ⟨kd,ky,tx,nu,ks,pl⟩ e=R):=hR;have hsz:(⟨tx.toArray⟩:ByteArray).size<2 ^ 62:=by
  show tx.toArray.size<2 ^ 62;rw[List.size_toArray];have:tx.length<2 ^ 60:=htx;omega
 have sF:Hd ((⟨tx.toArray⟩:ByteArray).size<2 ^ 62/\tx.length<2 ^ 60/\el<=1000):=⟨hsz,htx,by rw[<-og];exact hel⟩;have heI:(e:Int)<(el:Int):=by omega
 have heN:e<el:=by omega
 rw[hR];unfold dL;simp only[]at kF HR hl ⊢;rw[iC,eu];have hlc:el<=c3:=by omega
 have iD:Hd (w.grownBy W none):=hG;clear hR hsz h ha hb hk0 hm hk1 iC eu hW hbx hG htx hel og he hle;go_enter func75,ntmps75;go_upto_region 1 with fail
 try rw[HW.o.1]
 try rw[HW.o.2]
 go_quiet (fail);obtain⟨V,hV⟩:=zN (W.drewN nq);have oV:W.grownBy V none:=hV ▸ aj (ax W none) nq;have rF:Hd (Dm w0 T D Lb nv kv ns d V vt (.slice (some ⟨E,0,none⟩) el c3) vw xs vs):=HD.o.grow oV;have bW:Hd (V.heap[bx]?=some (.cells #[.int .i64 kd,.string KY,.string TX,.int .i64 nu,.slice o m c,.int .i64 (pl:Nat)] 64 (0,0))/\V.heap[a]?=some (.cells #[.pointer (some ⟨D,0,none⟩)] 59 (0,0))/\V.heap[b]?=some (.cells #[.int .i64 (e:Nat)] 3 (0,0))):=⟨(bf oV).blk kG.o.1,(bf oV).blk kG.o.2.1,(bf oV).blk kG.o.2.2⟩;have lT:Hd (w.grownBy V none):=ah iD.o oV;rw[hV];clear hV oV iD HD kG ca cb d3 HW;have ca:V.cell? ⟨a,0,none⟩=some (.pointer (some ⟨D,0,none⟩)):=by rw[af bW.o.2.1];rfl
 have cb:V.cell? ⟨b,0,none⟩=some (.int .i64 (e:Nat)):=by rw[af bW.o.2.2];rfl
 have b0:V.cell? ⟨bx,0,none⟩=some (.int .i64 kd):=by rw[af bW.o.1];rfl
 have b1:V.cell? ⟨bx,1,none⟩=some (.string KY):=by rw[af bW.o.1];rfl
 have b2:V.cell? ⟨bx,2,none⟩=some (.string TX):=by rw[af bW.o.1];rfl
 have b3:V.cell? ⟨bx,3,none⟩=some (.int .i64 nu):=by rw[af bW.o.1];rfl
 have b4:V.cell? ⟨bx,4,none⟩=some (.slice o m c):=by rw[af bW.o.1];rfl
 have b5:V.cell? ⟨bx,5,none⟩=some (.int .i64 (pl:Nat)):=by rw[af bW.o.1];rfl
 obtain⟨-,-,d0,-,-,-,-,-⟩:=rF.o.cells;obtain⟨Z,hZ⟩:=zN (Ae R);have HZ:Hd (Ae R=Z):=hZ;clear hZ
 by_cases e1:ky=fG
 ·have hb1:(KY.toList == [110,97,109,101])=true:=(jr eP.o).1 e1;have CN:Hd (Calls prog 76 #[.pointer (some ⟨D,0,none⟩),.agg #[.int .i64 kd,.string KY,.string TX,.int .i64 nu,.slice o m c,.int .i64 (pl:Nat)],.pointer (some ⟨E,e*4,none⟩)] V fun e' w'=>e'=.returned (.int .i64 Z)/\Hd (yJ w0 T D Lb nv kv ns R w w')):=by
   have:=aex rF.o ⟨kd,ky,tx,nu,ks,pl⟩ o m c e E el c3 aY.o.2 rfl (by rw[aY.o.1];exact sF.o.2.2) sF.o.2.1;unfold dL at this;simp only[]at this;rw[eP.o,nI.o]at this;refine this.mono fun e' w' hh=>?_
   have hy:R=(if takeD ⟨kd,ky,tx,nu,ks,pl⟩ nameB=0 then if aZ d.es (dn ⟨kd,ky,tx,nu,ks,pl⟩)=true then .error 5 else .ok (setD d e ⟨dn ⟨kd,ky,tx,nu,ks,pl⟩,(bn d.es e).ve,(bn d.es e).dg,(bn d.es e).nd⟩) else .error (takeD ⟨kd,ky,tx,nu,ks,pl⟩ nameB)):=by
    rw[<-HR0.o];unfold lY;rw[if_pos e1]
   rw[<-hy]at hh;obtain⟨a1,a2⟩:=OE hh;exact⟨by rw[a1,HZ.o],OG lT.o a2⟩
  clear e1 HR0;go_wp2_with (go_at_call 76;refine CN.o.mono ?_)
  first|rintro e' w2 rfl h2|rintro e' w2 ⟨rfl,h2⟩
  go_wp2;go_ret;exact OD HZ.o h2.o
 ·have hb1:(KY.toList == [110,97,109,101])=false:=(jr eP.o).2 e1
  by_cases e2:ky=iI
  ·have hb2:(KY.toList == [118,101,114,115,105,111,110])=true:=(jr eP.o).1 e2;have hy:R=oC d ⟨kd,ky,tx,nu,ks,pl⟩ okV e ⟨(bn d.es e).nm,dn ⟨kd,ky,tx,nu,ks,pl⟩,(bn d.es e).dg,(bn d.es e).nd⟩:=by
    rw[<-HR0.o];unfold lY;rw[if_neg e1,if_pos e2]
   have CT:Hd (∀w',V.grownBy w' none->Calls prog 77 #[.agg #[.int .i64 kd,.string KY,.string TX,.int .i64 nu,.slice o m c,.int .i64 (pl:Nat)],.func (.func 59) #[] #[],.pointer (some ⟨E,e*4+1,none⟩)] w' fun e' w''=>e'=.returned (.int .i64 Z)/\Hd (yJ w0 T D Lb nv kv ns R w w'')/\w''.cell? ⟨a,0,none⟩=some (.pointer (some ⟨D,0,none⟩))/\w''.cell? ⟨b,0,none⟩=some (.int .i64 (e:Nat))/\w''.cell? ⟨bx,0,none⟩=some (.int .i64 kd)/\w''.cell? ⟨bx,1,none⟩=some (.string KY)/\w''.cell? ⟨bx,2,none⟩=some (.string TX)/\w''.cell? ⟨bx,3,none⟩=some (.int .i64 nu)/\w''.cell? ⟨bx,4,none⟩=some (.slice o m c)/\w''.cell? ⟨bx,5,none⟩=some (.int .i64 (pl:Nat))):=fun w' hg=>by
    have:=We (rF.o.grow hg) ⟨kd,ky,tx,nu,ks,pl⟩ o m c e 59 1 aY.o.2 (by decide) okV egV (fun w'=>adZ _ w' sF.o.1) ⟨(bn d.es e).nm,dn ⟨kd,ky,tx,nu,ks,pl⟩,(bn d.es e).dg,(bn d.es e).nd⟩ (by rw[qj aY.o.2]) (by rw[qj aY.o.2];rfl) (by rw[qj aY.o.2];rfl) (by rw[qj aY.o.2]);unfold dL at this;simp only[]at this;rw[eP.o,nI.o]at this;refine this.mono fun e' w'' ⟨a1,a3⟩=>?_
    rw[<-hy]at a1;obtain⟨a1,a2⟩:=OE a1;have y1:=(a3 _ (by decide)).blk ((bf hg).blk bW.o.1);have y2:=(a3 _ (by decide)).blk ((bf hg).blk bW.o.2.1);have y3:=(a3 _ (by decide)).blk ((bf hg).blk bW.o.2.2);refine⟨by rw[a1,HZ.o],OG (ah lT.o hg) a2,by rw[af y2];rfl,by rw[af y3];rfl,by rw[af y1];rfl,by rw[af y1];rfl,by rw[af y1];rfl,by rw[af y1];rfl,by rw[af y1];rfl,by rw[af y1];rfl⟩
   have iO:Hd (V.grownBy V.drew none):=aj (ax V none) 1;clear hy HR0 e1 e2;go_wp2
   go_region_held3 (fun u=>u.cell? ⟨a,0,none⟩=some (.pointer (some ⟨D,0,none⟩))/\u.cell? ⟨b,0,none⟩=some (.int .i64 (e:Nat))/\u.cell? ⟨bx,0,none⟩=some (.int .i64 kd)/\u.cell? ⟨bx,1,none⟩=some (.string KY)/\u.cell? ⟨bx,2,none⟩=some (.string TX)/\u.cell? ⟨bx,3,none⟩=some (.int .i64 nu)/\u.cell? ⟨bx,4,none⟩=some (.slice o m c)/\u.cell? ⟨bx,5,none⟩=some (.int .i64 (pl:Nat))) ((first|assumption|exact Ou (by assumption) (by assumption)|go_keep)) (first|(go_at_call 77;refine(CT.o _ iO.o).mono ?_;rintro e' w7 ⟨rfl,hall,hcl⟩))
   go_wp2;go_ret;exact OD HZ.o hall.o
  ·have hb2:(KY.toList == [118,101,114,115,105,111,110])=false:=(jr eP.o).2 e2
   by_cases e3:ky=iH
   ·have hb3:(KY.toList == [100,105,103,101,115,116])=true:=(jr eP.o).1 e3;have hy:R=oC d ⟨kd,ky,tx,nu,ks,pl⟩ pF e ⟨(bn d.es e).nm,(bn d.es e).ve,dn ⟨kd,ky,tx,nu,ks,pl⟩,(bn d.es e).nd⟩:=by
     rw[<-HR0.o];unfold lY;rw[if_neg e1,if_neg e2,if_pos e3]
    have CT:Hd (∀w',V.grownBy w' none->Calls prog 77 #[.agg #[.int .i64 kd,.string KY,.string TX,.int .i64 nu,.slice o m c,.int .i64 (pl:Nat)],.func (.func 60) #[] #[],.pointer (some ⟨E,e*4+2,none⟩)] w' fun e' w''=>e'=.returned (.int .i64 Z)/\Hd (yJ w0 T D Lb nv kv ns R w w'')/\w''.cell? ⟨a,0,none⟩=some (.pointer (some ⟨D,0,none⟩))/\w''.cell? ⟨b,0,none⟩=some (.int .i64 (e:Nat))/\w''.cell? ⟨bx,0,none⟩=some (.int .i64 kd)/\w''.cell? ⟨bx,1,none⟩=some (.string KY)/\w''.cell? ⟨bx,2,none⟩=some (.string TX)/\w''.cell? ⟨bx,3,none⟩=some (.int .i64 nu)/\w''.cell? ⟨bx,4,none⟩=some (.slice o m c)/\w''.cell? ⟨bx,5,none⟩=some (.int .i64 (pl:Nat))):=fun w' hg=>by
     have:=We (rF.o.grow hg) ⟨kd,ky,tx,nu,ks,pl⟩ o m c e 60 2 aY.o.2 (by decide) pF egD (fun w'=>(XA _ w').mono fun e' w'' h=>⟨by rw[h.1,XD];rfl,h.2 ▸ ax _ none⟩) ⟨(bn d.es e).nm,(bn d.es e).ve,dn ⟨kd,ky,tx,nu,ks,pl⟩,(bn d.es e).nd⟩ (by rw[qj aY.o.2]) (by rw[qj aY.o.2];rfl) (by rw[qj aY.o.2];rfl) (by rw[qj aY.o.2]);unfold dL at this;simp only[]at this;rw[eP.o,nI.o]at this;refine this.mono fun e' w'' ⟨a1,a3⟩=>?_
     rw[<-hy]at a1;obtain⟨a1,a2⟩:=OE a1;have y1:=(a3 _ (by decide)).blk ((bf hg).blk bW.o.1);have y2:=(a3 _ (by decide)).blk ((bf hg).blk bW.o.2.1);have y3:=(a3 _ (by decide)).blk ((bf hg).blk bW.o.2.2);refine⟨by rw[a1,HZ.o],OG (ah lT.o hg) a2,by rw[af y2];rfl,by rw[af y3];rfl,by rw[af y1];rfl,by rw[af y1];rfl,by rw[af y1];rfl,by rw[af y1];rfl,by rw[af y1];rfl,by rw[af y1];rfl⟩
    have iO:Hd (V.grownBy V.drew none):=aj (ax V none) 1;clear hy HR0 e1 e2 e3;go_wp2
    go_region_held3 (fun u=>u.cell? ⟨a,0,none⟩=some (.pointer (some ⟨D,0,none⟩))/\u.cell? ⟨b,0,none⟩=some (.int .i64 (e:Nat))/\u.cell? ⟨bx,0,none⟩=some (.int .i64 kd)/\u.cell? ⟨bx,1,none⟩=some (.string KY)/\u.cell? ⟨bx,2,none⟩=some (.string TX)/\u.cell? ⟨bx,3,none⟩=some (.int .i64 nu)/\u.cell? ⟨bx,4,none⟩=some (.slice o m c)/\u.cell? ⟨bx,5,none⟩=some (.int .i64 (pl:Nat))) ((first|assumption|exact Ou (by assumption) (by assumption)|go_keep)) (first|(go_at_call 77;refine(CT.o _ iO.o).mono ?_;rintro e' w7 ⟨rfl,hall,hcl⟩))
    go_wp2;go_ret;exact OD HZ.o hall.o
   ·have hb3:(KY.toList == [100,105,103,101,115,116])=false:=(jr eP.o).2 e3
    by_cases e4:ky=dY
    ·have hb4:(KY.toList == [110,101,101,100,115])=true:=(jr eP.o).1 e4
     by_cases e5:kd=1
     ·have hb5:(kd == 1)=true:=by simpa using e5
      have hy:R=.ok (keepD d ks (.val e)):=by
       rw[<-HR0.o];unfold lY;rw[if_neg e1,if_neg e2,if_neg e3,if_pos ⟨e4,e5⟩]
      have iO:Hd (V.grownBy V.drew none):=aj (ax V none) 1;have CV:Hd (Calls prog 78 #[.pointer (some ⟨D,0,none⟩),.int .i64 (e:Nat)] V.drew fun e' w'=>∃A C,e'=.returned (.func (.func 118) #[] #[.pointer (some ⟨A,0,none⟩),.pointer (some ⟨C,0,none⟩)])/\(w'.heap[A]?=some (.cells #[.pointer (some ⟨D,0,none⟩)] 59 (0,0))/\w'.heap[C]?=some (.cells #[.int .i64 (e:Nat)] 3 (0,0)))/\V.drew.grownBy w' none):=(aee D (e:Nat) V.drew).mono fun e' w' ⟨a1,a2⟩=>by
       refine⟨_,_,a1,⟨?_,?_⟩,by rw[a2];exact dw (dw (ax _ none) _) _⟩
       ·rw[a2,Lib.alloc_old _ _ _ (by simp)];exact heap_alloc_new _ _
       ·rw[a2];have:=heap_alloc_new (V.drew.alloc (.cells #[.pointer (some ⟨D,0,none⟩)] 59)) (.cells #[.int .i64 (e:Nat)] 3)
        rwa [World.size_alloc]at this
      have CK:Hd (∀A C w2,V.drew.grownBy w2 none->(w2.heap[A]?=some (.cells #[.pointer (some ⟨D,0,none⟩)] 59 (0,0))/\w2.heap[C]?=some (.cells #[.int .i64 (e:Nat)] 3 (0,0)))->Calls prog 22 #[.pointer (some ⟨T,0,none⟩),.agg #[.int .i64 kd,.string KY,.string TX,.int .i64 nu,.slice o m c,.int .i64 (pl:Nat)],.func (.func 118) #[] #[.pointer (some ⟨A,0,none⟩),.pointer (some ⟨C,0,none⟩)]] w2 fun e' w3=>e'=.returned (.tuple #[])/\Hd (Dm w0 T D Lb nv kv ns (keepD d ks (.val e)) w3 vt (.slice (some ⟨E,0,none⟩) el c3) vw xs vs)/\w3.cell? ⟨a,0,none⟩=some (.pointer (some ⟨D,0,none⟩))/\w3.cell? ⟨b,0,none⟩=some (.int .i64 (e:Nat))/\w3.cell? ⟨D,0,none⟩=some (.pointer (some ⟨T,0,none⟩))/\w3.cell? ⟨bx,0,none⟩=some (.int .i64 kd)/\w3.cell? ⟨bx,1,none⟩=some (.string KY)/\w3.cell? ⟨bx,2,none⟩=some (.string TX)/\w3.cell? ⟨bx,3,none⟩=some (.int .i64 nu)/\w3.cell? ⟨bx,4,none⟩=some (.slice o m c)/\w3.cell? ⟨bx,5,none⟩=some (.int .i64 (pl:Nat))):=fun A C w2 hg hAC=>by
       have hgW:=ah iO.o hg;have:=keep_any (rF.o.grow hgW) ⟨kd,ky,tx,nu,ks,pl⟩ (.slice o m c) kF.o HR.o hl 118 #[.pointer (some ⟨A,0,none⟩),.pointer (some ⟨C,0,none⟩)] (.val e) ⟨A,C,rfl,hAC.1,hAC.2⟩;unfold dL at this;simp only[]at this;rw[eP.o,nI.o]at this;refine this.mono fun e' w3 ⟨a1,a2,a3⟩=>?_
       have y1:=(a3 _ (by decide)).blk ((bf hgW).blk bW.o.1);have y2:=(a3 _ (by decide)).blk ((bf hgW).blk bW.o.2.1);have y3:=(a3 _ (by decide)).blk ((bf hgW).blk bW.o.2.2);obtain⟨-,-,f0,-,-,-,-,-⟩:=a2.cells;exact⟨a1,a2,by rw[af y2];rfl,by rw[af y3];rfl,f0,by rw[af y1];rfl,by rw[af y1];rfl,by rw[af y1];rfl,by rw[af y1];rfl,by rw[af y1];rfl,by rw[af y1];rfl⟩
      have HY:Hd (R=.ok (keepD d ks (.val e))):=hy;clear hy HR0 e1 e2 e3 e4 e5;go_wp2
      go_region_held3 (fun u=>u.cell? ⟨a,0,none⟩=some (.pointer (some ⟨D,0,none⟩))/\u.cell? ⟨b,0,none⟩=some (.int .i64 (e:Nat))/\u.cell? ⟨D,0,none⟩=some (.pointer (some ⟨T,0,none⟩))/\u.cell? ⟨bx,0,none⟩=some (.int .i64 kd)/\u.cell? ⟨bx,1,none⟩=some (.string KY)/\u.cell? ⟨bx,2,none⟩=some (.string TX)/\u.cell? ⟨bx,3,none⟩=some (.int .i64 nu)/\u.cell? ⟨bx,4,none⟩=some (.slice o m c)/\u.cell? ⟨bx,5,none⟩=some (.int .i64 (pl:Nat))) ((first|assumption|exact cellsA (by assumption) (by assumption)|go_keep)) (first|(go_at_call 78;refine CV.o.mono ?_;rintro e' w6 ⟨A,C,rfl,Ef,dK⟩)|(go_at_call 22;refine(CK.o _ _ _ dK Ef).mono ?_;rintro e' w7 ⟨rfl,hall,hcl⟩))
      go_wp2;go_ret;rw[HY.o];exact xn hall.o
     ·have hb5:(kd == 1)=false:=by simpa using e5
      have HY:Hd (R=.error 7):=by
       show _=_;rw[<-HR0.o];unfold lY;rw[if_neg e1,if_neg e2,if_neg e3,if_neg (fun h=>e5 h.2)]
      clear HR0 e1 e2 e3 e4 e5;go_wp2;go_ret;rw[HY.o];exact mG (by decide) lT.o
    ·have hb4:(KY.toList == [110,101,101,100,115])=false:=(jr eP.o).2 e4;have HY:Hd (R=.error 7):=by
      show _=_;rw[<-HR0.o];unfold lY;rw[if_neg e1,if_neg e2,if_neg e3,if_neg (fun h=>e4 h.1)]
     clear HR0 e1 e2 e3 e4;go_wp2;go_ret;rw[HY.o];exact mG (by decide) lT.o
end
open Go.RowKit Go.Maps Go.WideMaps Go.Joins
section
variable {w0:World} {T D Lb:Nat} {nv:Value} {kv:Nat->Value} {ns:List Tn} {d:Dr} {w w':World} {vt ve vw:Value} {xs:List Value} {vs:Nat->Value}
theorem Dm.size(h:Dm w0 T D Lb nv kv ns d w vt ve vw xs vs):w0.heap.size<=w.heap.size:=Nat.le_of_lt (Nat.lt_of_le_of_lt h.bD (aB h.dra))
theorem OH{t:TypeId}{s n:Nat}{v:Value}{ys:List Value}(h:Dm w0 T D Lb nv kv ns d w vt ve vw xs vs)(hr:w.ownsRow w0.heap.size t s v n ys)(ht:¬62=t):some D≠v.ownBlock:=fun e=>by
 obtain⟨cc,hcc⟩:=(bz hr e.symm).2;exact aP h.dra hcc ht rfl
theorem tH{t X:TypeId}{s n a:Nat}{v:Value}{ys:List Value}{cs:Array Value}{fz:Nat × Nat}(ha:w.heap[a]?=some (.cells cs X fz))(hr:w.ownsRow w0.heap.size t s v n ys)(ht:¬X=t):some a≠v.ownBlock:=fun e=>by
 obtain⟨cc,hcc⟩:=(bz hr e.symm).2;exact aP ha hcc ht rfl
theorem cells9{w w':World}{a b bx:Nat}{va vb vc v0 v1 v2 v3 v4 v5:Value}(hg:w.grownBy w' none)(h:w.cell? ⟨a,0,none⟩=some va/\w.cell? ⟨b,0,none⟩=some vb/\w.cell? ⟨b,3,none⟩=some vc/\w.cell? ⟨bx,0,none⟩=some v0/\w.cell? ⟨bx,1,none⟩=some v1/\w.cell? ⟨bx,2,none⟩=some v2/\w.cell? ⟨bx,3,none⟩=some v3/\w.cell? ⟨bx,4,none⟩=some v4/\w.cell? ⟨bx,5,none⟩=some v5):w'.cell? ⟨a,0,none⟩=some va/\w'.cell? ⟨b,0,none⟩=some vb/\w'.cell? ⟨b,3,none⟩=some vc/\w'.cell? ⟨bx,0,none⟩=some v0/\w'.cell? ⟨bx,1,none⟩=some v1/\w'.cell? ⟨bx,2,none⟩=some v2/\w'.cell? ⟨bx,3,none⟩=some v3/\w'.cell? ⟨bx,4,none⟩=some v4/\w'.cell? ⟨bx,5,none⟩=some v5 :=
 ⟨hg.cell h.1 (by simp),hg.cell h.2.1 (by simp),hg.cell h.2.2.1 (by simp),hg.cell h.2.2.2.1 (by simp),hg.cell h.2.2.2.2.1 (by simp),hg.cell h.2.2.2.2.2.1 (by simp),hg.cell h.2.2.2.2.2.2.1 (by simp),hg.cell h.2.2.2.2.2.2.2.1 (by simp),hg.cell h.2.2.2.2.2.2.2.2 (by simp)⟩
theorem yK(w:World)(o:Obj):w.grownBy (w.drew.alloc o) none:=by
 have:=World.grownBy_alloc w.drew o none;exact⟨this.os,this.tape,this.output,this.size,this.block⟩
theorem yL{w w3:World}{o:Obj}{r:Option Nat}{b g k:Nat}{cs cg:Array Value}{t tg:TypeId}{fz fg:Nat × Nat}{v:Value}(hb:w.heap[b]?=some (.cells cs t fz))(hg:(w.drew.alloc o).grownBy w3 r)(hne:some b≠r)(hG:w.heap[g]?=some (.cells cg tg fg))(ht:¬t=tg):(w3.setCell ⟨g,k,none⟩ v).heap[b]?=some (.cells cs t fz):=by
 have h1:=(bf (yK w o)).blk hb;have h2:=(hg.block b (aB h1) hne).trans h1;exact(heap_setCell_other _ _ _ _ (aP hb hG ht)).trans h2
theorem Dm.tabs(h:Dm w0 T D Lb nv kv ns d w vt ve vw xs vs)(q:Nat){w1:World}{v':Value}(ho:w1.ownsRow w0.heap.size 64 6 v' (d.tb.length+1) (d.tb.flatMap (nV kv ns)++nV kv ns q))(hg:w.grownBy w1 vt.ownBlock):Dm w0 T D Lb nv kv ns ⟨d.lk,d.fm,d.tb++[q],d.es,d.wt⟩ (w1.setCell ⟨D,2,none⟩ v') v' ve vw xs vs:=by
 have kt:∀t,¬t=64->Kt t w w1:=fun t ht=>yG h.tab hg ht
 have hc:=(kt _ (by decide)).blk h.dra;have k2:∀t,¬t=62->Kt t w1 (w1.setCell ⟨D,2,none⟩ v'):=fun t ht=>iP _ hc ht
 have k3:∀t,¬t=64->¬t=62->Kt t w (w1.setCell ⟨D,2,none⟩ v'):=fun t h1 h2=>(kt t h1).two (k2 t h2)
 have g1:w0.grownBy w1 none:=by
  cases hb:vt.ownBlock with
  | none=>rw[hb]at hg;exact ah h.gb hg
  | some g =>
   rw[hb]at hg;exact mP h.gb hg (bz h.tab hb).1
 refine⟨mP g1 (iM w1 D 2 _) h.bD,(k3 _ (by decide) (by decide)).blk h.tre,block_setCell (i:=2) hc _,h.lok.keep (k3 _ (by decide) (by decide)) ⟨k3 _ (by decide) (by decide),k3 _ (by decide) (by decide),k3 _ (by decide) (by decide)⟩,?_,h.ent.keep (k3 _ (by decide) (by decide)) (k3 _ (by decide) (by decide)),(k3 _ (by decide) (by decide)).row h.wan,h.bD,h.bL⟩;rw[List.length_append,List.flatMap_append];simp only[List.length_cons,List.length_nil,List.flatMap_cons,List.flatMap_nil,List.append_nil];exact(k2 _ (by decide)).row ho
theorem aez{W w3:World}{a bx q tl c2 g cap:Nat}{o2:Option Addr}{ys L6:List Value}{A6:Array Value}(h:Dm w0 T D Lb nv kv ns d W (.slice o2 tl c2) ve vw xs vs)(htl:d.tb.length=tl)(hys:d.tb.flatMap (nV kv ns)=ys)(hX:nV kv ns q=L6)(hb:W.heap[bx]?=some (.cells A6 64 (0,0)))(ha:W.heap[a]?=some (.cells #[.pointer (some ⟨D,0,none⟩)] 59 (0,0)))
  (hfb:some bx≠(Value.slice o2 tl c2).ownBlock) (hfa:some a≠(Value.slice o2 tl c2).ownBlock) (ho:w3.ownsRow w0.heap.size 64 6 (.slice (some ⟨g,0,none⟩) (tl+1) cap) (tl+1) (ys++L6)) (hg:(W.drew.alloc (.cells A6 64)).grownBy w3 (Value.slice o2 tl c2).ownBlock) :
  ∃v',Dm w0 T D Lb nv kv ns ⟨d.lk,d.fm,d.tb++[q],d.es,d.wt⟩ (w3.setCell ⟨D,2,none⟩ (.slice (some ⟨g,0,none⟩) (tl+1) cap)) v' ve vw xs vs/\(w3.setCell ⟨D,2,none⟩ (.slice (some ⟨g,0,none⟩) (tl+1) cap)).heap[bx]?=some (.cells A6 64 (0,0))/\(w3.setCell ⟨D,2,none⟩ (.slice (some ⟨g,0,none⟩) (tl+1) cap)).heap[a]?=some (.cells #[.pointer (some ⟨D,0,none⟩)] 59 (0,0)):=by
 have h2:=h.grow (yK W (.cells A6 64));refine⟨_,h2.tabs q (v':=.slice (some ⟨g,0,none⟩) (tl+1) cap) ?_ hg,yL hb hg hfb h.dra (by decide),yL ha hg hfa h.dra (by decide)⟩;rw[htl,hys,hX];exact ho
theorem Dm.ents(h:Dm w0 T D Lb nv kv ns d w vt ve vw xs vs){w1:World}{v':Value}(ho:w1.ownsRow w0.heap.size 33 4 v' (d.es.length+1) (xs++zE))(hg:w.grownBy w1 ve.ownBlock):Dm w0 T D Lb nv kv ns ⟨d.lk,d.fm,d.tb,d.es++[en0],d.wt⟩ (w1.setCell ⟨D,3,none⟩ v') vt v' vw (xs++zE) (fun i=>if i=d.es.length then .slice none 0 0 else vs i):=by
 have kt:∀t,¬t=33->Kt t w w1:=fun t ht=>yG h.ent.row hg ht
 have hc:=(kt _ (by decide)).blk h.dra;have k2:∀t,¬t=62->Kt t w1 (w1.setCell ⟨D,3,none⟩ v'):=fun t ht=>iP _ hc ht
 have k3:∀t,¬t=33->¬t=62->Kt t w (w1.setCell ⟨D,3,none⟩ v'):=fun t h1 h2=>(kt t h1).two (k2 t h2)
 have g1:w0.grownBy w1 none:=by
  cases hb:ve.ownBlock with
  | none=>rw[hb]at hg;exact ah h.gb hg
  | some g =>
   rw[hb]at hg;exact mP h.gb hg (bz h.ent.row hb).1
 exact⟨mP g1 (iM w1 D 3 _) h.bD,(k3 _ (by decide) (by decide)).blk h.tre,block_setCell (i:=3) hc _,h.lok.keep (k3 _ (by decide) (by decide)) ⟨k3 _ (by decide) (by decide),k3 _ (by decide) (by decide),k3 _ (by decide) (by decide)⟩,(k3 _ (by decide) (by decide)).row h.tab,(h.ent.push ho hg).keep (k2 _ (by decide)) (k2 _ (by decide)),(k3 _ (by decide) (by decide)).row h.wan,h.bD,h.bL⟩
theorem aeA{W w3:World}{a bx el c3 g cap:Nat}{o3:Option Addr}{A6:Array Value}(h:Dm w0 T D Lb nv kv ns d W vt (.slice o3 el c3) vw xs vs)(hel:d.es.length=el)(hb:W.heap[bx]?=some (.cells A6 64 (0,0)))(ha:W.heap[a]?=some (.cells #[.pointer (some ⟨D,0,none⟩)] 59 (0,0)))
  (ho:w3.ownsRow w0.heap.size 33 4 (.slice (some ⟨g,0,none⟩) (el+1) cap) (el+1) (xs++[.string ⟨#[]⟩,.string ⟨#[]⟩,.string ⟨#[]⟩,.slice none 0 0])) (hg:(W.drew.alloc (.cells #[.string ⟨#[]⟩,.string ⟨#[]⟩,.string ⟨#[]⟩,.slice none 0 0] 33)).grownBy w3 (Value.slice o3 el c3).ownBlock) :
  ∃c' xs' vs' g',Dm w0 T D Lb nv kv ns ⟨d.lk,d.fm,d.tb,d.es++[en0],d.wt⟩ (w3.setCell ⟨D,3,none⟩ (.slice (some ⟨g,0,none⟩) (el+1) cap)) vt (.slice (some ⟨g',0,none⟩) (el+1) c') vw xs' vs'/\(w3.setCell ⟨D,3,none⟩ (.slice (some ⟨g,0,none⟩) (el+1) cap)).heap[bx]?=some (.cells A6 64 (0,0))/\(w3.setCell ⟨D,3,none⟩ (.slice (some ⟨g,0,none⟩) (el+1) cap)).heap[a]?=some (.cells #[.pointer (some ⟨D,0,none⟩)] 59 (0,0)):=by
 have h2:=h.grow (yK W (.cells #[.string ⟨#[]⟩,.string ⟨#[]⟩,.string ⟨#[]⟩,.slice none 0 0] 33));have hr:=h.ent.row;exact⟨cap,_,_,g,h2.ents (v':=.slice (some ⟨g,0,none⟩) (el+1) cap) (by rw[hel];exact ho) hg,yL hb hg (tH hb hr (by decide)) h.dra (by decide),yL ha hg (tH ha hr (by decide)) h.dra (by decide)⟩
theorem aeB(h:Dm w0 T D Lb nv kv ns d w vt ve vw xs vs)(q:Nat)(hq:q<ns.length)(hk:NuS w0 (kv q) ns[q].ks)(hr:∀p∈ns[q].ks,p<ns.length)(hl:ns[q].ks.length<=1000000)(hel:d.es.length<=1000)(htl:d.tb.length<=1000)(a:Nat)(ha:w.heap[a]?=some (.cells #[.pointer (some ⟨D,0,none⟩)] 59 (0,0))) :
  Calls prog 49 #[.agg (dL ns[q] (kv q)),.pointer (some ⟨a,0,none⟩)] w (qi w0 T D Lb nv kv ns (gJ d q ns[q] .tabs) w):=by
 have kF:Hd (NuS w0 (kv q) ns[q].ks):=hk;obtain⟨o,c,hk0,-⟩:=hk;have HR:Hd (∀p∈ns[q].ks,p<ns.length):=hr;have HX:Hd (nV kv ns q=(dL ns[q] (kv q)).toList):=by
  show _=_;unfold nV;rw[List.getElem?_eq_getElem hq]
 obtain⟨x,hx⟩:=zN (ns[q]);rw[hx]at kF HR HX hl hk0 ⊢;obtain⟨kd,ky,tx,nu,ks,pl⟩:=x;obtain⟨KY,iC⟩:∃t:ByteArray,⟨ky.toArray⟩=t:=⟨_,rfl⟩;obtain⟨TX,eu⟩:∃t:ByteArray,⟨tx.toArray⟩=t:=⟨_,rfl⟩;have eP:Hd ((⟨ky.toArray⟩:ByteArray)=KY/\(⟨tx.toArray⟩:ByteArray)=TX):=⟨iC,eu⟩;obtain⟨m,hm⟩:=zN (ks.length);have hk1:kv q=.slice o m c:=by rw[hk0];show Value.slice o ks.length c=_;rw[hm]
 rw[hk1]at kF HX ⊢;unfold dL at HX ⊢;simp only[]at kF HR HX hl ⊢;rw[iC,eu]at HX ⊢;obtain⟨bx,hbx⟩:=zN (w.heap.size);obtain⟨W,hW⟩:=zN (w.alloc (.cells #[.int .i64 kd,.string KY,.string TX,.int .i64 nu,.slice o m c,.int .i64 (pl:Nat)] 64));have HG:Hd (w.grownBy W none):=hW ▸ dw (ax w none) _;have HD:Hd (Dm w0 T D Lb nv kv ns d W vt ve vw xs vs):=h.grow HG.o;have hB:W.heap[bx]?=some (.cells #[.int .i64 kd,.string KY,.string TX,.int .i64 nu,.slice o m c,.int .i64 (pl:Nat)] 64 (0,0)):=by rw[<-hW,<-hbx];exact heap_alloc_new _ _
 have uT:=(bf HG.o).blk ha;have kG:Hd (W.heap[bx]?=some (.cells #[.int .i64 kd,.string KY,.string TX,.int .i64 nu,.slice o m c,.int .i64 (pl:Nat)] 64 (0,0))/\W.heap[a]?=some (.cells #[.pointer (some ⟨D,0,none⟩)] 59 (0,0))):=⟨hB,uT⟩;have HW:Hd (w.alloc (.cells #[.int .i64 kd,.string KY,.string TX,.int .i64 nu,.slice o m c,.int .i64 (pl:Nat)] 64)=W/\w.heap.size=bx):=⟨hW,hbx⟩;obtain⟨o2,c2,hvt⟩:=lL HD.o.tab;obtain⟨o3,c3,uV⟩:=lL HD.o.ent.row;subst hvt uV;have hrw:=h.tab;have ca:W.cell? ⟨a,0,none⟩=some (.pointer (some ⟨D,0,none⟩)):=by rw[af uT];rfl
 have b0:W.cell? ⟨bx,0,none⟩=some (.int .i64 kd):=by rw[af hB];rfl
 have b1:W.cell? ⟨bx,1,none⟩=some (.string KY):=by rw[af hB];rfl
 have b2:W.cell? ⟨bx,2,none⟩=some (.string TX):=by rw[af hB];rfl
 have b3:W.cell? ⟨bx,3,none⟩=some (.int .i64 nu):=by rw[af hB];rfl
 have b4:W.cell? ⟨bx,4,none⟩=some (.slice o m c):=by rw[af hB];rfl
 have b5:W.cell? ⟨bx,5,none⟩=some (.int .i64 (pl:Nat)):=by rw[af hB];rfl
 obtain⟨-,-,d0,-,d2,d3,-,-⟩:=HD.o.cells;have Wh:=HD.o.gb;obtain⟨tl,Af⟩:∃tl,d.tb.length=tl:=⟨_,rfl⟩;have Iq:Hd (d.tb.length=tl):=Af;unfold gJ;simp only[];rw[Af]at d2 htl HD ⊢
 by_cases h50:tl=50
 ·have hb:((tl:Int) == 50)=true:=by rw[h50];rfl
  rw[if_pos h50];have aA:Hd (w.grownBy W none):=HG.o;clear h hr hk0 ha hB uT hW hbx iC eu hm hk1 hx Wh Af h50 hrw d3 d0 b0 b1 b2 b3 b4 b5;go_enter func49,ntmps49;go_upto_region 1 with fail
  try rw[HW.o.1]
  try rw[HW.o.2]
  go_wp2;go_ret;exact mG (by decide) aA.o
 ·have hb:((tl:Int) == 50)=false:=by simpa using(show ¬(tl:Int)=50 by omega)
  rw[if_neg h50];obtain⟨i0,hi0,hii⟩:=Option.map_eq_some_iff.1 RJ;simp only[Prod.mk.injEq]at hii;obtain⟨hz0,hz1,hzb⟩:=hii;have hrow:=HD.o.tab;rw[Af]at hrow;obtain⟨ys,hys⟩:=zN (d.tb.flatMap (nV kv ns));have lH:Hd (d.tb.flatMap (nV kv ns)=ys):=hys;rw[hys]at hrow;have hone:∀u∈([.int .i64 kd,.string KY,.string TX,.int .i64 nu,.slice o m c,.int .i64 (pl:Nat)]:List Value),u.oneCell'=true:=by simp[Value.oneCell']
  have ql:Hd (some D≠(Value.slice o2 tl c2).ownBlock):=OH HD.o hrow (by decide);have kR:Hd (some bx≠(Value.slice o2 tl c2).ownBlock):=by
   show _≠_;intro e;rw[Af]at hrw;obtain⟨cc,hcc⟩:=(bz hrw e.symm).2;have:=aB hcc;omega
  have bK:Hd (some a≠(Value.slice o2 tl c2).ownBlock):=tH uT hrow (by decide);have nU:Hd (W.heap[D]?=some (.cells #[.pointer (some ⟨T,0,none⟩),.bool d.fm,.slice o2 tl c2,.slice o3 d.es.length c3,vw] 62 (0,0))):=HD.o.dra;obtain⟨K,hK⟩:=zN (W.heap.size);have hB0:w0.heap.size<=K:=by rw[<-hK];exact HD.o.size
  have dQ:Hd ((W.drew.alloc (.cells #[.int .i64 kd,.string KY,.string TX,.int .i64 nu,.slice o m c,.int .i64 (pl:Nat)] 64)).heap[K]?=some (.cells #[.int .i64 kd,.string KY,.string TX,.int .i64 nu,.slice o m c,.int .i64 (pl:Nat)] 64 (0,0))):=by
   have:=heap_alloc_new W.drew (.cells #[.int .i64 kd,.string KY,.string TX,.int .i64 nu,.slice o m c,.int .i64 (pl:Nat)] 64);rw[show W.drew.heap.size=K from hK]at this;exact this
  have caA:(W.alloc (.cells #[.int .i64 kd,.string KY,.string TX,.int .i64 nu,.slice o m c,.int .i64 (pl:Nat)] 64)).cell? ⟨a,0,none⟩=some (.pointer (some ⟨D,0,none⟩)):=(World.grownBy_alloc W _ none).cell ca (by simp);have d2A:(W.alloc (.cells #[.int .i64 kd,.string KY,.string TX,.int .i64 nu,.slice o m c,.int .i64 (pl:Nat)] 64)).cell? ⟨D,2,none⟩=some (.slice o2 tl c2):=(World.grownBy_alloc W _ none).cell d2 (by simp);clear h hr hk0 ha hB uT hW hbx iC eu hm hk1 hx Wh Af h50 hys hrw;go_enter func49,ntmps49;go_upto_region 1 with fail
  try rw[HW.o.1]
  try rw[HW.o.2]
  go_upto_region 3 with fail
  go_cut [] from 20 (fun wx=>∃v',Dm w0 T D Lb nv kv ns ⟨d.lk,d.fm,d.tb++[q],d.es,d.wt⟩ wx v' (.slice o3 d.es.length c3) vw xs vs/\wx.heap[bx]?=some (.cells #[.int .i64 kd,.string KY,.string TX,.int .i64 nu,.slice o m c,.int .i64 (pl:Nat)] 64 (0,0))/\wx.heap[a]?=some (.cells #[.pointer (some ⟨D,0,none⟩)] 59 (0,0)))
  case first =>
   go_region_law (refine step_append_lies _ (by rfl) _ _ _ (by rfl) w0.heap.size 64 i0 _ 6 80 underlying54 hi0 hz0 hz1 hzb (by rfl) (by decide) (.slice o2 tl c2) tl ys (by rfl) (hrow.drew.alloc _) ⟨K,0,none⟩ 1 1 [.int .i64 kd,.string KY,.string TX,.int .i64 nu,.slice o m c,.int .i64 (pl:Nat)] (by rfl) (by rfl) (World.news_of_block dQ.o) hone (by omega) (by unfold maxLen;omega) (by omega) (by simp;omega) _ rfl ?_;intro g cap w3 hown3 hgrow hat hlt3;have hc3:w3.cell? ⟨D,2,none⟩=some (.slice o2 tl c2):=nz d2 hgrow ql.o;have oM:w3.frozen? ⟨D,2,none⟩=false:=qV nU.o hgrow ql.o;have aeC:w3.cell? ⟨a,0,none⟩=some (.pointer (some ⟨D,0,none⟩)):=nz ca hgrow bK.o)
   all_goals (
    go_wp2_with fail;go_meet;exact aez HD.o Iq.o lH.o HX.o kG.o.1 kG.o.2 kR.o bK.o hown3 hgrow)
  case rest =>
   obtain⟨v',hd2,hbx2,ha2⟩:=hcut;clear HD lH kR ql bK nU dQ hrow hi0 hz0 hz1 hzb ca d2 caA d2A b0 b1 b2 b3 b4 b5;obtain⟨i1,hi1,hjj⟩:=Option.map_eq_some_iff.1 Xo;simp only[Prod.mk.injEq]at hjj;obtain⟨hy0,hy1,hyb⟩:=hjj;obtain⟨el,og⟩:∃el,d.es.length=el:=⟨_,rfl⟩;have aY:Hd (d.es.length=el):=og;rw[og]at hd2 hel;have hrow:=hd2.ent.row;rw[show(⟨d.lk,d.fm,d.tb++[q],d.es,d.wt⟩:Dr).es.length=el from og]at hrow;obtain⟨-,-,-,-,-,d3,-,-⟩:=hd2.cells;have ca:wc.cell? ⟨a,0,none⟩=some (.pointer (some ⟨D,0,none⟩)):=by rw[af ha2];rfl
   have BM:∀u∈([.string ⟨#[]⟩,.string ⟨#[]⟩,.string ⟨#[]⟩,.slice none 0 0]:List Value),u.oneCell'=true:=by simp[Value.oneCell']
   have ql:Hd (some D≠(Value.slice o3 el c3).ownBlock):=OH hd2 hrow (by decide);have bK:Hd (some a≠(Value.slice o3 el c3).ownBlock):=tH ha2 hrow (by decide);have nU:Hd (wc.heap[D]?=some (.cells #[.pointer (some ⟨T,0,none⟩),.bool d.fm,v',.slice o3 el c3,vw] 62 (0,0))):=hd2.dra;obtain⟨K2,hK2⟩:∃K,wc.heap.size=K:=⟨_,rfl⟩;have hB2:w0.heap.size<=K2:=by rw[<-hK2];exact hd2.size
   have dQ:Hd ((wc.drew.alloc (.cells #[.string ⟨#[]⟩,.string ⟨#[]⟩,.string ⟨#[]⟩,.slice none 0 0] 33)).heap[K2]?=some (.cells #[.string ⟨#[]⟩,.string ⟨#[]⟩,.string ⟨#[]⟩,.slice none 0 0] 33 (0,0))):=by
    have:=heap_alloc_new wc.drew (.cells #[.string ⟨#[]⟩,.string ⟨#[]⟩,.string ⟨#[]⟩,.slice none 0 0] 33);rw[show wc.drew.heap.size=K2 from hK2]at this;exact this
   have caA:(wc.alloc (.cells #[.string ⟨#[]⟩,.string ⟨#[]⟩,.string ⟨#[]⟩,.slice none 0 0] 33)).cell? ⟨a,0,none⟩=some (.pointer (some ⟨D,0,none⟩)):=(World.grownBy_alloc wc _ none).cell ca (by simp);have d3A:(wc.alloc (.cells #[.string ⟨#[]⟩,.string ⟨#[]⟩,.string ⟨#[]⟩,.slice none 0 0] 33)).cell? ⟨D,3,none⟩=some (.slice o3 el c3):=(World.grownBy_alloc wc _ none).cell d3 (by simp);have HD2:Hd (Dm w0 T D Lb nv kv ns ⟨d.lk,d.fm,d.tb++[q],d.es,d.wt⟩ wc v' (.slice o3 el c3) vw xs vs):=hd2;have OI:Hd (wc.heap[bx]?=some (.cells #[.int .i64 kd,.string KY,.string TX,.int .i64 nu,.slice o m c,.int .i64 (pl:Nat)] 64 (0,0))/\wc.heap[a]?=some (.cells #[.pointer (some ⟨D,0,none⟩)] 59 (0,0))):=⟨hbx2,ha2⟩;clear hd2 hbx2 ha2 og;go_upto_region 4 with fail
   go_cut [] from 30 (fun wx=>∃c' xs' vs' g',Dm w0 T D Lb nv kv ns ⟨d.lk,d.fm,d.tb++[q],d.es++[en0],d.wt⟩ wx v' (.slice (some ⟨g',0,none⟩) (el+1) c') vw xs' vs'/\wx.heap[bx]?=some (.cells #[.int .i64 kd,.string KY,.string TX,.int .i64 nu,.slice o m c,.int .i64 (pl:Nat)] 64 (0,0))/\wx.heap[a]?=some (.cells #[.pointer (some ⟨D,0,none⟩)] 59 (0,0)))
   case first =>
    go_region_law (refine step_append_lies _ (by rfl) _ _ _ (by rfl) w0.heap.size 33 i1 _ 4 72 underlying22 hi1 hy0 hy1 hyb (by rfl) (by decide) (.slice o3 el c3) el xs (by rfl) (hrow.drew.alloc _) ⟨K2,0,none⟩ 1 1 [.string ⟨#[]⟩,.string ⟨#[]⟩,.string ⟨#[]⟩,.slice none 0 0] (by rfl) (by rfl) (World.news_of_block dQ.o) BM (by omega) (by unfold maxLen;omega) (by omega) (by simp;omega) _ rfl ?_;intro g cap w3 hown3 hgrow hat hlt3;have hc3:w3.cell? ⟨D,3,none⟩=some (.slice o3 el c3):=nz d3 hgrow ql.o;have oM:w3.frozen? ⟨D,3,none⟩=false:=qV nU.o hgrow ql.o;have aeC:w3.cell? ⟨a,0,none⟩=some (.pointer (some ⟨D,0,none⟩)):=nz ca hgrow bK.o)
    all_goals (
     go_wp2_with fail;go_meet;exact aeA HD2.o aY.o OI.o.1 OI.o.2 hown3 hgrow)
   case rest =>
    obtain⟨c',xs',vs',g',hd3,xw,OJ⟩:=hcut;clear HD2 OI ql bK nU dQ hrow hi1 hy0 hy1 hyb ca d3 caA d3A;obtain⟨-,-,e0,-,-,e3,-,-⟩:=hd3.cells;have ca:wc.cell? ⟨a,0,none⟩=some (.pointer (some ⟨D,0,none⟩)):=by rw[af OJ];rfl
    have b0:wc.cell? ⟨bx,0,none⟩=some (.int .i64 kd):=by rw[af xw];rfl
    have b1:wc.cell? ⟨bx,1,none⟩=some (.string KY):=by rw[af xw];rfl
    have b2:wc.cell? ⟨bx,2,none⟩=some (.string TX):=by rw[af xw];rfl
    have b3:wc.cell? ⟨bx,3,none⟩=some (.int .i64 nu):=by rw[af xw];rfl
    have b4:wc.cell? ⟨bx,4,none⟩=some (.slice o m c):=by rw[af xw];rfl
    have b5:wc.cell? ⟨bx,5,none⟩=some (.int .i64 (pl:Nat)):=by rw[af xw];rfl
    have HD3:Hd (Dm w0 T D Lb nv kv ns ⟨d.lk,d.fm,d.tb++[q],d.es++[en0],d.wt⟩ wc v' (.slice (some ⟨g',0,none⟩) (el+1) c') vw xs' vs'):=hd3;have Wi:Hd (wc.heap[bx]?=some (.cells #[.int .i64 kd,.string KY,.string TX,.int .i64 nu,.slice o m c,.int .i64 (pl:Nat)] 64 (0,0))/\wc.heap[a]?=some (.cells #[.pointer (some ⟨D,0,none⟩)] 59 (0,0))):=⟨xw,OJ⟩;have iO:Hd (wc.grownBy wc.drew none):=aj (ax wc none) 1;have CT:Hd (Calls prog 50 #[.pointer (some ⟨D,0,none⟩),.int .i64 (el:Nat)] wc.drew fun e w'=>∃A C,e=.returned (.func (.func 75) #[] #[.pointer (some ⟨A,0,none⟩),.pointer (some ⟨C,0,none⟩)])/\(w'.heap[A]?=some (.cells #[.pointer (some ⟨D,0,none⟩)] 59 (0,0))/\w'.heap[C]?=some (.cells #[.int .i64 (el:Nat)] 3 (0,0)))/\wc.drew.grownBy w' none):=(aed D (el:Nat) wc.drew).mono fun e w' ⟨a1,a2⟩=>by
     refine⟨_,_,a1,⟨?_,?_⟩,by rw[a2];exact dw (dw (ax _ none) _) _⟩
     ·rw[a2,Lib.alloc_old _ _ _ (by simp)];exact heap_alloc_new _ _
     ·rw[a2];have:=heap_alloc_new (wc.drew.alloc (.cells #[.pointer (some ⟨D,0,none⟩)] 59)) (.cells #[.int .i64 (el:Nat)] 3)
      rwa [World.size_alloc]at this
    have CK:Hd (∀A C w2,wc.drew.grownBy w2 none->(w2.heap[A]?=some (.cells #[.pointer (some ⟨D,0,none⟩)] 59 (0,0))/\w2.heap[C]?=some (.cells #[.int .i64 (el:Nat)] 3 (0,0)))->Calls prog 22 #[.pointer (some ⟨T,0,none⟩),.agg #[.int .i64 kd,.string KY,.string TX,.int .i64 nu,.slice o m c,.int .i64 (pl:Nat)],.func (.func 75) #[] #[.pointer (some ⟨A,0,none⟩),.pointer (some ⟨C,0,none⟩)]] w2 fun e w3=>e=.returned (.tuple #[])/\Hd (Dm w0 T D Lb nv kv ns (keepD ⟨d.lk,d.fm,d.tb++[q],d.es++[en0],d.wt⟩ ks (.key el)) w3 v' (.slice (some ⟨g',0,none⟩) (el+1) c') vw xs' vs')/\w3.cell? ⟨a,0,none⟩=some (.pointer (some ⟨D,0,none⟩))/\w3.cell? ⟨D,0,none⟩=some (.pointer (some ⟨T,0,none⟩))/\w3.cell? ⟨D,3,none⟩=some (.slice (some ⟨g',0,none⟩) (el+1) c')/\w3.cell? ⟨bx,0,none⟩=some (.int .i64 kd)/\w3.cell? ⟨bx,1,none⟩=some (.string KY)/\w3.cell? ⟨bx,2,none⟩=some (.string TX)/\w3.cell? ⟨bx,3,none⟩=some (.int .i64 nu)/\w3.cell? ⟨bx,4,none⟩=some (.slice o m c)/\w3.cell? ⟨bx,5,none⟩=some (.int .i64 (pl:Nat))):=fun A C w2 hg hAC=>by
     have hgW:=ah iO.o hg;have:=keep_any (HD3.o.grow hgW) ⟨kd,ky,tx,nu,ks,pl⟩ (.slice o m c) kF.o HR.o hl 75 #[.pointer (some ⟨A,0,none⟩),.pointer (some ⟨C,0,none⟩)] (.key el) ⟨A,C,rfl,hAC.1,hAC.2⟩;unfold dL at this;simp only[]at this;rw[eP.o.1,eP.o.2]at this;refine this.mono fun e w3 ⟨a1,a2,a3⟩=>?_
     have y1:=(a3 _ (by decide)).blk ((bf hgW).blk Wi.o.1);have y2:=(a3 _ (by decide)).blk ((bf hgW).blk Wi.o.2);obtain⟨-,-,f0,-,-,f3,-,-⟩:=a2.cells;exact⟨a1,a2,by rw[af y2];rfl,f0,f3,by rw[af y1];rfl,by rw[af y1];rfl,by rw[af y1];rfl,by rw[af y1];rfl,by rw[af y1];rfl,by rw[af y1];rfl⟩
    have hwr:IntKind.i64.wrap (el:Int)=(el:Int):=by rw[IntKind.wrap_i64];omega
    clear hd3 xw OJ;go_upto_region 5 with fail
    go_region_held3 (fun u=>u.cell? ⟨a,0,none⟩=some (.pointer (some ⟨D,0,none⟩))/\u.cell? ⟨D,0,none⟩=some (.pointer (some ⟨T,0,none⟩))/\u.cell? ⟨D,3,none⟩=some (.slice (some ⟨g',0,none⟩) (el+1) c')/\u.cell? ⟨bx,0,none⟩=some (.int .i64 kd)/\u.cell? ⟨bx,1,none⟩=some (.string KY)/\u.cell? ⟨bx,2,none⟩=some (.string TX)/\u.cell? ⟨bx,3,none⟩=some (.int .i64 nu)/\u.cell? ⟨bx,4,none⟩=some (.slice o m c)/\u.cell? ⟨bx,5,none⟩=some (.int .i64 (pl:Nat))) ((first|assumption|exact cells9 (by assumption) (by assumption)|go_keep)) (first|(go_at_call 50;(try rw[hwr]);refine CT.o.mono ?_;rintro e w6 ⟨A,C,rfl,Ef,dK⟩)|(go_at_call 22;refine(CK.o _ _ _ dK Ef).mono ?_;rintro e w7 ⟨rfl,hall,hcl⟩))
    go_wp2;go_ret;have:=hall.o;rw[aY.o];exact xn hall.o
end
open Go.RowKit Go.Maps Go.WideMaps Go.Joins
theorem aeD:(prog.info? 109).map (fun i=>(i.zero,i.size,i.bytes))=some (some (.agg #[.string ⟨#[]⟩,.int .i64 0]),2,24):=by kernel_rfl
section
variable {w0:World} {T D Lb:Nat} {nv:Value} {kv:Nat->Value} {ns:List Tn} {d:Dr} {w w':World} {vt ve vw:Value} {xs:List Value} {vs:Nat->Value}
theorem OL{t:TypeId}{s n:Nat}{v:Value}{ys:List Value}{w1:World}(h:w0.grownBy w none)(hr:w.ownsRow w0.heap.size t s v n ys)(hg:w.grownBy w1 v.ownBlock):w0.grownBy w1 none:=by
 cases hb:v.ownBlock with
 | none=>rw[hb]at hg;exact ah h hg
 | some g =>
  rw[hb]at hg;exact mP h hg (bz hr hb).1
theorem Dm.need{E n c:Nat}(h:Dm w0 T D Lb nv kv ns d w vt (.slice (some ⟨E,0,none⟩) n c) vw xs vs){i:Nat}(hi:i<d.es.length)(s:ByteArray){w1:World}{v':Value}(ho:w1.ownsRow w0.heap.size 9 1 v' (d.es[i].nd.length+1) (d.es[i].nd.map Value.string++[.string s]))(hg:w.grownBy w1 (vs i).ownBlock)(hat:v'.ownBlock=(vs i).ownBlock\/v'.ownBlock=some w.heap.size\/∃g,v'.ownBlock=some g/\w.heap.size<=g) :
  Dm w0 T D Lb nv kv ns ⟨d.lk,d.fm,d.tb,d.es.set i ⟨d.es[i].nm,d.es[i].ve,d.es[i].dg,d.es[i].nd++[s]⟩,d.wt⟩ (w1.setCell ⟨E,i*4+3,none⟩ v') vt (.slice (some ⟨E,0,none⟩) n c) vw (xs.set (i*4+3) v') (fun j=>if j=i then v' else vs j):=by
 have hr:=h.ent.nee i hi;have kt:∀t,¬t=9->Kt t w w1:=fun t ht=>yG hr hg ht
 obtain⟨OC,cur,hE⟩:=bz h.ent.row rfl;have hc:=(kt _ (by decide)).blk hE;have k3:∀t,¬t=9->¬t=33->Kt t w (w1.setCell ⟨E,i*4+3,none⟩ v'):=fun t h1 h2=>(kt t h1).two (iP _ hc h2)
 exact⟨mP (OL h.gb hr hg) (iM w1 E _ _) OC,(k3 _ (by decide) (by decide)).blk h.tre,(k3 _ (by decide) (by decide)).blk h.dra,h.lok.keep (k3 _ (by decide) (by decide)) ⟨k3 _ (by decide) (by decide),k3 _ (by decide) (by decide),k3 _ (by decide) (by decide)⟩,(k3 _ (by decide) (by decide)).row h.tab,h.ent.need hi s ho hg hat,(k3 _ (by decide) (by decide)).row h.wan,h.bD,h.bL⟩
theorem Dm.want(h:Dm w0 T D Lb nv kv ns d w vt ve vw xs vs)(y:ByteArray × Nat){w1:World}{v':Value}(ho:w1.ownsRow w0.heap.size 109 2 v' (d.wt.length+1) (d.wt.flatMap tu++tu y))(hg:w.grownBy w1 vw.ownBlock):Dm w0 T D Lb nv kv ns ⟨d.lk,d.fm,d.tb,d.es,d.wt++[y]⟩ (w1.setCell ⟨D,4,none⟩ v') vt ve v' xs vs:=by
 have kt:∀t,¬t=109->Kt t w w1:=fun t ht=>yG h.wan hg ht
 have hc:=(kt _ (by decide)).blk h.dra;have k2:∀t,¬t=62->Kt t w1 (w1.setCell ⟨D,4,none⟩ v'):=fun t ht=>iP _ hc ht
 have k3:∀t,¬t=109->¬t=62->Kt t w (w1.setCell ⟨D,4,none⟩ v'):=fun t h1 h2=>(kt t h1).two (k2 t h2)
 refine⟨mP (OL h.gb h.wan hg) (iM w1 D 4 _) h.bD,(k3 _ (by decide) (by decide)).blk h.tre,block_setCell (i:=4) hc _,h.lok.keep (k3 _ (by decide) (by decide)) ⟨k3 _ (by decide) (by decide),k3 _ (by decide) (by decide),k3 _ (by decide) (by decide)⟩,(k3 _ (by decide) (by decide)).row h.tab,h.ent.keep (k3 _ (by decide) (by decide)) (k3 _ (by decide) (by decide)),?_,h.bD,h.bL⟩;rw[List.length_append,List.flatMap_append];simp only[List.length_cons,List.length_nil,List.flatMap_cons,List.flatMap_nil,List.append_nil];exact(k2 _ (by decide)).row ho
theorem aeE{W w3:World}{a bx nb e E n c3 m4 c4 g cap:Nat}{o4:Option Addr}{A6:Array Value}{TX:ByteArray}(h:Dm w0 T D Lb nv kv ns d W vt (.slice (some ⟨E,0,none⟩) n c3) vw xs vs)(he:e<d.es.length)(hv:vs e=.slice o4 m4 c4)(hm:d.es[e].nd.length=m4)(hb:W.heap[bx]?=some (.cells A6 64 (0,0)))(ha:W.heap[a]?=some (.cells #[.pointer (some ⟨D,0,none⟩)] 59 (0,0)))(hn:W.heap[nb]?=some (.cells #[.string TX] 9 (0,0)))
  (hfn:some nb≠(Value.slice o4 m4 c4).ownBlock) (ho:w3.ownsRow w0.heap.size 9 1 (.slice (some ⟨g,0,none⟩) (m4+1) cap) (m4+1) (d.es[e].nd.map Value.string++[.string TX])) (hg:(W.drew.alloc (.cells #[.string TX] 9)).grownBy w3 (Value.slice o4 m4 c4).ownBlock) (hat:(Value.slice o4 m4 c4).ownBlock=some g\/g=(W.drew.alloc (.cells #[.string TX] 9)).heap.size) :
  ∃xs' vs',Dm w0 T D Lb nv kv ns ⟨d.lk,d.fm,d.tb,d.es.set e ⟨d.es[e].nm,d.es[e].ve,d.es[e].dg,d.es[e].nd++[TX]⟩,d.wt⟩ (w3.setCell ⟨E,e*4+3,none⟩ (.slice (some ⟨g,0,none⟩) (m4+1) cap)) vt (.slice (some ⟨E,0,none⟩) n c3) vw xs' vs'/\(w3.setCell ⟨E,e*4+3,none⟩ (.slice (some ⟨g,0,none⟩) (m4+1) cap)).heap[bx]?=some (.cells A6 64 (0,0))/\(w3.setCell ⟨E,e*4+3,none⟩ (.slice (some ⟨g,0,none⟩) (m4+1) cap)).heap[a]?=some (.cells #[.pointer (some ⟨D,0,none⟩)] 59 (0,0))/\(w3.setCell ⟨E,e*4+3,none⟩ (.slice (some ⟨g,0,none⟩) (m4+1) cap)).heap[nb]?=some (.cells #[.string TX] 9 (0,0)):=by
 have h2:=h.grow (yK W (.cells #[.string TX] 9));have hr:=h.ent.nee e he;rw[hv]at hr;obtain⟨-,cur,hE⟩:=bz h.ent.row rfl;refine⟨_,_,h2.need he TX (v':=.slice (some ⟨g,0,none⟩) (m4+1) cap) (by rw[hm];exact ho) (by rw[hv];exact hg) ?_,yL hb hg (tH hb hr (by decide)) hE (by decide),yL ha hg (tH ha hr (by decide)) hE (by decide),yL hn hg hfn hE (by decide)⟩;rw[hv]
 rcases hat with e1|e1
 ·exact Or.inl e1.symm
 ·exact Or.inr (Or.inr ⟨g,rfl,Nat.le_of_eq e1.symm⟩)
theorem Wj{W w3:World}{wl c4 g cap pl:Nat}{o4:Option Addr}{TX:ByteArray}(h:Dm w0 T D Lb nv kv ns d W vt ve (.slice o4 wl c4) xs vs)(hm:d.wt.length=wl)(ho:w3.ownsRow w0.heap.size 109 2 (.slice (some ⟨g,0,none⟩) (wl+1) cap) (wl+1) (d.wt.flatMap tu++[.string TX,.int .i64 (pl:Nat)]))(hg:(W.drew.alloc (.cells #[.string TX,.int .i64 (pl:Nat)] 109)).grownBy w3 (Value.slice o4 wl c4).ownBlock) :
  ∃v',Dm w0 T D Lb nv kv ns ⟨d.lk,d.fm,d.tb,d.es,d.wt++[(TX,pl)]⟩ (w3.setCell ⟨D,4,none⟩ (.slice (some ⟨g,0,none⟩) (wl+1) cap)) vt ve v' xs vs :=
 ⟨_,(h.grow (yK W (.cells #[.string TX,.int .i64 (pl:Nat)] 109))).want (TX,pl) (v':=.slice (some ⟨g,0,none⟩) (wl+1) cap) (by rw[hm];exact ho) hg⟩
end
end Go.Proofs.YtnnbgjaphfhibaaGreatDoor
