import Derived.Test.YtmkjelchiacogaaGreatDoorM25
import Derived.Test.YtmkjelchiacogaaGreatDoorM04
set_option linter.unusedVariables false
set_option linter.unusedSimpArgs false
set_option maxRecDepth 100000
set_option maxHeartbeats 6400000
open Go.Proofs.Tryz
namespace Go.Proofs.YtmkjelchiacogaaGreatDoor
open Go.RowKit Go.Maps Go.WideMaps Go.Joins
section
variable {w0:World} {T D Lb:Nat} {nv:Value} {kv:Nat->Value} {ns:List Tn} {d:Dr} {w w':World} {vt ve vw:Value} {xs:List Value} {vs:Nat->Value}
theorem Dm.txt{E n c:Nat}(h:Dm w0 T D Lb nv kv ns d w vt (.slice (some ⟨E,0,none⟩) n c) vw xs vs){i:Nat}(hi:i<d.es.length)(o:Nat)(ho:o<3)(s:ByteArray)(y:En)(h0:y.nm=if o=0 then s else d.es[i].nm)(h1:y.ve=if o=1 then s else d.es[i].ve)(h2:y.dg=if o=2 then s else d.es[i].dg)(h3:y.nd=d.es[i].nd):Dm w0 T D Lb nv kv ns (l7 d i y) (w.setCell ⟨E,i*4+o,none⟩ (.string s)) vt (.slice (some ⟨E,0,none⟩) n c) vw (xs.set (i*4+o) (.string s)) vs:=by
 obtain⟨OB,cur,hE⟩:=dV h.ent.row rfl;have k:∀t,¬t=44->Kt t w (w.setCell ⟨E,i*4+o,none⟩ (.string s)):=fun t ht=>iJ _ hE ht
 exact⟨pq h.gb (jL w E _ _) OB,(k _ (by decide)).blk h.tre,(k _ (by decide)).blk h.dra,h.lok.keep (k _ (by decide)) ⟨k _ (by decide),k _ (by decide),k _ (by decide)⟩,(k _ (by decide)).row h.tab,h.ent.txt hi o ho s y h0 h1 h2 h3,(k _ (by decide)).row h.wan,h.bD,h.bL⟩
theorem qA{es:List En}{e:Nat}(he:e<es.length):aT es e=es[e]:=by
 unfold aT;rw[List.getElem?_eq_getElem he];rfl
theorem Dm.entry(h:Dm w0 T D Lb nv kv ns d w vt ve vw xs vs){e:Nat}(he:e<d.es.length):∃E c,ve=.slice (some ⟨E,0,none⟩) d.es.length c/\d.es.length<=c/\(∃cur,w.heap[E]?=some (.cells cur 44 (0,0))/\cur[e*4]?=some (.string d.es[e].nm)/\cur[e*4+1]?=some (.string d.es[e].ve)/\cur[e*4+2]?=some (.string d.es[e].dg)/\cur[e*4+3]?=some (vs e)):=by
 obtain⟨E,c,e1,-,⟨cur,hc⟩,c0,c1,c2,c3,hle⟩:=h.ent.at he;refine⟨E,c,e1,hle,cur,hc,?_,?_,?_,?_⟩
 ·rw[ae hc]at c0;exact c0
 ·rw[ae hc]at c1;exact c1
 ·rw[ae hc]at c2;exact c2
 ·rw[ae hc]at c3;exact c3
theorem XH:∀args w,(callFunc 54 args).run prog w=.ok (.enter 54 args) w:=enters_of func54 (by kernel_rfl) rfl
theorem egV:∀args w,(callFunc 55 args).run prog w=.ok (.enter 55 args) w:=enters_of func55 (by kernel_rfl) rfl
theorem egD:∀args w,(callFunc 56 args).run prog w=.ok (.enter 56 args) w:=enters_of func56 (by kernel_rfl) rfl
theorem afr(h:Dm w0 T D Lb nv kv ns d w vt ve vw xs vs)(x:Tn)(o:Option Addr)(m c e E n c3:Nat)(he:e<d.es.length)(jo:ve=.slice (some ⟨E,0,none⟩) n c3)(hel:d.es.length<=1000)(htx:x.tx.length<2 ^ 60) :
  Calls prog 113 #[.pointer (some ⟨D,0,none⟩),.agg (dM x (.slice o m c)),.pointer (some ⟨E,e*4,none⟩)] w (qx w0 T D Lb nv kv ns (if takeD x nameB=0 then if az d.es (gq x)=true then .error 5 else .ok (l7 d e ⟨gq x,(aT d.es e).ve,(aT d.es e).dg,(aT d.es e).nd⟩) else .error (takeD x nameB))):=by
 subst jo;obtain⟨kd,ky,tx,nu,ks,pl⟩:=x;obtain⟨KY,jQ⟩:∃t:ByteArray,⟨ky.toArray⟩=t:=⟨_,rfl⟩;obtain⟨TX,kJ⟩:∃t:ByteArray,⟨tx.toArray⟩=t:=⟨_,rfl⟩;obtain⟨bx,hbx⟩:=zN (w.heap.size);obtain⟨W,hW⟩:=zN ((w.alloc (.cells #[.int .i64 kd,.string KY,.string TX,.int .i64 nu,.slice o m c,.int .i64 (pl:Nat)] 90)).alloc (.cells #[.string ⟨#[]⟩] 9));have HG:Hd (w.grownBy W none):=hW ▸ aP (aP (ai w none) _) _;have HD0:Hd (Dm w0 T D Lb nv kv ns d w vt (.slice (some ⟨E,0,none⟩) n c3) vw xs vs):=h;have hB:W.heap[bx]?=some (.cells #[.int .i64 kd,.string KY,.string TX,.int .i64 nu,.slice o m c,.int .i64 (pl:Nat)] 90 (0,0)):=by rw[<-hW,<-hbx,Lib.alloc_old _ _ _ (by simp)];exact heap_alloc_new _ _
 have hN:W.heap[bx+1]?=some (.cells #[.string ⟨#[]⟩] 9 (0,0)):=by
  rw[<-hW,<-hbx];have:=heap_alloc_new (w.alloc (.cells #[.int .i64 kd,.string KY,.string TX,.int .i64 nu,.slice o m c,.int .i64 (pl:Nat)] 90)) (.cells #[.string ⟨#[]⟩] 9)
  rwa [World.size_alloc]at this
 have b0:W.cell? ⟨bx,0,none⟩=some (.int .i64 kd):=by rw[ae hB];rfl
 have b1:W.cell? ⟨bx,1,none⟩=some (.string KY):=by rw[ae hB];rfl
 have b2:W.cell? ⟨bx,2,none⟩=some (.string TX):=by rw[ae hB];rfl
 have b3:W.cell? ⟨bx,3,none⟩=some (.int .i64 nu):=by rw[ae hB];rfl
 have b4:W.cell? ⟨bx,4,none⟩=some (.slice o m c):=by rw[ae hB];rfl
 have b5:W.cell? ⟨bx,5,none⟩=some (.int .i64 (pl:Nat)):=by rw[ae hB];rfl
 have hsz:(⟨tx.toArray⟩:ByteArray).size<2 ^ 62:=by
  show tx.toArray.size<2 ^ 62;rw[List.size_toArray];have:tx.length<2 ^ 60:=htx;omega
 have CT:Hd (Calls prog 114 #[.agg #[.int .i64 kd,.string KY,.string TX,.int .i64 nu,.slice o m c,.int .i64 (pl:Nat)],.func (.func 54) #[] #[],.pointer (some ⟨bx+1,0,none⟩)] W (Ov ⟨kd,ky,tx,nu,ks,pl⟩ (nameB TX) ⟨bx+1,0,none⟩ W)):=by
  have:=Ox ⟨kd,ky,tx,nu,ks,pl⟩ o m c 54 (bx+1) 0 (nameB ⟨tx.toArray⟩) W XH (fun w'=>(name_any _ w' hsz).mono fun e w'' h=>⟨h.1,h.2 ▸ ai _ none⟩) #[.string ⟨#[]⟩] 9 hN _ rfl;unfold dM at this;simp only[]at this;rw[jQ,kJ]at this;exact this
 have HT:Hd ((⟨tx.toArray⟩:ByteArray)=TX):=kJ;have HW:Hd ((w.alloc (.cells #[.int .i64 kd,.string KY,.string TX,.int .i64 nu,.slice o m c,.int .i64 (pl:Nat)] 90)).alloc (.cells #[.string ⟨#[]⟩] 9)=W/\w.heap.size=bx):=⟨hW,hbx⟩;have HN:Hd (W.heap[bx+1]?=some (.cells #[.string ⟨#[]⟩] 9 (0,0))):=hN;have htk:takeD ⟨kd,ky,tx,nu,ks,pl⟩ nameB=if ¬kd=3 then 7 else if nameB TX=true then 0 else 2:=by
  unfold takeD gq;simp only[];rw[kJ]
 have htb:gq ⟨kd,ky,tx,nu,ks,pl⟩=TX:=kJ;unfold dM;simp only[];rw[jQ,kJ,htk,htb];clear htk htb hsz htx;clear hW hbx hB hN jQ kJ h
 by_cases g1:kd=3
 ·rw[if_neg (show ¬¬kd=3 by simpa using g1)]
  by_cases g2:nameB TX=true
  ·rw[if_pos g2,if_pos rfl];have CG:Hd (Calls prog 114 #[.agg #[.int .i64 kd,.string KY,.string TX,.int .i64 nu,.slice o m c,.int .i64 (pl:Nat)],.func (.func 54) #[] #[],.pointer (some ⟨bx+1,0,none⟩)] W fun e w'=>e=.returned (.int .i64 0)/\w'.heap[bx+1]?=some (.cells #[.string TX] 9 (0,0))/\w.grownBy w' none):=CT.o.mono fun e w' h=>by
    obtain⟨h1,w1,h2,h3⟩:=h.2.2 g1 g2;refine⟨h1,?_,?_⟩
    ·rw[h3,HT.o];exact block_setCell (i:=0) ((aU h2).blk HN.o) _
    ·rw[h3];exact pq (af HG.o h2) (jL w1 _ 0 _) (by rw[HW.o.2];omega)
   clear CT g1 g2;obtain⟨q,hq⟩:=zN (az d.es TX);have HQ:Hd (az d.es TX=q):=hq;rw[hq];obtain⟨R,hR⟩:∃R:Except Int Dr,(if q=true then .error 5 else .ok (l7 d e ⟨TX,(aT d.es e).ve,(aT d.es e).dg,(aT d.es e).nd⟩))=R:=⟨_,rfl⟩;rw[hR];have HR:Hd ((if q=true then .error 5 else .ok (l7 d e ⟨TX,(aT d.es e).ve,(aT d.es e).dg,(aT d.es e).nd⟩))=R):=hR;clear hq hR;go_enter func113,ntmps113;go_upto_region 2 with fail
   try rw[HW.o.1]
   try rw[HW.o.2]
   go_wp2_with (go_at_call 114;refine CG.o.mono ?_)
   first|rintro e2 w2 rfl hn2 hg2|rintro e2 w2 ⟨rfl,hn2,hg2⟩
   have HD2:Hd (Dm w0 T D Lb nv kv ns d w2 vt (.slice (some ⟨E,0,none⟩) n c3) vw xs vs):=HD0.o.grow hg2;have c0:w2.cell? ⟨bx+1,0,none⟩=some (.string TX):=by rw[ae hn2];rfl
   obtain⟨-,-,-,-,-,d3,-,-⟩:=HD2.o.cells;have hnn:n=d.es.length:=by
    obtain⟨E',c',e1,-⟩:=HD2.o.entry he
    cases e1;rfl
   have CC:Hd (Calls prog 157 #[.slice (some ⟨E,0,none⟩) n c3,.func (.func 158) #[] #[.pointer (some ⟨bx+1,0,none⟩)]] w2 fun e w'=>e=.returned (.bool q)/\w2.grownBy w' none):=by
    have:=afq (some ⟨E,0,none⟩) n c3 (bx+1) TX d.es w2 hnn HD2.o.ent.ens (by omega) c0;rw[HQ.o]at this;exact this
   have OC:Hd (w2.heap[bx+1]?=some (.cells #[.string TX] 9 (0,0))):=hn2;clear hn2 hg2 HD0 CG HN HG hnn;go_wp2_with (go_at_call 157;refine CC.o.mono ?_)
   first|rintro e3 w3 rfl hg3|rintro e3 w3 ⟨rfl,hg3⟩
   have HD3:Hd (Dm w0 T D Lb nv kv ns d w3 vt (.slice (some ⟨E,0,none⟩) n c3) vw xs vs):=HD2.o.grow hg3;have c03:w3.cell? ⟨bx+1,0,none⟩=some (.string TX):=hg3.cell c0 (by simp);clear hg3
   cases q with
   | true =>
    go_wp2;go_ret;rw[show R=.error 5 from HR.o.symm];exact mf (by decide) HD3.o.gb
   | false =>
    obtain⟨E',c',e1,-,cur,xu,q0,-,-,-⟩:=HD3.o.entry he
    cases e1
    have cE:w3.cell? ⟨E,e*4,none⟩=some (.string d.es[e].nm):=by rw[ae xu];exact q0
    have fE:w3.frozen? ⟨E,e*4,none⟩=false:=Lib.frozen_of_heap xu _;have HF:Hd (Dm w0 T D Lb nv kv ns (l7 d e ⟨TX,(aT d.es e).ve,(aT d.es e).dg,(aT d.es e).nd⟩) (w3.setCell ⟨E,e*4,none⟩ (.string TX)) vt (.slice (some ⟨E,0,none⟩) d.es.length c3) vw (xs.set (e*4+0) (.string TX)) vs):=by
     rw[qA he];exact HD3.o.txt he 0 (by decide) TX _ rfl rfl rfl rfl
    clear xu q0 HD2 HD3 OC;go_wp2;go_ret;rw[show R=.ok (l7 d e ⟨TX,(aT d.es e).ve,(aT d.es e).dg,(aT d.es e).nd⟩) from HR.o.symm];exact xq HF.o
  ·have g2':nameB TX=false:=by simpa using g2
   rw[if_neg g2,if_neg (show ¬(2:Int)=0 by decide)];have CG:Hd (Calls prog 114 #[.agg #[.int .i64 kd,.string KY,.string TX,.int .i64 nu,.slice o m c,.int .i64 (pl:Nat)],.func (.func 54) #[] #[],.pointer (some ⟨bx+1,0,none⟩)] W fun e w'=>e=.returned (.int .i64 2)/\W.grownBy w' none):=CT.o.mono fun e w' h=>h.2.1 g1 g2'
   clear CT g1 g2 g2';go_enter func113,ntmps113;go_upto_region 2 with fail
   try rw[HW.o.1]
   try rw[HW.o.2]
   go_wp2_with (go_at_call 114;refine CG.o.mono ?_)
   first|rintro e2 w2 rfl hg2|rintro e2 w2 ⟨rfl,hg2⟩
   have HG2:Hd (w0.grownBy w2 none):=af HD0.o.gb (af HG.o hg2);clear hg2;go_wp2;go_ret;exact mf (by decide) HG2.o
 ·rw[if_pos g1,if_neg (show ¬(7:Int)=0 by decide)];have CG:Hd (Calls prog 114 #[.agg #[.int .i64 kd,.string KY,.string TX,.int .i64 nu,.slice o m c,.int .i64 (pl:Nat)],.func (.func 54) #[] #[],.pointer (some ⟨bx+1,0,none⟩)] W fun e w'=>e=.returned (.int .i64 7)/\W.grownBy w' none):=CT.o.mono fun e w' h=>h.1 g1
  clear CT g1;go_enter func113,ntmps113;go_upto_region 2 with fail
  try rw[HW.o.1]
  try rw[HW.o.2]
  go_wp2_with (go_at_call 114;refine CG.o.mono ?_)
  first|rintro e2 w2 rfl hg2|rintro e2 w2 ⟨rfl,hg2⟩
  have HG2:Hd (w0.grownBy w2 none):=af HD0.o.gb (af HG.o hg2);clear hg2;go_wp2;go_ret;exact mf (by decide) HG2.o
end
open Go.RowKit Go.Maps Go.WideMaps Go.Joins
theorem cellsA{w w':World}{a b D bx:Nat}{va vb vc v0 v1 v2 v3 v4 v5:Value}(hg:w.grownBy w' none)(h:w.cell? ⟨a,0,none⟩=some va/\w.cell? ⟨b,0,none⟩=some vb/\w.cell? ⟨D,0,none⟩=some vc/\w.cell? ⟨bx,0,none⟩=some v0/\w.cell? ⟨bx,1,none⟩=some v1/\w.cell? ⟨bx,2,none⟩=some v2/\w.cell? ⟨bx,3,none⟩=some v3/\w.cell? ⟨bx,4,none⟩=some v4/\w.cell? ⟨bx,5,none⟩=some v5):w'.cell? ⟨a,0,none⟩=some va/\w'.cell? ⟨b,0,none⟩=some vb/\w'.cell? ⟨D,0,none⟩=some vc/\w'.cell? ⟨bx,0,none⟩=some v0/\w'.cell? ⟨bx,1,none⟩=some v1/\w'.cell? ⟨bx,2,none⟩=some v2/\w'.cell? ⟨bx,3,none⟩=some v3/\w'.cell? ⟨bx,4,none⟩=some v4/\w'.cell? ⟨bx,5,none⟩=some v5 :=
 ⟨hg.cell h.1 (by simp),hg.cell h.2.1 (by simp),hg.cell h.2.2.1 (by simp),hg.cell h.2.2.2.1 (by simp),hg.cell h.2.2.2.2.1 (by simp),hg.cell h.2.2.2.2.2.1 (by simp),hg.cell h.2.2.2.2.2.2.1 (by simp),hg.cell h.2.2.2.2.2.2.2.1 (by simp),hg.cell h.2.2.2.2.2.2.2.2 (by simp)⟩
def AL:Except Int Dr->Int
 | .ok _=>0
 | .error c=>c
def EK(w0:World)(T D Lb:Nat)(nv:Value)(kv:Nat->Value)(ns:List Tn)(r:Except Int Dr)(w':World):Prop :=
 (∀d',r=.ok d'->∃vt ve vw xs vs,Dm w0 T D Lb nv kv ns d' w' vt ve vw xs vs)/\(∀c,r=.error c->¬c=0/\w0.grownBy w' none)
theorem OD{w0:World}{T D Lb:Nat}{nv:Value}{kv:Nat->Value}{ns:List Tn}{r:Except Int Dr}{w':World}{z:Int}(hz:AL r=z)(h:EK w0 T D Lb nv kv ns r w'):qx w0 T D Lb nv kv ns r (.returned (.int .i64 z)) w':=by
 subst hz;exact⟨fun d' e=>⟨by rw[e];rfl,h.1 d' e⟩,fun c e=>⟨by rw[e];rfl,h.2 c e⟩⟩
theorem OE{w0:World}{T D Lb:Nat}{nv:Value}{kv:Nat->Value}{ns:List Tn}{r:Except Int Dr}{w':World}{e:Ending}(h:qx w0 T D Lb nv kv ns r e w'):e=.returned (.int .i64 (AL r))/\EK w0 T D Lb nv kv ns r w':=by
 match r,h with
 | .ok d',h=>exact⟨(h.1 d' rfl).1,fun d'' e=>(h.1 d'' e).2,fun c e=>(by cases e)⟩
 | .error c,h=>exact⟨(h.2 c rfl).1,fun d'' e=>(by cases e),fun c' e=>(h.2 c' e).2⟩
section
variable {w0:World} {T D Lb:Nat} {nv:Value} {kv:Nat->Value} {ns:List Tn} {d:Dr} {w w':World} {vt ve vw:Value} {xs:List Value} {vs:Nat->Value}
theorem XI{E n c3:Nat}(h:Dm w0 T D Lb nv kv ns d w vt (.slice (some ⟨E,0,none⟩) n c3) vw xs vs)(x:Tn)(o:Option Addr)(m c e F k:Nat)(he:e<d.es.length)(hk:k=1\/k=2)(is:ByteArray->Bool)(eF:∀args w,(callFunc F args).run prog w=.ok (.enter F args) w)(CF:∀w',Calls prog F #[.string ⟨x.tx.toArray⟩] w' fun e w''=>e=.returned (.bool (is (gq x)))/\w'.grownBy w'' none)(y:En)(h0:y.nm=d.es[e].nm)(h1:y.ve=if k=1 then gq x else d.es[e].ve)(h2:y.dg=if k=2 then gq x else d.es[e].dg)(h3:y.nd=d.es[e].nd) :
  Calls prog 114 #[.agg (dM x (.slice o m c)),.func (.func F) #[] #[],.pointer (some ⟨E,e*4+k,none⟩)] w fun e' w'=>qx w0 T D Lb nv kv ns (rP d x is e y) e' w'/\∀t,¬t=44->Kt t w w':=by
 obtain⟨E',c',e1,-,cur,xu,q0,q1,q2,q3⟩:=h.entry he
 cases e1
 have hck:∃v0,cur[e*4+k]?=some v0:=by
  rcases hk with rfl|rfl
  ·exact⟨_,q1⟩
  ·exact⟨_,q2⟩
 obtain⟨v0,hv0⟩:=hck;refine(Ox x o m c F E (e*4+k) (is (gq x)) w eF CF cur 44 xu v0 hv0).mono fun e' w' hT=>?_
 unfold rP takeD
 by_cases g1:x.kd=3
 ·by_cases g2:is (gq x)=true
  ·obtain⟨a1,w1,a2,a3⟩:=hT.2.2 g1 g2;rw[if_neg (show ¬¬x.kd=3 by simpa using g1),if_pos g2,if_pos rfl,a1,a3];have hd:=h.grow a2;refine⟨xq (hd.txt he k (by omega) (gq x) y ?_ h1 h2 h3),fun t ht=>(aU a2).two (iJ _ ((aU a2).blk xu) ht)⟩;rw[h0,if_neg (by omega)]
  ·have g2':is (gq x)=false:=by simpa using g2
   obtain⟨a1,a2⟩:=hT.2.1 g1 g2';rw[if_neg (show ¬¬x.kd=3 by simpa using g1),if_neg g2,if_neg (by decide),a1];exact⟨mf (by decide) (af h.gb a2),fun t _=>aU a2⟩
 ·obtain⟨a1,a2⟩:=hT.1 g1;rw[if_pos g1,if_neg (by decide),a1];exact⟨mf (by decide) (af h.gb a2),fun t _=>aU a2⟩
theorem afs(h:Dm w0 T D Lb nv kv ns d w vt ve vw xs vs)(q:Nat)(x:Tn)(k:Value)(hk:NuS w0 k x.ks)(hr:∀q∈x.ks,q<ns.length)(hl:x.ks.length<=1000000)(htx:x.tx.length<2 ^ 60)(e:Nat)(he:e<d.es.length)(hel:d.es.length<=1000)(a b:Nat)(ha:w.heap[a]?=some (.cells #[.pointer (some ⟨D,0,none⟩)] 83 (0,0)))(hb:w.heap[b]?=some (.cells #[.int .i64 (e:Nat)] 3 (0,0))) :
  Calls prog 112 #[.agg (dM x k),.pointer (some ⟨a,0,none⟩),.pointer (some ⟨b,0,none⟩)] w (qx w0 T D Lb nv kv ns (gG d q x (.key e))):=by
 have nz:Hd (NuS w0 k x.ks):=hk;obtain⟨o,c,hk0,-⟩:=hk;have HR:Hd (∀q∈x.ks,q<ns.length):=hr;obtain⟨E,c3,jo,hle,-⟩:=h.entry he;subst jo;obtain⟨el,og⟩:∃el,d.es.length=el:=⟨_,rfl⟩;have aN:Hd (d.es.length=el/\e<d.es.length):=⟨og,he⟩;obtain⟨m,hm⟩:=zN (x.ks.length);have hk1:k=.slice o m c:=by rw[hk0,hm]
 rw[hk1]at nz ⊢
 -- what the calls leave
 obtain⟨kd,ky,tx,nu,ks,pl⟩:=x;obtain⟨KY,jQ⟩:∃t:ByteArray,⟨ky.toArray⟩=t:=⟨_,rfl⟩;obtain⟨TX,kJ⟩:∃t:ByteArray,⟨tx.toArray⟩=t:=⟨_,rfl⟩;have jy:Hd ((⟨ky.toArray⟩:ByteArray)=KY):=jQ;have oV:Hd ((⟨tx.toArray⟩:ByteArray)=TX):=kJ;obtain⟨bx,hbx⟩:=zN (w.heap.size);obtain⟨W,hW⟩:=zN (w.alloc (.cells #[.int .i64 kd,.string KY,.string TX,.int .i64 nu,.slice o m c,.int .i64 (pl:Nat)] 90));have HW:Hd (w.alloc (.cells #[.int .i64 kd,.string KY,.string TX,.int .i64 nu,.slice o m c,.int .i64 (pl:Nat)] 90)=W/\w.heap.size=bx):=⟨hW,hbx⟩;have hG:w.grownBy W none:=hW ▸ aP (ai w none) _;have HD:Hd (Dm w0 T D Lb nv kv ns d W vt (.slice (some ⟨E,0,none⟩) el c3) vw xs vs):=by have:=h.grow hG;rw[og]at this;exact this
 have dJ:Hd (W.heap[bx]?=some (.cells #[.int .i64 kd,.string KY,.string TX,.int .i64 nu,.slice o m c,.int .i64 (pl:Nat)] 90 (0,0))/\W.heap[a]?=some (.cells #[.pointer (some ⟨D,0,none⟩)] 83 (0,0))/\W.heap[b]?=some (.cells #[.int .i64 (e:Nat)] 3 (0,0))):=⟨by rw[<-hW,<-hbx];exact heap_alloc_new _ _,(aU hG).blk ha,(aU hG).blk hb⟩;have ca:W.cell? ⟨a,0,none⟩=some (.pointer (some ⟨D,0,none⟩)):=by rw[ae dJ.o.2.1];rfl
 have cb:W.cell? ⟨b,0,none⟩=some (.int .i64 (e:Nat)):=by rw[ae dJ.o.2.2];rfl
 obtain⟨-,-,-,-,-,d3,-,-⟩:=HD.o.cells;obtain⟨R,hR⟩:=zN (gG d q ⟨kd,ky,tx,nu,ks,pl⟩ (.key e));have HR0:Hd (jG d ⟨kd,ky,tx,nu,ks,pl⟩ e=R):=hR;have hsz:(⟨tx.toArray⟩:ByteArray).size<2 ^ 62:=by
  show tx.toArray.size<2 ^ 62;rw[List.size_toArray];have:tx.length<2 ^ 60:=htx;omega
 have lu:Hd ((⟨tx.toArray⟩:ByteArray).size<2 ^ 62/\tx.length<2 ^ 60/\el<=1000):=⟨hsz,htx,by rw[<-og];exact hel⟩;have heI:(e:Int)<(el:Int):=by omega
 have heN:e<el:=by omega
 rw[hR];unfold dM;simp only[]at nz HR hl ⊢;rw[jQ,kJ];have hlc:el<=c3:=by omega
 clear hR hsz h ha hb hk0 hm hk1 jQ kJ hW hbx hG htx hel og he hle;go_enter func112,ntmps112;go_upto_region 1 with fail
 try rw[HW.o.1]
 try rw[HW.o.2]
 go_quiet (fail);obtain⟨V,hV⟩:=zN (W.drewN nq);have rQ:W.grownBy V none:=hV ▸ au (ai W none) nq;have nC:Hd (Dm w0 T D Lb nv kv ns d V vt (.slice (some ⟨E,0,none⟩) el c3) vw xs vs):=HD.o.grow rQ;have bF:Hd (V.heap[bx]?=some (.cells #[.int .i64 kd,.string KY,.string TX,.int .i64 nu,.slice o m c,.int .i64 (pl:Nat)] 90 (0,0))/\V.heap[a]?=some (.cells #[.pointer (some ⟨D,0,none⟩)] 83 (0,0))/\V.heap[b]?=some (.cells #[.int .i64 (e:Nat)] 3 (0,0))):=⟨(aU rQ).blk dJ.o.1,(aU rQ).blk dJ.o.2.1,(aU rQ).blk dJ.o.2.2⟩;rw[hV];clear hV rQ HD dJ ca cb d3 HW;have ca:V.cell? ⟨a,0,none⟩=some (.pointer (some ⟨D,0,none⟩)):=by rw[ae bF.o.2.1];rfl
 have cb:V.cell? ⟨b,0,none⟩=some (.int .i64 (e:Nat)):=by rw[ae bF.o.2.2];rfl
 have b0:V.cell? ⟨bx,0,none⟩=some (.int .i64 kd):=by rw[ae bF.o.1];rfl
 have b1:V.cell? ⟨bx,1,none⟩=some (.string KY):=by rw[ae bF.o.1];rfl
 have b2:V.cell? ⟨bx,2,none⟩=some (.string TX):=by rw[ae bF.o.1];rfl
 have b3:V.cell? ⟨bx,3,none⟩=some (.int .i64 nu):=by rw[ae bF.o.1];rfl
 have b4:V.cell? ⟨bx,4,none⟩=some (.slice o m c):=by rw[ae bF.o.1];rfl
 have b5:V.cell? ⟨bx,5,none⟩=some (.int .i64 (pl:Nat)):=by rw[ae bF.o.1];rfl
 obtain⟨-,-,d0,-,-,-,-,-⟩:=nC.o.cells;obtain⟨Z,hZ⟩:=zN (AL R);have HZ:Hd (AL R=Z):=hZ;clear hZ
 by_cases e1:ky=lK
 ·have hb1:(KY.toList == [110,97,109,101])=true:=(qy jy.o).1 e1;have CN:Hd (Calls prog 113 #[.pointer (some ⟨D,0,none⟩),.agg #[.int .i64 kd,.string KY,.string TX,.int .i64 nu,.slice o m c,.int .i64 (pl:Nat)],.pointer (some ⟨E,e*4,none⟩)] V fun e' w'=>e'=.returned (.int .i64 Z)/\Hd (EK w0 T D Lb nv kv ns R w')):=by
   have:=afr nC.o ⟨kd,ky,tx,nu,ks,pl⟩ o m c e E el c3 aN.o.2 rfl (by rw[aN.o.1];exact lu.o.2.2) lu.o.2.1;unfold dM at this;simp only[]at this;rw[jy.o,oV.o]at this;refine this.mono fun e' w' hh=>?_
   have hy:R=(if takeD ⟨kd,ky,tx,nu,ks,pl⟩ nameB=0 then if az d.es (gq ⟨kd,ky,tx,nu,ks,pl⟩)=true then .error 5 else .ok (l7 d e ⟨gq ⟨kd,ky,tx,nu,ks,pl⟩,(aT d.es e).ve,(aT d.es e).dg,(aT d.es e).nd⟩) else .error (takeD ⟨kd,ky,tx,nu,ks,pl⟩ nameB)):=by
    rw[<-HR0.o];unfold jG;rw[if_pos e1]
   rw[<-hy]at hh;obtain⟨a1,a2⟩:=OE hh;exact⟨by rw[a1,HZ.o],a2⟩
  clear e1 HR0;go_wp2_with (go_at_call 113;refine CN.o.mono ?_)
  first|rintro e' w2 rfl h2|rintro e' w2 ⟨rfl,h2⟩
  go_wp2;go_ret;exact OD HZ.o h2.o
 ·have hb1:(KY.toList == [110,97,109,101])=false:=(qy jy.o).2 e1
  by_cases e2:ky=kH
  ·have hb2:(KY.toList == [118,101,114,115,105,111,110])=true:=(qy jy.o).1 e2;have hy:R=rP d ⟨kd,ky,tx,nu,ks,pl⟩ okV e ⟨(aT d.es e).nm,gq ⟨kd,ky,tx,nu,ks,pl⟩,(aT d.es e).dg,(aT d.es e).nd⟩:=by
    rw[<-HR0.o];unfold jG;rw[if_neg e1,if_pos e2]
   have CT:Hd (∀w',V.grownBy w' none->Calls prog 114 #[.agg #[.int .i64 kd,.string KY,.string TX,.int .i64 nu,.slice o m c,.int .i64 (pl:Nat)],.func (.func 55) #[] #[],.pointer (some ⟨E,e*4+1,none⟩)] w' fun e' w''=>e'=.returned (.int .i64 Z)/\Hd (EK w0 T D Lb nv kv ns R w'')/\w''.cell? ⟨a,0,none⟩=some (.pointer (some ⟨D,0,none⟩))/\w''.cell? ⟨b,0,none⟩=some (.int .i64 (e:Nat))/\w''.cell? ⟨bx,0,none⟩=some (.int .i64 kd)/\w''.cell? ⟨bx,1,none⟩=some (.string KY)/\w''.cell? ⟨bx,2,none⟩=some (.string TX)/\w''.cell? ⟨bx,3,none⟩=some (.int .i64 nu)/\w''.cell? ⟨bx,4,none⟩=some (.slice o m c)/\w''.cell? ⟨bx,5,none⟩=some (.int .i64 (pl:Nat))):=fun w' hg=>by
    have:=XI (nC.o.grow hg) ⟨kd,ky,tx,nu,ks,pl⟩ o m c e 55 1 aN.o.2 (by decide) okV egV (fun w'=>VE _ w' lu.o.1) ⟨(aT d.es e).nm,gq ⟨kd,ky,tx,nu,ks,pl⟩,(aT d.es e).dg,(aT d.es e).nd⟩ (by rw[qA aN.o.2]) (by rw[qA aN.o.2];rfl) (by rw[qA aN.o.2];rfl) (by rw[qA aN.o.2]);unfold dM at this;simp only[]at this;rw[jy.o,oV.o]at this;refine this.mono fun e' w'' ⟨a1,a3⟩=>?_
    rw[<-hy]at a1;obtain⟨a1,a2⟩:=OE a1;have y1:=(a3 _ (by decide)).blk ((aU hg).blk bF.o.1);have y2:=(a3 _ (by decide)).blk ((aU hg).blk bF.o.2.1);have y3:=(a3 _ (by decide)).blk ((aU hg).blk bF.o.2.2);refine⟨by rw[a1,HZ.o],a2,by rw[ae y2];rfl,by rw[ae y3];rfl,by rw[ae y1];rfl,by rw[ae y1];rfl,by rw[ae y1];rfl,by rw[ae y1];rfl,by rw[ae y1];rfl,by rw[ae y1];rfl⟩
   have gV:Hd (V.grownBy V.drew none):=au (ai V none) 1;clear hy HR0 e1 e2;go_wp2
   go_region_held3 (fun u=>u.cell? ⟨a,0,none⟩=some (.pointer (some ⟨D,0,none⟩))/\u.cell? ⟨b,0,none⟩=some (.int .i64 (e:Nat))/\u.cell? ⟨bx,0,none⟩=some (.int .i64 kd)/\u.cell? ⟨bx,1,none⟩=some (.string KY)/\u.cell? ⟨bx,2,none⟩=some (.string TX)/\u.cell? ⟨bx,3,none⟩=some (.int .i64 nu)/\u.cell? ⟨bx,4,none⟩=some (.slice o m c)/\u.cell? ⟨bx,5,none⟩=some (.int .i64 (pl:Nat))) ((first|assumption|exact OA (by assumption) (by assumption)|go_keep)) (first|(go_at_call 114;refine(CT.o _ gV.o).mono ?_;rintro e' w7 ⟨rfl,hall,hcl⟩))
   go_wp2;go_ret;exact OD HZ.o hall.o
  ·have hb2:(KY.toList == [118,101,114,115,105,111,110])=false:=(qy jy.o).2 e2
   by_cases e3:ky=lJ
   ·have hb3:(KY.toList == [100,105,103,101,115,116])=true:=(qy jy.o).1 e3;have hy:R=rP d ⟨kd,ky,tx,nu,ks,pl⟩ o9 e ⟨(aT d.es e).nm,(aT d.es e).ve,gq ⟨kd,ky,tx,nu,ks,pl⟩,(aT d.es e).nd⟩:=by
     rw[<-HR0.o];unfold jG;rw[if_neg e1,if_neg e2,if_pos e3]
    have CT:Hd (∀w',V.grownBy w' none->Calls prog 114 #[.agg #[.int .i64 kd,.string KY,.string TX,.int .i64 nu,.slice o m c,.int .i64 (pl:Nat)],.func (.func 56) #[] #[],.pointer (some ⟨E,e*4+2,none⟩)] w' fun e' w''=>e'=.returned (.int .i64 Z)/\Hd (EK w0 T D Lb nv kv ns R w'')/\w''.cell? ⟨a,0,none⟩=some (.pointer (some ⟨D,0,none⟩))/\w''.cell? ⟨b,0,none⟩=some (.int .i64 (e:Nat))/\w''.cell? ⟨bx,0,none⟩=some (.int .i64 kd)/\w''.cell? ⟨bx,1,none⟩=some (.string KY)/\w''.cell? ⟨bx,2,none⟩=some (.string TX)/\w''.cell? ⟨bx,3,none⟩=some (.int .i64 nu)/\w''.cell? ⟨bx,4,none⟩=some (.slice o m c)/\w''.cell? ⟨bx,5,none⟩=some (.int .i64 (pl:Nat))):=fun w' hg=>by
     have:=XI (nC.o.grow hg) ⟨kd,ky,tx,nu,ks,pl⟩ o m c e 56 2 aN.o.2 (by decide) o9 egD (fun w'=>(UV _ w').mono fun e' w'' h=>⟨by rw[h.1,UW];rfl,h.2 ▸ ai _ none⟩) ⟨(aT d.es e).nm,(aT d.es e).ve,gq ⟨kd,ky,tx,nu,ks,pl⟩,(aT d.es e).nd⟩ (by rw[qA aN.o.2]) (by rw[qA aN.o.2];rfl) (by rw[qA aN.o.2];rfl) (by rw[qA aN.o.2]);unfold dM at this;simp only[]at this;rw[jy.o,oV.o]at this;refine this.mono fun e' w'' ⟨a1,a3⟩=>?_
     rw[<-hy]at a1;obtain⟨a1,a2⟩:=OE a1;have y1:=(a3 _ (by decide)).blk ((aU hg).blk bF.o.1);have y2:=(a3 _ (by decide)).blk ((aU hg).blk bF.o.2.1);have y3:=(a3 _ (by decide)).blk ((aU hg).blk bF.o.2.2);refine⟨by rw[a1,HZ.o],a2,by rw[ae y2];rfl,by rw[ae y3];rfl,by rw[ae y1];rfl,by rw[ae y1];rfl,by rw[ae y1];rfl,by rw[ae y1];rfl,by rw[ae y1];rfl,by rw[ae y1];rfl⟩
    have gV:Hd (V.grownBy V.drew none):=au (ai V none) 1;clear hy HR0 e1 e2 e3;go_wp2
    go_region_held3 (fun u=>u.cell? ⟨a,0,none⟩=some (.pointer (some ⟨D,0,none⟩))/\u.cell? ⟨b,0,none⟩=some (.int .i64 (e:Nat))/\u.cell? ⟨bx,0,none⟩=some (.int .i64 kd)/\u.cell? ⟨bx,1,none⟩=some (.string KY)/\u.cell? ⟨bx,2,none⟩=some (.string TX)/\u.cell? ⟨bx,3,none⟩=some (.int .i64 nu)/\u.cell? ⟨bx,4,none⟩=some (.slice o m c)/\u.cell? ⟨bx,5,none⟩=some (.int .i64 (pl:Nat))) ((first|assumption|exact OA (by assumption) (by assumption)|go_keep)) (first|(go_at_call 114;refine(CT.o _ gV.o).mono ?_;rintro e' w7 ⟨rfl,hall,hcl⟩))
    go_wp2;go_ret;exact OD HZ.o hall.o
   ·have hb3:(KY.toList == [100,105,103,101,115,116])=false:=(qy jy.o).2 e3
    by_cases e4:ky=kW
    ·have hb4:(KY.toList == [110,101,101,100,115])=true:=(qy jy.o).1 e4
     by_cases e5:kd=1
     ·have hb5:(kd == 1)=true:=by simpa using e5
      have hy:R=.ok (keepD d ks (.val e)):=by
       rw[<-HR0.o];unfold jG;rw[if_neg e1,if_neg e2,if_neg e3,if_pos ⟨e4,e5⟩]
      have gV:Hd (V.grownBy V.drew none):=au (ai V none) 1;have CV:Hd (Calls prog 115 #[.pointer (some ⟨D,0,none⟩),.int .i64 (e:Nat)] V.drew fun e' w'=>∃A C,e'=.returned (.func (.func 159) #[] #[.pointer (some ⟨A,0,none⟩),.pointer (some ⟨C,0,none⟩)])/\(w'.heap[A]?=some (.cells #[.pointer (some ⟨D,0,none⟩)] 83 (0,0))/\w'.heap[C]?=some (.cells #[.int .i64 (e:Nat)] 3 (0,0)))/\V.drew.grownBy w' none):=(afk D (e:Nat) V.drew).mono fun e' w' ⟨a1,a2⟩=>by
       refine⟨_,_,a1,⟨?_,?_⟩,by rw[a2];exact aP (aP (ai _ none) _) _⟩
       ·rw[a2,Lib.alloc_old _ _ _ (by simp)];exact heap_alloc_new _ _
       ·rw[a2];have:=heap_alloc_new (V.drew.alloc (.cells #[.pointer (some ⟨D,0,none⟩)] 83)) (.cells #[.int .i64 (e:Nat)] 3)
        rwa [World.size_alloc]at this
      have CK:Hd (∀A C w2,V.drew.grownBy w2 none->(w2.heap[A]?=some (.cells #[.pointer (some ⟨D,0,none⟩)] 83 (0,0))/\w2.heap[C]?=some (.cells #[.int .i64 (e:Nat)] 3 (0,0)))->Calls prog 40 #[.pointer (some ⟨T,0,none⟩),.agg #[.int .i64 kd,.string KY,.string TX,.int .i64 nu,.slice o m c,.int .i64 (pl:Nat)],.func (.func 159) #[] #[.pointer (some ⟨A,0,none⟩),.pointer (some ⟨C,0,none⟩)]] w2 fun e' w3=>e'=.returned (.tuple #[])/\Hd (Dm w0 T D Lb nv kv ns (keepD d ks (.val e)) w3 vt (.slice (some ⟨E,0,none⟩) el c3) vw xs vs)/\w3.cell? ⟨a,0,none⟩=some (.pointer (some ⟨D,0,none⟩))/\w3.cell? ⟨b,0,none⟩=some (.int .i64 (e:Nat))/\w3.cell? ⟨D,0,none⟩=some (.pointer (some ⟨T,0,none⟩))/\w3.cell? ⟨bx,0,none⟩=some (.int .i64 kd)/\w3.cell? ⟨bx,1,none⟩=some (.string KY)/\w3.cell? ⟨bx,2,none⟩=some (.string TX)/\w3.cell? ⟨bx,3,none⟩=some (.int .i64 nu)/\w3.cell? ⟨bx,4,none⟩=some (.slice o m c)/\w3.cell? ⟨bx,5,none⟩=some (.int .i64 (pl:Nat))):=fun A C w2 hg hAC=>by
       have hgW:=af gV.o hg;have:=keep_any (nC.o.grow hgW) ⟨kd,ky,tx,nu,ks,pl⟩ (.slice o m c) nz.o HR.o hl 159 #[.pointer (some ⟨A,0,none⟩),.pointer (some ⟨C,0,none⟩)] (.val e) ⟨A,C,rfl,hAC.1,hAC.2⟩;unfold dM at this;simp only[]at this;rw[jy.o,oV.o]at this;refine this.mono fun e' w3 ⟨a1,a2,a3⟩=>?_
       have y1:=(a3 _ (by decide)).blk ((aU hgW).blk bF.o.1);have y2:=(a3 _ (by decide)).blk ((aU hgW).blk bF.o.2.1);have y3:=(a3 _ (by decide)).blk ((aU hgW).blk bF.o.2.2);obtain⟨-,-,f0,-,-,-,-,-⟩:=a2.cells;exact⟨a1,a2,by rw[ae y2];rfl,by rw[ae y3];rfl,f0,by rw[ae y1];rfl,by rw[ae y1];rfl,by rw[ae y1];rfl,by rw[ae y1];rfl,by rw[ae y1];rfl,by rw[ae y1];rfl⟩
      have HY:Hd (R=.ok (keepD d ks (.val e))):=hy;clear hy HR0 e1 e2 e3 e4 e5;go_wp2
      go_region_held3 (fun u=>u.cell? ⟨a,0,none⟩=some (.pointer (some ⟨D,0,none⟩))/\u.cell? ⟨b,0,none⟩=some (.int .i64 (e:Nat))/\u.cell? ⟨D,0,none⟩=some (.pointer (some ⟨T,0,none⟩))/\u.cell? ⟨bx,0,none⟩=some (.int .i64 kd)/\u.cell? ⟨bx,1,none⟩=some (.string KY)/\u.cell? ⟨bx,2,none⟩=some (.string TX)/\u.cell? ⟨bx,3,none⟩=some (.int .i64 nu)/\u.cell? ⟨bx,4,none⟩=some (.slice o m c)/\u.cell? ⟨bx,5,none⟩=some (.int .i64 (pl:Nat))) ((first|assumption|exact cellsA (by assumption) (by assumption)|go_keep)) (first|(go_at_call 115;refine CV.o.mono ?_;rintro e' w6 ⟨A,C,rfl,EJ,bG⟩)|(go_at_call 40;refine(CK.o _ _ _ bG EJ).mono ?_;rintro e' w7 ⟨rfl,hall,hcl⟩))
      go_wp2;go_ret;rw[HY.o];exact xq hall.o
     ·have hb5:(kd == 1)=false:=by simpa using e5
      have HY:Hd (R=.error 7):=by
       show _=_;rw[<-HR0.o];unfold jG;rw[if_neg e1,if_neg e2,if_neg e3,if_neg (fun h=>e5 h.2)]
      clear HR0 e1 e2 e3 e4 e5;go_wp2;go_ret;rw[HY.o];exact mf (by decide) nC.o.gb
    ·have hb4:(KY.toList == [110,101,101,100,115])=false:=(qy jy.o).2 e4;have HY:Hd (R=.error 7):=by
      show _=_;rw[<-HR0.o];unfold jG;rw[if_neg e1,if_neg e2,if_neg e3,if_neg (fun h=>e4 h.1)]
     clear HR0 e1 e2 e3 e4;go_wp2;go_ret;rw[HY.o];exact mf (by decide) nC.o.gb
end
open Go.RowKit Go.Maps Go.WideMaps Go.Joins
section
variable {w0:World} {T D Lb:Nat} {nv:Value} {kv:Nat->Value} {ns:List Tn} {d:Dr} {w w':World} {vt ve vw:Value} {xs:List Value} {vs:Nat->Value}
theorem Dm.size(h:Dm w0 T D Lb nv kv ns d w vt ve vw xs vs):w0.heap.size<=w.heap.size:=Nat.le_of_lt (Nat.lt_of_le_of_lt h.bD (aA h.dra))
theorem OG{t:TypeId}{s n:Nat}{v:Value}{ys:List Value}(h:Dm w0 T D Lb nv kv ns d w vt ve vw xs vs)(hr:w.ownsRow w0.heap.size t s v n ys)(ht:¬86=t):some D≠v.ownBlock:=fun e=>by
 obtain⟨cc,hcc⟩:=(dV hr e.symm).2;exact aY h.dra hcc ht rfl
theorem tY{t X:TypeId}{s n a:Nat}{v:Value}{ys:List Value}{cs:Array Value}{fz:Nat × Nat}(ha:w.heap[a]?=some (.cells cs X fz))(hr:w.ownsRow w0.heap.size t s v n ys)(ht:¬X=t):some a≠v.ownBlock:=fun e=>by
 obtain⟨cc,hcc⟩:=(dV hr e.symm).2;exact aY ha hcc ht rfl
theorem cells9{w w':World}{a b bx:Nat}{va vb vc v0 v1 v2 v3 v4 v5:Value}(hg:w.grownBy w' none)(h:w.cell? ⟨a,0,none⟩=some va/\w.cell? ⟨b,0,none⟩=some vb/\w.cell? ⟨b,3,none⟩=some vc/\w.cell? ⟨bx,0,none⟩=some v0/\w.cell? ⟨bx,1,none⟩=some v1/\w.cell? ⟨bx,2,none⟩=some v2/\w.cell? ⟨bx,3,none⟩=some v3/\w.cell? ⟨bx,4,none⟩=some v4/\w.cell? ⟨bx,5,none⟩=some v5):w'.cell? ⟨a,0,none⟩=some va/\w'.cell? ⟨b,0,none⟩=some vb/\w'.cell? ⟨b,3,none⟩=some vc/\w'.cell? ⟨bx,0,none⟩=some v0/\w'.cell? ⟨bx,1,none⟩=some v1/\w'.cell? ⟨bx,2,none⟩=some v2/\w'.cell? ⟨bx,3,none⟩=some v3/\w'.cell? ⟨bx,4,none⟩=some v4/\w'.cell? ⟨bx,5,none⟩=some v5 :=
 ⟨hg.cell h.1 (by simp),hg.cell h.2.1 (by simp),hg.cell h.2.2.1 (by simp),hg.cell h.2.2.2.1 (by simp),hg.cell h.2.2.2.2.1 (by simp),hg.cell h.2.2.2.2.2.1 (by simp),hg.cell h.2.2.2.2.2.2.1 (by simp),hg.cell h.2.2.2.2.2.2.2.1 (by simp),hg.cell h.2.2.2.2.2.2.2.2 (by simp)⟩
theorem EL(w:World)(o:Obj):w.grownBy (w.drew.alloc o) none:=by
 have:=World.grownBy_alloc w.drew o none;exact⟨this.os,this.tape,this.output,this.size,this.block⟩
theorem yR{w w3:World}{o:Obj}{r:Option Nat}{b g k:Nat}{cs cg:Array Value}{t tg:TypeId}{fz fg:Nat × Nat}{v:Value}(hb:w.heap[b]?=some (.cells cs t fz))(hg:(w.drew.alloc o).grownBy w3 r)(hne:some b≠r)(hG:w.heap[g]?=some (.cells cg tg fg))(ht:¬t=tg):(w3.setCell ⟨g,k,none⟩ v).heap[b]?=some (.cells cs t fz):=by
 have h1:=(aU (EL w o)).blk hb;have h2:=(hg.block b (aA h1) hne).trans h1;exact(heap_setCell_other _ _ _ _ (aY hb hG ht)).trans h2
theorem Dm.tabs(h:Dm w0 T D Lb nv kv ns d w vt ve vw xs vs)(q:Nat){w1:World}{v':Value}(ho:w1.ownsRow w0.heap.size 90 6 v' (d.tb.length+1) (d.tb.flatMap (nZ kv ns)++nZ kv ns q))(hg:w.grownBy w1 vt.ownBlock):Dm w0 T D Lb nv kv ns ⟨d.lk,d.fm,d.tb++[q],d.es,d.wt⟩ (w1.setCell ⟨D,2,none⟩ v') v' ve vw xs vs:=by
 have kt:∀t,¬t=90->Kt t w w1:=fun t ht=>AC h.tab hg ht
 have hc:=(kt _ (by decide)).blk h.dra;have k2:∀t,¬t=86->Kt t w1 (w1.setCell ⟨D,2,none⟩ v'):=fun t ht=>iJ _ hc ht
 have k3:∀t,¬t=90->¬t=86->Kt t w (w1.setCell ⟨D,2,none⟩ v'):=fun t h1 h2=>(kt t h1).two (k2 t h2)
 have g1:w0.grownBy w1 none:=by
  cases hb:vt.ownBlock with
  | none=>rw[hb]at hg;exact af h.gb hg
  | some g =>
   rw[hb]at hg;exact pq h.gb hg (dV h.tab hb).1
 refine⟨pq g1 (jL w1 D 2 _) h.bD,(k3 _ (by decide) (by decide)).blk h.tre,block_setCell (i:=2) hc _,h.lok.keep (k3 _ (by decide) (by decide)) ⟨k3 _ (by decide) (by decide),k3 _ (by decide) (by decide),k3 _ (by decide) (by decide)⟩,?_,h.ent.keep (k3 _ (by decide) (by decide)) (k3 _ (by decide) (by decide)),(k3 _ (by decide) (by decide)).row h.wan,h.bD,h.bL⟩;rw[List.length_append,List.flatMap_append];simp only[List.length_cons,List.length_nil,List.flatMap_cons,List.flatMap_nil,List.append_nil];exact(k2 _ (by decide)).row ho
theorem aft{W w3:World}{a bx q tl c2 g cap:Nat}{o2:Option Addr}{ys L6:List Value}{A6:Array Value}(h:Dm w0 T D Lb nv kv ns d W (.slice o2 tl c2) ve vw xs vs)(htl:d.tb.length=tl)(hys:d.tb.flatMap (nZ kv ns)=ys)(hX:nZ kv ns q=L6)(hb:W.heap[bx]?=some (.cells A6 90 (0,0)))(ha:W.heap[a]?=some (.cells #[.pointer (some ⟨D,0,none⟩)] 83 (0,0)))
  (hfb:some bx≠(Value.slice o2 tl c2).ownBlock) (hfa:some a≠(Value.slice o2 tl c2).ownBlock) (ho:w3.ownsRow w0.heap.size 90 6 (.slice (some ⟨g,0,none⟩) (tl+1) cap) (tl+1) (ys++L6)) (hg:(W.drew.alloc (.cells A6 90)).grownBy w3 (Value.slice o2 tl c2).ownBlock) :
  ∃v',Dm w0 T D Lb nv kv ns ⟨d.lk,d.fm,d.tb++[q],d.es,d.wt⟩ (w3.setCell ⟨D,2,none⟩ (.slice (some ⟨g,0,none⟩) (tl+1) cap)) v' ve vw xs vs/\(w3.setCell ⟨D,2,none⟩ (.slice (some ⟨g,0,none⟩) (tl+1) cap)).heap[bx]?=some (.cells A6 90 (0,0))/\(w3.setCell ⟨D,2,none⟩ (.slice (some ⟨g,0,none⟩) (tl+1) cap)).heap[a]?=some (.cells #[.pointer (some ⟨D,0,none⟩)] 83 (0,0)):=by
 have h2:=h.grow (EL W (.cells A6 90));refine⟨_,h2.tabs q (v':=.slice (some ⟨g,0,none⟩) (tl+1) cap) ?_ hg,yR hb hg hfb h.dra (by decide),yR ha hg hfa h.dra (by decide)⟩;rw[htl,hys,hX];exact ho
theorem Dm.ents(h:Dm w0 T D Lb nv kv ns d w vt ve vw xs vs){w1:World}{v':Value}(ho:w1.ownsRow w0.heap.size 44 4 v' (d.es.length+1) (xs++zE))(hg:w.grownBy w1 ve.ownBlock):Dm w0 T D Lb nv kv ns ⟨d.lk,d.fm,d.tb,d.es++[en0],d.wt⟩ (w1.setCell ⟨D,3,none⟩ v') vt v' vw (xs++zE) (fun i=>if i=d.es.length then .slice none 0 0 else vs i):=by
 have kt:∀t,¬t=44->Kt t w w1:=fun t ht=>AC h.ent.row hg ht
 have hc:=(kt _ (by decide)).blk h.dra;have k2:∀t,¬t=86->Kt t w1 (w1.setCell ⟨D,3,none⟩ v'):=fun t ht=>iJ _ hc ht
 have k3:∀t,¬t=44->¬t=86->Kt t w (w1.setCell ⟨D,3,none⟩ v'):=fun t h1 h2=>(kt t h1).two (k2 t h2)
 have g1:w0.grownBy w1 none:=by
  cases hb:ve.ownBlock with
  | none=>rw[hb]at hg;exact af h.gb hg
  | some g =>
   rw[hb]at hg;exact pq h.gb hg (dV h.ent.row hb).1
 exact⟨pq g1 (jL w1 D 3 _) h.bD,(k3 _ (by decide) (by decide)).blk h.tre,block_setCell (i:=3) hc _,h.lok.keep (k3 _ (by decide) (by decide)) ⟨k3 _ (by decide) (by decide),k3 _ (by decide) (by decide),k3 _ (by decide) (by decide)⟩,(k3 _ (by decide) (by decide)).row h.tab,(h.ent.push ho hg).keep (k2 _ (by decide)) (k2 _ (by decide)),(k3 _ (by decide) (by decide)).row h.wan,h.bD,h.bL⟩
theorem afu{W w3:World}{a bx el c3 g cap:Nat}{o3:Option Addr}{A6:Array Value}(h:Dm w0 T D Lb nv kv ns d W vt (.slice o3 el c3) vw xs vs)(hel:d.es.length=el)(hb:W.heap[bx]?=some (.cells A6 90 (0,0)))(ha:W.heap[a]?=some (.cells #[.pointer (some ⟨D,0,none⟩)] 83 (0,0)))
  (ho:w3.ownsRow w0.heap.size 44 4 (.slice (some ⟨g,0,none⟩) (el+1) cap) (el+1) (xs++[.string ⟨#[]⟩,.string ⟨#[]⟩,.string ⟨#[]⟩,.slice none 0 0])) (hg:(W.drew.alloc (.cells #[.string ⟨#[]⟩,.string ⟨#[]⟩,.string ⟨#[]⟩,.slice none 0 0] 44)).grownBy w3 (Value.slice o3 el c3).ownBlock) :
  ∃c' xs' vs' g',Dm w0 T D Lb nv kv ns ⟨d.lk,d.fm,d.tb,d.es++[en0],d.wt⟩ (w3.setCell ⟨D,3,none⟩ (.slice (some ⟨g,0,none⟩) (el+1) cap)) vt (.slice (some ⟨g',0,none⟩) (el+1) c') vw xs' vs'/\(w3.setCell ⟨D,3,none⟩ (.slice (some ⟨g,0,none⟩) (el+1) cap)).heap[bx]?=some (.cells A6 90 (0,0))/\(w3.setCell ⟨D,3,none⟩ (.slice (some ⟨g,0,none⟩) (el+1) cap)).heap[a]?=some (.cells #[.pointer (some ⟨D,0,none⟩)] 83 (0,0)):=by
 have h2:=h.grow (EL W (.cells #[.string ⟨#[]⟩,.string ⟨#[]⟩,.string ⟨#[]⟩,.slice none 0 0] 44));have hr:=h.ent.row;exact⟨cap,_,_,g,h2.ents (v':=.slice (some ⟨g,0,none⟩) (el+1) cap) (by rw[hel];exact ho) hg,yR hb hg (tY hb hr (by decide)) h.dra (by decide),yR ha hg (tY ha hr (by decide)) h.dra (by decide)⟩
theorem afv(h:Dm w0 T D Lb nv kv ns d w vt ve vw xs vs)(q:Nat)(hq:q<ns.length)(hk:NuS w0 (kv q) ns[q].ks)(hr:∀p∈ns[q].ks,p<ns.length)(hl:ns[q].ks.length<=1000000)(hel:d.es.length<=1000)(htl:d.tb.length<=1000)(a:Nat)(ha:w.heap[a]?=some (.cells #[.pointer (some ⟨D,0,none⟩)] 83 (0,0))) :
  Calls prog 71 #[.agg (dM ns[q] (kv q)),.pointer (some ⟨a,0,none⟩)] w (qx w0 T D Lb nv kv ns (gG d q ns[q] .tabs)):=by
 have nz:Hd (NuS w0 (kv q) ns[q].ks):=hk;obtain⟨o,c,hk0,-⟩:=hk;have HR:Hd (∀p∈ns[q].ks,p<ns.length):=hr;have HX:Hd (nZ kv ns q=(dM ns[q] (kv q)).toList):=by
  show _=_;unfold nZ;rw[List.getElem?_eq_getElem hq]
 obtain⟨x,hx⟩:=zN (ns[q]);rw[hx]at nz HR HX hl hk0 ⊢;obtain⟨kd,ky,tx,nu,ks,pl⟩:=x;obtain⟨KY,jQ⟩:∃t:ByteArray,⟨ky.toArray⟩=t:=⟨_,rfl⟩;obtain⟨TX,kJ⟩:∃t:ByteArray,⟨tx.toArray⟩=t:=⟨_,rfl⟩;have jy:Hd ((⟨ky.toArray⟩:ByteArray)=KY/\(⟨tx.toArray⟩:ByteArray)=TX):=⟨jQ,kJ⟩;obtain⟨m,hm⟩:=zN (ks.length);have hk1:kv q=.slice o m c:=by rw[hk0];show Value.slice o ks.length c=_;rw[hm]
 rw[hk1]at nz HX ⊢;unfold dM at HX ⊢;simp only[]at nz HR HX hl ⊢;rw[jQ,kJ]at HX ⊢;obtain⟨bx,hbx⟩:=zN (w.heap.size);obtain⟨W,hW⟩:=zN (w.alloc (.cells #[.int .i64 kd,.string KY,.string TX,.int .i64 nu,.slice o m c,.int .i64 (pl:Nat)] 90));have HG:Hd (w.grownBy W none):=hW ▸ aP (ai w none) _;have HD:Hd (Dm w0 T D Lb nv kv ns d W vt ve vw xs vs):=h.grow HG.o;have hB:W.heap[bx]?=some (.cells #[.int .i64 kd,.string KY,.string TX,.int .i64 nu,.slice o m c,.int .i64 (pl:Nat)] 90 (0,0)):=by rw[<-hW,<-hbx];exact heap_alloc_new _ _
 have uQ:=(aU HG.o).blk ha;have dJ:Hd (W.heap[bx]?=some (.cells #[.int .i64 kd,.string KY,.string TX,.int .i64 nu,.slice o m c,.int .i64 (pl:Nat)] 90 (0,0))/\W.heap[a]?=some (.cells #[.pointer (some ⟨D,0,none⟩)] 83 (0,0))):=⟨hB,uQ⟩;have HW:Hd (w.alloc (.cells #[.int .i64 kd,.string KY,.string TX,.int .i64 nu,.slice o m c,.int .i64 (pl:Nat)] 90)=W/\w.heap.size=bx):=⟨hW,hbx⟩;obtain⟨o2,c2,hvt⟩:=ku HD.o.tab;obtain⟨o3,c3,jo⟩:=ku HD.o.ent.row;subst hvt jo;have hrw:=h.tab;have ca:W.cell? ⟨a,0,none⟩=some (.pointer (some ⟨D,0,none⟩)):=by rw[ae uQ];rfl
 have b0:W.cell? ⟨bx,0,none⟩=some (.int .i64 kd):=by rw[ae hB];rfl
 have b1:W.cell? ⟨bx,1,none⟩=some (.string KY):=by rw[ae hB];rfl
 have b2:W.cell? ⟨bx,2,none⟩=some (.string TX):=by rw[ae hB];rfl
 have b3:W.cell? ⟨bx,3,none⟩=some (.int .i64 nu):=by rw[ae hB];rfl
 have b4:W.cell? ⟨bx,4,none⟩=some (.slice o m c):=by rw[ae hB];rfl
 have b5:W.cell? ⟨bx,5,none⟩=some (.int .i64 (pl:Nat)):=by rw[ae hB];rfl
 obtain⟨-,-,d0,-,d2,d3,-,-⟩:=HD.o.cells;have OH:=HD.o.gb;obtain⟨tl,AO⟩:∃tl,d.tb.length=tl:=⟨_,rfl⟩;have EM:Hd (d.tb.length=tl):=AO;unfold gG;simp only[];rw[AO]at d2 htl HD ⊢
 by_cases h50:tl=50
 ·have hb:((tl:Int) == 50)=true:=by rw[h50];rfl
  rw[if_pos h50];have bC:Hd (w0.grownBy W none):=OH;clear h hr hk0 ha hB uQ hW hbx jQ kJ hm hk1 hx OH AO h50 hrw d3 d0 b0 b1 b2 b3 b4 b5;go_enter func71,ntmps71;go_upto_region 1 with fail
  try rw[HW.o.1]
  try rw[HW.o.2]
  go_wp2;go_ret;exact mf (by decide) bC.o
 ·have hb:((tl:Int) == 50)=false:=by simpa using(show ¬(tl:Int)=50 by omega)
  rw[if_neg h50];obtain⟨i0,hi0,hii⟩:=Option.map_eq_some_iff.1 Qu;simp only[Prod.mk.injEq]at hii;obtain⟨hz0,hz1,hzb⟩:=hii;have hrow:=HD.o.tab;rw[AO]at hrow;obtain⟨ys,hys⟩:=zN (d.tb.flatMap (nZ kv ns));have mD:Hd (d.tb.flatMap (nZ kv ns)=ys):=hys;rw[hys]at hrow;have hone:∀u∈([.int .i64 kd,.string KY,.string TX,.int .i64 nu,.slice o m c,.int .i64 (pl:Nat)]:List Value),u.oneCell'=true:=by simp[Value.oneCell']
  have qB:Hd (some D≠(Value.slice o2 tl c2).ownBlock):=OG HD.o hrow (by decide);have XJ:Hd (some bx≠(Value.slice o2 tl c2).ownBlock):=by
   show _≠_;intro e;rw[AO]at hrw;obtain⟨cc,hcc⟩:=(dV hrw e.symm).2;have:=aA hcc;omega
  have lm:Hd (some a≠(Value.slice o2 tl c2).ownBlock):=tY uQ hrow (by decide);have nY:Hd (W.heap[D]?=some (.cells #[.pointer (some ⟨T,0,none⟩),.bool d.fm,.slice o2 tl c2,.slice o3 d.es.length c3,vw] 86 (0,0))):=HD.o.dra;obtain⟨K,hK⟩:=zN (W.heap.size);have hB0:w0.heap.size<=K:=by rw[<-hK];exact HD.o.size
  have dN:Hd ((W.drew.alloc (.cells #[.int .i64 kd,.string KY,.string TX,.int .i64 nu,.slice o m c,.int .i64 (pl:Nat)] 90)).heap[K]?=some (.cells #[.int .i64 kd,.string KY,.string TX,.int .i64 nu,.slice o m c,.int .i64 (pl:Nat)] 90 (0,0))):=by
   have:=heap_alloc_new W.drew (.cells #[.int .i64 kd,.string KY,.string TX,.int .i64 nu,.slice o m c,.int .i64 (pl:Nat)] 90);rw[show W.drew.heap.size=K from hK]at this;exact this
  have caA:(W.alloc (.cells #[.int .i64 kd,.string KY,.string TX,.int .i64 nu,.slice o m c,.int .i64 (pl:Nat)] 90)).cell? ⟨a,0,none⟩=some (.pointer (some ⟨D,0,none⟩)):=(World.grownBy_alloc W _ none).cell ca (by simp);have d2A:(W.alloc (.cells #[.int .i64 kd,.string KY,.string TX,.int .i64 nu,.slice o m c,.int .i64 (pl:Nat)] 90)).cell? ⟨D,2,none⟩=some (.slice o2 tl c2):=(World.grownBy_alloc W _ none).cell d2 (by simp);clear h hr hk0 ha hB uQ hW hbx jQ kJ hm hk1 hx OH AO h50 hys hrw;go_enter func71,ntmps71;go_upto_region 1 with fail
  try rw[HW.o.1]
  try rw[HW.o.2]
  go_upto_region 3 with fail
  go_cut [] from 20 (fun wx=>∃v',Dm w0 T D Lb nv kv ns ⟨d.lk,d.fm,d.tb++[q],d.es,d.wt⟩ wx v' (.slice o3 d.es.length c3) vw xs vs/\wx.heap[bx]?=some (.cells #[.int .i64 kd,.string KY,.string TX,.int .i64 nu,.slice o m c,.int .i64 (pl:Nat)] 90 (0,0))/\wx.heap[a]?=some (.cells #[.pointer (some ⟨D,0,none⟩)] 83 (0,0)))
  case first =>
   go_region_law (refine step_append_lies _ (by rfl) _ _ _ (by rfl) w0.heap.size 90 i0 _ 6 80 underlying48 hi0 hz0 hz1 hzb (by rfl) (by decide) (.slice o2 tl c2) tl ys (by rfl) (hrow.drew.alloc _) ⟨K,0,none⟩ 1 1 [.int .i64 kd,.string KY,.string TX,.int .i64 nu,.slice o m c,.int .i64 (pl:Nat)] (by rfl) (by rfl) (World.news_of_block dN.o) hone (by omega) (by unfold maxLen;omega) (by omega) (by simp;omega) _ rfl ?_;intro g cap w3 hown3 hgrow hat hlt3;have hc3:w3.cell? ⟨D,2,none⟩=some (.slice o2 tl c2):=sF d2 hgrow qB.o;have zi:w3.frozen? ⟨D,2,none⟩=false:=xN nY.o hgrow qB.o;have afw:w3.cell? ⟨a,0,none⟩=some (.pointer (some ⟨D,0,none⟩)):=sF ca hgrow lm.o)
   all_goals (
    go_wp2_with fail;go_meet;exact aft HD.o EM.o mD.o HX.o dJ.o.1 dJ.o.2 XJ.o lm.o hown3 hgrow)
  case rest =>
   obtain⟨v',hd2,hbx2,ha2⟩:=hcut;clear HD mD XJ qB lm nY dN hrow hi0 hz0 hz1 hzb ca d2 caA d2A b0 b1 b2 b3 b4 b5;obtain⟨i1,hi1,hjj⟩:=Option.map_eq_some_iff.1 L8;simp only[Prod.mk.injEq]at hjj;obtain⟨hy0,hy1,hyb⟩:=hjj;obtain⟨el,og⟩:∃el,d.es.length=el:=⟨_,rfl⟩;have aN:Hd (d.es.length=el):=og;rw[og]at hd2 hel;have hrow:=hd2.ent.row;rw[show(⟨d.lk,d.fm,d.tb++[q],d.es,d.wt⟩:Dr).es.length=el from og]at hrow;obtain⟨-,-,-,-,-,d3,-,-⟩:=hd2.cells;have ca:wc.cell? ⟨a,0,none⟩=some (.pointer (some ⟨D,0,none⟩)):=by rw[ae ha2];rfl
   have xO:∀u∈([.string ⟨#[]⟩,.string ⟨#[]⟩,.string ⟨#[]⟩,.slice none 0 0]:List Value),u.oneCell'=true:=by simp[Value.oneCell']
   have qB:Hd (some D≠(Value.slice o3 el c3).ownBlock):=OG hd2 hrow (by decide);have lm:Hd (some a≠(Value.slice o3 el c3).ownBlock):=tY ha2 hrow (by decide);have nY:Hd (wc.heap[D]?=some (.cells #[.pointer (some ⟨T,0,none⟩),.bool d.fm,v',.slice o3 el c3,vw] 86 (0,0))):=hd2.dra;obtain⟨K2,hK2⟩:∃K,wc.heap.size=K:=⟨_,rfl⟩;have hB2:w0.heap.size<=K2:=by rw[<-hK2];exact hd2.size
   have dN:Hd ((wc.drew.alloc (.cells #[.string ⟨#[]⟩,.string ⟨#[]⟩,.string ⟨#[]⟩,.slice none 0 0] 44)).heap[K2]?=some (.cells #[.string ⟨#[]⟩,.string ⟨#[]⟩,.string ⟨#[]⟩,.slice none 0 0] 44 (0,0))):=by
    have:=heap_alloc_new wc.drew (.cells #[.string ⟨#[]⟩,.string ⟨#[]⟩,.string ⟨#[]⟩,.slice none 0 0] 44);rw[show wc.drew.heap.size=K2 from hK2]at this;exact this
   have caA:(wc.alloc (.cells #[.string ⟨#[]⟩,.string ⟨#[]⟩,.string ⟨#[]⟩,.slice none 0 0] 44)).cell? ⟨a,0,none⟩=some (.pointer (some ⟨D,0,none⟩)):=(World.grownBy_alloc wc _ none).cell ca (by simp);have d3A:(wc.alloc (.cells #[.string ⟨#[]⟩,.string ⟨#[]⟩,.string ⟨#[]⟩,.slice none 0 0] 44)).cell? ⟨D,3,none⟩=some (.slice o3 el c3):=(World.grownBy_alloc wc _ none).cell d3 (by simp);have HD2:Hd (Dm w0 T D Lb nv kv ns ⟨d.lk,d.fm,d.tb++[q],d.es,d.wt⟩ wc v' (.slice o3 el c3) vw xs vs):=hd2;have OI:Hd (wc.heap[bx]?=some (.cells #[.int .i64 kd,.string KY,.string TX,.int .i64 nu,.slice o m c,.int .i64 (pl:Nat)] 90 (0,0))/\wc.heap[a]?=some (.cells #[.pointer (some ⟨D,0,none⟩)] 83 (0,0))):=⟨hbx2,ha2⟩;clear hd2 hbx2 ha2 og;go_upto_region 4 with fail
   go_cut [] from 30 (fun wx=>∃c' xs' vs' g',Dm w0 T D Lb nv kv ns ⟨d.lk,d.fm,d.tb++[q],d.es++[en0],d.wt⟩ wx v' (.slice (some ⟨g',0,none⟩) (el+1) c') vw xs' vs'/\wx.heap[bx]?=some (.cells #[.int .i64 kd,.string KY,.string TX,.int .i64 nu,.slice o m c,.int .i64 (pl:Nat)] 90 (0,0))/\wx.heap[a]?=some (.cells #[.pointer (some ⟨D,0,none⟩)] 83 (0,0)))
   case first =>
    go_region_law (refine step_append_lies _ (by rfl) _ _ _ (by rfl) w0.heap.size 44 i1 _ 4 72 underlying26 hi1 hy0 hy1 hyb (by rfl) (by decide) (.slice o3 el c3) el xs (by rfl) (hrow.drew.alloc _) ⟨K2,0,none⟩ 1 1 [.string ⟨#[]⟩,.string ⟨#[]⟩,.string ⟨#[]⟩,.slice none 0 0] (by rfl) (by rfl) (World.news_of_block dN.o) xO (by omega) (by unfold maxLen;omega) (by omega) (by simp;omega) _ rfl ?_;intro g cap w3 hown3 hgrow hat hlt3;have hc3:w3.cell? ⟨D,3,none⟩=some (.slice o3 el c3):=sF d3 hgrow qB.o;have zi:w3.frozen? ⟨D,3,none⟩=false:=xN nY.o hgrow qB.o;have afw:w3.cell? ⟨a,0,none⟩=some (.pointer (some ⟨D,0,none⟩)):=sF ca hgrow lm.o)
    all_goals (
     go_wp2_with fail;go_meet;exact afu HD2.o aN.o OI.o.1 OI.o.2 hown3 hgrow)
   case rest =>
    obtain⟨c',xs',vs',g',hd3,xw,OJ⟩:=hcut;clear HD2 OI qB lm nY dN hrow hi1 hy0 hy1 hyb ca d3 caA d3A;obtain⟨-,-,e0,-,-,e3,-,-⟩:=hd3.cells;have ca:wc.cell? ⟨a,0,none⟩=some (.pointer (some ⟨D,0,none⟩)):=by rw[ae OJ];rfl
    have b0:wc.cell? ⟨bx,0,none⟩=some (.int .i64 kd):=by rw[ae xw];rfl
    have b1:wc.cell? ⟨bx,1,none⟩=some (.string KY):=by rw[ae xw];rfl
    have b2:wc.cell? ⟨bx,2,none⟩=some (.string TX):=by rw[ae xw];rfl
    have b3:wc.cell? ⟨bx,3,none⟩=some (.int .i64 nu):=by rw[ae xw];rfl
    have b4:wc.cell? ⟨bx,4,none⟩=some (.slice o m c):=by rw[ae xw];rfl
    have b5:wc.cell? ⟨bx,5,none⟩=some (.int .i64 (pl:Nat)):=by rw[ae xw];rfl
    have HD3:Hd (Dm w0 T D Lb nv kv ns ⟨d.lk,d.fm,d.tb++[q],d.es++[en0],d.wt⟩ wc v' (.slice (some ⟨g',0,none⟩) (el+1) c') vw xs' vs'):=hd3;have XK:Hd (wc.heap[bx]?=some (.cells #[.int .i64 kd,.string KY,.string TX,.int .i64 nu,.slice o m c,.int .i64 (pl:Nat)] 90 (0,0))/\wc.heap[a]?=some (.cells #[.pointer (some ⟨D,0,none⟩)] 83 (0,0))):=⟨xw,OJ⟩;have gV:Hd (wc.grownBy wc.drew none):=au (ai wc none) 1;have CT:Hd (Calls prog 72 #[.pointer (some ⟨D,0,none⟩),.int .i64 (el:Nat)] wc.drew fun e w'=>∃A C,e=.returned (.func (.func 112) #[] #[.pointer (some ⟨A,0,none⟩),.pointer (some ⟨C,0,none⟩)])/\(w'.heap[A]?=some (.cells #[.pointer (some ⟨D,0,none⟩)] 83 (0,0))/\w'.heap[C]?=some (.cells #[.int .i64 (el:Nat)] 3 (0,0)))/\wc.drew.grownBy w' none):=(afj D (el:Nat) wc.drew).mono fun e w' ⟨a1,a2⟩=>by
     refine⟨_,_,a1,⟨?_,?_⟩,by rw[a2];exact aP (aP (ai _ none) _) _⟩
     ·rw[a2,Lib.alloc_old _ _ _ (by simp)];exact heap_alloc_new _ _
     ·rw[a2];have:=heap_alloc_new (wc.drew.alloc (.cells #[.pointer (some ⟨D,0,none⟩)] 83)) (.cells #[.int .i64 (el:Nat)] 3)
      rwa [World.size_alloc]at this
    have CK:Hd (∀A C w2,wc.drew.grownBy w2 none->(w2.heap[A]?=some (.cells #[.pointer (some ⟨D,0,none⟩)] 83 (0,0))/\w2.heap[C]?=some (.cells #[.int .i64 (el:Nat)] 3 (0,0)))->Calls prog 40 #[.pointer (some ⟨T,0,none⟩),.agg #[.int .i64 kd,.string KY,.string TX,.int .i64 nu,.slice o m c,.int .i64 (pl:Nat)],.func (.func 112) #[] #[.pointer (some ⟨A,0,none⟩),.pointer (some ⟨C,0,none⟩)]] w2 fun e w3=>e=.returned (.tuple #[])/\Hd (Dm w0 T D Lb nv kv ns (keepD ⟨d.lk,d.fm,d.tb++[q],d.es++[en0],d.wt⟩ ks (.key el)) w3 v' (.slice (some ⟨g',0,none⟩) (el+1) c') vw xs' vs')/\w3.cell? ⟨a,0,none⟩=some (.pointer (some ⟨D,0,none⟩))/\w3.cell? ⟨D,0,none⟩=some (.pointer (some ⟨T,0,none⟩))/\w3.cell? ⟨D,3,none⟩=some (.slice (some ⟨g',0,none⟩) (el+1) c')/\w3.cell? ⟨bx,0,none⟩=some (.int .i64 kd)/\w3.cell? ⟨bx,1,none⟩=some (.string KY)/\w3.cell? ⟨bx,2,none⟩=some (.string TX)/\w3.cell? ⟨bx,3,none⟩=some (.int .i64 nu)/\w3.cell? ⟨bx,4,none⟩=some (.slice o m c)/\w3.cell? ⟨bx,5,none⟩=some (.int .i64 (pl:Nat))):=fun A C w2 hg hAC=>by
     have hgW:=af gV.o hg;have:=keep_any (HD3.o.grow hgW) ⟨kd,ky,tx,nu,ks,pl⟩ (.slice o m c) nz.o HR.o hl 112 #[.pointer (some ⟨A,0,none⟩),.pointer (some ⟨C,0,none⟩)] (.key el) ⟨A,C,rfl,hAC.1,hAC.2⟩;unfold dM at this;simp only[]at this;rw[jy.o.1,jy.o.2]at this;refine this.mono fun e w3 ⟨a1,a2,a3⟩=>?_
     have y1:=(a3 _ (by decide)).blk ((aU hgW).blk XK.o.1);have y2:=(a3 _ (by decide)).blk ((aU hgW).blk XK.o.2);obtain⟨-,-,f0,-,-,f3,-,-⟩:=a2.cells;exact⟨a1,a2,by rw[ae y2];rfl,f0,f3,by rw[ae y1];rfl,by rw[ae y1];rfl,by rw[ae y1];rfl,by rw[ae y1];rfl,by rw[ae y1];rfl,by rw[ae y1];rfl⟩
    have hwr:IntKind.i64.wrap (el:Int)=(el:Int):=by rw[IntKind.wrap_i64];omega
    clear hd3 xw OJ;go_upto_region 5 with fail
    go_region_held3 (fun u=>u.cell? ⟨a,0,none⟩=some (.pointer (some ⟨D,0,none⟩))/\u.cell? ⟨D,0,none⟩=some (.pointer (some ⟨T,0,none⟩))/\u.cell? ⟨D,3,none⟩=some (.slice (some ⟨g',0,none⟩) (el+1) c')/\u.cell? ⟨bx,0,none⟩=some (.int .i64 kd)/\u.cell? ⟨bx,1,none⟩=some (.string KY)/\u.cell? ⟨bx,2,none⟩=some (.string TX)/\u.cell? ⟨bx,3,none⟩=some (.int .i64 nu)/\u.cell? ⟨bx,4,none⟩=some (.slice o m c)/\u.cell? ⟨bx,5,none⟩=some (.int .i64 (pl:Nat))) ((first|assumption|exact cells9 (by assumption) (by assumption)|go_keep)) (first|(go_at_call 72;(try rw[hwr]);refine CT.o.mono ?_;rintro e w6 ⟨A,C,rfl,EJ,bG⟩)|(go_at_call 40;refine(CK.o _ _ _ bG EJ).mono ?_;rintro e w7 ⟨rfl,hall,hcl⟩))
    go_wp2;go_ret;have:=hall.o;rw[aN.o];exact xq hall.o
end
open Go.RowKit Go.Maps Go.WideMaps Go.Joins
theorem afx:(prog.info? 138).map (fun i=>(i.zero,i.size,i.bytes))=some (some (.agg #[.string ⟨#[]⟩,.int .i64 0]),2,24):=by kernel_rfl
section
variable {w0:World} {T D Lb:Nat} {nv:Value} {kv:Nat->Value} {ns:List Tn} {d:Dr} {w w':World} {vt ve vw:Value} {xs:List Value} {vs:Nat->Value}
theorem XL{t:TypeId}{s n:Nat}{v:Value}{ys:List Value}{w1:World}(h:w0.grownBy w none)(hr:w.ownsRow w0.heap.size t s v n ys)(hg:w.grownBy w1 v.ownBlock):w0.grownBy w1 none:=by
 cases hb:v.ownBlock with
 | none=>rw[hb]at hg;exact af h hg
 | some g =>
  rw[hb]at hg;exact pq h hg (dV hr hb).1
theorem Dm.need{E n c:Nat}(h:Dm w0 T D Lb nv kv ns d w vt (.slice (some ⟨E,0,none⟩) n c) vw xs vs){i:Nat}(hi:i<d.es.length)(s:ByteArray){w1:World}{v':Value}(ho:w1.ownsRow w0.heap.size 9 1 v' (d.es[i].nd.length+1) (d.es[i].nd.map Value.string++[.string s]))(hg:w.grownBy w1 (vs i).ownBlock)(hat:v'.ownBlock=(vs i).ownBlock\/v'.ownBlock=some w.heap.size\/∃g,v'.ownBlock=some g/\w.heap.size<=g) :
  Dm w0 T D Lb nv kv ns ⟨d.lk,d.fm,d.tb,d.es.set i ⟨d.es[i].nm,d.es[i].ve,d.es[i].dg,d.es[i].nd++[s]⟩,d.wt⟩ (w1.setCell ⟨E,i*4+3,none⟩ v') vt (.slice (some ⟨E,0,none⟩) n c) vw (xs.set (i*4+3) v') (fun j=>if j=i then v' else vs j):=by
 have hr:=h.ent.nee i hi;have kt:∀t,¬t=9->Kt t w w1:=fun t ht=>AC hr hg ht
 obtain⟨OB,cur,hE⟩:=dV h.ent.row rfl;have hc:=(kt _ (by decide)).blk hE;have k3:∀t,¬t=9->¬t=44->Kt t w (w1.setCell ⟨E,i*4+3,none⟩ v'):=fun t h1 h2=>(kt t h1).two (iJ _ hc h2)
 exact⟨pq (XL h.gb hr hg) (jL w1 E _ _) OB,(k3 _ (by decide) (by decide)).blk h.tre,(k3 _ (by decide) (by decide)).blk h.dra,h.lok.keep (k3 _ (by decide) (by decide)) ⟨k3 _ (by decide) (by decide),k3 _ (by decide) (by decide),k3 _ (by decide) (by decide)⟩,(k3 _ (by decide) (by decide)).row h.tab,h.ent.need hi s ho hg hat,(k3 _ (by decide) (by decide)).row h.wan,h.bD,h.bL⟩
theorem Dm.want(h:Dm w0 T D Lb nv kv ns d w vt ve vw xs vs)(y:ByteArray × Nat){w1:World}{v':Value}(ho:w1.ownsRow w0.heap.size 138 2 v' (d.wt.length+1) (d.wt.flatMap tX++tX y))(hg:w.grownBy w1 vw.ownBlock):Dm w0 T D Lb nv kv ns ⟨d.lk,d.fm,d.tb,d.es,d.wt++[y]⟩ (w1.setCell ⟨D,4,none⟩ v') vt ve v' xs vs:=by
 have kt:∀t,¬t=138->Kt t w w1:=fun t ht=>AC h.wan hg ht
 have hc:=(kt _ (by decide)).blk h.dra;have k2:∀t,¬t=86->Kt t w1 (w1.setCell ⟨D,4,none⟩ v'):=fun t ht=>iJ _ hc ht
 have k3:∀t,¬t=138->¬t=86->Kt t w (w1.setCell ⟨D,4,none⟩ v'):=fun t h1 h2=>(kt t h1).two (k2 t h2)
 refine⟨pq (XL h.gb h.wan hg) (jL w1 D 4 _) h.bD,(k3 _ (by decide) (by decide)).blk h.tre,block_setCell (i:=4) hc _,h.lok.keep (k3 _ (by decide) (by decide)) ⟨k3 _ (by decide) (by decide),k3 _ (by decide) (by decide),k3 _ (by decide) (by decide)⟩,(k3 _ (by decide) (by decide)).row h.tab,h.ent.keep (k3 _ (by decide) (by decide)) (k3 _ (by decide) (by decide)),?_,h.bD,h.bL⟩;rw[List.length_append,List.flatMap_append];simp only[List.length_cons,List.length_nil,List.flatMap_cons,List.flatMap_nil,List.append_nil];exact(k2 _ (by decide)).row ho
theorem afy{W w3:World}{a bx nb e E n c3 m4 c4 g cap:Nat}{o4:Option Addr}{A6:Array Value}{TX:ByteArray}(h:Dm w0 T D Lb nv kv ns d W vt (.slice (some ⟨E,0,none⟩) n c3) vw xs vs)(he:e<d.es.length)(hv:vs e=.slice o4 m4 c4)(hm:d.es[e].nd.length=m4)(hb:W.heap[bx]?=some (.cells A6 90 (0,0)))(ha:W.heap[a]?=some (.cells #[.pointer (some ⟨D,0,none⟩)] 83 (0,0)))(hn:W.heap[nb]?=some (.cells #[.string TX] 9 (0,0)))
  (hfn:some nb≠(Value.slice o4 m4 c4).ownBlock) (ho:w3.ownsRow w0.heap.size 9 1 (.slice (some ⟨g,0,none⟩) (m4+1) cap) (m4+1) (d.es[e].nd.map Value.string++[.string TX])) (hg:(W.drew.alloc (.cells #[.string TX] 9)).grownBy w3 (Value.slice o4 m4 c4).ownBlock) (hat:(Value.slice o4 m4 c4).ownBlock=some g\/g=(W.drew.alloc (.cells #[.string TX] 9)).heap.size) :
  ∃xs' vs',Dm w0 T D Lb nv kv ns ⟨d.lk,d.fm,d.tb,d.es.set e ⟨d.es[e].nm,d.es[e].ve,d.es[e].dg,d.es[e].nd++[TX]⟩,d.wt⟩ (w3.setCell ⟨E,e*4+3,none⟩ (.slice (some ⟨g,0,none⟩) (m4+1) cap)) vt (.slice (some ⟨E,0,none⟩) n c3) vw xs' vs'/\(w3.setCell ⟨E,e*4+3,none⟩ (.slice (some ⟨g,0,none⟩) (m4+1) cap)).heap[bx]?=some (.cells A6 90 (0,0))/\(w3.setCell ⟨E,e*4+3,none⟩ (.slice (some ⟨g,0,none⟩) (m4+1) cap)).heap[a]?=some (.cells #[.pointer (some ⟨D,0,none⟩)] 83 (0,0))/\(w3.setCell ⟨E,e*4+3,none⟩ (.slice (some ⟨g,0,none⟩) (m4+1) cap)).heap[nb]?=some (.cells #[.string TX] 9 (0,0)):=by
 have h2:=h.grow (EL W (.cells #[.string TX] 9));have hr:=h.ent.nee e he;rw[hv]at hr;obtain⟨-,cur,hE⟩:=dV h.ent.row rfl;refine⟨_,_,h2.need he TX (v':=.slice (some ⟨g,0,none⟩) (m4+1) cap) (by rw[hm];exact ho) (by rw[hv];exact hg) ?_,yR hb hg (tY hb hr (by decide)) hE (by decide),yR ha hg (tY ha hr (by decide)) hE (by decide),yR hn hg hfn hE (by decide)⟩;rw[hv]
 rcases hat with e1|e1
 ·exact Or.inl e1.symm
 ·exact Or.inr (Or.inr ⟨g,rfl,Nat.le_of_eq e1.symm⟩)
theorem XM{W w3:World}{wl c4 g cap pl:Nat}{o4:Option Addr}{TX:ByteArray}(h:Dm w0 T D Lb nv kv ns d W vt ve (.slice o4 wl c4) xs vs)(hm:d.wt.length=wl)(ho:w3.ownsRow w0.heap.size 138 2 (.slice (some ⟨g,0,none⟩) (wl+1) cap) (wl+1) (d.wt.flatMap tX++[.string TX,.int .i64 (pl:Nat)]))(hg:(W.drew.alloc (.cells #[.string TX,.int .i64 (pl:Nat)] 138)).grownBy w3 (Value.slice o4 wl c4).ownBlock) :
  ∃v',Dm w0 T D Lb nv kv ns ⟨d.lk,d.fm,d.tb,d.es,d.wt++[(TX,pl)]⟩ (w3.setCell ⟨D,4,none⟩ (.slice (some ⟨g,0,none⟩) (wl+1) cap)) vt ve v' xs vs :=
 ⟨_,(h.grow (EL W (.cells #[.string TX,.int .i64 (pl:Nat)] 138))).want (TX,pl) (v':=.slice (some ⟨g,0,none⟩) (wl+1) cap) (by rw[hm];exact ho) hg⟩
end
end Go.Proofs.YtmkjelchiacogaaGreatDoor
