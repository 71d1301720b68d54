import Derived.Test.YtnnbgjaphfhibaaGreatDoorN49
import Derived.Test.YtnnbgjaphfhibaaGreatDoorN50
import Derived.Test.YtnnbgjaphfhibaaGreatDoorN31
set_option linter.unusedVariables false
set_option linter.unusedSimpArgs false
set_option maxRecDepth 100000
set_option maxHeartbeats 6400000
open Go.Proofs.Tryz
namespace Go.Proofs.YtnnbgjaphfhibaaGreatDoor
open Go.RowKit Go.Maps Go.WideMaps Go.Joins
structure SpE(w:World)(b0 b1 N n i:Nat)(ks:Nat->Value)(ls:Nat->Nat):Prop where
 lo:b0<=N
 hi:N<b1
 row:∃cur,w.heap[N]?=some (.cells cur 33 (0,0))/\n*4<=cur.size/\∀j,i<=j->j<n->cur[j*4+3]?=some (ks j)
 kid:∀j,j<n->∃o c,ks j=.slice o (ls j) c/\ls j<=1000000/\(0<ls j->∃g cur,o=some ⟨g,0,none⟩/\b0<=g/\g<b1/\w.heap[g]?=some (.cells cur 9 (0,0))/\ls j<=cur.size)
section
variable {w:World} {b0 b1 N n i:Nat} {ks:Nat->Value} {ls:Nat->Nat}
theorem SpE.next(h:SpE w b0 b1 N n i ks ls):SpE w b0 b1 N n (i+1) ks ls:=by
 obtain⟨cur,h1,h2,h3⟩:=h.row;exact⟨h.lo,h.hi,⟨cur,h1,h2,fun j hj hn=>h3 j (by omega) hn⟩,h.kid⟩
theorem SpE.cell(h:SpE w b0 b1 N n i ks ls)(o:Nat)(ho:o<i*4)(v:Value):SpE (w.setCell ⟨N,o,none⟩ v) b0 b1 N n i ks ls:=by
 obtain⟨cur,h1,h2,h3⟩:=h.row;refine⟨h.lo,h.hi,⟨cur.setIfInBounds o v,block_setCell h1 v,by simpa using h2,fun j hj hn=>?_⟩,fun j hj=>?_⟩
 ·rw[Array.getElem?_setIfInBounds_ne (by omega)];exact h3 j hj hn
 ·obtain⟨oo,c,e,hm,hh⟩:=h.kid j hj;refine⟨oo,c,e,hm,fun hp=>?_⟩;obtain⟨g,cu,e1,e2,e3,e4,e5⟩:=hh hp;exact⟨g,cu,e1,e2,e3,(heap_setCell_other _ _ _ _ (aP e4 h1 (by decide))).trans e4,e5⟩
theorem SpE.kidc(h:SpE w b0 b1 N n i ks ls){g:Nat}{cu:Array Value}(hg:w.heap[g]?=some (.cells cu 9 (0,0)))(o:Nat)(v:Value):SpE (w.setCell ⟨g,o,none⟩ v) b0 b1 N n i ks ls:=by
 obtain⟨cur,h1,h2,h3⟩:=h.row;refine⟨h.lo,h.hi,⟨cur,(heap_setCell_other _ _ _ _ (aP h1 hg (by decide))).trans h1,h2,h3⟩,fun j hj=>?_⟩;obtain⟨oo,c,e,hm,hh⟩:=h.kid j hj;refine⟨oo,c,e,hm,fun hp=>?_⟩;obtain⟨g',cu',e1,e2,e3,e4,e5⟩:=hh hp
 by_cases hgg:g'=g
 ·subst hgg;rw[hg]at e4
  cases e4
  exact⟨g',_,e1,e2,e3,block_setCell hg v,by simpa using e5⟩
 ·exact⟨g',cu',e1,e2,e3,(heap_setCell_other _ _ _ _ hgg).trans e4,e5⟩
theorem SpE.at(h:SpE w b0 b1 N n i ks ls)(j:Nat)(hj:i<=j)(hn:j<n):w.cell? ⟨N,j*4+3,none⟩=some (ks j)/\∀k,w.frozen? ⟨N,k,none⟩=false:=by
 obtain⟨cur,h1,h2,h3⟩:=h.row;exact⟨by rw[af h1];exact h3 j hj hn,fun k=>Lib.frozen_of_heap h1 k⟩
theorem SpE.any(h:SpE w b0 b1 N n i ks ls)(o:Nat)(ho:o<n*4):∃v,w.cell? ⟨N,o,none⟩=some v:=by
 obtain⟨cur,h1,h2,h3⟩:=h.row;exact⟨cur[o]'(by omega),by rw[af h1];exact Array.getElem?_eq_getElem (by omega)⟩
end
theorem EnB.spe{w w':World}{B:Nat}{es:List En}{E n c:Nat}{xs:List Value}{vs:Nat->Value}(h:EnB B w es (.slice (some ⟨E,0,none⟩) n c) xs vs)(hg:w.grownBy w' none)(hl:∀x∈es,x.nd.length<=1000000):SpE w' B w.heap.size E es.length 0 vs (fun i=>(es[i]?.map (·.nd.length)).getD 0):=by
 obtain⟨hlo,cur0,hN⟩:=bn h.row (g:=E) rfl;refine⟨hlo,aA hN,?_,fun j hj=>?_⟩
 ·rcases h.row.2 with⟨e1,_⟩|⟨g',cap',cu,e1,hb,hgg,hn,hm,hs,ht⟩
  ·cases e1
  ·cases e1
   refine⟨cu,(hg.block E (aA hgg) (by simp)).trans hgg,?_,fun j _ hj=>?_⟩
   ·have hx:=h.row.1;rw[<-ht,List.length_take]at hx;have:cu.toList.length=cu.size:=by simp
    omega
   ·have:=(h.cel j hj).2.2.2;rw[<-ht,List.getElem?_take]at this;split at this
    ·rw[Array.getElem?_toList]at this;exact this
    ·cases this
 ·have hk:=h.nee j hj;have e:((es[j]?.map (·.nd.length)).getD 0)=es[j].nd.length:=by rw[List.getElem?_eq_getElem hj];rfl
  obtain⟨o,c',hv⟩:=kV hk;refine⟨o,c',by rw[e];exact hv,by rw[e];exact hl _ (List.getElem_mem hj),fun hp=>?_⟩;rw[e]at hp
  rcases hk.2 with⟨e1,e2⟩|⟨g',cap',cu,e1,hb,hgg,hn,hm,hs,ht⟩
  ·omega
  ·rw[hv]at e1;injection e1 with e1 _ _
   refine⟨g',cu,e1,hb,aA hgg,(hg.block g' (aA hgg) (by simp)).trans hgg,?_⟩;have hx:=hk.1;rw[<-ht,List.length_take]at hx;have:cu.toList.length=cu.size:=by simp
   rw[e];simp only[Nat.mul_one]at hx;omega
theorem afD(l:List UInt8):Eb l=qh l:=by
 unfold Eb qh
 cases h:jy l with
 | error e=>rfl
 | ok ns =>
  obtain⟨T,-⟩:=Hz l ns h;exact adN T
theorem afE{l:List UInt8}{es:List En}(h:qh l=.ok es):es.length<=50/\∀x∈es,x.nd.length<=20:=by
 unfold qh at h
 cases hr:jy l with
 | error e=>rw[hr]at h;cases h
 | ok ns =>
  rw[hr]at h;obtain⟨T,-⟩:=Hz l ns hr;exact adP T h
def Zr(X:Rs (List En))(z:Int)(p:Nat):Prop:=X=.error (z,p)\/(X=.ok []/\z=0/\p=0)
theorem afF{B:Nat}{w w':World}{X:Rs (List En)}{z:Int}{p:Nat}{e:Ending}(hX:Zr X z p)(h:tu B w X e w'):∃o c,e=.returned (.tuple #[.slice o 0 c,.int .i64 z,.int .i64 (p:Nat)])/\Hd (EnS w' (.slice o 0 c) []/\w.grownBy w' none):=by
 rcases hX with rfl|⟨rfl,rfl,rfl⟩
 ·exact⟨none,0,(h.2.1 _ rfl).1,Or.inl ⟨rfl,rfl⟩,h.2.2⟩
 ·obtain⟨ve,xs,vs,e1,hE⟩:=h.1 [] rfl;obtain⟨o,c,hv⟩:=xH hE.ens;exact⟨o,c,by rw[e1,hv];rfl,by have:=hE.ens;rw[hv]at this;exact this,h.2.2⟩
theorem afG{w w':World}{X:Rs (List En)}{z:Int}{p:Nat}{e:Ending}(hX:Zr X z p)(h:yB w X e w'):∃o c,e=.returned (.tuple #[.slice o 0 c,.int .i64 z,.int .i64 (p:Nat)])/\Hd (EnS w' (.slice o 0 c) []/\w.grownBy w' none):=by
 rcases hX with rfl|⟨rfl,rfl,rfl⟩
 ·exact⟨none,0,h.2.1 _ rfl,Or.inl ⟨rfl,rfl⟩,h.2.2⟩
 ·obtain⟨ve,vs,e1,hE⟩:=h.1 [] rfl;obtain⟨o,c,hv⟩:=xH hE.ens;exact⟨o,c,by rw[e1,hv];rfl,by have:=hE.ens;rw[hv]at this;exact this,h.2.2⟩
theorem WX(s:ByteArray)(E:Int->TypeId × Value)(b:Int->Addr)(w:World)(G:Gl w w.heap.size E)(S:Sn w E b)(h0:0<w.heap.size)(hmx:s.size<2 ^ 62) :
  Calls prog 3 #[.string s] w fun e w'=>e=.returned (.bool true)/\w.grownBy w' none:=by
 have CP:Hd (∀w',w.grownBy w' none->Calls prog 5 #[.string s] w' (tu w'.heap.size w' (qh s.data.toList))):=fun w' hg=>afC s E b w' ((G.bel (zU hg)).up hg.size) (S.grow hg) hmx
 have CR:Hd (∀w',w.grownBy w' none->Calls prog 6 #[.string s] w' (yB w' (qh s.data.toList))):=fun w' hg=>by
  rw[<-afD];exact afq s w' (Nat.lt_of_lt_of_le h0 hg.size) hmx
 have CM:Hd (∀n w,Calls prog 8 #[.int .i64 n] w fun e w'=>e=.returned (.int .i64 n)/\Hd (w.grownBy w' none)):=fun n w=>ab6 n w
 obtain⟨X,hX⟩:=zN (qh s.data.toList);have zu:Hd (∀es,X=.ok es->es.length<=50/\∀x∈es,x.nd.length<=20):=fun es h=>afE (hX.trans h)
 rw[hX]at CP CR;clear hX G S
 by_cases hZ:∃z p,Zr X z p
 ·obtain⟨z,p,hZ⟩:=hZ;have wY:Hd (∀w',w.grownBy w' none->Calls prog 5 #[.string s] w' fun e w''=>∃o c,e=.returned (.tuple #[.slice o 0 c,.int .i64 z,.int .i64 (p:Nat)])/\Hd (EnS w'' (.slice o 0 c) []/\w'.grownBy w'' none)):=fun w' hg=>(CP.o w' hg).mono fun e w'' hh=>afF hZ hh
  have OU:Hd (∀w',w.grownBy w' none->Calls prog 6 #[.string s] w' fun e w''=>∃o c,e=.returned (.tuple #[.slice o 0 c,.int .i64 z,.int .i64 (p:Nat)])/\Hd (EnS w'' (.slice o 0 c) []/\w'.grownBy w'' none)):=fun w' hg=>(CR.o w' hg).mono fun e w'' hh=>afG hZ hh
  have CS:Hd (∀v v' w',EnS w' v []->EnS w' v' []->Calls prog 7 #[v,v'] w' fun e w''=>e=.returned (.bool true)/\Hd (w'.grownBy w'' none)):=fun v v' w' h1 h2=>QZ v v' [] w' h1 h2 (by simp) (fun x hx=>(by cases hx))
  have hcc:(z != z)=false:=by simp
  have hpp:((p:Int) != (p:Int))=false:=by simp
  clear CP CR hZ zu;go_enter func3,ntmps3;go_wp2_with (go_at_call 5;refine(wY.o _ (ak w none)).mono ?_);rintro e w1 ⟨o1,c1,rfl,h1⟩;have ay:Hd (w.grownBy w1 none):=h1.o.2;go_wp2_with (go_at_call 6;refine(OU.o _ ay.o).mono ?_);rintro e w2 ⟨o2,c2,rfl,h2⟩;have HG2:Hd (w.grownBy w2 none):=ai ay.o h2.o.2;have jC:Hd (Calls prog 7 #[.slice o1 0 c1,.slice o2 0 c2] w2 fun e w''=>e=.returned (.bool true)/\Hd (w2.grownBy w'' none)):=CS.o _ _ _ (h1.o.1.grow h2.o.2) h2.o.1;go_wp2_with (go_at_call 7;refine jC.o.mono ?_);rintro e w3 ⟨rfl,h3⟩;have aO:Hd (w.grownBy w3 none):=ai HG2.o h3.o;have lW:Hd (EnS w3 (.slice o2 0 c2) []):=h2.o.1.grow h3.o;clear jC h1 h2 h3;go_wp2_with (go_at_call 8;refine(CM.o z _).mono ?_;rintro e w4 ⟨rfl,h4⟩);have dQ:Hd (w.grownBy w4 none):=ai aO.o h4.o
  have Oo:Hd (EnS w4 (.slice o2 0 c2) []):=lW.o.grow h4.o;clear h4 lW aO;go_loopw [10] (fun v10 wr=>v10=.int .i64 0/\w.grownBy wr none/\EnS wr (.slice o2 0 c2) []) (fun _ _=>0)
  case atStart=>exact⟨rfl,dQ.o,Oo.o⟩
  case round =>
   obtain⟨rfl,hgr,hmr⟩:=hrel;have Eg:Hd (w.grownBy wr none):=hgr;have HMR:Hd (EnS wr (.slice o2 0 c2) []):=hmr;clear hgr hmr;go_wp2_with (go_at_call 5;refine(wY.o _ Eg.o).mono ?_);rintro e w5 ⟨o5,c5,rfl,h5⟩;have OW:Hd (Calls prog 7 #[.slice o5 0 c5,.slice o2 0 c2] w5 fun e w''=>e=.returned (.bool true)/\Hd (w5.grownBy w'' none)):=CS.o _ _ _ h5.o.1 (HMR.o.grow h5.o.2);go_wp2_with (go_at_call 7;refine OW.o.mono ?_;rintro e w6 ⟨rfl,h6⟩);go_ret;exact⟨rfl,ai Eg.o (ai h5.o.2 h6.o)⟩
 ·obtain⟨es,rfl⟩:∃es,X=.ok es:=by
   rcases X with⟨z,p⟩|es
   ·exact absurd ⟨z,p,Or.inl rfl⟩ hZ
   ·exact⟨es,rfl⟩
  have hne:0<es.length:=by
   cases es with
   | nil=>exact absurd ⟨0,0,Or.inr ⟨rfl,rfl,rfl⟩⟩ hZ
   | cons a r=>simp
  obtain⟨hel,hnd⟩:=zu.o es rfl;have vW:Hd (∀x∈es,x.nd.length<=20):=hnd;obtain⟨n,hn⟩:=zN (es.length);have HN:Hd (es.length=n):=hn;have wY:Hd (∀w',w.grownBy w' none->Calls prog 5 #[.string s] w' fun e w''=>∃F c,e=.returned (.tuple #[.slice (some ⟨F,0,none⟩) n c,.int .i64 0,.int .i64 0])/\Hd (n<=c/\(∃xs vs,EnB w'.heap.size w'' es (.slice (some ⟨F,0,none⟩) n c) xs vs)/\w'.grownBy w'' none)):=fun w' hg=>(CP.o w' hg).mono fun e w'' hh=>by
   obtain⟨ve,xs,vs,e1,hE⟩:=hh.1 es rfl;obtain⟨F,c,hv,-,-,-,-,-,-,hcap⟩:=hE.at (i:=0) (by omega);rw[hn]at hv hcap;subst hv;exact⟨F,c,e1,hcap,⟨xs,vs,hE⟩,hh.2.2⟩
  have OU:Hd (∀w',w.grownBy w' none->Calls prog 6 #[.string s] w' fun e w''=>∃ve,e=.returned (.tuple #[ve,.int .i64 0,.int .i64 0])/\Hd ((∃vs,RnB w'.heap.size w'' es ve vs)/\w'.grownBy w'' none)):=fun w' hg=>(CR.o w' hg).mono fun e w'' hh=>by
   obtain⟨ve,vs,e1,hE⟩:=hh.1 es rfl;exact⟨ve,e1,⟨vs,hE⟩,hh.2.2⟩
  have CS:Hd (∀v v' w',EnS w' v es->EnS w' v' es->Calls prog 7 #[v,v'] w' fun e w''=>e=.returned (.bool true)/\Hd (w'.grownBy w'' none)):=fun v v' w' h1 h2=>QZ v v' es w' h1 h2 (by omega) (fun x hx=>by have:=hnd x hx;omega)
  clear CP CR hZ zu hnd;rw[hn]at hne hel;clear hn;go_enter func3,ntmps3;go_wp2_with (go_at_call 5;refine(wY.o _ (ak w none)).mono ?_);rintro e w1 ⟨F,c1,rfl,h1⟩;obtain⟨hnc,⟨xs,vs,hE1⟩,hg1⟩:=h1.o;have jK:Hd (EnB w.heap.size w1 es (.slice (some ⟨F,0,none⟩) n c1) xs vs):=hE1;have ay:Hd (w.grownBy w1 none):=hg1;clear h1 hE1 hg1;go_wp2_with (go_at_call 6;refine(OU.o _ ay.o).mono ?_);rintro e w2 ⟨vm,rfl,h2⟩;obtain⟨⟨vs2,hR2⟩,hg2⟩:=h2.o;have HR2:Hd (RnB w1.heap.size w2 es vm vs2):=hR2;have WP:Hd (w1.grownBy w2 none):=hg2;have HG2:Hd (w.grownBy w2 none):=ai ay.o hg2;have jC:Hd (Calls prog 7 #[.slice (some ⟨F,0,none⟩) n c1,vm] w2 fun e w''=>e=.returned (.bool true)/\Hd (w2.grownBy w'' none)):=CS.o _ _ _ (jK.o.ens.grow hg2) hR2.ens;obtain⟨om,cm,hvm⟩:=xH hR2.ens;rw[HN.o]at hvm;subst hvm;clear h2 hR2 hg2;go_wp2_with (go_at_call 7;refine jC.o.mono ?_)
  rintro e w3 ⟨rfl,h3⟩;have WQ:Hd (w1.grownBy w3 none):=ai WP.o h3.o;have HR3:Hd (RnB w1.heap.size w3 es (.slice om n cm) vs2):=HR2.o.grow h3.o;clear h3 jC HR2 WP;go_wp2_with (go_at_call 8;refine(CM.o 0 _).mono ?_;rintro e w4 ⟨rfl,h4⟩);have WR:Hd (w1.grownBy w4 none):=ai WQ.o h4.o;have dQ:Hd (w.grownBy w4 none):=ai ay.o WR.o;have HR4:Hd (RnB w1.heap.size w4 es (.slice om n cm) vs2):=HR3.o.grow h4.o;have rF:Hd (SpE w4 w.heap.size w1.heap.size F n 0 vs (fun i=>(es[i]?.map (·.nd.length)).getD 0)):=by
   have:=jK.o.spe WR.o (fun x hx=>by have:=vW.o x hx;omega);rw[HN.o]at this;exact this
  obtain⟨ls,hls⟩:∃ls:Nat->Nat,(fun i=>(es[i]?.map (·.nd.length)).getD 0)=ls:=⟨_,rfl⟩;rw[hls]at rF;clear h4 hls jK HR3 WQ;go_loopw [10] (fun v10 wr=>∃i:Nat,v10=.int .i64 (i:Nat)/\i<=n/\SpE wr w.heap.size w1.heap.size F n i vs ls/\SpF w.heap.size w1.heap.size w4 wr) (fun v10 _=>n-(intOf v10).toNat)
  case atStart=>exact⟨0,rfl,Nat.zero_le _,rF.o,SpF.refl _ _ _⟩
  case round =>
   obtain⟨i,rfl,hi,hsp,hsf⟩:=hrel;obtain⟨wo,hwo⟩:∃wo,wo=wr:=⟨_,rfl⟩;subst hwo
   by_cases hin:i<n
   ·have hI:(i:Int)<(n:Int):=by omega
    obtain⟨ok,ck,hkv,Fa,hkp⟩:=hsp.kid i hin;obtain⟨m,hm⟩:=zN (ls i);rw[hm]at hkv Fa hkp;have HKV:Hd (vs i=.slice ok m ck):=hkv;have yz:Hd (∀wx,SpE wx w.heap.size w1.heap.size F n i vs ls->0<m->∃g cur,ok=some ⟨g,0,none⟩/\w.heap.size<=g/\g<w1.heap.size/\wx.heap[g]?=some (.cells cur 9 (0,0))/\m<=cur.size):=fun wx hx hp=>by
     obtain⟨o',c',e1,-,e3⟩:=hx.kid i hin;rw[hm]at e1 e3;rw[hkv]at e1;injection e1 with e1 _ _
     rw[e1];exact e3 hp
    have jH:Hd (SpE wo w.heap.size w1.heap.size F n i vs ls):=hsp;have Dh:Hd (SpF w.heap.size w1.heap.size w4 wo):=hsf;clear hsp hsf hkv hkp hm;go_wp2;go_loopw [11] (fun v11 wr=>∃k:Nat,v11=.int .i64 (k:Nat)/\k<=m/\SpE wr w.heap.size w1.heap.size F n i vs ls/\SpF w.heap.size w1.heap.size w4 wr) (fun v11 _=>m-(intOf v11).toNat)
    case atStart=>exact⟨0,rfl,Nat.zero_le _,jH.o,Dh.o⟩
    case round =>
     obtain⟨k,rfl,hk,hsp,hsf⟩:=hrel;obtain⟨a4,afz⟩:=hsp.at i (Nat.le_refl _) hin;rw[HKV.o]at a4;have uQ:Hd (SpE wr w.heap.size w1.heap.size F n i vs ls):=hsp;have yT:Hd (SpF w.heap.size w1.heap.size w4 wr):=hsf
     by_cases hkm':k<m
     ·have D8:(k:Int)<(m:Int):=by omega
      obtain⟨g,cur,rfl,hg0,hg1,hgb,hgs⟩:=yz.o wr hsp (by omega);have b1:∃v,wr.cell? ⟨g,k,none⟩=some v:=⟨cur[k]'(by omega),by rw[af hgb];exact Array.getElem?_eq_getElem (by omega)⟩;obtain⟨v1,b1⟩:=b1;have b2:wr.frozen? ⟨g,k,none⟩=false:=Lib.frozen_of_heap hgb k;have qH:Hd (SpE (wr.setCell ⟨g,k,none⟩ (.string ⟨#[63]⟩)) w.heap.size w1.heap.size F n i vs ls):=hsp.kidc hgb k _;have oz:Hd (SpF w.heap.size w1.heap.size w4 (wr.setCell ⟨g,k,none⟩ (.string ⟨#[63]⟩))):=hsf.set hg0 hg1 k _;clear hsp hsf hgb hgs hg0 hg1 afz;go_wp2;go_roundw
      case rel=>exact⟨k+1,by go_num,by omega,qH.o,oz.o⟩
      case measure=>simp[intOf];omega
     ·have D8:¬(k:Int)<(m:Int):=by omega
      obtain⟨v0,e0⟩:=hsp.any (i*4) (by omega);obtain⟨v1,e1⟩:=hsp.any (i*4+1) (by omega);obtain⟨v2,e2⟩:=hsp.any (i*4+2) (by omega);have f0:=afz (i*4);have f1:=afz (i*4+1);have f2:=afz (i*4+2);have f3:=afz (i*4+3);clear hsp hsf afz;go_upto_region 13 with fail
      go_wp2;refine⟨⟨i+1,by go_num,by omega,(((uQ.o.next.cell _ (by omega) _).cell _ (by omega) _).cell _ (by omega) _).cell _ (by omega) _,(((yT.o.set uQ.o.lo uQ.o.hi _ _).set uQ.o.lo uQ.o.hi _ _).set uQ.o.lo uQ.o.hi _ _).set uQ.o.lo uQ.o.hi _ _⟩,?_⟩;simp[intOf];omega
   ·have hI:¬(i:Int)<(n:Int):=by omega
    have Eg:Hd (w.grownBy wo none):=Dk ((zU dQ.o).trans hsf.below);have HRR:Hd (RnB w1.heap.size wo es (.slice om n cm) vs2):=HR4.o.spf hsf (Nat.le_refl _);clear hsp hsf;go_wp2_with (go_at_call 5;refine(wY.o _ Eg.o).mono ?_);rintro e w5 F5 c5 rfl h5;obtain⟨-,⟨xs5,vs5,WS⟩,hg5⟩:=h5.o;have gQ:Hd (w.grownBy w5 none):=ai Eg.o hg5;have OW:Hd (Calls prog 7 #[.slice (some ⟨F5,0,none⟩) n c5,.slice om n cm] w5 fun e w''=>e=.returned (.bool true)/\Hd (w5.grownBy w'' none)):=CS.o _ _ _ WS.ens (HRR.o.grow hg5).ens;clear h5 WS hg5;go_wp2_with (go_at_call 7;refine OW.o.mono ?_;rintro e w6 ⟨rfl,h6⟩);go_ret;exact⟨rfl,ai gQ.o h6.o⟩
end Go.Proofs.YtnnbgjaphfhibaaGreatDoor
