import Derived.Test.YtnnbgjaphfhibaaGreatDoorM27
import Derived.Test.YtnnbgjaphfhibaaGreatDoorM29
import Derived.Test.YtnnbgjaphfhibaaGreatDoorM18
import Derived.Test.YtnnbgjaphfhibaaGreatDoorM01
import Derived.Test.YtnnbgjaphfhibaaGreatDoorM28
set_option linter.unusedVariables false
set_option linter.unusedSimpArgs false
set_option maxRecDepth 100000
set_option maxHeartbeats 6400000
open Go.Proofs.Tryz
namespace Go.Proofs.YtnnbgjaphfhibaaGreatDoor
open Go.RowKit Go.Maps Go.WideMaps Go.Joins
theorem O6{α:Type}(f:α->List Value)(s:Nat):∀(L:List α) (i k:Nat) (hi:i<L.length),(∀x∈L,(f x).length=s)->k<s->(L.flatMap f)[i*s+k]?=(f L[i])[k]?
 | [],i,k,hi,_,_=>absurd hi (by simp)
 | x :: L,0,k,hi,h,hk=>by
  rw[List.flatMap_cons,List.getElem?_append_left (by rw[h x (by simp)];omega)];simp
 | x :: L,i+1,k,hi,h,hk=>by
  have hx:=h x (by simp);rw[List.flatMap_cons,List.getElem?_append_right (by rw[hx,Nat.succ_mul];omega),hx,show(i+1)*s+k-s=i*s+k by rw[Nat.succ_mul];omega];exact O6 f s L i k (by simpa using hi) (fun y hy=>h y (by simp[hy])) hk
theorem ae2(v:Value)(L:List En)(w:World)(h:EnS w v L)(hL:L.length<=1048576)(hz:∀x∈L,x.nm.size<=maxLen) :
  Calls prog 17 #[v] w fun e w'=>∃B,e=.returned (.map (some B))/\w'.ownsMap prog 9 (plainElem (H:=Unit) prog 3) B L.length (gG L L.length)/\w.grownBy w' none:=by
 rcases h with⟨rfl,rfl⟩|⟨a,cap,rfl,hcap,h⟩
 ·have hmm:=Qo 0 w;go_enter func17,ntmps17;go_wp2;obtain⟨B,hB⟩:=zN (w.heap.size);have HB:Hd (w.heap.size=B):=hB
  try rw[hB]
  clear hB;go_loopw [13] (fun vi wr=>vi=.int .i64 0/\wr.ownsMap prog 9 (plainElem (H:=Unit) prog 3) B 0 (.map [])/\w.grownBy wr none) (fun vi _=>0)
  case atStart=>exact⟨rfl,HB.o ▸ World.ownsMap_made _ _ _ _,dw (ax w none) _⟩
  case round =>
   obtain⟨rfl,ho,hb⟩:=hrel;have HG:Hd (w.grownBy wr none):=hb;have HO:Hd (wr.ownsMap prog 9 (plainElem (H:=Unit) prog 3) B 0 (.map [])):=ho;clear hb hmm ho;go_wp2;refine bodyPost_ret (results_tmp (t:=2) rfl _ _ _) rfl ⟨B,rfl,HO.o,HG.o⟩
 ·exact Yr a cap L w hL hcap hz h
theorem WC{α:Type}(p:α->Bool)(L:List α)(i:Nat)(hi:i<L.length)(h:(L.take i).find? p=none):(p L[i]=false->(L.take (i+1)).find? p=none)/\(p L[i]=true->L.find? p=some L[i]):=by
 constructor
 ·intro hp;rw[List.take_succ_eq_append_getElem hi,List.find?_append,h];simp[hp]
 ·intro hp;have e:L=L.take i++L[i] :: L.drop (i+1):=by rw[<-List.drop_eq_getElem_cons hi,List.take_append_drop]
  have e2:L.find? p=(L.take i++L[i] :: L.drop (i+1)).find? p:=congrArg _ e;rw[e2,List.find?_append,h,List.find?_cons_of_pos hp];rfl
section
variable {w0:World} {T D Lb:Nat} {nv:Value} {kv:Nat->Value} {ns:List Tn} {d:Dr} {w w':World} {vt ve vw:Value} {xs:List Value} {vs:Nat->Value}
theorem WE{t:TypeId}{s n g c:Nat}{ys:List Value}(h:w.ownsRow w0.heap.size t s (.slice (some ⟨g,0,none⟩) n c) n ys)(j:Nat)(u:Value)(hu:ys[j]?=some u):w.cell? ⟨g,j,none⟩=some u:=by
 have:=h.cells (g:=g) rfl j u hu;rw[ni]at this;exact this
theorem WG{t:TypeId}{s n:Nat}{v:Value}{ys:List Value}(h:w.ownsRow w0.heap.size t s v n ys)(hn:0<n):∃g c,v=.slice (some ⟨g,0,none⟩) n c/\n<=c:=by
 rcases h.2 with⟨_,e⟩|⟨g,cap,cu,e1,_,_,hn',_⟩
 ·omega
 ·exact⟨g,cap,e1,hn'⟩
theorem ae3{N c:Nat}(h:Dm w0 T D Lb nv kv ns d w vt ve vw xs vs)(H:Nd w0 N c kv ns)(I:DrI d)(M:DrN d)(hwt:d.wt.length<=1000000)(htb:∀q∈d.tb,q<ns.length) :
  Calls prog 28 #[.pointer (some ⟨D,0,none⟩)] w fun e w'=>e=.returned (.tuple #[.int .i64 (mQ ns d).1,.int .i64 ((mQ ns d).2:Nat)])/\w.grownBy w' none:=by
 obtain⟨-,-,-,d1,d2,d3,d4,-⟩:=h.cells;obtain⟨Z,Y,hZ⟩:∃Z Y,mQ ns d=(Z,Y):=⟨_,_,rfl⟩;rw[hZ];simp only[];have HZ:Hd (mQ ns d=(Z,Y)):=hZ;clear hZ;have HD:Hd (Dm w0 T D Lb nv kv ns d w vt ve vw xs vs):=h;obtain⟨fm,hfm⟩:∃b,d.fm=b:=⟨_,rfl⟩;have O7:Hd (d.fm=fm):=hfm;rw[hfm]at d1;clear hfm
 cases fm with
 | false =>
  have HY:Hd (Z=6/\Y=0):=by
   have:=HZ.o;unfold mQ at this;rw[if_pos O7.o]at this;injection this with h1 h2
   exact⟨h1.symm,h2.symm⟩
  clear h d2 d3 d4 HZ;go_enter func28,ntmps28;go_wp2;refine bodyPost_ret (results_tmp2 (t:=2) (u:=3) rfl _ _ _) rfl ⟨?_,ax _ _⟩;rw[HY.o.1,HY.o.2];rfl
 | true =>
  obtain⟨o2,c2,hvt⟩:=lL h.tab;obtain⟨o5,c5,hvw⟩:=lL h.wan;subst hvt hvw;have hrt:=h.tab;have hrw:=h.wan;obtain⟨tl,htl⟩:=zN (d.tb.length);obtain⟨wl,hwl⟩:=zN (d.wt.length);have afS:tl<=50:=by rw[<-htl];exact I.t50
  have afT:wl<=1000000:=by rw[<-hwl];exact hwt
  rw[htl]at hrt d2;rw[hwl]at hrw d4;have WH:Hd (w.ownsRow w0.heap.size 64 6 (.slice o2 tl c2) tl (d.tb.flatMap (nV kv ns))):=hrt;have HRW:Hd (w.ownsRow w0.heap.size 109 2 (.slice o5 wl c5) wl (d.wt.flatMap tu)):=hrw;have HL:Hd (d.tb.length=tl/\d.wt.length=wl):=⟨htl,hwl⟩;have HH:Hd (Nd w0 N c kv ns):=H;have IE:Hd (∀q∈d.tb,q<ns.length):=htb;have jl:Hd (w0.grownBy w none):=h.gb;have nC:Hd (∀y∈d.wt,y.1.size<=30):=M.wt;have HC:Hd (∀w',w.grownBy w' none->Calls prog 17 #[ve] w' fun e w''=>∃B,e=.returned (.map (some B))/\w''.ownsMap prog 9 (plainElem (H:=Unit) prog 3) B d.es.length (gG d.es d.es.length)/\w'.grownBy w'' none):=fun w' hg=>ae2 ve d.es w' (h.ent.ens.grow hg) (by have:=I.tl;have:=I.t50;omega) (fun x hx=>by have:=M.es x hx;unfold maxLen;omega)
  have HZ2:Hd ((match d.tb.find? (fun q=>decide ((ae ns q).length<4)) with|some q=>((6:Int),iJ ns q)|none=>match d.wt.find? (fun y=>!aZ d.es y.1) with|some y=>(6,y.2)|none=>(0,0))=(Z,Y)):=by
   have:=HZ.o;unfold mQ at this;rw[O7.o,if_neg (by simp)]at this;exact this
  have WI:∀t,Maps.has (gG d.es d.es.length) (kK t)=aZ d.es t:=fun t=>by rw[Qn d.es t _ (Nat.le_refl _),List.take_length]
  have DV:Hd (∀t,Maps.has (gG d.es d.es.length) (kK t)=aZ d.es t):=WI;obtain⟨oe,ce,uV⟩:=lL h.ent.row;clear h hrt hrw htl hwl htb hwt HZ O7 WI H M I HD;subst uV;go_enter func28,ntmps28;go_wp2;go_loopw [21] (fun vi wr=>∃i:Nat,vi=.int .i64 (i:Nat)/\i<=tl/\(d.tb.take i).find? (fun q=>decide ((ae ns q).length<4))=none/\w.grownBy wr none) (fun vi _=>tl-(intOf vi).toNat)
  case atStart=>exact⟨0,rfl,by omega,rfl,ax _ _⟩
  case round =>
   obtain⟨i,rfl,hi,hf,hg⟩:=hrel;have HF:Hd ((d.tb.take i).find? (fun q=>decide ((ae ns q).length<4))=none):=hf;have HG:Hd (w.grownBy wr none):=hg;clear hf hg
   by_cases hlt:i<tl
   ·have hin:i<d.tb.length:=by rw[HL.o.1];exact hlt
    obtain⟨g,c',hsl,hnc⟩:=WG WH.o (by omega)
    cases hsl
    obtain⟨q,hq⟩:=zN (d.tb[i]);have dN:q<ns.length:=IE.o q (by rw[<-hq];exact List.getElem_mem hin);have WJ:nV kv ns q=(dL ns[q] (kv q)).toList:=by unfold nV;rw[List.getElem?_eq_getElem dN]
    have key:∀k u,k<6->(dL ns[q] (kv q)).toList[k]?=some u->wr.cell? ⟨g,i*6+k,none⟩=some u:=fun k u hk hu=>by
     refine HG.o.cell (WE WH.o (i*6+k) u ?_) (by simp);rw[O6 (nV kv ns) 6 d.tb i k hin (fun p hp=>by unfold nV;rw[List.getElem?_eq_getElem (IE.o p hp)];rfl) hk,hq,WJ];exact hu
    obtain⟨ok,ck,hkk,-⟩:=HH.o.kid q dN;have hkl:=HH.o.num q dN;have hks:ae ns q=ns[q].ks:=by unfold ae;rw[List.getElem?_eq_getElem dN]
    have hpl:iJ ns q=ns[q].pl:=by unfold iJ;rw[List.getElem?_eq_getElem dN]
    have iL:Hd ((¬ns[q].ks.length<4->(d.tb.take (i+1)).find? (fun q=>decide ((ae ns q).length<4))=none)/\(ns[q].ks.length<4->Z=6/\Y=ns[q].pl)):=by
     have:=WC (fun q=>decide ((ae ns q).length<4)) d.tb i hin HF.o;rw[hq,hks]at this;refine⟨fun hh=>this.1 (decide_eq_false hh),fun hh=>?_⟩;have h2:=this.2 (decide_eq_true hh);have h3:=HZ2.o;rw[h2]at h3;simp only[]at h3;injection h3 with h4 h5
     exact⟨h4.symm,by rw[<-h5,hpl]⟩
    obtain⟨x,hx⟩:=zN (ns[q]);rw[hx]at key hkk iL hkl;rw[hkk]at key;have k0:wr.cell? ⟨g,i*6,none⟩=some (.int .i64 x.kd):=key 0 _ (by decide) rfl;have k1:wr.cell? ⟨g,i*6+1,none⟩=some (.string ⟨x.ky.toArray⟩):=key 1 _ (by decide) rfl;have k2:wr.cell? ⟨g,i*6+2,none⟩=some (.string ⟨x.tx.toArray⟩):=key 2 _ (by decide) rfl;have k3:wr.cell? ⟨g,i*6+3,none⟩=some (.int .i64 x.nu):=key 3 _ (by decide) rfl;have k4:wr.cell? ⟨g,i*6+4,none⟩=some (.slice ok x.ks.length ck):=key 4 _ (by decide) rfl;have k5:wr.cell? ⟨g,i*6+5,none⟩=some (.int .i64 (x.pl:Nat)):=key 5 _ (by decide) rfl;obtain⟨m,hm⟩:=zN (x.ks.length);rw[hm]at k4 iL hkl;clear key WJ hkk hx hm hks hpl hq hin dN
    by_cases h4:m<4
    ·have h4I:(m:Int)<4:=by omega
     have xx:Hd (Z=6/\Y=x.pl):=iL.o.2 h4;clear iL h4;go_wp2;go_quiet (fail);go_wp2;refine bodyPost_ret (results_tmp2 (t:=2) (u:=3) rfl _ _ _) rfl ⟨?_,?_⟩
     ·rw[xx.o.1,xx.o.2];rfl
     ·exact ah HG.o (aj (dw (ax wr none) _) _)
    ·have h4I:¬(m:Int)<4:=by omega
     have kL:Hd ((d.tb.take (i+1)).find? (fun q=>decide ((ae ns q).length<4))=none):=iL.o.1 h4;clear iL h4;go_wp2;exact⟨⟨i+1,by go_num,by omega,kL.o,ah HG.o (dw (ax wr none) _)⟩,by simp[intOf];omega⟩
   ·have WL:Hd (d.tb.find? (fun q=>decide ((ae ns q).length<4))=none):=by
     have:=HF.o;have e:i=d.tb.length:=by rw[HL.o.1];omega
     rw[e,List.take_length]at this;exact this
    have d3w:=HG.o.cell d3 (by simp);have d4w:=HG.o.cell d4 (by simp);clear HF;go_wp2_with (go_at_call 17;refine(HC.o _ HG.o).mono ?_);rintro e w2 ⟨B,rfl,ho,hg2⟩;have HG2:Hd (w.grownBy w2 none):=ah HG.o hg2;have HO:Hd (w2.ownsMap prog 9 (plainElem (H:=Unit) prog 3) B d.es.length (gG d.es d.es.length)):=ho;have d4':=hg2.cell d4w (by simp);clear hg2 ho d3w d4w;go_wp2;go_loopw [42] (fun vi wr=>∃i:Nat,vi=.int .i64 (i:Nat)/\i<=wl/\(d.wt.take i).find? (fun y=>!aZ d.es y.1)=none/\wr.ownsMap prog 9 (plainElem (H:=Unit) prog 3) B d.es.length (gG d.es d.es.length)/\w.grownBy wr none) (fun vi _=>wl-(intOf vi).toNat)
    case atStart=>exact⟨0,rfl,by omega,rfl,HO.o,HG2.o⟩
    case round =>
     obtain⟨j,rfl,hj,hf,hown,hg⟩:=hrel;have HF:Hd ((d.wt.take j).find? (fun y=>!aZ d.es y.1)=none):=hf;have aK:Hd (w.grownBy wr none):=hg;have HO3:Hd (wr.ownsMap prog 9 (plainElem (H:=Unit) prog 3) B d.es.length (gG d.es d.es.length)):=hown;clear hf hg hown
     by_cases hlt:j<wl
     ·have hjn:j<d.wt.length:=by rw[HL.o.2];exact hlt
      obtain⟨g,c',hsl,hnc⟩:=WG HRW.o (by omega)
      cases hsl
      obtain⟨y,hy⟩:=zN (d.wt[j]);have key:∀k u,k<2->(tu y)[k]?=some u->wr.cell? ⟨g,j*2+k,none⟩=some u:=fun k u hk hu=>by
       refine aK.o.cell (WE HRW.o (j*2+k) u ?_) (by simp);rw[O6 tu 2 d.wt j k hjn (fun p hp=>rfl) hk,hy];exact hu
      have k0:wr.cell? ⟨g,j*2,none⟩=some (.string y.1):=key 0 _ (by decide) rfl;have k1:wr.cell? ⟨g,j*2+1,none⟩=some (.int .i64 (y.2:Nat)):=key 1 _ (by decide) rfl;have hys:y.1.size<=30:=nC.o y (by rw[<-hy];exact List.getElem_mem hjn);have hkey:keyOf prog 9 (.string y.1)=some (kK y.1):=Go.WideMaps.keyOf_string_mk underlying9 (by unfold maxLen;omega);have iL:Hd ((aZ d.es y.1=true->(d.wt.take (j+1)).find? (fun y=>!aZ d.es y.1)=none)/\(aZ d.es y.1=false->Z=6/\Y=y.2)):=by
       have:=WC (fun y=>!aZ d.es y.1) d.wt j hjn HF.o;rw[hy]at this;refine⟨fun hh=>this.1 (by rw[hh];rfl),fun hh=>?_⟩;have h2:=this.2 (by rw[hh];rfl);have h3:=HZ2.o;rw[WL.o,h2]at h3;simp only[]at h3;injection h3 with h4 h5
       exact⟨h4.symm,h5.symm⟩
      have hown2:=HO3.o.alloc (.cells #[.string y.1,.int .i64 (y.2:Nat)] 109);obtain⟨q,hq⟩:=zN (Maps.has (gG d.es d.es.length) (kK y.1));have HQ:Hd (aZ d.es y.1=q):=(DV.o y.1).symm.trans hq;clear key hjn hy hys
      cases q with
      | true =>
       have kL:=iL.o.1 HQ.o;have rY:Hd ((d.wt.take (j+1)).find? (fun y=>!aZ d.es y.1)=none):=kL;clear iL kL;go_wp2_with (first|(at_lookup;refine wpList_lookup_own_ok_int _ rfl _ _ 50 rfl 9 3 .i64 keyS underlying50 underlying3 (E8 _) B _ _ rfl hown2 _ _ rfl hkey ?_;intro cc hat hwc;rw[hq])|go_in);exact⟨⟨j+1,by go_num,by omega,rY.o,hown2,ah aK.o (dw (ax wr none) _)⟩,by simp[intOf];omega⟩
      | false =>
       have xx:Hd (Z=6/\Y=y.2):=iL.o.2 HQ.o;clear iL;go_wp2_with (first|(at_lookup;refine wpList_lookup_own_ok_int _ rfl _ _ 50 rfl 9 3 .i64 keyS underlying50 underlying3 (E8 _) B _ _ rfl hown2 _ _ rfl hkey ?_;intro cc hat hwc;rw[hq])|go_in);go_quiet (fail);go_wp2;refine bodyPost_ret (results_tmp2 (t:=2) (u:=3) rfl _ _ _) rfl ⟨?_,?_⟩
       ·rw[xx.o.1,xx.o.2];rfl
       ·exact ah aK.o (aj (dw (ax wr none) _) _)
     ·have BR:Hd (d.wt.find? (fun y=>!aZ d.es y.1)=none):=by
       have:=HF.o;have e:j=d.wt.length:=by rw[HL.o.2];omega
       rw[e,List.take_length]at this;exact this
      have xx:Hd (Z=0/\Y=0):=by
       have h3:=HZ2.o;rw[WL.o,BR.o]at h3;simp only[]at h3;injection h3 with h4 h5
       exact⟨h4.symm,h5.symm⟩
      clear HF;go_wp2;refine bodyPost_ret (results_tmp2 (t:=2) (u:=3) rfl _ _ _) rfl ⟨?_,aK.o⟩;rw[xx.o.1,xx.o.2];rfl
end
open Go.RowKit Go.Maps Go.WideMaps Go.Joins
def Ey(ns:List Tn):Rs Dr->Rs (List En)
 | .error e=>.error e
 | .ok d=>if(mQ ns d).1=0 then .ok d.es else .error (mQ ns d)
theorem ae4(ns:List Tn):rU ns=Ey ns (iU ns ns.length (keepD jW (ae ns 0) .root)):=by
 unfold rU Ey;rfl
def tK(B:Nat)(w0:World)(r:Rs (List En))(e:Ending)(w':World):Prop :=
 (∀es,r=.ok es->∃ve xs vs,e=.returned (.tuple #[ve,.int .i64 0,.int .i64 0])/\EnB B w' es ve xs vs)/\(∀c,r=.error c->e=.returned (.tuple #[.slice none 0 0,.int .i64 c.1,.int .i64 (c.2:Nat)])/\¬c.1=0)/\w0.grownBy w' none
theorem ae5{B:Nat}{w0 w':World}{es:List En}{ve:Value}{xs:List Value}{vs:Nat->Value}(h:EnB B w' es ve xs vs)(hg:w0.grownBy w' none):tK B w0 (.ok es) (.returned (.tuple #[ve,.int .i64 0,.int .i64 0])) w' :=
 ⟨fun es' e=>(by cases e;exact⟨ve,xs,vs,rfl,h⟩),fun c e=>(by cases e),hg⟩
theorem O8{B:Nat}{w0 w':World}{z:Int}{p:Nat}(hz:¬z=0)(hg:w0.grownBy w' none):tK B w0 (.error (z,p)) (.returned (.tuple #[.slice none 0 0,.int .i64 z,.int .i64 (p:Nat)])) w' :=
 ⟨fun es' e=>(by cases e),fun c e=>(by cases e;exact⟨rfl,hz⟩),hg⟩
theorem ae6{w0:World}{T D Lb:Nat}{nv:Value}{kv:Nat->Value}{ns:List Tn}{r:Rs Dr}{e:Ending}{w':World}(h:IX w0 T D Lb nv kv ns r e w'):∃(z:Int) (p:Nat),e=.returned (.tuple #[.int .i64 z,.int .i64 (p:Nat)])/\(∀c,r=.error c->z=c.1/\p=c.2/\¬c.1=0/\w0.grownBy w' none)/\(∀d',r=.ok d'->z=0/\(DrI d'/\DrN d'/\d'.wt.length<=1000000/\∀q∈d'.tb,q<ns.length)/\∃vt ve vw xs vs,Dm w0 T D Lb nv kv ns d' w' vt ve vw xs vs):=by
 match r,h with
 | .error c,h=>exact⟨c.1,c.2,(h.2 c rfl).1,fun c' e=>(by cases e;exact⟨rfl,rfl,(h.2 _ rfl).2⟩),fun d e=>(by cases e)⟩
 | .ok d,h=>exact⟨0,0,(h.1 d rfl).1,fun c' e=>(by cases e),fun d' e=>(by cases e;exact⟨rfl,(h.1 _ rfl).2⟩)⟩
theorem ae7{w0 w:World}{T D Lb:Nat}{nv:Value}{kv:Nat->Value}{ns:List Tn}(hg:w0.grownBy w none)(hT:w.heap[T]?=some (.cells #[nv,.slice (some ⟨Lb,0,none⟩) ns.length ns.length] 106 (0,0)))(hD:w.heap[D]?=some (.cells #[.pointer (some ⟨T,0,none⟩),.bool false,.slice none 0 0,.slice none 0 0,.slice none 0 0] 62 (0,0)))(hL:w.heap[Lb]?=some (.cells (Array.replicate ns.length .nilFunc) 67 (0,0)))(hB:VQ w D T)(bD:w0.heap.size<=D)(bL:w0.heap.size<=Lb):Dm w0 T D Lb nv kv ns jW w (.slice none 0 0) (.slice none 0 0) (.slice none 0 0) [] (fun _=>.slice none 0 0) :=
 ⟨hg,hT,hD,⟨_,hL,by simp,fun q hq=>by simp[jW,LkV],hB⟩,⟨rfl,Or.inl ⟨rfl,rfl⟩⟩,⟨⟨rfl,Or.inl ⟨rfl,rfl⟩⟩,fun i hi=>absurd hi (by simp[jW]),fun i hi=>absurd hi (by simp[jW]),fun i j g hi=>absurd hi (by simp[jW])⟩,⟨rfl,Or.inl ⟨rfl,rfl⟩⟩,bD,bL⟩
theorem ae8(N c T Lb:Nat)(kv:Nat->Value)(ns:List Tn)(w0 w:World)(H:Nd w0 N c kv ns)(hc:ns.length<=c)(hg:w0.grownBy w none)(hT:w.heap[T]?=some (.cells #[.slice (some ⟨N,0,none⟩) ns.length c,.slice (some ⟨Lb,0,none⟩) ns.length ns.length] 106 (0,0)))(hL:w.heap[Lb]?=some (.cells (Array.replicate ns.length .nilFunc) 67 (0,0)))(bL:w0.heap.size<=Lb) :
  Calls prog 11 #[.pointer (some ⟨T,0,none⟩)] w (tK w0.heap.size w0 (rU ns)):=by
 obtain⟨B,hB⟩:=zN (w.heap.size);obtain⟨W,hW⟩:=zN (((w.alloc (.cells #[.pointer (some ⟨T,0,none⟩)] 57)).alloc (.cells #[.pointer (some ⟨T,0,none⟩),.bool false,.slice none 0 0,.slice none 0 0,.slice none 0 0] 62)).alloc (.cells #[.pointer (some ⟨B+1,0,none⟩)] 59));have qh:w.grownBy W none:=hW ▸ dw (dw (dw (ax w none) _) _) _;have h1:W.heap[B]?=some (.cells #[.pointer (some ⟨T,0,none⟩)] 57 (0,0)):=by
  rw[<-hW,<-hB,Lib.alloc_old _ _ _ (by simp;omega),Lib.alloc_old _ _ _ (by simp)];exact heap_alloc_new _ _
 have h2:W.heap[B+1]?=some (.cells #[.pointer (some ⟨T,0,none⟩),.bool false,.slice none 0 0,.slice none 0 0,.slice none 0 0] 62 (0,0)):=by
  rw[<-hW,<-hB,Lib.alloc_old _ _ _ (by simp)];have:=heap_alloc_new (w.alloc (.cells #[.pointer (some ⟨T,0,none⟩)] 57)) (.cells #[.pointer (some ⟨T,0,none⟩),.bool false,.slice none 0 0,.slice none 0 0,.slice none 0 0] 62)
  rwa [World.size_alloc]at this
 have h3:W.heap[B+2]?=some (.cells #[.pointer (some ⟨B+1,0,none⟩)] 59 (0,0)):=by
  rw[<-hW,<-hB];have:=heap_alloc_new ((w.alloc (.cells #[.pointer (some ⟨T,0,none⟩)] 57)).alloc (.cells #[.pointer (some ⟨T,0,none⟩),.bool false,.slice none 0 0,.slice none 0 0,.slice none 0 0] 62)) (.cells #[.pointer (some ⟨w.heap.size+1,0,none⟩)] 59)
  rwa [World.size_alloc,World.size_alloc]at this
 have hd:Dm w0 T (B+1) Lb (.slice (some ⟨N,0,none⟩) ns.length c) kv ns jW W (.slice none 0 0) (.slice none 0 0) (.slice none 0 0) [] (fun _=>.slice none 0 0):=ae7 (ah hg qh) ((bf qh).blk hT) h2 ((bf qh).blk hL) ⟨h3,h1⟩ (by have:=hg.size;omega) bL;have HD:Hd (Dm w0 T (B+1) Lb (.slice (some ⟨N,0,none⟩) ns.length c) kv ns jW W (.slice none 0 0) (.slice none 0 0) (.slice none 0 0) [] (fun _=>.slice none 0 0)):=hd;have BF:Hd (W.heap[B]?=some (.cells #[.pointer (some ⟨T,0,none⟩)] 57 (0,0))/\W.heap[B+2]?=some (.cells #[.pointer (some ⟨B+1,0,none⟩)] 59 (0,0))):=⟨h1,h3⟩;have HH:Hd (Nd w0 N c kv ns/\ns.length<=c):=⟨H,hc⟩;obtain⟨x,hx⟩:=zN (ns[0]'H.pos);have hks:ae ns 0=x.ks:=by unfold ae;rw[List.getElem?_eq_getElem H.pos,hx]
 obtain⟨o4,m4,hk4,-⟩:=H.kid 0 H.pos;rw[hx]at hk4;have HX:Hd (ns[0]'H.pos=x/\kv 0=.slice o4 x.ks.length m4):=⟨hx,hk4⟩;obtain⟨RC,O9⟩:=zN (iU ns ns.length (keepD jW x.ks .root));obtain⟨R,hR⟩:=zN (rU ns);have HR:Hd (R=Ey ns RC):=by
  show _=_;rw[<-hR,<-O9,<-hks,ae4]
 rw[hR];have c1:W.cell? ⟨B,0,none⟩=some (.pointer (some ⟨T,0,none⟩)):=by rw[af h1];rfl
 have iO:Hd (W.grownBy W.drew none):=aj (ax W none) 1;have CR:Hd (Calls prog 23 #[.pointer (some ⟨T,0,none⟩)] W.drew fun e w'=>e=.returned (.agg (dL x (.slice o4 x.ks.length m4)))/\W.drew.grownBy w' none/\w'.cell? ⟨B,0,none⟩=some (.pointer (some ⟨T,0,none⟩))):=by
  have:=aeg N c (hd.grow iO.o) H;rw[hx,hk4]at this;exact this.mono fun e w' hh=>⟨hh.1,hh.2,(ah iO.o hh.2).cell c1 (by simp)⟩
 have CK:Hd (∀w2,W.drew.grownBy w2 none->Calls prog 22 #[.pointer (some ⟨T,0,none⟩),.agg (dL x (.slice o4 x.ks.length m4)),.func (.func 24) #[] #[.pointer (some ⟨B+2,0,none⟩),.pointer (some ⟨B,0,none⟩)]] w2 fun e w3=>e=.returned (.tuple #[])/\Hd (Dm w0 T (B+1) Lb (.slice (some ⟨N,0,none⟩) ns.length c) kv ns (keepD jW x.ks .root) w3 (.slice none 0 0) (.slice none 0 0) (.slice none 0 0) [] (fun _=>.slice none 0 0)/\w3.heap[B]?=some (.cells #[.pointer (some ⟨T,0,none⟩)] 57 (0,0))/\w3.heap[B+2]?=some (.cells #[.pointer (some ⟨B+1,0,none⟩)] 59 (0,0)))/\w3.cell? ⟨B,0,none⟩=some (.pointer (some ⟨T,0,none⟩))):=fun w2 hg2=>by
  have hgW:=ah iO.o hg2;have:=keep_any (hd.grow hgW) x (.slice o4 x.ks.length m4) (by have:=H.kid 0 H.pos;rw[hx,hk4]at this;exact this) (by have:=H.rng 0 H.pos;rw[hx]at this;exact this) (by have:=H.num 0 H.pos;rw[hx]at this;exact this) 24 #[.pointer (some ⟨B+2,0,none⟩),.pointer (some ⟨B,0,none⟩)] .root ⟨B+2,B,rfl,(bf hgW).blk h3,(bf hgW).blk h1⟩;refine this.mono fun e w3 ⟨a1,a2,a3⟩=>?_
  have y1:=(a3 _ (by decide)).blk ((bf hgW).blk h1);have y3:=(a3 _ (by decide)).blk ((bf hgW).blk h3);exact⟨a1,⟨a2,y1,y3⟩,by rw[af y1];rfl⟩
 unfold dL at CR CK;have HW:Hd (((w.alloc (.cells #[.pointer (some ⟨T,0,none⟩)] 57)).alloc (.cells #[.pointer (some ⟨T,0,none⟩),.bool false,.slice none 0 0,.slice none 0 0,.slice none 0 0] 62)).alloc (.cells #[.pointer (some ⟨B+1,0,none⟩)] 59)=W/\w.heap.size=B):=⟨hW,hB⟩;have CC:Hd (∀w3,Hd (Dm w0 T (B+1) Lb (.slice (some ⟨N,0,none⟩) ns.length c) kv ns (keepD jW x.ks .root) w3 (.slice none 0 0) (.slice none 0 0) (.slice none 0 0) [] (fun _=>.slice none 0 0)/\w3.heap[B]?=some (.cells #[.pointer (some ⟨T,0,none⟩)] 57 (0,0))/\w3.heap[B+2]?=some (.cells #[.pointer (some ⟨B+1,0,none⟩)] 59 (0,0)))->Calls prog 27 #[.pointer (some ⟨T,0,none⟩)] w3 fun e w4=>∃(z:Int) (p:Nat),e=.returned (.tuple #[.int .i64 z,.int .i64 (p:Nat)])/\Hd ((∀c,RC=.error c->z=c.1/\p=c.2/\¬c.1=0/\w0.grownBy w4 none)/\(∀d',RC=.ok d'->z=0/\(DrI d'/\DrN d'/\d'.wt.length<=1000000/\∀q∈d'.tb,q<ns.length)/\∃vt ve vw xs vs,Dm w0 T (B+1) Lb (.slice (some ⟨N,0,none⟩) ns.length c) kv ns d' w4 vt ve vw xs vs))):=fun w3 hh=>(check_any N c hh.o.1 H (aeS _) ⟨fun y hy=>(by cases hy),fun y hy=>(by cases hy)⟩ rfl rfl hc).mono fun e w4 h4=>by rw[O9]at h4;exact ae6 h4
 clear hW qh h1 h2 h3 hd hx hks hk4 hR O9 HX H hc hg hT hL bL;go_enter func11,ntmps11;go_upto_region 2 with fail
 try rw[HW.o.1]
 try rw[HW.o.2]
 go_region_held3 (fun u=>u.cell? ⟨B,0,none⟩=some (.pointer (some ⟨T,0,none⟩))) ((first|assumption|exact iO.o.cell (by assumption) (by simp)|go_keep)) (first|(go_at_call 23;refine CR.o.mono ?_;rintro e2 w2 ⟨rfl,hg2,ae9⟩)|(go_at_call 22;refine(CK.o _ (by assumption)).mono ?_;rintro e3 w3 ⟨rfl,hall,hcl⟩))
 all_goals
  clear CR CK HD BF c1 ae9 hcl hg2;have hcB:w3.cell? ⟨B,0,none⟩=some (.pointer (some ⟨T,0,none⟩)):=by rw[af hall.o.2.1];rfl
  go_wp2_with (go_at_call 27;refine(CC.o _ hall).mono ?_);rintro e4 w4 ⟨z4,p4,rfl,h4⟩
  rcases RC with c0|dR
  ·obtain⟨rfl,rfl,hz,hg4⟩:=h4.o.1 c0 rfl;obtain⟨z4,p4⟩:=c0;have HY:Hd (R=.error (z4,p4)):=HR.o;have HZ:Hd (¬z4=0/\w0.grownBy w4 none):=⟨hz,hg4⟩;have hzb:(z4 != 0)=true:=by simpa using hz
   clear hcB hall CC h4 hz hg4 HR;go_wp2;refine bodyPost_ret (results_tmp3 (t:=2) (u:=3) (v:=4) rfl _ _ _) rfl ?_;rw[HY.o];exact O8 HZ.o.1 HZ.o.2
  ·obtain⟨rfl,⟨hI,hM,hwt,htb⟩,vt,ve,vw,xs,vs,hd4⟩:=h4.o.2 dR rfl;obtain⟨Z,Y,Pg⟩:∃Z Y,mQ ns dR=(Z,Y):=⟨_,_,rfl⟩;have IY:Hd (R=if Z=0 then .ok dR.es else .error (Z,Y)):=by
    have h1:R=Ey ns (.ok dR):=HR.o;unfold Ey at h1;simp only[Pg]at h1;exact h1
   have CL:Hd (Calls prog 28 #[.pointer (some ⟨B+1,0,none⟩)] w4 fun e w5=>e=.returned (.tuple #[.int .i64 Z,.int .i64 (Y:Nat)])/\Hd (w4.grownBy w5 none)):=(ae3 hd4 HH.o.1 hI hM hwt htb).mono fun e w5 hh=>by rw[Pg]at hh;exact hh
   have HD4:Hd (Dm w0 T (B+1) Lb (.slice (some ⟨N,0,none⟩) ns.length c) kv ns dR w4 vt ve vw xs vs):=hd4;obtain⟨cs,-,-,-,hbt⟩:=hd4.lok;have WM:w4.cell? ⟨B+1+1,0,none⟩=some (.pointer (some ⟨B+1,0,none⟩)):=by rw[af hbt.1];rfl
   clear hcB hall CC h4 hI hM hwt htb hd4 hbt HR Pg;go_wp2_with (go_at_call 28;refine CL.o.mono ?_);rintro e5 w5 ⟨rfl,h5⟩;have HD5:=HD4.o.grow h5.o;have afU:=h5.o.cell WM (by simp);obtain⟨-,-,-,-,-,d3,-,-⟩:=HD5.cells;have Ph:Hd (Dm w0 T (B+1) Lb (.slice (some ⟨N,0,none⟩) ns.length c) kv ns dR w5 vt ve vw xs vs):=HD5;clear WM HD4 CL HD5
   by_cases hZ:Z=0
   ·have HY:Hd (R=.ok dR.es):=by show _=_;rw[IY.o,if_pos hZ]
    subst hZ;clear IY;go_wp2;refine bodyPost_ret (results_tmp3 (t:=2) (u:=3) (v:=4) rfl _ _ _) rfl ?_;rw[HY.o];exact ae5 Ph.o.ent Ph.o.gb
   ·have HY:Hd (R=.error (Z,Y)):=by show _=_;rw[IY.o,if_neg hZ]
    have hzb:(Z != 0)=true:=by simpa using hZ
    clear IY;go_wp2;refine bodyPost_ret (results_tmp3 (t:=2) (u:=3) (v:=4) rfl _ _ _) rfl ?_;rw[HY.o];exact O8 hZ Ph.o.gb
open Go.RowKit Go.Maps Go.WideMaps Go.Joins
theorem afa{w:World}{B T:Nat}{ns:List Tn}{now N c M:Nat}{xs:List Value}{ks:Nat->Value}{n:Nat}{f:Nat->List UInt8->Option (Nat × Bool)}(h:TrD w B T ns now N c M xs ks n f)(l:List UInt8)(hl:jL l=.ok ns):Nd w N c ks ns/\ns.length<=c:=by
 obtain⟨tv,own,wf,hn⟩:=Hg l ns hl;have kAt:∀i (hi:i<ns.length),ae ns i=ns[i].ks:=fun i hi=>by unfold ae;rw[List.getElem?_eq_getElem hi]
 refine⟨⟨fun i hi=>?_,fun i hi=>NuS.of (h.kid i hi),fun i hi q hq=>tv.lt i q (by rw[kAt i hi];exact hq),fun i hi=>Uk hl i hi,by omega,tv.root.1,fun i hi=>by have:=(tv.txt _ (List.getElem_mem hi)).2.1;omega⟩,?_⟩
 ·obtain⟨h0,h1,h2,h3,h4,h5,-⟩:=h.node i hi;exact⟨h0,h1,h2,h3,h4,h5⟩
 ·rcases h.row.2 with⟨e1,_⟩|⟨g,cap,cu,e1,hb,hgg,hn',hm,hs,ht⟩
  ·cases e1
  ·cases e1;exact hn'
theorem egM:∀args w,(callFunc 11 args).run prog w=.ok (.enter 11 args) w:=enters_of func11 (by kernel_rfl) rfl
noncomputable def qo(l:List UInt8):Rs (List En):=match jL l with | .error e=>.error e | .ok ns=>rU ns
theorem afb(s:ByteArray)(E:Int->TypeId × Value)(b:Int->Addr)(w:World)(G:Gl w w.heap.size E)(S:Sn w E b)(hmx:s.size<2 ^ 62) :
  Calls prog 10 #[.string s,.func (.func 11) #[] #[]] w (tK w.heap.size w (qo s.data.toList)):=by
 have C0:=adB s E b w G S hmx;obtain⟨R,hR⟩:=zN (qo s.data.toList);rw[hR];unfold qo at hR
 cases hns:jL s.data.toList with
 | error c0 =>
  obtain⟨z,p⟩:=c0;have hz:¬z=0:=by have:=N9 _ _ _ hns;omega
  have HY:Hd (R=.error (z,p)):=by show _=_;rw[<-hR,hns]
  have HZ:Hd (¬z=0):=hz;have hzb:(z != 0)=true:=by simpa using hz
  have CP:Hd (Calls prog 20 #[.string s] w fun e w2=>e=.returned (.tuple #[.slice none 0 0,.int .i64 z,.int .i64 (p:Nat)])/\Hd (w.grownBy w2 none)):=C0.mono fun e w2 hh=>⟨hh.2.1 z p hns,hh.2.2⟩
  clear G S hns C0 hR hz;go_enter func10,ntmps10;go_wp2_with (go_at_call 20;refine CP.o.mono ?_);rintro e w2 ⟨rfl,hP⟩;go_wp2;refine bodyPost_ret (results_tmp3 (t:=4) (u:=5) (v:=6) rfl _ _ _) rfl ?_;rw[HY.o];exact O8 HZ.o hP.o
 | ok ns =>
  have HES:Hd (rU ns=R):=by show _=_;rw[<-hR,hns]
  have CP:Hd (Calls prog 20 #[.string s] w fun e w2=>∃N c,e=.returned (.tuple #[.slice (some ⟨N,0,none⟩) ns.length c,.int .i64 0,.int .i64 0])/\Hd (w.grownBy w2 none/\ns.length<=1000000/\ns.length<=c/\∃kv,Nd w2 N c kv ns)):=C0.mono fun e w2 hh=>by
   obtain⟨N,c,M,T,xs,ks,now,n,f,he,hD⟩:=hh.1 ns hns;have:=afa hD _ hns;exact⟨N,c,he,hh.2.2,this.1.len,this.2,ks,this.1⟩
  clear G S hns C0 hR;go_enter func10,ntmps10;go_wp2_with (go_at_call 20;refine CP.o.mono ?_);rintro e w2 ⟨N,c,rfl,hP⟩;have CN:Hd (Calls prog 21 #[.slice (some ⟨N,0,none⟩) ns.length c] w2 fun e w3=>e=.returned (.pointer (some ⟨w2.heap.size+1,0,none⟩))/\Hd (w3=(w2.alloc (.cells (Array.replicate ns.length .nilFunc) 67)).alloc (.cells #[.slice (some ⟨N,0,none⟩) ns.length c,.slice (some ⟨w2.heap.size,0,none⟩) ns.length ns.length] 106))):=aeb N c ns.length w2 (by have:=hP.o.2.1;omega);obtain⟨T,hT⟩:=zN (w2.heap.size+1);have CM:Hd (∀w3,Hd (w3=(w2.alloc (.cells (Array.replicate ns.length .nilFunc) 67)).alloc (.cells #[.slice (some ⟨N,0,none⟩) ns.length c,.slice (some ⟨w2.heap.size,0,none⟩) ns.length ns.length] 106))->Calls prog 11 #[.pointer (some ⟨T,0,none⟩)] w3 fun e w4=>∃(v:Value) (z p:Int),e=.returned (.tuple #[v,.int .i64 z,.int .i64 p])/\Hd (tK w.heap.size w R e w4/\(z=0->p=0)/\(¬z=0->v=.slice none 0 0))):=fun w3 hw3=>by
   obtain⟨hg,hl,hc,kv,H⟩:=hP.o;have h3:w3=_:=hw3;have hg3:w2.grownBy w3 none:=by rw[h3];exact dw (dw (ax w2 none) _) _
   have hT3:w3.heap[T]?=some (.cells #[.slice (some ⟨N,0,none⟩) ns.length c,.slice (some ⟨w2.heap.size,0,none⟩) ns.length ns.length] 106 (0,0)):=by
    rw[h3,<-hT];have:=heap_alloc_new (w2.alloc (.cells (Array.replicate ns.length .nilFunc) 67)) (.cells #[.slice (some ⟨N,0,none⟩) ns.length c,.slice (some ⟨w2.heap.size,0,none⟩) ns.length ns.length] 106)
    rwa [World.size_alloc]at this
   have hL3:w3.heap[w2.heap.size]?=some (.cells (Array.replicate ns.length .nilFunc) 67 (0,0)):=by
    rw[h3,Lib.alloc_old _ _ _ (by simp)];exact heap_alloc_new _ _
   refine(ae8 N c T w2.heap.size kv ns w2 w3 H hc hg3 hT3 hL3 (Nat.le_refl _)).mono fun e w4 hh=>?_
   rw[HES.o]at hh;have hsz:=hg.size;have up:∀{X:TypeId} {k n:Nat} {v:Value} {xs:List Value},w4.ownsRow w2.heap.size X k v n xs->w4.ownsRow w.heap.size X k v n xs:=fun h=>⟨h.1,h.2.imp id fun⟨g,cap,cu,e1,hb,r⟩=>⟨g,cap,cu,e1,by omega,r⟩⟩
   have hM:tK w.heap.size w R e w4:=⟨fun es he=>by
    obtain⟨ve,xs,vs,e1,hE⟩:=hh.1 es he;exact⟨ve,xs,vs,e1,up hE.row,hE.cel,fun i hi=>up (hE.nee i hi),hE.apa⟩,hh.2.1,ah hg hh.2.2⟩
   rcases R with c0|es
   ·obtain⟨e1,hz⟩:=hh.2.1 c0 rfl;exact⟨_,_,_,e1,hM,fun h=>absurd h hz,fun _=>rfl⟩
   ·obtain⟨ve,xs,vs,e1,hE⟩:=hh.1 es rfl;exact⟨_,_,_,e1,hM,fun _=>rfl,fun h=>absurd rfl h⟩
  rw[hT]at CN;have hEM:=egM;clear hT CP;go_wp2_with (first|(go_at_call 21;refine CN.o.mono ?_;rintro e w3 ⟨rfl,h3⟩)|(refine(CM.o _ (by assumption)).mono ?_));rintro e w4 ⟨v4,z4,p4,rfl,h4⟩
  by_cases hz:z4=0
  ·have hp:=h4.o.2.1 hz;subst hz hp;go_wp2;refine bodyPost_ret (results_tmp3 (t:=4) (u:=5) (v:=6) rfl _ _ _) rfl ?_;exact h4.o.1
  ·have hv:=h4.o.2.2 hz;subst hv;have hzb:(z4 != 0)=true:=by simpa using hz
   go_wp2;refine bodyPost_ret (results_tmp3 (t:=4) (u:=5) (v:=6) rfl _ _ _) rfl ?_;exact h4.o.1
theorem afc(s:ByteArray)(E:Int->TypeId × Value)(b:Int->Addr)(w:World)(G:Gl w w.heap.size E)(S:Sn w E b)(hmx:s.size<2 ^ 62) :
  Calls prog 5 #[.string s] w (tK w.heap.size w (qo s.data.toList)):=by
 obtain⟨R,hR⟩:=zN (qo s.data.toList);rw[hR];have CR:Hd (Calls prog 10 #[.string s,.func (.func 11) #[] #[]] w fun e w'=>∃v z p,e=.returned (.tuple #[v,z,p])/\Hd (tK w.heap.size w R e w')):=(afb s E b w G S hmx).mono fun e w' hh=>by
  rw[hR]at hh
  rcases R with c0|es
  ·exact⟨_,_,_,(hh.2.1 c0 rfl).1,hh⟩
  ·obtain⟨ve,xs,vs,e1,-⟩:=hh.1 es rfl;exact⟨_,_,_,e1,hh⟩
 clear G S hR;go_enter func5,ntmps5;go_wp2_with (go_at_call 10;refine CR.o.mono ?_;rintro e w4 ⟨v4,z4,p4,rfl,h4⟩);refine bodyPost_ret (by first|exact results_tmp3 (t:=2) (u:=3) (v:=4) rfl _ _ _|exact results_tmp3 (t:=3) (u:=4) (v:=5) rfl _ _ _) rfl ?_;exact h4.o
open Go.RowKit
theorem afd(n:Int)(w:World):Calls prog 8 #[.int .i64 n] w fun e w'=>e=.returned (.int .i64 n)/\w'=w:=by
 go_enter func8,ntmps8;go_wp2;go_ret;exact⟨rfl,rfl⟩
theorem afe(n:Int)(w:World):Calls prog 8 #[.int .i64 n] w fun e w'=>e=.returned (.int .i64 n)/\w.grownBy w' none:=by
 refine(afd n w).mono ?_;rintro e w' ⟨rfl,rfl⟩;exact⟨rfl,ax _ _⟩
open Go.RowKit Go.Maps Go.WideMaps Go.Joins
structure SpE(w:World)(b0 b1 N n i:Nat)(ks:Nat->Value)(ls:Nat->Nat):Prop where
 lo:b0<=N
 hi:N<b1
 row:∃cur,w.heap[N]?=some (.cells cur 33 (0,0))/\n*4<=cur.size/\∀j,i<=j->j<n->cur[j*4+3]?=some (ks j)
 kid:∀j,j<n->∃o c,ks j=.slice o (ls j) c/\ls j<=1000000/\(0<ls j->∃g cur,o=some ⟨g,0,none⟩/\b0<=g/\g<b1/\w.heap[g]?=some (.cells cur 9 (0,0))/\ls j<=cur.size)
section
variable {w:World} {b0 b1 N n i:Nat} {ks:Nat->Value} {ls:Nat->Nat}
theorem SpE.next(h:SpE w b0 b1 N n i ks ls):SpE w b0 b1 N n (i+1) ks ls:=by
 obtain⟨cur,h1,h2,h3⟩:=h.row;exact⟨h.lo,h.hi,⟨cur,h1,h2,fun j hj hn=>h3 j (by omega) hn⟩,h.kid⟩
theorem SpE.cell(h:SpE w b0 b1 N n i ks ls)(o:Nat)(ho:o<i*4)(v:Value):SpE (w.setCell ⟨N,o,none⟩ v) b0 b1 N n i ks ls:=by
 obtain⟨cur,h1,h2,h3⟩:=h.row;refine⟨h.lo,h.hi,⟨cur.setIfInBounds o v,block_setCell h1 v,by simpa using h2,fun j hj hn=>?_⟩,fun j hj=>?_⟩
 ·rw[Array.getElem?_setIfInBounds_ne (by omega)];exact h3 j hj hn
 ·obtain⟨oo,c,e,hm,hh⟩:=h.kid j hj;refine⟨oo,c,e,hm,fun hp=>?_⟩;obtain⟨g,cu,e1,e2,e3,e4,e5⟩:=hh hp;exact⟨g,cu,e1,e2,e3,(heap_setCell_other _ _ _ _ (aP e4 h1 (by decide))).trans e4,e5⟩
theorem SpE.kidc(h:SpE w b0 b1 N n i ks ls){g:Nat}{cu:Array Value}(hg:w.heap[g]?=some (.cells cu 9 (0,0)))(o:Nat)(v:Value):SpE (w.setCell ⟨g,o,none⟩ v) b0 b1 N n i ks ls:=by
 obtain⟨cur,h1,h2,h3⟩:=h.row;refine⟨h.lo,h.hi,⟨cur,(heap_setCell_other _ _ _ _ (aP h1 hg (by decide))).trans h1,h2,h3⟩,fun j hj=>?_⟩;obtain⟨oo,c,e,hm,hh⟩:=h.kid j hj;refine⟨oo,c,e,hm,fun hp=>?_⟩;obtain⟨g',cu',e1,e2,e3,e4,e5⟩:=hh hp
 by_cases hgg:g'=g
 ·subst hgg;rw[hg]at e4
  cases e4
  exact⟨g',_,e1,e2,e3,block_setCell hg v,by simpa using e5⟩
 ·exact⟨g',cu',e1,e2,e3,(heap_setCell_other _ _ _ _ hgg).trans e4,e5⟩
theorem SpE.at(h:SpE w b0 b1 N n i ks ls)(j:Nat)(hj:i<=j)(hn:j<n):w.cell? ⟨N,j*4+3,none⟩=some (ks j)/\∀k,w.frozen? ⟨N,k,none⟩=false:=by
 obtain⟨cur,h1,h2,h3⟩:=h.row;exact⟨by rw[af h1];exact h3 j hj hn,fun k=>Lib.frozen_of_heap h1 k⟩
theorem SpE.any(h:SpE w b0 b1 N n i ks ls)(o:Nat)(ho:o<n*4):∃v,w.cell? ⟨N,o,none⟩=some v:=by
 obtain⟨cur,h1,h2,h3⟩:=h.row;exact⟨cur[o]'(by omega),by rw[af h1];exact Array.getElem?_eq_getElem (by omega)⟩
end
theorem EnB.spe{w w':World}{B:Nat}{es:List En}{E n c:Nat}{xs:List Value}{vs:Nat->Value}(h:EnB B w es (.slice (some ⟨E,0,none⟩) n c) xs vs)(hg:w.grownBy w' none)(hl:∀x∈es,x.nd.length<=1000000):SpE w' B w.heap.size E es.length 0 vs (fun i=>(es[i]?.map (·.nd.length)).getD 0):=by
 obtain⟨hlo,cur0,hN⟩:=bz h.row (g:=E) rfl;refine⟨hlo,aB hN,?_,fun j hj=>?_⟩
 ·rcases h.row.2 with⟨e1,_⟩|⟨g',cap',cu,e1,hb,hgg,hn,hm,hs,ht⟩
  ·cases e1
  ·cases e1
   refine⟨cu,(hg.block E (aB hgg) (by simp)).trans hgg,?_,fun j _ hj=>?_⟩
   ·have hx:=h.row.1;rw[<-ht,List.length_take]at hx;have:cu.toList.length=cu.size:=by simp
    omega
   ·have:=(h.cel j hj).2.2.2;rw[<-ht,List.getElem?_take]at this;split at this
    ·rw[Array.getElem?_toList]at this;exact this
    ·cases this
 ·have hk:=h.nee j hj;have e:((es[j]?.map (·.nd.length)).getD 0)=es[j].nd.length:=by rw[List.getElem?_eq_getElem hj];rfl
  obtain⟨o,c',hv⟩:=lL hk;refine⟨o,c',by rw[e];exact hv,by rw[e];exact hl _ (List.getElem_mem hj),fun hp=>?_⟩;rw[e]at hp
  rcases hk.2 with⟨e1,e2⟩|⟨g',cap',cu,e1,hb,hgg,hn,hm,hs,ht⟩
  ·omega
  ·rw[hv]at e1;injection e1 with e1 _ _
   refine⟨g',cu,e1,hb,aB hgg,(hg.block g' (aB hgg) (by simp)).trans hgg,?_⟩;have hx:=hk.1;rw[<-ht,List.length_take]at hx;have:cu.toList.length=cu.size:=by simp
   rw[e];simp only[Nat.mul_one]at hx;omega
theorem aff(l:List UInt8):Ep l=qo l:=by
 unfold Ep qo
 cases h:jL l with
 | error e=>rfl
 | ok ns =>
  obtain⟨T,-⟩:=Hg l ns h;exact abY T
theorem afg{l:List UInt8}{es:List En}(h:qo l=.ok es):es.length<=50/\∀x∈es,x.nd.length<=20:=by
 unfold qo at h
 cases hr:jL l with
 | error e=>rw[hr]at h;cases h
 | ok ns =>
  rw[hr]at h;obtain⟨T,-⟩:=Hg l ns hr;exact ab1 T h
def Zr(X:Rs (List En))(z:Int)(p:Nat):Prop:=X=.error (z,p)\/(X=.ok []/\z=0/\p=0)
theorem afh{B:Nat}{w w':World}{X:Rs (List En)}{z:Int}{p:Nat}{e:Ending}(hX:Zr X z p)(h:tK B w X e w'):∃o c,e=.returned (.tuple #[.slice o 0 c,.int .i64 z,.int .i64 (p:Nat)])/\Hd (EnS w' (.slice o 0 c) []/\w.grownBy w' none):=by
 rcases hX with rfl|⟨rfl,rfl,rfl⟩
 ·exact⟨none,0,(h.2.1 _ rfl).1,Or.inl ⟨rfl,rfl⟩,h.2.2⟩
 ·obtain⟨ve,xs,vs,e1,hE⟩:=h.1 [] rfl;obtain⟨o,c,hv⟩:=xA hE.ens;exact⟨o,c,by rw[e1,hv];rfl,by have:=hE.ens;rw[hv]at this;exact this,h.2.2⟩
theorem afi{w w':World}{X:Rs (List En)}{z:Int}{p:Nat}{e:Ending}(hX:Zr X z p)(h:yI w X e w'):∃o c,e=.returned (.tuple #[.slice o 0 c,.int .i64 z,.int .i64 (p:Nat)])/\Hd (EnS w' (.slice o 0 c) []/\w.grownBy w' none):=by
 rcases hX with rfl|⟨rfl,rfl,rfl⟩
 ·exact⟨none,0,h.2.1 _ rfl,Or.inl ⟨rfl,rfl⟩,h.2.2⟩
 ·obtain⟨ve,vs,e1,hE⟩:=h.1 [] rfl;obtain⟨o,c,hv⟩:=xA hE.ens;exact⟨o,c,by rw[e1,hv];rfl,by have:=hE.ens;rw[hv]at this;exact this,h.2.2⟩
theorem WY(s:ByteArray)(E:Int->TypeId × Value)(b:Int->Addr)(w:World)(G:Gl w w.heap.size E)(S:Sn w E b)(h0:0<w.heap.size)(hmx:s.size<2 ^ 62) :
  Calls prog 3 #[.string s] w fun e w'=>e=.returned (.bool true)/\w.grownBy w' none:=by
 have CP:Hd (∀w',w.grownBy w' none->Calls prog 5 #[.string s] w' (tK w'.heap.size w' (qo s.data.toList))):=fun w' hg=>afc s E b w' ((G.bel (Aj hg)).up hg.size) (S.grow hg) hmx
 have CR:Hd (∀w',w.grownBy w' none->Calls prog 6 #[.string s] w' (yI w' (qo s.data.toList))):=fun w' hg=>by
  rw[<-aff];exact aeM s w' (Nat.lt_of_lt_of_le h0 hg.size) hmx
 have CM:Hd (∀n w,Calls prog 8 #[.int .i64 n] w fun e w'=>e=.returned (.int .i64 n)/\Hd (w.grownBy w' none)):=fun n w=>afe n w
 obtain⟨X,hX⟩:=zN (qo s.data.toList);have zU:Hd (∀es,X=.ok es->es.length<=50/\∀x∈es,x.nd.length<=20):=fun es h=>afg (hX.trans h)
 rw[hX]at CP CR;clear hX G S
 by_cases hZ:∃z p,Zr X z p
 ·obtain⟨z,p,hZ⟩:=hZ;have xq:Hd (∀w',w.grownBy w' none->Calls prog 5 #[.string s] w' fun e w''=>∃o c,e=.returned (.tuple #[.slice o 0 c,.int .i64 z,.int .i64 (p:Nat)])/\Hd (EnS w'' (.slice o 0 c) []/\w'.grownBy w'' none)):=fun w' hg=>(CP.o w' hg).mono fun e w'' hh=>afh hZ hh
  have Pj:Hd (∀w',w.grownBy w' none->Calls prog 6 #[.string s] w' fun e w''=>∃o c,e=.returned (.tuple #[.slice o 0 c,.int .i64 z,.int .i64 (p:Nat)])/\Hd (EnS w'' (.slice o 0 c) []/\w'.grownBy w'' none)):=fun w' hg=>(CR.o w' hg).mono fun e w'' hh=>afi hZ hh
  have CS:Hd (∀v v' w',EnS w' v []->EnS w' v' []->Calls prog 7 #[v,v'] w' fun e w''=>e=.returned (.bool true)/\Hd (w'.grownBy w'' none)):=fun v v' w' h1 h2=>PK v v' [] w' h1 h2 (by simp) (fun x hx=>(by cases hx))
  have hcc:(z != z)=false:=by simp
  have hpp:((p:Int) != (p:Int))=false:=by simp
  clear CP CR hZ zU;go_enter func3,ntmps3;go_wp2_with (go_at_call 5;refine(xq.o _ (ax w none)).mono ?_);rintro e w1 ⟨o1,c1,rfl,h1⟩;have ay:Hd (w.grownBy w1 none):=h1.o.2;go_wp2_with (go_at_call 6;refine(Pj.o _ ay.o).mono ?_);rintro e w2 ⟨o2,c2,rfl,h2⟩;have HG2:Hd (w.grownBy w2 none):=ah ay.o h2.o.2;have jQ:Hd (Calls prog 7 #[.slice o1 0 c1,.slice o2 0 c2] w2 fun e w''=>e=.returned (.bool true)/\Hd (w2.grownBy w'' none)):=CS.o _ _ _ (h1.o.1.grow h2.o.2) h2.o.1;go_wp2_with (go_at_call 7;refine jQ.o.mono ?_);rintro e w3 ⟨rfl,h3⟩;have aK:Hd (w.grownBy w3 none):=ah HG2.o h3.o;have lW:Hd (EnS w3 (.slice o2 0 c2) []):=h2.o.1.grow h3.o;clear jQ h1 h2 h3;go_wp2_with (go_at_call 8;refine(CM.o z _).mono ?_;rintro e w4 ⟨rfl,h4⟩);have dS:Hd (w.grownBy w4 none):=ah aK.o h4.o
  have O4:Hd (EnS w4 (.slice o2 0 c2) []):=lW.o.grow h4.o;clear h4 lW aK;go_loopw [10] (fun v10 wr=>v10=.int .i64 0/\w.grownBy wr none/\EnS wr (.slice o2 0 c2) []) (fun _ _=>0)
  case atStart=>exact⟨rfl,dS.o,O4.o⟩
  case round =>
   obtain⟨rfl,hgr,hmr⟩:=hrel;have Ez:Hd (w.grownBy wr none):=hgr;have HMR:Hd (EnS wr (.slice o2 0 c2) []):=hmr;clear hgr hmr;go_wp2_with (go_at_call 5;refine(xq.o _ Ez.o).mono ?_);rintro e w5 ⟨o5,c5,rfl,h5⟩;have Pm:Hd (Calls prog 7 #[.slice o5 0 c5,.slice o2 0 c2] w5 fun e w''=>e=.returned (.bool true)/\Hd (w5.grownBy w'' none)):=CS.o _ _ _ h5.o.1 (HMR.o.grow h5.o.2);go_wp2_with (go_at_call 7;refine Pm.o.mono ?_;rintro e w6 ⟨rfl,h6⟩);go_ret;exact⟨rfl,ah Ez.o (ah h5.o.2 h6.o)⟩
 ·obtain⟨es,rfl⟩:∃es,X=.ok es:=by
   rcases X with⟨z,p⟩|es
   ·exact absurd ⟨z,p,Or.inl rfl⟩ hZ
   ·exact⟨es,rfl⟩
  have hne:0<es.length:=by
   cases es with
   | nil=>exact absurd ⟨0,0,Or.inr ⟨rfl,rfl,rfl⟩⟩ hZ
   | cons a r=>simp
  obtain⟨hel,hnd⟩:=zU.o es rfl;have wW:Hd (∀x∈es,x.nd.length<=20):=hnd;obtain⟨n,hn⟩:=zN (es.length);have HN:Hd (es.length=n):=hn;have xq:Hd (∀w',w.grownBy w' none->Calls prog 5 #[.string s] w' fun e w''=>∃F c,e=.returned (.tuple #[.slice (some ⟨F,0,none⟩) n c,.int .i64 0,.int .i64 0])/\Hd (n<=c/\(∃xs vs,EnB w'.heap.size w'' es (.slice (some ⟨F,0,none⟩) n c) xs vs)/\w'.grownBy w'' none)):=fun w' hg=>(CP.o w' hg).mono fun e w'' hh=>by
   obtain⟨ve,xs,vs,e1,hE⟩:=hh.1 es rfl;obtain⟨F,c,hv,-,-,-,-,-,-,hcap⟩:=hE.at (i:=0) (by omega);rw[hn]at hv hcap;subst hv;exact⟨F,c,e1,hcap,⟨xs,vs,hE⟩,hh.2.2⟩
  have Pj:Hd (∀w',w.grownBy w' none->Calls prog 6 #[.string s] w' fun e w''=>∃ve,e=.returned (.tuple #[ve,.int .i64 0,.int .i64 0])/\Hd ((∃vs,RnB w'.heap.size w'' es ve vs)/\w'.grownBy w'' none)):=fun w' hg=>(CR.o w' hg).mono fun e w'' hh=>by
   obtain⟨ve,vs,e1,hE⟩:=hh.1 es rfl;exact⟨ve,e1,⟨vs,hE⟩,hh.2.2⟩
  have CS:Hd (∀v v' w',EnS w' v es->EnS w' v' es->Calls prog 7 #[v,v'] w' fun e w''=>e=.returned (.bool true)/\Hd (w'.grownBy w'' none)):=fun v v' w' h1 h2=>PK v v' es w' h1 h2 (by omega) (fun x hx=>by have:=hnd x hx;omega)
  clear CP CR hZ zU hnd;rw[hn]at hne hel;clear hn;go_enter func3,ntmps3;go_wp2_with (go_at_call 5;refine(xq.o _ (ax w none)).mono ?_);rintro e w1 ⟨F,c1,rfl,h1⟩;obtain⟨hnc,⟨xs,vs,hE1⟩,hg1⟩:=h1.o;have jZ:Hd (EnB w.heap.size w1 es (.slice (some ⟨F,0,none⟩) n c1) xs vs):=hE1;have ay:Hd (w.grownBy w1 none):=hg1;clear h1 hE1 hg1;go_wp2_with (go_at_call 6;refine(Pj.o _ ay.o).mono ?_);rintro e w2 ⟨vm,rfl,h2⟩;obtain⟨⟨vs2,hR2⟩,hg2⟩:=h2.o;have HR2:Hd (RnB w1.heap.size w2 es vm vs2):=hR2;have WN:Hd (w1.grownBy w2 none):=hg2;have HG2:Hd (w.grownBy w2 none):=ah ay.o hg2;have jQ:Hd (Calls prog 7 #[.slice (some ⟨F,0,none⟩) n c1,vm] w2 fun e w''=>e=.returned (.bool true)/\Hd (w2.grownBy w'' none)):=CS.o _ _ _ (jZ.o.ens.grow hg2) hR2.ens;obtain⟨om,cm,hvm⟩:=xA hR2.ens;rw[HN.o]at hvm;subst hvm;clear h2 hR2 hg2;go_wp2_with (go_at_call 7;refine jQ.o.mono ?_)
  rintro e w3 ⟨rfl,h3⟩;have WO:Hd (w1.grownBy w3 none):=ah WN.o h3.o;have HR3:Hd (RnB w1.heap.size w3 es (.slice om n cm) vs2):=HR2.o.grow h3.o;clear h3 jQ HR2 WN;go_wp2_with (go_at_call 8;refine(CM.o 0 _).mono ?_;rintro e w4 ⟨rfl,h4⟩);have WP:Hd (w1.grownBy w4 none):=ah WO.o h4.o;have dS:Hd (w.grownBy w4 none):=ah ay.o WP.o;have HR4:Hd (RnB w1.heap.size w4 es (.slice om n cm) vs2):=HR3.o.grow h4.o;have rW:Hd (SpE w4 w.heap.size w1.heap.size F n 0 vs (fun i=>(es[i]?.map (·.nd.length)).getD 0)):=by
   have:=jZ.o.spe WP.o (fun x hx=>by have:=wW.o x hx;omega);rw[HN.o]at this;exact this
  obtain⟨ls,hls⟩:∃ls:Nat->Nat,(fun i=>(es[i]?.map (·.nd.length)).getD 0)=ls:=⟨_,rfl⟩;rw[hls]at rW;clear h4 hls jZ HR3 WO;go_loopw [10] (fun v10 wr=>∃i:Nat,v10=.int .i64 (i:Nat)/\i<=n/\SpE wr w.heap.size w1.heap.size F n i vs ls/\SpF w.heap.size w1.heap.size w4 wr) (fun v10 _=>n-(intOf v10).toNat)
  case atStart=>exact⟨0,rfl,Nat.zero_le _,rW.o,SpF.refl _ _ _⟩
  case round =>
   obtain⟨i,rfl,hi,hsp,hsf⟩:=hrel;obtain⟨wo,hwo⟩:∃wo,wo=wr:=⟨_,rfl⟩;subst hwo
   by_cases hin:i<n
   ·have hI:(i:Int)<(n:Int):=by omega
    obtain⟨ok,ck,hkv,Gn,hkp⟩:=hsp.kid i hin;obtain⟨m,hm⟩:=zN (ls i);rw[hm]at hkv Gn hkp;have HKV:Hd (vs i=.slice ok m ck):=hkv;have yF:Hd (∀wx,SpE wx w.heap.size w1.heap.size F n i vs ls->0<m->∃g cur,ok=some ⟨g,0,none⟩/\w.heap.size<=g/\g<w1.heap.size/\wx.heap[g]?=some (.cells cur 9 (0,0))/\m<=cur.size):=fun wx hx hp=>by
     obtain⟨o',c',e1,-,e3⟩:=hx.kid i hin;rw[hm]at e1 e3;rw[hkv]at e1;injection e1 with e1 _ _
     rw[e1];exact e3 hp
    have jO:Hd (SpE wo w.heap.size w1.heap.size F n i vs ls):=hsp;have Dv:Hd (SpF w.heap.size w1.heap.size w4 wo):=hsf;clear hsp hsf hkv hkp hm;go_wp2;go_loopw [11] (fun v11 wr=>∃k:Nat,v11=.int .i64 (k:Nat)/\k<=m/\SpE wr w.heap.size w1.heap.size F n i vs ls/\SpF w.heap.size w1.heap.size w4 wr) (fun v11 _=>m-(intOf v11).toNat)
    case atStart=>exact⟨0,rfl,Nat.zero_le _,jO.o,Dv.o⟩
    case round =>
     obtain⟨k,rfl,hk,hsp,hsf⟩:=hrel;obtain⟨a4,afz⟩:=hsp.at i (Nat.le_refl _) hin;rw[HKV.o]at a4;have uY:Hd (SpE wr w.heap.size w1.heap.size F n i vs ls):=hsp;have y8:Hd (SpF w.heap.size w1.heap.size w4 wr):=hsf
     by_cases hkm':k<m
     ·have Eh:(k:Int)<(m:Int):=by omega
      obtain⟨g,cur,rfl,hg0,hg1,hgb,hgs⟩:=yF.o wr hsp (by omega);have b1:∃v,wr.cell? ⟨g,k,none⟩=some v:=⟨cur[k]'(by omega),by rw[af hgb];exact Array.getElem?_eq_getElem (by omega)⟩;obtain⟨v1,b1⟩:=b1;have b2:wr.frozen? ⟨g,k,none⟩=false:=Lib.frozen_of_heap hgb k;have qP:Hd (SpE (wr.setCell ⟨g,k,none⟩ (.string ⟨#[63]⟩)) w.heap.size w1.heap.size F n i vs ls):=hsp.kidc hgb k _;have oH:Hd (SpF w.heap.size w1.heap.size w4 (wr.setCell ⟨g,k,none⟩ (.string ⟨#[63]⟩))):=hsf.set hg0 hg1 k _;clear hsp hsf hgb hgs hg0 hg1 afz;go_wp2;go_roundw
      case rel=>exact⟨k+1,by go_num,by omega,qP.o,oH.o⟩
      case measure=>simp[intOf];omega
     ·have Eh:¬(k:Int)<(m:Int):=by omega
      obtain⟨v0,e0⟩:=hsp.any (i*4) (by omega);obtain⟨v1,e1⟩:=hsp.any (i*4+1) (by omega);obtain⟨v2,e2⟩:=hsp.any (i*4+2) (by omega);have f0:=afz (i*4);have f1:=afz (i*4+1);have f2:=afz (i*4+2);have f3:=afz (i*4+3);clear hsp hsf afz;go_upto_region 13 with fail
      go_wp2;refine⟨⟨i+1,by go_num,by omega,(((uY.o.next.cell _ (by omega) _).cell _ (by omega) _).cell _ (by omega) _).cell _ (by omega) _,(((y8.o.set uY.o.lo uY.o.hi _ _).set uY.o.lo uY.o.hi _ _).set uY.o.lo uY.o.hi _ _).set uY.o.lo uY.o.hi _ _⟩,?_⟩;simp[intOf];omega
   ·have hI:¬(i:Int)<(n:Int):=by omega
    have Ez:Hd (w.grownBy wo none):=Dy ((Aj dS.o).trans hsf.below);have HRR:Hd (RnB w1.heap.size wo es (.slice om n cm) vs2):=HR4.o.spf hsf (Nat.le_refl _);clear hsp hsf;go_wp2_with (go_at_call 5;refine(xq.o _ Ez.o).mono ?_);rintro e w5 F5 c5 rfl h5;obtain⟨-,⟨xs5,vs5,WQ⟩,hg5⟩:=h5.o;have iy:Hd (w.grownBy w5 none):=ah Ez.o hg5;have Pm:Hd (Calls prog 7 #[.slice (some ⟨F5,0,none⟩) n c5,.slice om n cm] w5 fun e w''=>e=.returned (.bool true)/\Hd (w5.grownBy w'' none)):=CS.o _ _ _ WQ.ens (HRR.o.grow hg5).ens;clear h5 WQ hg5;go_wp2_with (go_at_call 7;refine Pm.o.mono ?_;rintro e w6 ⟨rfl,h6⟩);go_ret;exact⟨rfl,ah iy.o h6.o⟩
end Go.Proofs.YtnnbgjaphfhibaaGreatDoor
