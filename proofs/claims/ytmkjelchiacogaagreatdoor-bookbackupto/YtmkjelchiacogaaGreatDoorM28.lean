import Derived.Test.YtmkjelchiacogaaGreatDoorM26
import Derived.Test.YtmkjelchiacogaaGreatDoorM27
import Derived.Test.YtmkjelchiacogaaGreatDoorM21
import Derived.RangeFuncKeeps
import Derived.Shelf.SlIter.Collect
set_option linter.unusedVariables false
set_option linter.unusedSimpArgs false
set_option maxRecDepth 100000
set_option maxHeartbeats 6400000
open Go.Proofs.Tryz
namespace Go.Proofs.YtmkjelchiacogaaGreatDoor
open Go.RowKit Go.Maps Go.WideMaps Go.Joins
theorem OL{α:Type}(f:α->List Value)(s:Nat):∀(L:List α) (i k:Nat) (hi:i<L.length),(∀x∈L,(f x).length=s)->k<s->(L.flatMap f)[i*s+k]?=(f L[i])[k]?
 | [],i,k,hi,_,_=>absurd hi (by simp)
 | x :: L,0,k,hi,h,hk=>by
  rw[List.flatMap_cons,List.getElem?_append_left (by rw[h x (by simp)];omega)];simp
 | x :: L,i+1,k,hi,h,hk=>by
  have hx:=h x (by simp);rw[List.flatMap_cons,List.getElem?_append_right (by rw[hx,Nat.succ_mul];omega),hx,show(i+1)*s+k-s=i*s+k by rw[Nat.succ_mul];omega];exact OL f s L i k (by simpa using hi) (fun y hy=>h y (by simp[hy])) hk
theorem afJ(v:Value)(L:List En)(w:World)(h:EnS w v L)(hL:L.length<=1048576)(hz:∀x∈L,x.nm.size<=maxLen) :
  Calls prog 12 #[v] w fun e w'=>∃B,e=.returned (.map (some B))/\w'.ownsMap prog 9 (plainElem (H:=Unit) prog 3) B L.length (dB L L.length)/\w.grownBy w' none:=by
 rcases h with⟨rfl,rfl⟩|⟨a,cap,rfl,hcap,h⟩
 ·have hmm:=Ns 0 w;go_enter func12,ntmps12;go_wp2;obtain⟨B,hB⟩:=zN (w.heap.size);have HB:Hd (w.heap.size=B):=hB
  try rw[hB]
  clear hB;go_loopw [13] (fun vi wr=>vi=.int .i64 0/\wr.ownsMap prog 9 (plainElem (H:=Unit) prog 3) B 0 (.map [])/\w.grownBy wr none) (fun vi _=>0)
  case atStart=>exact⟨rfl,HB.o ▸ World.ownsMap_made _ _ _ _,aP (ai w none) _⟩
  case round =>
   obtain⟨rfl,ho,hb⟩:=hrel;have HG:Hd (w.grownBy wr none):=hb;have HO:Hd (wr.ownsMap prog 9 (plainElem (H:=Unit) prog 3) B 0 (.map [])):=ho;clear hb hmm ho;go_wp2;refine bodyPost_ret (results_tmp (t:=2) rfl _ _ _) rfl ⟨B,rfl,HO.o,HG.o⟩
 ·exact VC a cap L w hL hcap hz h
theorem XW{α:Type}(p:α->Bool)(L:List α)(i:Nat)(hi:i<L.length)(h:(L.take i).find? p=none):(p L[i]=false->(L.take (i+1)).find? p=none)/\(p L[i]=true->L.find? p=some L[i]):=by
 constructor
 ·intro hp;rw[List.take_succ_eq_append_getElem hi,List.find?_append,h];simp[hp]
 ·intro hp;have e:L=L.take i++L[i] :: L.drop (i+1):=by rw[<-List.drop_eq_getElem_cons hi,List.take_append_drop]
  have e2:L.find? p=(L.take i++L[i] :: L.drop (i+1)).find? p:=congrArg _ e;rw[e2,List.find?_append,h,List.find?_cons_of_pos hp];rfl
section
variable {w0:World} {T D Lb:Nat} {nv:Value} {kv:Nat->Value} {ns:List Tn} {d:Dr} {w w':World} {vt ve vw:Value} {xs:List Value} {vs:Nat->Value}
theorem XX{t:TypeId}{s n g c:Nat}{ys:List Value}(h:w.ownsRow w0.heap.size t s (.slice (some ⟨g,0,none⟩) n c) n ys)(j:Nat)(u:Value)(hu:ys[j]?=some u):w.cell? ⟨g,j,none⟩=some u:=by
 have:=h.cells (g:=g) rfl j u hu;rw[sD]at this;exact this
theorem XY{t:TypeId}{s n:Nat}{v:Value}{ys:List Value}(h:w.ownsRow w0.heap.size t s v n ys)(hn:0<n):∃g c,v=.slice (some ⟨g,0,none⟩) n c/\n<=c:=by
 rcases h.2 with⟨_,e⟩|⟨g,cap,cu,e1,_,_,hn',_⟩
 ·omega
 ·exact⟨g,cap,e1,hn'⟩
theorem afK{N c:Nat}(h:Dm w0 T D Lb nv kv ns d w vt ve vw xs vs)(H:Nd w0 N c kv ns)(I:DrI d)(M:DrN d)(hwt:d.wt.length<=1000000)(htb:∀q∈d.tb,q<ns.length) :
  Calls prog 46 #[.pointer (some ⟨D,0,none⟩)] w fun e w'=>e=.returned (.tuple #[.int .i64 (l9 ns d).1,.int .i64 ((l9 ns d).2:Nat)])/\w.grownBy w' none:=by
 obtain⟨-,-,-,d1,d2,d3,d4,-⟩:=h.cells;obtain⟨Z,Y,hZ⟩:∃Z Y,l9 ns d=(Z,Y):=⟨_,_,rfl⟩;rw[hZ];simp only[];have HZ:Hd (l9 ns d=(Z,Y)):=hZ;clear hZ;have HD:Hd (Dm w0 T D Lb nv kv ns d w vt ve vw xs vs):=h;obtain⟨fm,hfm⟩:∃b,d.fm=b:=⟨_,rfl⟩;have EE:Hd (d.fm=fm):=hfm;rw[hfm]at d1;clear hfm
 cases fm with
 | false =>
  have HY:Hd (Z=6/\Y=0):=by
   have:=HZ.o;unfold l9 at this;rw[if_pos EE.o]at this;injection this with h1 h2
   exact⟨h1.symm,h2.symm⟩
  clear h d2 d3 d4 HZ;go_enter func46,ntmps46;go_wp2;refine bodyPost_ret (results_tmp2 (t:=2) (u:=3) rfl _ _ _) rfl ⟨?_,ai _ _⟩;rw[HY.o.1,HY.o.2];rfl
 | true =>
  obtain⟨o2,c2,hvt⟩:=ku h.tab;obtain⟨o5,c5,hvw⟩:=ku h.wan;subst hvt hvw;have hrt:=h.tab;have hrw:=h.wan;obtain⟨tl,htl⟩:=zN (d.tb.length);obtain⟨wl,hwl⟩:=zN (d.wt.length);have ahl:tl<=50:=by rw[<-htl];exact I.t50
  have ahm:wl<=1000000:=by rw[<-hwl];exact hwt
  rw[htl]at hrt d2;rw[hwl]at hrw d4;have XZ:Hd (w.ownsRow w0.heap.size 90 6 (.slice o2 tl c2) tl (d.tb.flatMap (nZ kv ns))):=hrt;have HRW:Hd (w.ownsRow w0.heap.size 138 2 (.slice o5 wl c5) wl (d.wt.flatMap tX)):=hrw;have HL:Hd (d.tb.length=tl/\d.wt.length=wl):=⟨htl,hwl⟩;have HH:Hd (Nd w0 N c kv ns):=H;have zU:Hd (∀q∈d.tb,q<ns.length):=htb;have iZ:Hd (w0.grownBy w none):=h.gb;have Be:Hd (∀y∈d.wt,y.1.size<=30):=M.wt;have HC:Hd (∀w',w.grownBy w' none->Calls prog 12 #[ve] w' fun e w''=>∃B,e=.returned (.map (some B))/\w''.ownsMap prog 9 (plainElem (H:=Unit) prog 3) B d.es.length (dB d.es d.es.length)/\w'.grownBy w'' none):=fun w' hg=>afJ ve d.es w' (h.ent.ens.grow hg) (by have:=I.tl;have:=I.t50;omega) (fun x hx=>by have:=M.es x hx;unfold maxLen;omega)
  have HZ2:Hd ((match d.tb.find? (fun q=>decide ((ax ns q).length<4)) with|some q=>((6:Int),IA ns q)|none=>match d.wt.find? (fun y=>!az d.es y.1) with|some y=>(6,y.2)|none=>(0,0))=(Z,Y)):=by
   have:=HZ.o;unfold l9 at this;rw[EE.o,if_neg (by simp)]at this;exact this
  have X0:∀t,Maps.has (dB d.es d.es.length) (gW t)=az d.es t:=fun t=>by rw[Ee d.es t _ (Nat.le_refl _),List.take_length]
  have vZ:Hd (∀t,Maps.has (dB d.es d.es.length) (gW t)=az d.es t):=X0;obtain⟨oe,ce,jo⟩:=ku h.ent.row;clear h hrt hrw htl hwl htb hwt HZ EE X0 H M I HD;subst jo;go_enter func46,ntmps46;go_wp2;go_loopw [21] (fun vi wr=>∃i:Nat,vi=.int .i64 (i:Nat)/\i<=tl/\(d.tb.take i).find? (fun q=>decide ((ax ns q).length<4))=none/\w.grownBy wr none) (fun vi _=>tl-(intOf vi).toNat)
  case atStart=>exact⟨0,rfl,by omega,rfl,ai _ _⟩
  case round =>
   obtain⟨i,rfl,hi,hf,hg⟩:=hrel;have HF:Hd ((d.tb.take i).find? (fun q=>decide ((ax ns q).length<4))=none):=hf;have HG:Hd (w.grownBy wr none):=hg;clear hf hg
   by_cases hlt:i<tl
   ·have hin:i<d.tb.length:=by rw[HL.o.1];exact hlt
    obtain⟨g,c',hsl,hnc⟩:=XY XZ.o (by omega)
    cases hsl
    obtain⟨q,hq⟩:=zN (d.tb[i]);have gI:q<ns.length:=zU.o q (by rw[<-hq];exact List.getElem_mem hin);have X4:nZ kv ns q=(dM ns[q] (kv q)).toList:=by unfold nZ;rw[List.getElem?_eq_getElem gI]
    have key:∀k u,k<6->(dM ns[q] (kv q)).toList[k]?=some u->wr.cell? ⟨g,i*6+k,none⟩=some u:=fun k u hk hu=>by
     refine HG.o.cell (XX XZ.o (i*6+k) u ?_) (by simp);rw[OL (nZ kv ns) 6 d.tb i k hin (fun p hp=>by unfold nZ;rw[List.getElem?_eq_getElem (zU.o p hp)];rfl) hk,hq,X4];exact hu
    obtain⟨ok,ck,hkk,-⟩:=HH.o.kid q gI;have hkl:=HH.o.num q gI;have hks:ax ns q=ns[q].ks:=by unfold ax;rw[List.getElem?_eq_getElem gI]
    have hpl:IA ns q=ns[q].pl:=by unfold IA;rw[List.getElem?_eq_getElem gI]
    have iw:Hd ((¬ns[q].ks.length<4->(d.tb.take (i+1)).find? (fun q=>decide ((ax ns q).length<4))=none)/\(ns[q].ks.length<4->Z=6/\Y=ns[q].pl)):=by
     have:=XW (fun q=>decide ((ax ns q).length<4)) d.tb i hin HF.o;rw[hq,hks]at this;refine⟨fun hh=>this.1 (decide_eq_false hh),fun hh=>?_⟩;have h2:=this.2 (decide_eq_true hh);have h3:=HZ2.o;rw[h2]at h3;simp only[]at h3;injection h3 with h4 h5
     exact⟨h4.symm,by rw[<-h5,hpl]⟩
    obtain⟨x,hx⟩:=zN (ns[q]);rw[hx]at key hkk iw hkl;rw[hkk]at key;have k0:wr.cell? ⟨g,i*6,none⟩=some (.int .i64 x.kd):=key 0 _ (by decide) rfl;have k1:wr.cell? ⟨g,i*6+1,none⟩=some (.string ⟨x.ky.toArray⟩):=key 1 _ (by decide) rfl;have k2:wr.cell? ⟨g,i*6+2,none⟩=some (.string ⟨x.tx.toArray⟩):=key 2 _ (by decide) rfl;have k3:wr.cell? ⟨g,i*6+3,none⟩=some (.int .i64 x.nu):=key 3 _ (by decide) rfl;have k4:wr.cell? ⟨g,i*6+4,none⟩=some (.slice ok x.ks.length ck):=key 4 _ (by decide) rfl;have k5:wr.cell? ⟨g,i*6+5,none⟩=some (.int .i64 (x.pl:Nat)):=key 5 _ (by decide) rfl;obtain⟨m,hm⟩:=zN (x.ks.length);rw[hm]at k4 iw hkl;clear key X4 hkk hx hm hks hpl hq hin gI
    by_cases h4:m<4
    ·have h4I:(m:Int)<4:=by omega
     have xx:Hd (Z=6/\Y=x.pl):=iw.o.2 h4;clear iw h4;go_wp2;go_quiet (fail);go_wp2;refine bodyPost_ret (results_tmp2 (t:=2) (u:=3) rfl _ _ _) rfl ⟨?_,?_⟩
     ·rw[xx.o.1,xx.o.2];rfl
     ·exact af HG.o (au (aP (ai wr none) _) _)
    ·have h4I:¬(m:Int)<4:=by omega
     have sH:Hd ((d.tb.take (i+1)).find? (fun q=>decide ((ax ns q).length<4))=none):=iw.o.1 h4;clear iw h4;go_wp2;exact⟨⟨i+1,by go_num,by omega,sH.o,af HG.o (aP (ai wr none) _)⟩,by simp[intOf];omega⟩
   ·have X5:Hd (d.tb.find? (fun q=>decide ((ax ns q).length<4))=none):=by
     have:=HF.o;have e:i=d.tb.length:=by rw[HL.o.1];omega
     rw[e,List.take_length]at this;exact this
    have d3w:=HG.o.cell d3 (by simp);have d4w:=HG.o.cell d4 (by simp);clear HF;go_wp2_with (go_at_call 12;refine(HC.o _ HG.o).mono ?_);rintro e w2 ⟨B,rfl,ho,hg2⟩;have HG2:Hd (w.grownBy w2 none):=af HG.o hg2;have HO:Hd (w2.ownsMap prog 9 (plainElem (H:=Unit) prog 3) B d.es.length (dB d.es d.es.length)):=ho;have d4':=hg2.cell d4w (by simp);clear hg2 ho d3w d4w;go_wp2;go_loopw [42] (fun vi wr=>∃i:Nat,vi=.int .i64 (i:Nat)/\i<=wl/\(d.wt.take i).find? (fun y=>!az d.es y.1)=none/\wr.ownsMap prog 9 (plainElem (H:=Unit) prog 3) B d.es.length (dB d.es d.es.length)/\w.grownBy wr none) (fun vi _=>wl-(intOf vi).toNat)
    case atStart=>exact⟨0,rfl,by omega,rfl,HO.o,HG2.o⟩
    case round =>
     obtain⟨j,rfl,hj,hf,hown,hg⟩:=hrel;have HF:Hd ((d.wt.take j).find? (fun y=>!az d.es y.1)=none):=hf;have aQ:Hd (w.grownBy wr none):=hg;have NL:Hd (wr.ownsMap prog 9 (plainElem (H:=Unit) prog 3) B d.es.length (dB d.es d.es.length)):=hown;clear hf hg hown
     by_cases hlt:j<wl
     ·have hjn:j<d.wt.length:=by rw[HL.o.2];exact hlt
      obtain⟨g,c',hsl,hnc⟩:=XY HRW.o (by omega)
      cases hsl
      obtain⟨y,hy⟩:=zN (d.wt[j]);have key:∀k u,k<2->(tX y)[k]?=some u->wr.cell? ⟨g,j*2+k,none⟩=some u:=fun k u hk hu=>by
       refine aQ.o.cell (XX HRW.o (j*2+k) u ?_) (by simp);rw[OL tX 2 d.wt j k hjn (fun p hp=>rfl) hk,hy];exact hu
      have k0:wr.cell? ⟨g,j*2,none⟩=some (.string y.1):=key 0 _ (by decide) rfl;have k1:wr.cell? ⟨g,j*2+1,none⟩=some (.int .i64 (y.2:Nat)):=key 1 _ (by decide) rfl;have hys:y.1.size<=30:=Be.o y (by rw[<-hy];exact List.getElem_mem hjn);have hkey:keyOf prog 9 (.string y.1)=some (gW y.1):=Go.WideMaps.keyOf_string_mk underlying9 (by unfold maxLen;omega);have iw:Hd ((az d.es y.1=true->(d.wt.take (j+1)).find? (fun y=>!az d.es y.1)=none)/\(az d.es y.1=false->Z=6/\Y=y.2)):=by
       have:=XW (fun y=>!az d.es y.1) d.wt j hjn HF.o;rw[hy]at this;refine⟨fun hh=>this.1 (by rw[hh];rfl),fun hh=>?_⟩;have h2:=this.2 (by rw[hh];rfl);have h3:=HZ2.o;rw[X5.o,h2]at h3;simp only[]at h3;injection h3 with h4 h5
       exact⟨h4.symm,h5.symm⟩
      have hown2:=NL.o.alloc (.cells #[.string y.1,.int .i64 (y.2:Nat)] 138);obtain⟨q,hq⟩:=zN (Maps.has (dB d.es d.es.length) (gW y.1));have HQ:Hd (az d.es y.1=q):=(vZ.o y.1).symm.trans hq;clear key hjn hy hys
      cases q with
      | true =>
       have sH:=iw.o.1 HQ.o;have OC:Hd ((d.wt.take (j+1)).find? (fun y=>!az d.es y.1)=none):=sH;clear iw sH;go_wp2_with (first|(at_lookup;refine wpList_lookup_own_ok_int _ rfl _ _ 37 rfl 9 3 .i64 keyS underlying37 underlying3 (wV _) B _ _ rfl hown2 _ _ rfl hkey ?_;intro cc hat hwc;rw[hq])|go_in);exact⟨⟨j+1,by go_num,by omega,OC.o,hown2,af aQ.o (aP (ai wr none) _)⟩,by simp[intOf];omega⟩
      | false =>
       have xx:Hd (Z=6/\Y=y.2):=iw.o.2 HQ.o;clear iw;go_wp2_with (first|(at_lookup;refine wpList_lookup_own_ok_int _ rfl _ _ 37 rfl 9 3 .i64 keyS underlying37 underlying3 (wV _) B _ _ rfl hown2 _ _ rfl hkey ?_;intro cc hat hwc;rw[hq])|go_in);go_quiet (fail);go_wp2;refine bodyPost_ret (results_tmp2 (t:=2) (u:=3) rfl _ _ _) rfl ⟨?_,?_⟩
       ·rw[xx.o.1,xx.o.2];rfl
       ·exact af aQ.o (au (aP (ai wr none) _) _)
     ·have Bl:Hd (d.wt.find? (fun y=>!az d.es y.1)=none):=by
       have:=HF.o;have e:j=d.wt.length:=by rw[HL.o.2];omega
       rw[e,List.take_length]at this;exact this
      have xx:Hd (Z=0/\Y=0):=by
       have h3:=HZ2.o;rw[X5.o,Bl.o]at h3;simp only[]at h3;injection h3 with h4 h5
       exact⟨h4.symm,h5.symm⟩
      clear HF;go_wp2;refine bodyPost_ret (results_tmp2 (t:=2) (u:=3) rfl _ _ _) rfl ⟨?_,aQ.o⟩;rw[xx.o.1,xx.o.2];rfl
end
open Go.RowKit Go.Maps Go.WideMaps Go.Joins
def OM(w0:World)(es:List En)(e:Ending)(w':World):Prop :=
 (∃ve,e=.returned (.tuple #[ve,.int .i64 0,.int .i64 0])/\EnS w' ve es)/\w0.grownBy w' none
theorem afL{w0 w:World}{T D Lb:Nat}{nv:Value}{kv:Nat->Value}{ns:List Tn}(hg:w0.grownBy w none)(hT:w.heap[T]?=some (.cells #[nv,.slice (some ⟨Lb,0,none⟩) ns.length ns.length] 135 (0,0)))(hD:w.heap[D]?=some (.cells #[.pointer (some ⟨T,0,none⟩),.bool false,.slice none 0 0,.slice none 0 0,.slice none 0 0] 86 (0,0)))(hL:w.heap[Lb]?=some (.cells (Array.replicate ns.length .nilFunc) 93 (0,0)))(hB:XE w D T)(bD:w0.heap.size<=D)(bL:w0.heap.size<=Lb):Dm w0 T D Lb nv kv ns iV w (.slice none 0 0) (.slice none 0 0) (.slice none 0 0) [] (fun _=>.slice none 0 0) :=
 ⟨hg,hT,hD,⟨_,hL,by simp,fun q hq=>by simp[iV,LkV],hB⟩,⟨rfl,Or.inl ⟨rfl,rfl⟩⟩,⟨⟨rfl,Or.inl ⟨rfl,rfl⟩⟩,fun i hi=>absurd hi (by simp[iV]),fun i hi=>absurd hi (by simp[iV]),fun i j g hi=>absurd hi (by simp[iV])⟩,⟨rfl,Or.inl ⟨rfl,rfl⟩⟩,bD,bL⟩
theorem afM(N c T Lb:Nat)(kv:Nat->Value)(ns:List Tn)(w0 w:World)(H:Nd w0 N c kv ns)(hc:ns.length<=c)(hg:w0.grownBy w none)(hT:w.heap[T]?=some (.cells #[.slice (some ⟨N,0,none⟩) ns.length c,.slice (some ⟨Lb,0,none⟩) ns.length ns.length] 135 (0,0)))(hL:w.heap[Lb]?=some (.cells (Array.replicate ns.length .nilFunc) 93 (0,0)))(bL:w0.heap.size<=Lb)(es:List En)(hes:xe ns=.ok es) :
  Calls prog 17 #[.pointer (some ⟨T,0,none⟩)] w (OM w0 es):=by
 obtain⟨B,hB⟩:=zN (w.heap.size);obtain⟨W,hW⟩:=zN (((w.alloc (.cells #[.pointer (some ⟨T,0,none⟩)] 81)).alloc (.cells #[.pointer (some ⟨T,0,none⟩),.bool false,.slice none 0 0,.slice none 0 0,.slice none 0 0] 86)).alloc (.cells #[.pointer (some ⟨B+1,0,none⟩)] 83));have qw:w.grownBy W none:=hW ▸ aP (aP (aP (ai w none) _) _) _;have h1:W.heap[B]?=some (.cells #[.pointer (some ⟨T,0,none⟩)] 81 (0,0)):=by
  rw[<-hW,<-hB,Lib.alloc_old _ _ _ (by simp;omega),Lib.alloc_old _ _ _ (by simp)];exact heap_alloc_new _ _
 have h2:W.heap[B+1]?=some (.cells #[.pointer (some ⟨T,0,none⟩),.bool false,.slice none 0 0,.slice none 0 0,.slice none 0 0] 86 (0,0)):=by
  rw[<-hW,<-hB,Lib.alloc_old _ _ _ (by simp)];have:=heap_alloc_new (w.alloc (.cells #[.pointer (some ⟨T,0,none⟩)] 81)) (.cells #[.pointer (some ⟨T,0,none⟩),.bool false,.slice none 0 0,.slice none 0 0,.slice none 0 0] 86)
  rwa [World.size_alloc]at this
 have h3:W.heap[B+2]?=some (.cells #[.pointer (some ⟨B+1,0,none⟩)] 83 (0,0)):=by
  rw[<-hW,<-hB];have:=heap_alloc_new ((w.alloc (.cells #[.pointer (some ⟨T,0,none⟩)] 81)).alloc (.cells #[.pointer (some ⟨T,0,none⟩),.bool false,.slice none 0 0,.slice none 0 0,.slice none 0 0] 86)) (.cells #[.pointer (some ⟨w.heap.size+1,0,none⟩)] 83)
  rwa [World.size_alloc,World.size_alloc]at this
 have hd:Dm w0 T (B+1) Lb (.slice (some ⟨N,0,none⟩) ns.length c) kv ns iV W (.slice none 0 0) (.slice none 0 0) (.slice none 0 0) [] (fun _=>.slice none 0 0):=afL (af hg qw) ((aU qw).blk hT) h2 ((aU qw).blk hL) ⟨h3,h1⟩ (by have:=hg.size;omega) bL;have HD:Hd (Dm w0 T (B+1) Lb (.slice (some ⟨N,0,none⟩) ns.length c) kv ns iV W (.slice none 0 0) (.slice none 0 0) (.slice none 0 0) [] (fun _=>.slice none 0 0)):=hd;have nO:Hd (W.heap[B]?=some (.cells #[.pointer (some ⟨T,0,none⟩)] 81 (0,0))/\W.heap[B+2]?=some (.cells #[.pointer (some ⟨B+1,0,none⟩)] 83 (0,0))):=⟨h1,h3⟩;have HH:Hd (Nd w0 N c kv ns/\ns.length<=c):=⟨H,hc⟩;obtain⟨x,hx⟩:=zN (ns[0]'H.pos);have hks:ax ns 0=x.ks:=by unfold ax;rw[List.getElem?_eq_getElem H.pos,hx]
 obtain⟨o4,m4,hk4,-⟩:=H.kid 0 H.pos;rw[hx]at hk4;have HX:Hd (ns[0]'H.pos=x/\kv 0=.slice o4 x.ks.length m4):=⟨hx,hk4⟩;obtain⟨dR,hR,hl0,hle⟩:∃dR,iq ns ns.length (keepD iV x.ks .root)=.ok dR/\(l9 ns dR).1=0/\dR.es=es:=by
  unfold xe at hes;rw[hks]at hes
  cases hch:iq ns ns.length (keepD iV x.ks .root) with
  | error e=>rw[hch]at hes;cases hes
  | ok d =>
   rw[hch]at hes;simp only[]at hes
   by_cases h0:(l9 ns d).1=0
   ·rw[if_pos h0]at hes
    cases hes
    exact⟨d,rfl,h0,rfl⟩
   ·rw[if_neg h0]at hes
    cases hes
 have c1:W.cell? ⟨B,0,none⟩=some (.pointer (some ⟨T,0,none⟩)):=by rw[ae h1];rfl
 have gV:Hd (W.grownBy W.drew none):=au (ai W none) 1;have CR:Hd (Calls prog 41 #[.pointer (some ⟨T,0,none⟩)] W.drew fun e w'=>e=.returned (.agg (dM x (.slice o4 x.ks.length m4)))/\W.drew.grownBy w' none/\w'.cell? ⟨B,0,none⟩=some (.pointer (some ⟨T,0,none⟩))):=by
  have:=afm N c (hd.grow gV.o) H;rw[hx,hk4]at this;exact this.mono fun e w' hh=>⟨hh.1,hh.2,(af gV.o hh.2).cell c1 (by simp)⟩
 have CK:Hd (∀w2,W.drew.grownBy w2 none->Calls prog 40 #[.pointer (some ⟨T,0,none⟩),.agg (dM x (.slice o4 x.ks.length m4)),.func (.func 42) #[] #[.pointer (some ⟨B+2,0,none⟩),.pointer (some ⟨B,0,none⟩)]] w2 fun e w3=>e=.returned (.tuple #[])/\Hd (Dm w0 T (B+1) Lb (.slice (some ⟨N,0,none⟩) ns.length c) kv ns (keepD iV x.ks .root) w3 (.slice none 0 0) (.slice none 0 0) (.slice none 0 0) [] (fun _=>.slice none 0 0)/\w3.heap[B]?=some (.cells #[.pointer (some ⟨T,0,none⟩)] 81 (0,0))/\w3.heap[B+2]?=some (.cells #[.pointer (some ⟨B+1,0,none⟩)] 83 (0,0)))/\w3.cell? ⟨B,0,none⟩=some (.pointer (some ⟨T,0,none⟩))):=fun w2 hg2=>by
  have hgW:=af gV.o hg2;have:=keep_any (hd.grow hgW) x (.slice o4 x.ks.length m4) (by have:=H.kid 0 H.pos;rw[hx,hk4]at this;exact this) (by have:=H.rng 0 H.pos;rw[hx]at this;exact this) (by have:=H.num 0 H.pos;rw[hx]at this;exact this) 42 #[.pointer (some ⟨B+2,0,none⟩),.pointer (some ⟨B,0,none⟩)] .root ⟨B+2,B,rfl,(aU hgW).blk h3,(aU hgW).blk h1⟩;refine this.mono fun e w3 ⟨a1,a2,a3⟩=>?_
  have y1:=(a3 _ (by decide)).blk ((aU hgW).blk h1);have y3:=(a3 _ (by decide)).blk ((aU hgW).blk h3);exact⟨a1,⟨a2,y1,y3⟩,by rw[ae y1];rfl⟩
 unfold dM at CR CK;have HW:Hd (((w.alloc (.cells #[.pointer (some ⟨T,0,none⟩)] 81)).alloc (.cells #[.pointer (some ⟨T,0,none⟩),.bool false,.slice none 0 0,.slice none 0 0,.slice none 0 0] 86)).alloc (.cells #[.pointer (some ⟨B+1,0,none⟩)] 83)=W/\w.heap.size=B):=⟨hW,hB⟩;have X6:Hd (iq ns ns.length (keepD iV x.ks .root)=.ok dR/\(l9 ns dR).1=0/\dR.es=es):=⟨hR,hl0,hle⟩;have CC:Hd (∀w3,Hd (Dm w0 T (B+1) Lb (.slice (some ⟨N,0,none⟩) ns.length c) kv ns (keepD iV x.ks .root) w3 (.slice none 0 0) (.slice none 0 0) (.slice none 0 0) [] (fun _=>.slice none 0 0)/\w3.heap[B]?=some (.cells #[.pointer (some ⟨T,0,none⟩)] 81 (0,0))/\w3.heap[B+2]?=some (.cells #[.pointer (some ⟨B+1,0,none⟩)] 83 (0,0)))->Calls prog 45 #[.pointer (some ⟨T,0,none⟩)] w3 fun e w4=>e=.returned (.tuple #[.int .i64 0,.int .i64 0])/\Hd (XT w0 T (B+1) Lb (.slice (some ⟨N,0,none⟩) ns.length c) kv ns dR e w4)):=fun w3 hh=>(check_any N c hh.o.1 H (afC _) ⟨fun y hy=>(by cases hy),fun y hy=>(by cases hy)⟩ rfl rfl hc dR hR).mono fun e w4 h4=>⟨h4.1,h4⟩
 clear hW qw h1 h2 h3 hd hx hks hk4 hR hl0 hle hes HX H hc hg hT hL bL;go_enter func17,ntmps17;go_upto_region 2 with fail
 try rw[HW.o.1]
 try rw[HW.o.2]
 go_region_held3 (fun u=>u.cell? ⟨B,0,none⟩=some (.pointer (some ⟨T,0,none⟩))) ((first|assumption|exact gV.o.cell (by assumption) (by simp)|go_keep)) (first|(go_at_call 41;refine CR.o.mono ?_;rintro e2 w2 ⟨rfl,hg2,afN⟩)|(go_at_call 40;refine(CK.o _ (by assumption)).mono ?_;rintro e3 w3 ⟨rfl,hall,hcl⟩))
 all_goals
  clear CR CK HD nO c1 afN hcl hg2;have hcB:w3.cell? ⟨B,0,none⟩=some (.pointer (some ⟨T,0,none⟩)):=by rw[ae hall.o.2.1];rfl
  go_wp2_with (go_at_call 45;refine(CC.o _ hall).mono ?_);rintro e4 w4 ⟨rfl,h4⟩;obtain⟨-,⟨hI,hM,hwt,htb⟩,vt,ve,vw,xs,vs,hd4⟩:=h4.o;have CL:Hd (Calls prog 46 #[.pointer (some ⟨B+1,0,none⟩)] w4 fun e w5=>e=.returned (.tuple #[.int .i64 0,.int .i64 ((l9 ns dR).2:Nat)])/\Hd (w4.grownBy w5 none)):=(afK hd4 HH.o.1 hI hM hwt htb).mono fun e w5 hh=>by rw[X6.o.2.1]at hh;exact hh
  have HD4:Hd (Dm w0 T (B+1) Lb (.slice (some ⟨N,0,none⟩) ns.length c) kv ns dR w4 vt ve vw xs vs):=hd4;obtain⟨cs,-,-,-,hbt⟩:=hd4.lok;have X7:w4.cell? ⟨B+1+1,0,none⟩=some (.pointer (some ⟨B+1,0,none⟩)):=by rw[ae hbt.1];rfl
  clear hcB hall CC h4 hI hM hwt htb hd4 hbt;go_wp2_with (go_at_call 46;refine CL.o.mono ?_);rintro e5 w5 ⟨rfl,h5⟩;have HD5:=HD4.o.grow h5.o;have ahn:=h5.o.cell X7 (by simp);obtain⟨-,-,-,-,-,d3,-,-⟩:=HD5.cells;have X8:Hd (Dm w0 T (B+1) Lb (.slice (some ⟨N,0,none⟩) ns.length c) kv ns dR w5 vt ve vw xs vs):=HD5;clear X7 HD4 CL HD5;go_wp2;refine bodyPost_ret (results_tmp3 (t:=2) (u:=3) (v:=4) rfl _ _ _) rfl ?_;exact⟨⟨ve,rfl,by rw[<-X6.o.2.2];exact X8.o.ent.ens⟩,X8.o.gb⟩
open Go.RowKit Go.Maps Go.WideMaps Go.Joins
theorem afO{w:World}{B T:Nat}{ns:List Tn}{now N c M:Nat}{xs:List Value}{ks:Nat->Value}{n:Nat}{f:Nat->List UInt8->Option (Nat × Bool)}(h:TrD w B T ns now N c M xs ks n f)(l:List UInt8)(hl:jf l=.ok ns):Nd w N c ks ns/\ns.length<=c:=by
 obtain⟨tv,own,wf,hn⟩:=LK l ns hl;have kAt:∀i (hi:i<ns.length),ax ns i=ns[i].ks:=fun i hi=>by unfold ax;rw[List.getElem?_eq_getElem hi]
 refine⟨⟨fun i hi=>?_,fun i hi=>NuS.of (h.kid i hi),fun i hi q hq=>tv.lt i q (by rw[kAt i hi];exact hq),fun i hi=>ack hl i hi,by omega,tv.root.1,fun i hi=>by have:=(tv.txt _ (List.getElem_mem hi)).2.1;omega⟩,?_⟩
 ·obtain⟨h0,h1,h2,h3,h4,h5,-⟩:=h.node i hi;exact⟨h0,h1,h2,h3,h4,h5⟩
 ·rcases h.row.2 with⟨e1,_⟩|⟨g,cap,cu,e1,hb,hgg,hn',hm,hs,ht⟩
  ·cases e1
  ·cases e1;exact hn'
theorem egM:∀args w,(callFunc 17 args).run prog w=.ok (.enter 17 args) w:=enters_of func17 (by kernel_rfl) rfl
theorem afP(s:ByteArray)(E:Int->TypeId × Value)(b:Int->Addr)(w:World)(G:Gl w w.heap.size E)(S:Sn w E b)(hmx:s.size<2 ^ 62)(ns:List Tn)(hns:jf s.data.toList=.ok ns)(es:List En)(hes:xe ns=.ok es) :
  Calls prog 16 #[.string s,.func (.func 17) #[] #[]] w (OM w es):=by
 have CP:Hd (Calls prog 38 #[.string s] w fun e w2=>∃N c,e=.returned (.tuple #[.slice (some ⟨N,0,none⟩) ns.length c,.int .i64 0,.int .i64 0])/\Hd (w.grownBy w2 none/\ns.length<=1000000/\ns.length<=c/\∃kv,Nd w2 N c kv ns)):=(ae6 s E b w G S hmx).mono fun e w2 hh=>by
  obtain⟨N,c,M,T,xs,ks,now,n,f,he,hD⟩:=hh.1 ns hns;have:=afO hD _ hns;exact⟨N,c,he,hh.2.2,this.1.len,this.2,ks,this.1⟩
 have HES:Hd (xe ns=.ok es):=hes;clear G S hns hes;go_enter func16,ntmps16;go_wp2_with (go_at_call 38;refine CP.o.mono ?_);rintro e w2 ⟨N,c,rfl,hP⟩;have CN:Hd (Calls prog 39 #[.slice (some ⟨N,0,none⟩) ns.length c] w2 fun e w3=>e=.returned (.pointer (some ⟨w2.heap.size+1,0,none⟩))/\Hd (w3=(w2.alloc (.cells (Array.replicate ns.length .nilFunc) 93)).alloc (.cells #[.slice (some ⟨N,0,none⟩) ns.length c,.slice (some ⟨w2.heap.size,0,none⟩) ns.length ns.length] 135))):=afh N c ns.length w2 (by have:=hP.o.2.1;omega);obtain⟨T,hT⟩:=zN (w2.heap.size+1);have CM:Hd (∀w3,Hd (w3=(w2.alloc (.cells (Array.replicate ns.length .nilFunc) 93)).alloc (.cells #[.slice (some ⟨N,0,none⟩) ns.length c,.slice (some ⟨w2.heap.size,0,none⟩) ns.length ns.length] 135))->Calls prog 17 #[.pointer (some ⟨T,0,none⟩)] w3 fun e w4=>∃ve,e=.returned (.tuple #[ve,.int .i64 0,.int .i64 0])/\Hd (EnS w4 ve es/\w.grownBy w4 none)):=fun w3 hw3=>by
  obtain⟨hg,hl,hc,kv,H⟩:=hP.o;have h3:w3=_:=hw3;have hg3:w2.grownBy w3 none:=by rw[h3];exact aP (aP (ai w2 none) _) _
  have hT3:w3.heap[T]?=some (.cells #[.slice (some ⟨N,0,none⟩) ns.length c,.slice (some ⟨w2.heap.size,0,none⟩) ns.length ns.length] 135 (0,0)):=by
   rw[h3,<-hT];have:=heap_alloc_new (w2.alloc (.cells (Array.replicate ns.length .nilFunc) 93)) (.cells #[.slice (some ⟨N,0,none⟩) ns.length c,.slice (some ⟨w2.heap.size,0,none⟩) ns.length ns.length] 135)
   rwa [World.size_alloc]at this
  have hL3:w3.heap[w2.heap.size]?=some (.cells (Array.replicate ns.length .nilFunc) 93 (0,0)):=by
   rw[h3,Lib.alloc_old _ _ _ (by simp)];exact heap_alloc_new _ _
  refine(afM N c T w2.heap.size kv ns w2 w3 H hc hg3 hT3 hL3 (Nat.le_refl _) es HES.o).mono fun e w4 hh=>?_
  obtain⟨⟨ve,he,hE⟩,hg4⟩:=hh;exact⟨ve,he,hE,af hg hg4⟩
 rw[hT]at CN;have hEM:=egM;clear hT CP;go_wp2_with (first|(go_at_call 39;refine CN.o.mono ?_;rintro e w3 ⟨rfl,h3⟩)|(refine(CM.o _ (by assumption)).mono ?_;rintro e w4 ⟨ve,rfl,h4⟩));refine bodyPost_ret (results_tmp3 (t:=4) (u:=5) (v:=6) rfl _ _ _) rfl ?_;exact⟨⟨ve,rfl,h4.o.1⟩,h4.o.2⟩
open Go.RowKit Go.Maps Go.Sort Go.Shelf
attribute [local go_sem] Oper.semAt_some
theorem X9{P:Program}{n:Nat}{g:Operand}{ps:Array Tmp}{assign body:Code}{Q:Exit->Act->World->Prop}{a:Act}{w:World}{gf:Nat}{lb:Array Value}
  (hg:a.eval g=.func (.func gf) #[] lb) (eg:∀args w,(callFunc gf args).run P w=.ok (.enter gf args) w)
  (h:∀(r:Loop) (W4:World),r.state=.ready->r.pending=none->r.params=ps->r.assign=assign->r.body=body->r.tmps=a.tmps->(w.alloc (.deferred (some []))).alloc (.loop r)=W4 →
   CallsIn Fence.wide (n-1) P gf (#[.func (.yield (w.heap.size+1)) #[] #[]]++lb) W4 (rangePost Fence.wide n P (w.heap.size+1) Q { a with defers:=[{ target:=.collected w.heap.size,args:=#[] }]++a.defers })) :
  (Code.rangeFunc g ps assign body).wpIn Fence.wide n P Q a w:=by
 refine wpIn_rangeFunc ?_;intro fn hfn;obtain⟨r,hr⟩:∃r:Loop,r={ state:=.ready,pending:=none,fn:=fn,tmps:=a.tmps,params:=ps,assign:=assign,body:=body,defers:=w.heap.size }:=⟨_,rfl⟩;obtain⟨W1,hW1⟩:=zN ((w.alloc (.deferred (some []))).alloc (.loop r));have hc:=h r W1 (by rw[hr]) (by rw[hr]) (by rw[hr]) (by rw[hr]) (by rw[hr]) (by rw[hr]) hW1;have e1:(Instr.enterLoop fn a.tmps ps assign body Fence.wide.round).run P w=.ok (w.heap.size+1,[{ target:=.collected w.heap.size,args:=#[] }]) W1:=by
  rw[<-hW1,hr,show Fence.wide.round=none from rfl];exact run_enterLoop_outer _ _ _ _ _
 have e2:(resolve a.eval (rangeCall g (w.heap.size+1)) 0).run P W1=.ok { target:=.fn (.func gf) lb,args:=#[.func (.yield (w.heap.size+1)) #[] #[]] } W1:=by
  simp only[resolve,hg];simp[go_sem]
 have e3:(invoke (.fn (.func gf) lb) #[.func (.yield (w.heap.size+1)) #[] #[]]).run P W1=.ok (.enter gf (#[.func (.yield (w.heap.size+1)) #[] #[]]++lb)) W1:=by
  simp[invoke,go_sem,eg]
 have e4:Fence.wide.depth.isSome=true->1<=n:=by
  intro hd;simp[Fence.wide]at hd
 clear h hr;refine⟨w.heap.size+1,[{ target:=.collected w.heap.size,args:=#[] }],W1,{ target:=.fn (.func gf) lb,args:=#[.func (.yield (w.heap.size+1)) #[] #[]] },W1,gf,#[.func (.yield (w.heap.size+1)) #[] #[]]++lb,W1,e1,?_⟩;refine⟨e2,?_⟩;refine⟨fun _ _=>trivial,?_⟩;refine⟨e3,?_⟩;refine⟨e4,?_⟩;exact hc
theorem Ya(r:Loop)(h1:r.state=.ready)(h2:r.pending=none):({ ({ r with state:=.busy }:Loop) with state:=if(none:Option Code).isNone then .ready else .done,pending:=none }:Loop)=r:=by
 cases r
 simp at h1 h2;simp[h1,h2]
theorem Yb{P:Program}{n l:Nat}{r:Loop}{args:Array Value}{W1:World}{R:Ending->World->Prop}(hl:W1.heap[l]?=some (.loop r))(hps:args.size=r.params.size)
  (h:r.assign.wpIn (Fence.wide.inRound l) n P (Exit.then (fun a₁ w₁=>∃w₂,(Instr.beginRound l).run P w₁=.ok () w₂/\r.body.wpIn (Fence.wide.inRound l) n P (roundPost P l R) a₁ w₂) (fun _ _ _=>False))
   { tmps:=(r.params.zip args).foldl (fun tmps (t,a)=>tmps.setIfInBounds t a) r.tmps,defers:=[] } W1) :
  YieldAt Fence.wide n P l args W1 R:=⟨_,_,_,_,run_yield hl hps,roundIn_of_wpIn trivial h⟩
theorem afQ(o:Option Addr)(n c:Nat)(w:World):Calls prog 65 #[.slice o n c] w fun e w'=>e=.returned (.func (.func 106) #[] #[.pointer (some ⟨w.heap.size,0,none⟩)])/\w'=w.alloc (.cells #[.slice o n c] 41):=by
 go_enter func65,ntmps65;go_wp2;go_ret;exact⟨rfl,rfl⟩
theorem afR(n l bm:Nat)(hn:1<=n)(o:Option Addr)(c:Nat)(L:List ByteArray)(hL:L.length<=1048576)(J:List ByteArray->World->Prop)
  (hc:∀pre W,J pre W->W.cell? ⟨bm,0,none⟩=some (.slice o L.length c)/\TxS W (.slice o L.length c) L)
  (hY:∀pre x W,J pre W->pre.length<L.length->YieldAt Fence.wide (n-1) prog l #[.string x] W fun e W'=>e=.returned (.bool true)/\J (pre++[x]) W') (W:World) (h0:J [] W) :
  CallsIn Fence.wide n prog 106 #[.func (.yield l) #[] #[],.pointer (some ⟨bm,0,none⟩)] W fun e W'=>(∃v,e=.returned v)/\J L W':=by
 refine callsIn_of_wp func106 rfl trivial ?_ rfl;simp only[ntmps106,List.size_toArray,List.length_cons,List.length_nil,Nat.reduceAdd,Nat.reduceSub,Array.replicate_succ,Array.replicate_zero,List.push_toArray,List.append_toArray,List.nil_append,List.cons_append];obtain⟨m0,-⟩:=hc [] W h0
 gi_wp2
 clear m0
 gi_loopw [7] (fun vi wr=>∃i:Nat,vi=.int .i64 i/\i<=L.length/\J (L.take i) wr) (fun vi _=>L.length-(intOf vi).toNat)
 case atStart=>exact⟨0,rfl,Nat.zero_le _,h0⟩
 case round =>
  obtain⟨i,rfl,hi,hJ⟩:=hrel;have HJ:Hd (J (L.take i) wr):=hJ
  by_cases hlt:i<L.length
  ·obtain⟨m1,m2⟩:=hc _ _ hJ;obtain⟨a,rfl,hcv,hat⟩:=uK m2 hlt;have e0:=hat i hlt;obtain⟨x,hx⟩:=zN (L[i]);rw[hx]at e0;obtain⟨fn,tmps,assign,body,hy,hR⟩:=hY (L.take i) x wr hJ (by simp;omega);have iG:Hd (L.take i++[x]=L.take (i+1)):=by
    show _=_;rw[List.take_succ_eq_append_getElem hlt,hx]
   clear m1 m2 hat hx hJ
   gi_wp2
   refine hR.mono ?_;rintro e W3 ⟨rfl,hJ3⟩;have kF:Hd (J (L.take (i+1)) W3):=by show J _ _;rw[<-iG.o];exact hJ3
   clear hJ3
   gi_wp2
   exact⟨⟨i+1,by go_num,by omega,kF.o⟩,by simp[intOf];omega⟩
  ·have hil:i=L.length:=by omega
   have kF:Hd (J L wr):=by
    rw[hil,List.take_length]at hJ;exact hJ
   clear hJ hil hi
   gi_wp2
   go_end0
   exact⟨⟨_,rfl⟩,kF.o⟩
theorem qC(W:World)(l:Nat)(o:Obj):W.grownBy (W.putObj l o) (some l) :=
 ⟨rfl,rfl,rfl,by simp,fun k _ hk=>World.putObj_heap_other (fun e=>hk (by rw[e]))⟩
theorem afS(bm:Nat)(o:Option Addr)(c:Nat)(L:List ByteArray)(hL:L.length<=1048576)(w:World)(hbm:w.heap[bm]?=some (.cells #[.slice o L.length c] 41 (0,0)))(htx:TxS w (.slice o L.length c) L) :
  CallsIn Fence.wide 4 prog 153 #[.slice none 0 0,.func (.func 106) #[] #[.pointer (some ⟨bm,0,none⟩)]] w fun e w'=>∃v,e=.returned v/\w'.ownsRow w.heap.size 9 1 v L.length (L.map Value.string)/\Below w.heap.size w w':=by
 have lI:=Ah;obtain⟨j0,hj0,hjj⟩:=Option.map_eq_some_iff.1 lI;simp only[Prod.mk.injEq]at hjj;obtain⟨hy0,hy1,hyb⟩:=hjj;clear lI;have wB:Hd (w.heap[bm]?=some (.cells #[.slice o L.length c] 41 (0,0))/\TxS w (.slice o L.length c) L):=⟨hbm,htx⟩;have hbl:bm<w.heap.size:=(bz hbm);clear hbm htx;refine callsIn_of_wp_marks func153 rfl trivial ?_ rfl;simp only[ntmps153,List.size_toArray,List.length_cons,List.length_nil,Nat.reduceAdd,Nat.reduceSub,Array.replicate_succ,Array.replicate_zero,List.push_toArray,List.append_toArray,List.nil_append,List.cons_append]
 gi_wp2
 refine X9 (gf:=106) (lb:=#[.pointer (some ⟨bm,0,none⟩)]) rfl (enters_of func106 (by kernel_rfl) rfl) ?_;intro r W4 hr1 hr2 hr3 hr4 iE oO hW4;obtain⟨B,hB⟩:=zN (w.heap.size);have hs1:(w.alloc (.cells #[.slice none 0 0] 41)).heap.size=B+1:=by rw[World.size_alloc,hB]
 rw[hs1];have q0:W4.heap[B]?=some (.cells #[.slice none 0 0] 41 (0,0)):=by
  rw[<-hW4,Below.heap_alloc _ _ _ (by simp;omega),Below.heap_alloc _ _ _ (by simp;omega),<-hB];exact heap_alloc_new w _
 have qd:W4.heap[B+1]?=some (.deferred (some [])):=by
  rw[<-hW4,Below.heap_alloc _ _ _ (by simp;omega),<-hs1];exact heap_alloc_new _ _
 have ql:W4.heap[B+2]?=some (.loop r):=by
  rw[<-hW4];have:=heap_alloc_new ((w.alloc (.cells #[.slice none 0 0] 41)).alloc (.deferred (some []))) (.loop r);rw[World.size_alloc,hs1]at this;exact this
 have b4:Below w.heap.size w W4:=by
  rw[<-hW4];exact(((Below.refl _ _).alloc (Nat.le_refl _) _).alloc (by simp) _).alloc (by simp;omega) _
 have HB:Hd (w.heap.size=B):=hB;clear hW4 hs1;have hbB:bm<B:=by omega
 have hcl:∀W,Below w.heap.size w W->W.cell? ⟨bm,0,none⟩=some (.slice o L.length c)/\TxS W (.slice o L.length c) L:=fun W hb=>by
  refine⟨?_,wB.o.2.grow (pX hb)⟩;rw[ae ((hb.block bm hbl).trans wB.o.1)];rfl
 refine(afR 3 (B+2) bm (by omega) o c L hL (fun pre W=>(∃v,W.heap[B]?=some (.cells #[v] 41 (0,0))/\W.ownsRow w.heap.size 9 1 v pre.length (pre.map Value.string))/\W.heap[B+2]?=some (.loop r)/\W.heap[B+1]?=some (.deferred (some []))/\Below w.heap.size w W)
  (fun pre W h=>hcl W h.2.2.2) ?yl W4 ⟨⟨_,q0,World.ownsRow_nil _ _ _ _⟩,ql,qd,b4⟩).mono ?fin
 case fin =>
  rintro e W5 ⟨⟨v,rfl⟩,⟨v5,qv,qr⟩,q2,q3,q4⟩;obtain⟨W6,iW⟩:=zN (W5.putObj (B+2) (Obj.loop { r with state:=.exhausted }));have hel:=run_endLoop (P:=prog) q2 (by rw[hr1];simp);rw[iW,hr2]at hel;refine⟨none,W6,hel,?_⟩;clear hel;have p1:W6.heap[B]?=some (.cells #[v5] 41 (0,0)):=by rw[<-iW];exact(World.putObj_heap_other (by omega)).trans qv
  have p3:W6.heap[B+1]?=some (.deferred (some [])):=by rw[<-iW];exact(World.putObj_heap_other (by omega)).trans q3
  have pg:W5.grownBy W6 (some (B+2)):=by rw[<-iW];exact qC _ _ _
  have pr:W6.ownsRow w.heap.size 9 1 v5 L.length (L.map Value.string):=qr.kept pg (ownsRow_ne_a qr q2 (fun cur e=>by cases e));have p4:Below w.heap.size w W6:=q4.grown pg q4.size (fun k e=>by cases e;omega);obtain⟨pc,pf⟩:=cell_of_box_a p1;have kC:Hd (W6.ownsRow w.heap.size 9 1 v5 L.length (L.map Value.string)):=pr;have hpb:=HB.o;clear iW qv qr q2 q3 q4 hr4 iE oO q0 qd ql b4 pg pr
  try rw[hpb]
  simp only[List.cons_append,List.nil_append]
  gi_wp2
  refine⟨by simp,.inl ⟨_,_,rfl,run_takeDeferred p3,?_⟩⟩;refine⟨_,results_tmp rfl _ _ _,?_⟩;exact⟨v5,rfl,kC.o.kept (qC _ _ _) (ownsRow_ne_a kC.o p3 (fun cur e=>by cases e)),p4.grown (qC _ _ _) p4.size (fun k e=>by cases e;omega)⟩
 case yl =>
  rintro pre x W5 ⟨⟨v5,qv,qr⟩,q2,q3,q4⟩ hlen;refine Yb q2 (by rw[hr3];rfl) ?_;rw[hr3,hr4,iE,oO];obtain⟨W6,iW⟩:=zN (W5.putObj (B+2) (Obj.loop { r with state:=.busy }));have hbr:=run_beginRound (P:=prog) q2 hr1;rw[iW]at hbr;have l2:B+2<W5.heap.size:=(bz q2);have pg:W5.grownBy W6 (some (B+2)):=by rw[<-iW];exact qC _ _ _
  have p1:W6.heap[B]?=some (.cells #[v5] 41 (0,0)):=by rw[<-iW];exact(World.putObj_heap_other (by omega)).trans qv
  have p2:W6.heap[B+2]?=some (.loop { r with state:=.busy }):=by rw[<-iW];exact World.putObj_heap_same l2
  have p3:W6.heap[B+1]?=some (.deferred (some [])):=by rw[<-iW];exact(World.putObj_heap_other (by omega)).trans q3
  have pr:W6.ownsRow w.heap.size 9 1 v5 pre.length (pre.map Value.string):=qr.kept pg (ownsRow_ne_a qr q2 (fun cur e=>by cases e));have p4:Below w.heap.size w W6:=q4.grown pg q4.size (fun k e=>by cases e;omega);obtain⟨pc,pf⟩:=cell_of_box_a p1;have hz6:=p4.size;have OO:B<W6.heap.size:=(bz p1);have hD6:B+1<W6.heap.size:=(bz p3);have OQ:B+2<W6.heap.size:=(bz p2);have ne_of:∀{j:Nat} {ob:Obj},W6.heap[j]?=some ob->(∀cur,ob≠.cells cur 9 (0,0))->some j≠v5.ownBlock:=fun hj hno=>by
   rcases ownsRow_ne_a pr hj hno with e|e
   ·rw[e];simp
   ·exact fun e'=>e e'.symm
  have nB:=ne_of p1 (fun cur e=>by simp at e);have nl:=ne_of p2 (fun cur e=>by cases e);have nD:=ne_of p3 (fun cur e=>by cases e);have hpb:=HB.o;rw[hpb]at oO;clear iW qv qr q3 q4 q0 qd ql b4 pg;rw[hpb];clear q2
  gi_wp2_with (first
   | (gi_at_builtin;refine wpListIn_append_own _ rfl _ _ 41 rfl w.heap.size 9 j0 (.string ⟨#[]⟩) 1 16 underlying41 hj0 hy0 hy1 hyb rfl (by decide) _ _ _ rfl (pr.alloc _) ⟨W6.heap.size,0,none⟩ 1 1 [.string x] rfl rfl (cell_one_new _ _ _) (by simp[Value.oneCell']) (by unfold maxLen;omega) (by omega) (by simp;omega) ?_;intro v' w3 hown' hg3 hnil3
      have hv3:w3.heap[B]?=some (.cells #[v5] 41 (0,0)):=(hg3.block B (by simp;omega) nB).trans ((Below.heap_alloc _ _ B OO).trans p1);obtain⟨hc3,hf3⟩:=cell_of_box_a hv3;obtain⟨g',cap',cur',rfl,hbase',hgb',hr1',hr2',afT,afU⟩:∃g' cap' cur',v'=.slice (some ⟨g',0,none⟩) (pre.length+1) cap'/\w.heap.size<=g'/\w3.heap[g']?=some (.cells cur' 9 (0,0))/\pre.length+1<=cap'/\cap'<=maxLen/\cur'.size=cap'*1/\cur'.toList.take ((pre.length+1)*1)=pre.map Value.string++[.string x]:=by
       rcases hown'.2 with⟨_,h0⟩|h'
       ·exact absurd h0 (by omega)
       ·exact h'
      go_frame)
   | gi_in)
  have hg3':(W6.alloc (.cells #[.string x] 9)).grownBy w3 v5.ownBlock:=hg3;have hL3:w3.heap[B+2]?=some (.loop { r with state:=.busy }):=(hg3'.block (B+2) (by simp;omega) nl).trans ((Below.heap_alloc _ _ _ OQ).trans p2);have hK3:w3.heap[B+1]?=some (.deferred (some [])):=(hg3'.block (B+1) (by simp;omega) nD).trans ((Below.heap_alloc _ _ _ hD6).trans p3);obtain⟨w4,hw4⟩:=zN (w3.setCell ⟨B,0,none⟩ (.slice (some ⟨g',0,none⟩) (pre.length+1) cap'));rw[hw4];have hg4:w3.grownBy w4 (some B):=by rw[<-hw4];exact grownBy_setCell0_a _ _ _
  have hv4:w4.heap[B]?=some (.cells #[.slice (some ⟨g',0,none⟩) (pre.length+1) cap'] 41 (0,0)):=by rw[<-hw4];exact heap_setCell_box_a _ hv3
  have hL4:w4.heap[B+2]?=some (.loop { r with state:=.busy }):=(hg4.block (B+2) (bz hL3) (by simp)).trans hL3;have hK4:w4.heap[B+1]?=some (.deferred (some [])):=(hg4.block (B+1) (bz hK3) (by simp)).trans hK3;have hrow4:=hown'.kept hg4 (ownsRow_ne_a hown' hv3 (fun cur e=>by simp at e));have hl4:B+2<w4.heap.size:=(bz hL4);have hb3:Below w.heap.size w w3:=(p4.alloc p4.size _).grown hg3' (by simp;omega) (fun k e=>(pr.lt k e).1);have hb4:Below w.heap.size w w4:=hb3.grown hg4 hb3.size (fun k e=>by cases e;omega);clear hw4;have afV:=hb4.size;rw[hpb]at hb4 hrow4;refine⟨_,_,run_endRound none hL4,rfl,⟨_,(World.putObj_heap_other (by omega)).trans hv4,?_⟩,by rw[World.putObj_heap_same hl4,Ya r hr1 hr2],(World.putObj_heap_other (by omega)).trans hK4,hb4.grown (qC _ _ _) (by omega) (fun k e=>by cases e;omega)⟩
  have:=hrow4.kept (qC w4 (B+2) (.loop { { r with state:=.busy } with state:=if(none:Option Code).isNone then .ready else .done,pending:=none })) (ownsRow_ne_a hrow4 hL4 (fun cur e=>by cases e));simpa using this
open Go.RowKit Go.Maps Go.Sort Go.Shelf
attribute [local go_sem] Oper.semAt_some
structure Ec where
 nm:ByteArray
 ve:ByteArray
 dg:ByteArray
 o:Option Addr
 n:Nat
 c:Nat
def AP(x:Ec):Value:=.agg #[.string x.nm,.string x.ve,.string x.dg,.slice x.o x.n x.c]
def dn(x:Ec):List Value:=[.string x.nm,.string x.ve,.string x.dg,.slice x.o x.n x.c]
def EcAt(w:World)(p:Addr)(x:Ec):Prop:=w.cell? p=some (.string x.nm)/\w.cell? ⟨p.block,p.off+1,none⟩=some (.string x.ve)/\w.cell? ⟨p.block,p.off+2,none⟩=some (.string x.dg)/\w.cell? ⟨p.block,p.off+3,none⟩=some (.slice x.o x.n x.c)
theorem EcAt.grow{w w':World}{p:Addr}{x:Ec}(h:EcAt w p x)(hg:w.grownBy w' none):EcAt w' p x:=⟨hg.cell h.1 (by simp),hg.cell h.2.1 (by simp),hg.cell h.2.2.1 (by simp),hg.cell h.2.2.2 (by simp)⟩
def EcS(w:World)(v:Value)(L:List Ec):Prop:=(v=.slice none 0 0/\L=[])\/∃a cap,v=.slice (some a) L.length cap/\L.length<=cap/\∀i (hi:i<L.length),EcAt w (a.add (i*4)) L[i]
theorem EcS.grow{w w':World}{v:Value}{L:List Ec}(h:EcS w v L)(hg:w.grownBy w' none):EcS w' v L:=by
 rcases h with h|⟨a,cap,h1,h2,h3⟩
 ·exact Or.inl h
 ·exact Or.inr ⟨a,cap,h1,h2,fun i hi=>(h3 i hi).grow hg⟩
theorem Yc{w:World}{o:Option Addr}{c:Nat}{L:List Ec}(h:EcS w (.slice o L.length c) L){i:Nat}(hi:i<L.length):∃a,o=some a/\L.length<=c/\∀j (hj:j<L.length),EcAt w (a.add (j*4)) L[j]:=by
 rcases h with⟨h1,h2⟩|⟨a,cap,h1,h2,h3⟩
 ·rw[h2]at hi;simp at hi
 ·cases h1
  exact⟨a,rfl,h2,h3⟩
theorem Yd(s:Ec):∀u∈dn s,u.oneCell'=true:=by
 intro u hu;simp only[dn,List.mem_cons,List.not_mem_nil,or_false]at hu
 rcases hu with rfl|rfl|rfl|rfl<;>rfl
def EcIs(w:World)(x:Ec)(y:En):Prop:=x.nm=y.nm/\x.ve=y.ve/\x.dg=y.dg/\TxS w (.slice x.o x.n x.c) y.nd
theorem EcIs.grow{w w':World}{x:Ec}{y:En}(h:EcIs w x y)(hg:w.grownBy w' none):EcIs w' x y:=⟨h.1,h.2.1,h.2.2.1,h.2.2.2.grow hg⟩
theorem afW{w:World}{v:Value}{L:List En}(h:EnS w v L):∃E:List Ec,EcS w v E/\E.length=L.length/\∀i (hi:i<E.length) (hj:i<L.length),EcIs w E[i] L[i]:=by
 rcases h with⟨rfl,rfl⟩|⟨a,cap,rfl,h2,h3⟩
 ·exact⟨[],Or.inl ⟨rfl,rfl⟩,rfl,fun i hi=>by simp at hi⟩
 ·have hS:∀i,i<L.length->∃x:Ec,EcAt w (a.add (i*4)) x/\∀hj:i<L.length,EcIs w x L[i]:=fun i hi=>by
   obtain⟨e0,e1,e2,sv,e3,hsv⟩:=h3 i hi;obtain⟨so,sc,rfl⟩:=kT hsv;exact⟨⟨L[i].nm,L[i].ve,L[i].dg,so,L[i].nd.length,sc⟩,⟨e0,e1,e2,e3⟩,fun _=>⟨rfl,rfl,rfl,hsv⟩⟩
  have:Nonempty Ec:=⟨⟨⟨#[]⟩,⟨#[]⟩,⟨#[]⟩,none,0,0⟩⟩;obtain⟨S,hS⟩:∃S:Nat->Ec,∀i,i<L.length->EcAt w (a.add (i*4)) (S i)/\∀hj:i<L.length,EcIs w (S i) L[i]:=by
   refine⟨fun i=>if h:i<L.length then Classical.choose (hS i h) else⟨⟨#[]⟩,⟨#[]⟩,⟨#[]⟩,none,0,0⟩,fun i hi=>?_⟩;simp only[dif_pos hi];exact Classical.choose_spec (hS i hi)
  have hlen:((List.range L.length).map S).length=L.length:=by simp
  refine⟨(List.range L.length).map S,Or.inr ⟨a,cap,by rw[hlen],by rw[hlen];exact h2,fun i hi=>?_⟩,hlen,fun i hi hj=>?_⟩
  ·rw[List.getElem_map,List.getElem_range];exact(hS i (by rw[hlen]at hi;exact hi)).1
  ·rw[List.getElem_map,List.getElem_range];exact(hS i hj).2 hj
theorem afX(o:Option Addr)(n c:Nat)(w:World):Calls prog 27 #[.slice o n c] w fun e w'=>e=.returned (.func (.func 60) #[] #[.pointer (some ⟨w.heap.size,0,none⟩)])/\w'=w.alloc (.cells #[.slice o n c] 26):=by
 go_enter func27,ntmps27;go_wp2;go_ret;exact⟨rfl,rfl⟩
theorem afY(n l bm:Nat)(hn:1<=n)(o:Option Addr)(c:Nat)(L:List Ec)(hL:L.length<=1048576)(J:List Ec->World->Prop)
  (hA:∀pre W ob,J pre W->J pre (W.alloc ob))
  (hc:∀pre W,J pre W->W.cell? ⟨bm,0,none⟩=some (.slice o L.length c)/\EcS W (.slice o L.length c) L)
  (hY:∀pre x W,J pre W->pre.length<L.length->YieldAt Fence.wide (n-1) prog l #[AP x] W fun e W'=>e=.returned (.bool true)/\J (pre++[x]) W') (W:World) (h0:J [] W) :
  CallsIn Fence.wide n prog 60 #[.func (.yield l) #[] #[],.pointer (some ⟨bm,0,none⟩)] W fun e W'=>(∃v,e=.returned v)/\J L W':=by
 refine callsIn_of_wp func60 rfl trivial ?_ rfl;simp only[ntmps60,List.size_toArray,List.length_cons,List.length_nil,Nat.reduceAdd,Nat.reduceSub,Array.replicate_succ,Array.replicate_zero,List.push_toArray,List.append_toArray,List.nil_append,List.cons_append];obtain⟨m0,-⟩:=hc [] W h0
 gi_wp2
 clear m0
 gi_loopw [7] (fun vi wr=>∃i:Nat,vi=.int .i64 i/\i<=L.length/\J (L.take i) wr) (fun vi _=>L.length-(intOf vi).toNat)
 case atStart=>exact⟨0,rfl,Nat.zero_le _,h0⟩
 case round =>
  obtain⟨i,rfl,hi,hJ⟩:=hrel
  by_cases hlt:i<L.length
  ·obtain⟨m1,m2⟩:=hc _ _ hJ;obtain⟨a,rfl,hcv,hat⟩:=Yc m2 hlt;obtain⟨x,hx⟩:=zN (L[i]);obtain⟨e0,e1,e2,e3⟩:=hat i hlt;rw[hx]at e0 e1 e2 e3;obtain⟨fn,tmps,assign,body,hy,hR⟩:=hY (L.take i) x (wr.alloc (.cells #[.string x.nm,.string x.ve,.string x.dg,.slice x.o x.n x.c] 44)) (hA _ _ _ hJ) (by simp;omega);have iG:Hd (L.take i++[x]=L.take (i+1)):=by
    show _=_;rw[List.take_succ_eq_append_getElem hlt,hx]
   unfold AP at hy;clear m1 m2 hat hx hJ
   gi_wp2
   refine hR.mono ?_;rintro e W3 ⟨rfl,hJ3⟩;have kF:Hd (J (L.take (i+1)) W3):=by show J _ _;rw[<-iG.o];exact hJ3
   clear hJ3
   gi_wp2
   exact⟨⟨i+1,by go_num,by omega,kF.o⟩,by simp[intOf];omega⟩
  ·have hil:i=L.length:=by omega
   have kF:Hd (J L wr):=by
    rw[hil,List.take_length]at hJ;exact hJ
   clear hJ hil hi
   gi_wp2
   go_end0
   exact⟨⟨_,rfl⟩,kF.o⟩
open Go.RowKit Go.Maps Go.Sort Go.Shelf
attribute [local go_sem] Oper.semAt_some
theorem afZ(bm:Nat)(o:Option Addr)(c:Nat)(L:List Ec)(hL:L.length<=1048576)(w:World)(hbm:w.heap[bm]?=some (.cells #[.slice o L.length c] 26 (0,0)))(htx:EcS w (.slice o L.length c) L) :
  CallsIn Fence.wide 4 prog 99 #[.slice none 0 0,.func (.func 60) #[] #[.pointer (some ⟨bm,0,none⟩)]] w fun e w'=>∃v,e=.returned v/\w'.ownsRow w.heap.size 44 4 v L.length (L.flatMap dn)/\Below w.heap.size w w':=by
 have lI:=L8;obtain⟨j0,hj0,hjj⟩:=Option.map_eq_some_iff.1 lI;simp only[Prod.mk.injEq]at hjj;obtain⟨hy0,hy1,hyb⟩:=hjj;clear lI;have wB:Hd (w.heap[bm]?=some (.cells #[.slice o L.length c] 26 (0,0))/\EcS w (.slice o L.length c) L):=⟨hbm,htx⟩;have hbl:bm<w.heap.size:=(bz hbm);clear hbm htx;refine callsIn_of_wp_marks func99 rfl trivial ?_ rfl;simp only[ntmps99,List.size_toArray,List.length_cons,List.length_nil,Nat.reduceAdd,Nat.reduceSub,Array.replicate_succ,Array.replicate_zero,List.push_toArray,List.append_toArray,List.nil_append,List.cons_append]
 gi_wp2
 refine X9 (gf:=60) (lb:=#[.pointer (some ⟨bm,0,none⟩)]) rfl (enters_of func60 (by kernel_rfl) rfl) ?_;intro r W4 hr1 hr2 hr3 hr4 iE oO hW4;obtain⟨B,hB⟩:=zN (w.heap.size);have hs1:(w.alloc (.cells #[.slice none 0 0] 26)).heap.size=B+1:=by rw[World.size_alloc,hB]
 rw[hs1];have q0:W4.heap[B]?=some (.cells #[.slice none 0 0] 26 (0,0)):=by
  rw[<-hW4,Below.heap_alloc _ _ _ (by simp;omega),Below.heap_alloc _ _ _ (by simp;omega),<-hB];exact heap_alloc_new w _
 have qd:W4.heap[B+1]?=some (.deferred (some [])):=by
  rw[<-hW4,Below.heap_alloc _ _ _ (by simp;omega),<-hs1];exact heap_alloc_new _ _
 have ql:W4.heap[B+2]?=some (.loop r):=by
  rw[<-hW4];have:=heap_alloc_new ((w.alloc (.cells #[.slice none 0 0] 26)).alloc (.deferred (some []))) (.loop r);rw[World.size_alloc,hs1]at this;exact this
 have b4:Below w.heap.size w W4:=by
  rw[<-hW4];exact(((Below.refl _ _).alloc (Nat.le_refl _) _).alloc (by simp) _).alloc (by simp;omega) _
 have HB:Hd (w.heap.size=B):=hB;clear hW4 hs1;have hbB:bm<B:=by omega
 have hcl:∀W,Below w.heap.size w W->W.cell? ⟨bm,0,none⟩=some (.slice o L.length c)/\EcS W (.slice o L.length c) L:=fun W hb=>by
  refine⟨?_,wB.o.2.grow (pX hb)⟩;rw[ae ((hb.block bm hbl).trans wB.o.1)];rfl
 refine(afY 3 (B+2) bm (by omega) o c L hL (fun pre W=>(∃v,W.heap[B]?=some (.cells #[v] 26 (0,0))/\W.ownsRow w.heap.size 44 4 v pre.length (pre.flatMap dn))/\W.heap[B+2]?=some (.loop r)/\W.heap[B+1]?=some (.deferred (some []))/\Below w.heap.size w W)
  ?al (fun pre W h=>hcl W h.2.2.2) ?yl W4 ⟨⟨_,q0,World.ownsRow_nil _ _ _ _⟩,ql,qd,b4⟩).mono ?fin
 case al =>
  rintro pre W ob ⟨⟨v,k1,k2⟩,k3,k4,k5⟩;have z1:=(bz k1);have z3:=(bz k3);have z4:=(bz k4);exact⟨⟨v,(Below.heap_alloc _ _ _ z1).trans k1,k2.alloc _⟩,(Below.heap_alloc _ _ _ z3).trans k3,(Below.heap_alloc _ _ _ z4).trans k4,k5.alloc k5.size _⟩
 case fin =>
  rintro e W5 ⟨⟨v,rfl⟩,⟨v5,qv,qr⟩,q2,q3,q4⟩;obtain⟨W6,iW⟩:=zN (W5.putObj (B+2) (Obj.loop { r with state:=.exhausted }));have hel:=run_endLoop (P:=prog) q2 (by rw[hr1];simp);rw[iW,hr2]at hel;refine⟨none,W6,hel,?_⟩;clear hel;have p1:W6.heap[B]?=some (.cells #[v5] 26 (0,0)):=by rw[<-iW];exact(World.putObj_heap_other (by omega)).trans qv
  have p3:W6.heap[B+1]?=some (.deferred (some [])):=by rw[<-iW];exact(World.putObj_heap_other (by omega)).trans q3
  have pg:W5.grownBy W6 (some (B+2)):=by rw[<-iW];exact qC _ _ _
  have pr:W6.ownsRow w.heap.size 44 4 v5 L.length (L.flatMap dn):=qr.kept pg (ownsRow_ne_a qr q2 (fun cur e=>by cases e));have p4:Below w.heap.size w W6:=q4.grown pg q4.size (fun k e=>by cases e;omega);obtain⟨pc,pf⟩:=cell_of_box_a p1;have kC:Hd (W6.ownsRow w.heap.size 44 4 v5 L.length (L.flatMap dn)):=pr;have hpb:=HB.o;clear iW qv qr q2 q3 q4 hr4 iE oO q0 qd ql b4 pg pr
  try rw[hpb]
  simp only[List.cons_append,List.nil_append]
  gi_wp2
  refine⟨by simp,.inl ⟨_,_,rfl,run_takeDeferred p3,?_⟩⟩;refine⟨_,results_tmp rfl _ _ _,?_⟩;exact⟨v5,rfl,kC.o.kept (qC _ _ _) (ownsRow_ne_a kC.o p3 (fun cur e=>by cases e)),p4.grown (qC _ _ _) p4.size (fun k e=>by cases e;omega)⟩
 case yl =>
  rintro pre x W5 ⟨⟨v5,qv,qr⟩,q2,q3,q4⟩ hlen;refine Yb q2 (by rw[hr3];rfl) ?_;rw[hr3,hr4,iE,oO];have z1:=(bz qv);have z2:=(bz q2);have z3:=(bz q3);have a1:(W5.alloc (.cells #[.string x.nm,.string x.ve,.string x.dg,.slice x.o x.n x.c] 44)).heap[B]?=_:=(Below.heap_alloc _ _ _ z1).trans qv;have a2:(W5.alloc (.cells #[.string x.nm,.string x.ve,.string x.dg,.slice x.o x.n x.c] 44)).heap[B+2]?=_:=(Below.heap_alloc _ _ _ z2).trans q2;have a3:(W5.alloc (.cells #[.string x.nm,.string x.ve,.string x.dg,.slice x.o x.n x.c] 44)).heap[B+1]?=_:=(Below.heap_alloc _ _ _ z3).trans q3;have a4:=q4.alloc q4.size (.cells #[.string x.nm,.string x.ve,.string x.dg,.slice x.o x.n x.c] 44);have ar:=qr.alloc (.cells #[.string x.nm,.string x.ve,.string x.dg,.slice x.o x.n x.c] 44);have a5:=heap_alloc_new W5 (.cells #[.string x.nm,.string x.ve,.string x.dg,.slice x.o x.n x.c] 44)
  obtain⟨W6,iW⟩:=zN ((W5.alloc (.cells #[.string x.nm,.string x.ve,.string x.dg,.slice x.o x.n x.c] 44)).putObj (B+2) (Obj.loop { r with state:=.busy }));have hbr:=run_beginRound (P:=prog) a2 hr1;rw[iW]at hbr;have l2:B+2<(W5.alloc (.cells #[.string x.nm,.string x.ve,.string x.dg,.slice x.o x.n x.c] 44)).heap.size:=(bz a2);have pg:(W5.alloc (.cells #[.string x.nm,.string x.ve,.string x.dg,.slice x.o x.n x.c] 44)).grownBy W6 (some (B+2)):=by rw[<-iW];exact qC _ _ _
  have p1:W6.heap[B]?=some (.cells #[v5] 26 (0,0)):=by rw[<-iW];exact(World.putObj_heap_other (by omega)).trans a1
  have p2:W6.heap[B+2]?=some (.loop { r with state:=.busy }):=by rw[<-iW];exact World.putObj_heap_same l2
  have p3:W6.heap[B+1]?=some (.deferred (some [])):=by rw[<-iW];exact(World.putObj_heap_other (by omega)).trans a3
  obtain⟨g0,g1,g2,g3⟩:=tH (show W6.heap[W5.heap.size]?=_ by rw[<-iW];exact(World.putObj_heap_other (by omega)).trans a5);have pr:W6.ownsRow w.heap.size 44 4 v5 pre.length (pre.flatMap dn):=ar.kept pg (ownsRow_ne_a ar a2 (fun cur e=>by cases e));have p4:Below w.heap.size w W6:=a4.grown pg a4.size (fun k e=>by cases e;omega);obtain⟨pc,pf⟩:=cell_of_box_a p1;have hz6:=p4.size;have OO:B<W6.heap.size:=(bz p1);have hD6:B+1<W6.heap.size:=(bz p3);have OQ:B+2<W6.heap.size:=(bz p2);have ne_of:∀{j:Nat} {ob:Obj},W6.heap[j]?=some ob->(∀cur,ob≠.cells cur 44 (0,0))->some j≠v5.ownBlock:=fun hj hno=>by
   rcases ownsRow_ne_a pr hj hno with e|e
   ·rw[e];simp
   ·exact fun e'=>e e'.symm
  have nB:=ne_of p1 (fun cur e=>by simp at e);have nl:=ne_of p2 (fun cur e=>by cases e);have nD:=ne_of p3 (fun cur e=>by cases e);have hpb:=HB.o;have hlen2:pre.length<1048576:=by omega
  clear iW qv qr q3 q4 q0 qd ql b4 pg a1 a2 a3 a4 ar a5 z1 z2 z3 l2;rw[hpb];clear q2;unfold AP
  gi_wp2_with (first
   | (gi_at_builtin;refine wpListIn_append_own _ rfl _ _ 26 rfl w.heap.size 44 j0 _ 4 72 underlying26 hj0 hy0 hy1 hyb rfl (by decide) _ _ _ rfl (pr.alloc _) ⟨W6.heap.size,0,none⟩ 1 1 (dn x) rfl rfl (World.news_of_block (heap_alloc_new _ _)) (Yd x) (by unfold maxLen;omega) (by omega) (by simp;omega) ?_;intro v' w3 hown' hg3 hnil3
      have hv3:w3.heap[B]?=some (.cells #[v5] 26 (0,0)):=(hg3.block B (by simp;omega) nB).trans ((Below.heap_alloc _ _ B OO).trans p1);obtain⟨hc3,hf3⟩:=cell_of_box_a hv3;obtain⟨g',cap',cur',rfl,hbase',hgb',hr1',hr2',afT,afU⟩:∃g' cap' cur',v'=.slice (some ⟨g',0,none⟩) (pre.length+1) cap'/\w.heap.size<=g'/\w3.heap[g']?=some (.cells cur' 44 (0,0))/\pre.length+1<=cap'/\cap'<=maxLen/\cur'.size=cap'*4/\cur'.toList.take ((pre.length+1)*4)=pre.flatMap dn++dn x:=by
       rcases hown'.2 with⟨_,h0⟩|h'
       ·exact absurd h0 (by omega)
       ·exact h'
      go_frame)
   | gi_in)
  have hg3':(W6.alloc (.cells #[.string x.nm,.string x.ve,.string x.dg,.slice x.o x.n x.c] 44)).grownBy w3 v5.ownBlock:=hg3;have hL3:w3.heap[B+2]?=some (.loop { r with state:=.busy }):=(hg3'.block (B+2) (by simp;omega) nl).trans ((Below.heap_alloc _ _ _ OQ).trans p2);have hK3:w3.heap[B+1]?=some (.deferred (some [])):=(hg3'.block (B+1) (by simp;omega) nD).trans ((Below.heap_alloc _ _ _ hD6).trans p3);obtain⟨w4,hw4⟩:=zN (w3.setCell ⟨B,0,none⟩ (.slice (some ⟨g',0,none⟩) (pre.length+1) cap'));rw[hw4];have hg4:w3.grownBy w4 (some B):=by rw[<-hw4];exact grownBy_setCell0_a _ _ _
  have hv4:w4.heap[B]?=some (.cells #[.slice (some ⟨g',0,none⟩) (pre.length+1) cap'] 26 (0,0)):=by rw[<-hw4];exact heap_setCell_box_a _ hv3
  have hL4:w4.heap[B+2]?=some (.loop { r with state:=.busy }):=(hg4.block (B+2) (bz hL3) (by simp)).trans hL3;have hK4:w4.heap[B+1]?=some (.deferred (some [])):=(hg4.block (B+1) (bz hK3) (by simp)).trans hK3;have hrow4:=hown'.kept hg4 (ownsRow_ne_a hown' hv3 (fun cur e=>by simp at e));have hl4:B+2<w4.heap.size:=(bz hL4);have hb3:Below w.heap.size w w3:=(p4.alloc p4.size _).grown hg3' (by simp;omega) (fun k e=>(pr.lt k e).1);have hb4:Below w.heap.size w w4:=hb3.grown hg4 hb3.size (fun k e=>by cases e;omega);clear hw4;have afV:=hb4.size;rw[hpb]at hb4 hrow4;refine⟨_,_,run_endRound none hL4,rfl,⟨_,(World.putObj_heap_other (by omega)).trans hv4,?_⟩,by rw[World.putObj_heap_same hl4,Ya r hr1 hr2],(World.putObj_heap_other (by omega)).trans hK4,hb4.grown (qC _ _ _) (by omega) (fun k e=>by cases e;omega)⟩
  have:=hrow4.kept (qC w4 (B+2) (.loop { { r with state:=.busy } with state:=if(none:Option Code).isNone then .ready else .done,pending:=none })) (ownsRow_ne_a hrow4 hL4 (fun cur e=>by cases e));exact this
end Go.Proofs.YtmkjelchiacogaaGreatDoor
