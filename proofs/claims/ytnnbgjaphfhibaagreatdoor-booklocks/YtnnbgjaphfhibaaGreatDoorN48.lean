import Derived.Test.YtnnbgjaphfhibaaGreatDoorN44
import Derived.Test.YtnnbgjaphfhibaaGreatDoorN35
set_option linter.unusedVariables false
set_option linter.unusedSimpArgs false
set_option maxRecDepth 100000
set_option maxHeartbeats 6400000
open Go.Proofs.Tryz
namespace Go.Proofs.YtnnbgjaphfhibaaGreatDoor
open Go.RowKit Go.Maps Go.WideMaps Go.Joins
theorem Ot{α:Type}(f:α->List Value)(s:Nat):∀(L:List α) (i k:Nat) (hi:i<L.length),(∀x∈L,(f x).length=s)->k<s->(L.flatMap f)[i*s+k]?=(f L[i])[k]?
 | [],i,k,hi,_,_=>absurd hi (by simp)
 | x :: L,0,k,hi,h,hk=>by
  rw[List.flatMap_cons,List.getElem?_append_left (by rw[h x (by simp)];omega)];simp
 | x :: L,i+1,k,hi,h,hk=>by
  have hx:=h x (by simp);rw[List.flatMap_cons,List.getElem?_append_right (by rw[hx,Nat.succ_mul];omega),hx,show(i+1)*s+k-s=i*s+k by rw[Nat.succ_mul];omega];exact Ot f s L i k (by simpa using hi) (fun y hy=>h y (by simp[hy])) hk
theorem afb(v:Value)(L:List En)(w:World)(h:EnS w v L)(hL:L.length<=1048576)(hz:∀x∈L,x.nm.size<=maxLen) :
  Calls prog 17 #[v] w fun e w'=>∃B,e=.returned (.map (some B))/\w'.ownsMap prog 9 (plainElem (H:=Unit) prog 3) B L.length (fZ L L.length)/\w.grownBy w' none:=by
 rcases h with⟨rfl,rfl⟩|⟨a,cap,rfl,hcap,h⟩
 ·have hmm:=UA 0 w;go_enter func17,ntmps17;go_wp2;obtain⟨B,hB⟩:=zN (w.heap.size);have HB:Hd (w.heap.size=B):=hB
  try rw[hB]
  clear hB;go_loopw [13] (fun vi wr=>vi=.int .i64 0/\wr.ownsMap prog 9 (plainElem (H:=Unit) prog 3) B 0 (.map [])/\w.grownBy wr none) (fun vi _=>0)
  case atStart=>exact⟨rfl,HB.o ▸ World.ownsMap_made _ _ _ _,dn (ak w none) _⟩
  case round =>
   obtain⟨rfl,ho,hb⟩:=hrel;have HG:Hd (w.grownBy wr none):=hb;have HO:Hd (wr.ownsMap prog 9 (plainElem (H:=Unit) prog 3) B 0 (.map [])):=ho;clear hb hmm ho;go_wp2;refine bodyPost_ret (results_tmp (t:=2) rfl _ _ _) rfl ⟨B,rfl,HO.o,HG.o⟩
 ·exact abQ a cap L w hL hcap hz h
theorem Wp{α:Type}(p:α->Bool)(L:List α)(i:Nat)(hi:i<L.length)(h:(L.take i).find? p=none):(p L[i]=false->(L.take (i+1)).find? p=none)/\(p L[i]=true->L.find? p=some L[i]):=by
 constructor
 ·intro hp;rw[List.take_succ_eq_append_getElem hi,List.find?_append,h];simp[hp]
 ·intro hp;have e:L=L.take i++L[i] :: L.drop (i+1):=by rw[<-List.drop_eq_getElem_cons hi,List.take_append_drop]
  have e2:L.find? p=(L.take i++L[i] :: L.drop (i+1)).find? p:=congrArg _ e;rw[e2,List.find?_append,h,List.find?_cons_of_pos hp];rfl
section
variable {w0:World} {T D Lb:Nat} {nv:Value} {kv:Nat->Value} {ns:List Tn} {d:Dr} {w w':World} {vt ve vw:Value} {xs:List Value} {vs:Nat->Value}
theorem Wq{t:TypeId}{s n g c:Nat}{ys:List Value}(h:w.ownsRow w0.heap.size t s (.slice (some ⟨g,0,none⟩) n c) n ys)(j:Nat)(u:Value)(hu:ys[j]?=some u):w.cell? ⟨g,j,none⟩=some u:=by
 have:=h.cells (g:=g) rfl j u hu;rw[mr]at this;exact this
theorem Ws{t:TypeId}{s n:Nat}{v:Value}{ys:List Value}(h:w.ownsRow w0.heap.size t s v n ys)(hn:0<n):∃g c,v=.slice (some ⟨g,0,none⟩) n c/\n<=c:=by
 rcases h.2 with⟨_,e⟩|⟨g,cap,cu,e1,_,_,hn',_⟩
 ·omega
 ·exact⟨g,cap,e1,hn'⟩
theorem afc{N c:Nat}(h:Dm w0 T D Lb nv kv ns d w vt ve vw xs vs)(H:Nd w0 N c kv ns)(I:DrI d)(M:DrN d)(hwt:d.wt.length<=1000000)(htb:∀q∈d.tb,q<ns.length) :
  Calls prog 28 #[.pointer (some ⟨D,0,none⟩)] w fun e w'=>e=.returned (.tuple #[.int .i64 (mZ ns d).1,.int .i64 ((mZ ns d).2:Nat)])/\w.grownBy w' none:=by
 obtain⟨-,-,-,d1,d2,d3,d4,-⟩:=h.cells;obtain⟨Z,Y,hZ⟩:∃Z Y,mZ ns d=(Z,Y):=⟨_,_,rfl⟩;rw[hZ];simp only[];have HZ:Hd (mZ ns d=(Z,Y)):=hZ;clear hZ;have HD:Hd (Dm w0 T D Lb nv kv ns d w vt ve vw xs vs):=h;obtain⟨fm,hfm⟩:∃b,d.fm=b:=⟨_,rfl⟩;have Ou:Hd (d.fm=fm):=hfm;rw[hfm]at d1;clear hfm
 cases fm with
 | false =>
  have HY:Hd (Z=6/\Y=0):=by
   have:=HZ.o;unfold mZ at this;rw[if_pos Ou.o]at this;injection this with h1 h2
   exact⟨h1.symm,h2.symm⟩
  clear h d2 d3 d4 HZ;go_enter func28,ntmps28;go_wp2;refine bodyPost_ret (results_tmp2 (t:=2) (u:=3) rfl _ _ _) rfl ⟨?_,ak _ _⟩;rw[HY.o.1,HY.o.2];rfl
 | true =>
  obtain⟨o2,c2,hvt⟩:=kV h.tab;obtain⟨o5,c5,hvw⟩:=kV h.wan;subst hvt hvw;have hrt:=h.tab;have hrw:=h.wan;obtain⟨tl,htl⟩:=zN (d.tb.length);obtain⟨wl,hwl⟩:=zN (d.wt.length);have afU:tl<=50:=by rw[<-htl];exact I.t50
  have afV:wl<=1000000:=by rw[<-hwl];exact hwt
  rw[htl]at hrt d2;rw[hwl]at hrw d4;have Wu:Hd (w.ownsRow w0.heap.size 64 6 (.slice o2 tl c2) tl (d.tb.flatMap (nR kv ns))):=hrt;have HRW:Hd (w.ownsRow w0.heap.size 109 2 (.slice o5 wl c5) wl (d.wt.flatMap sU)):=hrw;have HL:Hd (d.tb.length=tl/\d.wt.length=wl):=⟨htl,hwl⟩;have HH:Hd (Nd w0 N c kv ns):=H;have Ig:Hd (∀q∈d.tb,q<ns.length):=htb;have iV:Hd (w0.grownBy w none):=h.gb;have mG:Hd (∀y∈d.wt,y.1.size<=30):=M.wt;have HC:Hd (∀w',w.grownBy w' none->Calls prog 17 #[ve] w' fun e w''=>∃B,e=.returned (.map (some B))/\w''.ownsMap prog 9 (plainElem (H:=Unit) prog 3) B d.es.length (fZ d.es d.es.length)/\w'.grownBy w'' none):=fun w' hg=>afb ve d.es w' (h.ent.ens.grow hg) (by have:=I.tl;have:=I.t50;omega) (fun x hx=>by have:=M.es x hx;unfold maxLen;omega)
  have HZ2:Hd ((match d.tb.find? (fun q=>decide ((ae ns q).length<4)) with|some q=>((6:Int),iD ns q)|none=>match d.wt.find? (fun y=>!aW d.es y.1) with|some y=>(6,y.2)|none=>(0,0))=(Z,Y)):=by
   have:=HZ.o;unfold mZ at this;rw[Ou.o,if_neg (by simp)]at this;exact this
  have Wv:∀t,Maps.has (fZ d.es d.es.length) (kC t)=aW d.es t:=fun t=>by rw[Uz d.es t _ (Nat.le_refl _),List.take_length]
  have Du:Hd (∀t,Maps.has (fZ d.es d.es.length) (kC t)=aW d.es t):=Wv;obtain⟨oe,ce,uM⟩:=kV h.ent.row;clear h hrt hrw htl hwl htb hwt HZ Ou Wv H M I HD;subst uM;go_enter func28,ntmps28;go_wp2;go_loopw [21] (fun vi wr=>∃i:Nat,vi=.int .i64 (i:Nat)/\i<=tl/\(d.tb.take i).find? (fun q=>decide ((ae ns q).length<4))=none/\w.grownBy wr none) (fun vi _=>tl-(intOf vi).toNat)
  case atStart=>exact⟨0,rfl,by omega,rfl,ak _ _⟩
  case round =>
   obtain⟨i,rfl,hi,hf,hg⟩:=hrel;have HF:Hd ((d.tb.take i).find? (fun q=>decide ((ae ns q).length<4))=none):=hf;have HG:Hd (w.grownBy wr none):=hg;clear hf hg
   by_cases hlt:i<tl
   ·have hin:i<d.tb.length:=by rw[HL.o.1];exact hlt
    obtain⟨g,c',hsl,hnc⟩:=Ws Wu.o (by omega)
    cases hsl
    obtain⟨q,hq⟩:=zN (d.tb[i]);have dL:q<ns.length:=Ig.o q (by rw[<-hq];exact List.getElem_mem hin);have Wx:nR kv ns q=(dK ns[q] (kv q)).toList:=by unfold nR;rw[List.getElem?_eq_getElem dL]
    have key:∀k u,k<6->(dK ns[q] (kv q)).toList[k]?=some u->wr.cell? ⟨g,i*6+k,none⟩=some u:=fun k u hk hu=>by
     refine HG.o.cell (Wq Wu.o (i*6+k) u ?_) (by simp);rw[Ot (nR kv ns) 6 d.tb i k hin (fun p hp=>by unfold nR;rw[List.getElem?_eq_getElem (Ig.o p hp)];rfl) hk,hq,Wx];exact hu
    obtain⟨ok,ck,hkk,-⟩:=HH.o.kid q dL;have hkl:=HH.o.num q dL;have hks:ae ns q=ns[q].ks:=by unfold ae;rw[List.getElem?_eq_getElem dL]
    have hpl:iD ns q=ns[q].pl:=by unfold iD;rw[List.getElem?_eq_getElem dL]
    have gY:Hd ((¬ns[q].ks.length<4->(d.tb.take (i+1)).find? (fun q=>decide ((ae ns q).length<4))=none)/\(ns[q].ks.length<4->Z=6/\Y=ns[q].pl)):=by
     have:=Wp (fun q=>decide ((ae ns q).length<4)) d.tb i hin HF.o;rw[hq,hks]at this;refine⟨fun hh=>this.1 (decide_eq_false hh),fun hh=>?_⟩;have h2:=this.2 (decide_eq_true hh);have h3:=HZ2.o;rw[h2]at h3;simp only[]at h3;injection h3 with h4 h5
     exact⟨h4.symm,by rw[<-h5,hpl]⟩
    obtain⟨x,hx⟩:=zN (ns[q]);rw[hx]at key hkk gY hkl;rw[hkk]at key;have k0:wr.cell? ⟨g,i*6,none⟩=some (.int .i64 x.kd):=key 0 _ (by decide) rfl;have k1:wr.cell? ⟨g,i*6+1,none⟩=some (.string ⟨x.ky.toArray⟩):=key 1 _ (by decide) rfl;have k2:wr.cell? ⟨g,i*6+2,none⟩=some (.string ⟨x.tx.toArray⟩):=key 2 _ (by decide) rfl;have k3:wr.cell? ⟨g,i*6+3,none⟩=some (.int .i64 x.nu):=key 3 _ (by decide) rfl;have k4:wr.cell? ⟨g,i*6+4,none⟩=some (.slice ok x.ks.length ck):=key 4 _ (by decide) rfl;have k5:wr.cell? ⟨g,i*6+5,none⟩=some (.int .i64 (x.pl:Nat)):=key 5 _ (by decide) rfl;obtain⟨m,hm⟩:=zN (x.ks.length);rw[hm]at k4 gY hkl;clear key Wx hkk hx hm hks hpl hq hin dL
    by_cases h4:m<4
    ·have h4I:(m:Int)<4:=by omega
     have xe:Hd (Z=6/\Y=x.pl):=gY.o.2 h4;clear gY h4;go_wp2;go_quiet (fail);go_wp2;refine bodyPost_ret (results_tmp2 (t:=2) (u:=3) rfl _ _ _) rfl ⟨?_,?_⟩
     ·rw[xe.o.1,xe.o.2];rfl
     ·exact ai HG.o (au (dn (ak wr none) _) _)
    ·have h4I:¬(m:Int)<4:=by omega
     have ku:Hd ((d.tb.take (i+1)).find? (fun q=>decide ((ae ns q).length<4))=none):=gY.o.1 h4;clear gY h4;go_wp2;exact⟨⟨i+1,by go_num,by omega,ku.o,ai HG.o (dn (ak wr none) _)⟩,by simp[intOf];omega⟩
   ·have Wy:Hd (d.tb.find? (fun q=>decide ((ae ns q).length<4))=none):=by
     have:=HF.o;have e:i=d.tb.length:=by rw[HL.o.1];omega
     rw[e,List.take_length]at this;exact this
    have d3w:=HG.o.cell d3 (by simp);have d4w:=HG.o.cell d4 (by simp);clear HF;go_wp2_with (go_at_call 17;refine(HC.o _ HG.o).mono ?_);rintro e w2 ⟨B,rfl,ho,hg2⟩;have HG2:Hd (w.grownBy w2 none):=ai HG.o hg2;have HO:Hd (w2.ownsMap prog 9 (plainElem (H:=Unit) prog 3) B d.es.length (fZ d.es d.es.length)):=ho;have d4':=hg2.cell d4w (by simp);clear hg2 ho d3w d4w;go_wp2;go_loopw [42] (fun vi wr=>∃i:Nat,vi=.int .i64 (i:Nat)/\i<=wl/\(d.wt.take i).find? (fun y=>!aW d.es y.1)=none/\wr.ownsMap prog 9 (plainElem (H:=Unit) prog 3) B d.es.length (fZ d.es d.es.length)/\w.grownBy wr none) (fun vi _=>wl-(intOf vi).toNat)
    case atStart=>exact⟨0,rfl,by omega,rfl,HO.o,HG2.o⟩
    case round =>
     obtain⟨j,rfl,hj,hf,hown,hg⟩:=hrel;have HF:Hd ((d.wt.take j).find? (fun y=>!aW d.es y.1)=none):=hf;have aO:Hd (w.grownBy wr none):=hg;have HO3:Hd (wr.ownsMap prog 9 (plainElem (H:=Unit) prog 3) B d.es.length (fZ d.es d.es.length)):=hown;clear hf hg hown
     by_cases hlt:j<wl
     ·have hjn:j<d.wt.length:=by rw[HL.o.2];exact hlt
      obtain⟨g,c',hsl,hnc⟩:=Ws HRW.o (by omega)
      cases hsl
      obtain⟨y,hy⟩:=zN (d.wt[j]);have key:∀k u,k<2->(sU y)[k]?=some u->wr.cell? ⟨g,j*2+k,none⟩=some u:=fun k u hk hu=>by
       refine aO.o.cell (Wq HRW.o (j*2+k) u ?_) (by simp);rw[Ot sU 2 d.wt j k hjn (fun p hp=>rfl) hk,hy];exact hu
      have k0:wr.cell? ⟨g,j*2,none⟩=some (.string y.1):=key 0 _ (by decide) rfl;have k1:wr.cell? ⟨g,j*2+1,none⟩=some (.int .i64 (y.2:Nat)):=key 1 _ (by decide) rfl;have hys:y.1.size<=30:=mG.o y (by rw[<-hy];exact List.getElem_mem hjn);have hkey:keyOf prog 9 (.string y.1)=some (kC y.1):=Go.WideMaps.keyOf_string_mk underlying9 (by unfold maxLen;omega);have gY:Hd ((aW d.es y.1=true->(d.wt.take (j+1)).find? (fun y=>!aW d.es y.1)=none)/\(aW d.es y.1=false->Z=6/\Y=y.2)):=by
       have:=Wp (fun y=>!aW d.es y.1) d.wt j hjn HF.o;rw[hy]at this;refine⟨fun hh=>this.1 (by rw[hh];rfl),fun hh=>?_⟩;have h2:=this.2 (by rw[hh];rfl);have h3:=HZ2.o;rw[Wy.o,h2]at h3;simp only[]at h3;injection h3 with h4 h5
       exact⟨h4.symm,h5.symm⟩
      have hown2:=HO3.o.alloc (.cells #[.string y.1,.int .i64 (y.2:Nat)] 109);obtain⟨q,hq⟩:=zN (Maps.has (fZ d.es d.es.length) (kC y.1));have HQ:Hd (aW d.es y.1=q):=(Du.o y.1).symm.trans hq;clear key hjn hy hys
      cases q with
      | true =>
       have ku:=gY.o.1 HQ.o;have rV:Hd ((d.wt.take (j+1)).find? (fun y=>!aW d.es y.1)=none):=ku;clear gY ku;go_wp2_with (first|(at_lookup;refine wpList_lookup_own_ok_int _ rfl _ _ 50 rfl 9 3 .i64 keyS underlying50 underlying3 (GV _) B _ _ rfl hown2 _ _ rfl hkey ?_;intro cc hat hwc;rw[hq])|go_in);exact⟨⟨j+1,by go_num,by omega,rV.o,hown2,ai aO.o (dn (ak wr none) _)⟩,by simp[intOf];omega⟩
      | false =>
       have xe:Hd (Z=6/\Y=y.2):=gY.o.2 HQ.o;clear gY;go_wp2_with (first|(at_lookup;refine wpList_lookup_own_ok_int _ rfl _ _ 50 rfl 9 3 .i64 keyS underlying50 underlying3 (GV _) B _ _ rfl hown2 _ _ rfl hkey ?_;intro cc hat hwc;rw[hq])|go_in);go_quiet (fail);go_wp2;refine bodyPost_ret (results_tmp2 (t:=2) (u:=3) rfl _ _ _) rfl ⟨?_,?_⟩
       ·rw[xe.o.1,xe.o.2];rfl
       ·exact ai aO.o (au (dn (ak wr none) _) _)
     ·have Bl:Hd (d.wt.find? (fun y=>!aW d.es y.1)=none):=by
       have:=HF.o;have e:j=d.wt.length:=by rw[HL.o.2];omega
       rw[e,List.take_length]at this;exact this
      have xe:Hd (Z=0/\Y=0):=by
       have h3:=HZ2.o;rw[Wy.o,Bl.o]at h3;simp only[]at h3;injection h3 with h4 h5
       exact⟨h4.symm,h5.symm⟩
      clear HF;go_wp2;refine bodyPost_ret (results_tmp2 (t:=2) (u:=3) rfl _ _ _) rfl ⟨?_,aO.o⟩;rw[xe.o.1,xe.o.2];rfl
end
end Go.Proofs.YtnnbgjaphfhibaaGreatDoor
