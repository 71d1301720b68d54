import Derived.Test.YtmkjelchiacogaaGreatDoorM30
import Derived.Test.YtmkjelchiacogaaGreatDoorM23
import Derived.Test.YtmkjelchiacogaaGreatDoorM28
import Derived.Test.YtmkjelchiacogaaGreatDoorM24
import Derived.Test.YtmkjelchiacogaaGreatDoorRows
import Derived.Test.YtmkjelchiacogaaGreatDoorTie
import Derived.LaidLaws
import Derived.RowKitTokens
import Derived.Stop.ErrReads
import Derived.LaidSub
import Derived.LaidHandle
import Derived.Lib.LaidU8T
import Derived.Lib.LaidTab
import Derived.Test.YtmkjelchiacogaaGreatDoorM15
import Derived.Deep.Slices
import Derived.Carry
import Derived.DataReads
set_option linter.unusedVariables false
set_option linter.unusedSimpArgs false
set_option maxRecDepth 100000
set_option maxHeartbeats 6400000
open Go.Proofs.Tryz
namespace Go.Proofs.YtmkjelchiacogaaGreatDoor
open Go.RowKit Go.Joins
theorem agF{c:UInt8}(h:aS c=true):pb c=true:=by
 unfold aS aC at h;unfold pb;simp only[Bool.or_eq_true,Bool.and_eq_true,decide_eq_true_eq]at h ⊢;omega
theorem YA{c:UInt8}(h:nU c=true):pb c=true:=by
 unfold nU rE aC at h;unfold pb;simp only[Bool.or_eq_true,Bool.and_eq_true,decide_eq_true_eq]at h ⊢;omega
theorem EP{s:ByteArray}(h:nameB s=true):s.data.toList.all pb=true/\s.data.toList.length<=30/\¬s=⟨#[]⟩:=by
 obtain⟨h1,h2,h3,h4⟩:DJ s:=Classical.byContradiction fun hn=>by rw[sW hn]at h;cases h
 refine⟨?_,by simpa using h2,fun e=>by rw[e]at h1;exact absurd h1 (by decide)⟩;rw[List.all_eq_true];intro c hc;obtain⟨j,hj,rfl⟩:=List.getElem_of_mem hc;have hj':j<s.size:=by simpa using hj
 have e:s.data.toList[j]=s[j]:=by simp[ByteArray.getElem_eq_getElem_data]
 rw[e]
 by_cases h0:j=0
 ·subst h0;refine YA ?_;unfold nU;rw[h3 hj'];rfl
 ·exact YA (h4 j hj' (by omega))
theorem agG{c:UInt8}(h:okS c=true):pb c=true:=by
 have key:∀n:Fin 256,okS (UInt8.ofNat n.val)=true->pb (UInt8.ofNat n.val)=true:=by decide
 have:=key ⟨c.toNat,c.toNat_lt⟩ (by simpa using h);simpa using this
theorem YB{s:ByteArray}(h:o9 s=true):s.data.toList.all pb=true/\s.data.toList.length=71:=by
 unfold o9 kU at h;simp only[Bool.and_eq_true,decide_eq_true_eq,beq_iff_eq]at h;obtain⟨⟨h1,h2⟩,h3⟩:=h;refine⟨?_,h1⟩;rw[<-List.take_append_drop 7 s.data.toList,List.all_append,h2,Bool.and_eq_true];refine⟨by decide,?_⟩;unfold lX at h3;rw[List.findIdx_eq_length]at h3;rw[List.all_eq_true];intro c hc;have:=h3 c hc;exact agG (by simpa using this)
theorem Pm:∀l:List UInt8,(kZ l).all (fun p=>p.all pb)=true->l.all pb=true
 | [],_=>rfl
 | c :: l,h=>by
  rw[EW]at h
  by_cases hc:c=46
  ·rw[if_pos hc]at h;simp only[List.all_cons,Bool.and_eq_true]at h ⊢;exact⟨by rw[hc];decide,Pm l h.2⟩
  ·rw[if_neg hc]at h;have ih:=Pm l
   cases hs:kZ l with
   | nil=>exact absurd hs (Y0 l)
   | cons p ps =>
    rw[hs]at h ih;simp only[List.all_cons,Bool.and_eq_true]at h ih ⊢;exact⟨h.1.1,ih ⟨h.1.2,h.2⟩⟩
theorem YC{s:Bool}{l:List UInt8}(h:xA s l=true):l.all pb=true:=by
 by_cases h0:l=[]
 ·rw[h0];rfl
 ·refine Pm l ?_;have:=Zk h h0;rw[List.all_eq_true]at this ⊢;intro p hp;have h1:=this p hp;unfold yV at h1;simp only[Bool.and_eq_true]at h1;rw[List.all_eq_true]at *;intro c hc;exact agF (h1.1.2 c hc)
theorem Po{n:Int}(h:0<=n):(Lib.itoa n).all pb=true:=by
 rw[Jd h,List.all_eq_true];intro c hc;have:=LP n.toNat c hc;unfold ay at this;unfold pb;simp only[decide_eq_true_eq]at this ⊢;omega
theorem YD{c:UInt8}{p:List UInt8}(hc:pb c=true)(h:p.all pb=true):(yY c p).all pb=true:=by
 unfold yY;split
 ·rfl
 ·rw[List.all_cons,hc,h];rfl
theorem YE{s:ByteArray}(h:okV s=true):s.data.toList.all pb=true/\s.data.toList.length<=100:=by
 have h0:=of_decide_eq_true h;unfold jT at h0
 by_cases hl:100<s.data.toList.length
 ·rw[if_pos hl]at h0;exact absurd h0 (by show ¬(1:Int)=0;decide)
 ·rw[if_neg hl]at h0;obtain⟨h1,h2⟩:=Zl _ h0;refine⟨?_,by omega⟩;rw[<-h1];unfold Jc at h2;simp only[Bool.and_eq_true,PW]at h2;unfold Jb;simp only[List.all_append,List.all_cons,Bool.and_eq_true];exact⟨Po h2.1.1,by decide,Po h2.2.1.1,by decide,Po h2.2.2.1.1,YD (by decide) (YC h2.2.2.2.1),YD (by decide) (YC h2.2.2.2.2)⟩
theorem Pq{x:En}(h:ed x=true):wY x/\¬x.nm=⟨#[]⟩/\(x.nd.length<=20->(jw x).length<=940):=by
 unfold ed at h;simp only[Bool.and_eq_true,List.all_eq_true]at h;obtain⟨⟨⟨h1,h2⟩,h3⟩,h4⟩:=h;refine⟨⟨(YB h3).1,(EP h1).1,(YE h2).1,fun y hy=>(EP (h4 y hy)).1⟩,(EP h1).2.2,fun h20=>?_⟩;have a1:=(YB h3).2;have a2:=(EP h1).2.1;have a3:=(YE h2).2;have key:∀N:List ByteArray,(∀y∈N,y.data.toList.length<=30)->(jt (N.map (·.data.toList))).length<=N.length*34/\(jn (N.map (·.data.toList))).length<=N.length*34:=fun N=>by
  induction N with
  | nil=>intro _;exact⟨by simp[jt],by simp[jn]⟩
  | cons y r ih =>
   intro hN;have:=(ih (fun z hz=>hN z (by simp[hz]))).1;have hy:=hN y (by simp);constructor
   ·simp only[List.map_cons,jt,List.length_cons,List.length_append];omega
   ·simp only[List.map_cons,jn,List.length_cons,List.length_append];omega
 have a4:=(key x.nd (fun y hy=>(EP (h4 y hy)).2.1)).2;simp only[jw,qo,tV,ln,sv,iC,lJ,lK,kW,kH,List.length_cons,List.length_append,List.length_nil];omega
theorem agH(x:En):bZ (bZ x)=bZ x:=by
 unfold bZ;rw[<-NH (List.Perm.refl _) (V6 x.nd)]
noncomputable def dC(L:List En):List En:=(jd L).map bZ
theorem Pv{L:List En}(h:uN L):uN (dC L):=by
 obtain⟨h1,h2,h3⟩:=aek (tK L) h;have hm:(dC L).map (·.nm)=(jd L).map (·.nm):=by unfold dC;rw[List.map_map];rfl
 refine⟨by unfold dC;rw[List.length_map];exact h1,by rw[hm];exact h2,fun x hx=>?_⟩;obtain⟨y,hy,rfl⟩:=List.mem_map.1 hx;obtain⟨b1,b2,b3,b4⟩:=h3 y hy;have hp:=rM y.nd;refine⟨by show(iT y.nd).length<=20;rw[hp.length_eq];exact b1,?_,by show(iT y.nd).Nodup;exact hp.nodup_iff.2 b3,fun z hz=>by rw[hm];exact b4 z (hp.subset hz)⟩;unfold ed at b2 ⊢;simp only[Bool.and_eq_true,List.all_eq_true]at b2 ⊢;exact⟨b2.1,fun z hz=>b2.2 z (hp.subset hz)⟩
theorem agI{L:List En}(h:uN L):dC (dC L)=dC L:=by
 obtain⟨-,h2,-⟩:=Pv h;have hr:wW (dC L):=by
  unfold wW dC;rw[List.pairwise_map];exact V8 L
 have hs:=NJ h2 (List.Perm.refl _) hr;show(jd (dC L)).map bZ=_;rw[<-hs];unfold dC;rw[List.map_map];congr 1;funext x;exact agH x
theorem agJ{L:List En}(h:uN L):ny (dC L)=ny L:=by
 show(⟨(tN (dC (dC L))).toArray⟩:ByteArray)=⟨(tN (dC L)).toArray⟩;rw[agI h]
theorem agK{L:List En}(h:uN L):∃ns,jf (ny L).data.toList=.ok ns/\xe ns=.ok (dC L)/\oQ ns=(ny L).data.toList:=by
 have hok:=Pv h;have hp:∀x∈dC L,wY x:=fun x hx=>(Pq (hok.2.2 x hx).2.1).1
 have hT:(ny L).data.toList=rO (dC L):=by rw[agC];rfl
 have hlen:(rO (dC L)).length<=100000:=by
  have key:∀M:List En,(∀x∈M,(jw x).length<=940)->(M.flatMap jw).length<=M.length*940:=fun M=>by
   induction M with
   | nil=>intro _;simp
   | cons x r ih =>
    intro hM;have a1:=ih (fun y hy=>hM y (by simp[hy]));have a2:=hM x (by simp);rw[List.flatMap_cons,List.length_append,List.length_cons];omega
  have:=key (dC L) (fun x hx=>(Pq (hok.2.2 x hx).2.1).2.2 (hok.2.2 x hx).1);have h50:=hok.1;unfold rO;rw[List.length_append,show(ln jv [49]).length=11 from rfl];omega
 obtain⟨ns,h1,h2⟩:=aej (dC L) hp hlen;rw[hT];exact⟨ns,h1,aey h2 hok (fun x hx=>(Pq (hok.2.2 x hx).2.1).2.1),agE hp h1 h2⟩
open Go.RowKit Go.Maps Go.WideMaps Go.Joins
theorem agL(s:ByteArray)(E:Int->TypeId × Value)(b:Int->Addr)(w:World)(G:Gl w w.heap.size E)(S:Sn w E b)(hmx:s.size<2 ^ 62)(ns:List Tn)(hns:jf s.data.toList=.ok ns)(es:List En)(hes:xe ns=.ok es) :
  Calls prog 8 #[.string s] w (OM w es):=by
 have CR:Hd (Calls prog 16 #[.string s,.func (.func 17) #[] #[]] w fun e w'=>∃ve,e=.returned (.tuple #[ve,.int .i64 0,.int .i64 0])/\Hd (EnS w' ve es/\w.grownBy w' none)):=(afP s E b w G S hmx ns hns es hes).mono fun e w' hh=>by
  obtain⟨⟨ve,he,hE⟩,hg⟩:=hh;exact⟨ve,he,hE,hg⟩
 clear G S hns hes;go_enter func8,ntmps8;go_wp2_with (go_at_call 16;refine CR.o.mono ?_;rintro e w4 ⟨ve,rfl,h4⟩);refine bodyPost_ret (by first|exact results_tmp3 (t:=2) (u:=3) (v:=4) rfl _ _ _|exact results_tmp3 (t:=3) (u:=4) (v:=5) rfl _ _ _) rfl ?_;exact⟨⟨ve,rfl,h4.o.1⟩,h4.o.2⟩
theorem agM(v:Value)(L:List En)(w:World)(h:EnS w v L)(hL:L.length<=1048576)(hN:∀x∈L,x.nd.length<=1048576)(hnd:(L.map (·.nm)).Nodup) :
  Calls prog 11 #[v] w fun e w'=>∃v,e=.returned v/\EnS w' v (dC L)/\w.grownBy w' none:=by
 rcases h with⟨rfl,rfl⟩|⟨a,cap,rfl,h2,h3⟩
 ·refine(Yv w).mono fun e w' h=>⟨_,h.1,Or.inl ⟨rfl,?_⟩,h.2⟩
  unfold dC;rw[List.Perm.eq_nil (tK [])];rfl
 ·exact Wh a cap L w hL h2 hN hnd h3
theorem YR(sl:Value)(L:List En)(w:World)(h:EnS w sl L)(hL:L.length<=1048576)(hV:∀x∈L,x.nm.size<=1048576/\x.ve.size<=1048576/\x.dg.size<=1048576)(hN:∀x∈L,x.nd.length<=1048576)(hS:∀x∈L,∀y∈x.nd,y.size<=1048576)(E:Int->TypeId × Value)(b:Int->Addr)(G:Gl w w.heap.size E)(S:Sn w E b)(TB:Tab w) :
  Calls prog 3 #[sl] w fun e w'=>e=.returned (.bool true)/\w.grownBy w' none:=by
 have YF:Hd (∀w',w.grownBy w' none->Calls prog 5 #[sl] w' fun e w''=>∃o c,e=.returned (.slice o L.length c)/\EnS w'' (.slice o L.length c) L/\w'.grownBy w'' none):=fun w' hg=>acP sl L w' (h.grow hg) hL hN
 have CC:Hd (∀v w',EnS w' v L->Calls prog 4 #[v] w' fun e w''=>e=.returned (.tuple #[.string (iU L),.int .i64 (bJ L L.length).1,.int .i64 ((bJ L L.length).2:Int)])/\w'.grownBy w'' none):=fun v w' h=>Yu v L w' h hL hV hN hS
 have CD:Hd (∀w',w.grownBy w' none->Calls prog 6 #[sl] w' fun e w''=>e=.returned (.tuple #[.string (iU L),.int .i64 (bJ L L.length).1,.int .i64 ((bJ L L.length).2:Int)])/\w'.grownBy w'' none):=fun w' hg=>agx sl L w' (h.grow hg) hL hV hN hS
 have CM:Hd (∀n w,Calls prog 7 #[.int .i64 n] w fun e w'=>e=.returned (.int .i64 n)/\w.grownBy w' none):=fun n w=>agv n w
 have iO:Hd (EnS w sl L):=h;obtain⟨o0,c0,hsl⟩:=wH h;obtain⟨K,hK⟩:∃K:Int,((bJ L L.length).2:Int)=K:=⟨_,rfl⟩;have HG:Hd (w.grownBy w none):=ai _ _
 by_cases hok:(bJ L L.length).1=0
 ·obtain⟨ns,hns,hlo,hfm⟩:=agK ((Oa L).1 hok);have IY:=(Oa L).1 hok;have hR:iU L=ny L:=WO hok;have hlen:=(LJ _ _ hns).choose_spec.choose_spec.2.2.2;obtain⟨T,hT⟩:=zN (ny L);have hTs:T.size<2 ^ 62:=by
   rw[hT,Array.length_toList]at hlen;have:T.size=T.data.size:=rfl;omega
  have hrm:∀x∈dC L,∃y∈L,x=bZ y:=fun x hx=>by
   obtain⟨y,hy,rfl⟩:=List.mem_map.1 hx;exact⟨y,(tK L).subset hy,rfl⟩
  have hrl:(dC L).length<=1048576:=by unfold dC;rw[List.length_map,(tK L).length_eq];exact hL
  have hrn:∀x∈dC L,x.nd.length<=1048576:=fun x hx=>by
   obtain⟨y,hy,rfl⟩:=hrm x hx;show(iT y.nd).length<=1048576;rw[(rM y.nd).length_eq];exact hN y hy
  have CRD:Hd (∀w',w.grownBy w' none->Calls prog 8 #[.string T] w' fun e w''=>∃ve,e=.returned (.tuple #[ve,.int .i64 0,.int .i64 0])/\EnS w'' ve (dC L)/\w'.grownBy w'' none):=fun w' hg=>(agL T E b w' ((G.bel (uf hg)).up hg.size) (S.grow hg) hTs ns (by rw[<-hT];exact hns) (dC L) hlo).mono fun e w'' hh=>by
   obtain⟨⟨ve,he,hE⟩,hg⟩:=hh;exact⟨ve,he,hE,hg⟩
  have hrk:=(Oa (dC L)).2 (Pv IY);obtain⟨Q,hQ⟩:∃Q:Int,((bJ (dC L) (dC L).length).2:Int)=Q:=⟨_,rfl⟩;have CP2:Hd (∀v w',EnS w' v (dC L)->Calls prog 4 #[v] w' fun e w''=>e=.returned (.tuple #[.string T,.int .i64 0,.int .i64 Q])/\w'.grownBy w'' none):=fun v w' h=>by
   have:=Yu v (dC L) w' h hrl (fun x hx=>by obtain⟨y,hy,rfl⟩:=hrm x hx;exact hV y hy) hrn (fun x hx z hz=>by
    obtain⟨y,hy,rfl⟩:=hrm x hx;exact hS y hy z ((rM y.nd).subset hz))
   rw[hrk,WO hrk,agJ IY,hT,hQ]at this;exact this
  have CTP:Hd (∀w',w.grownBy w' none->Calls prog 9 #[.string T] w' fun e w''=>e=.returned (.tuple #[.string T,.int .i64 0,.int .i64 0])/\w'.grownBy w'' none):=fun w' hg=>(ae9 T E b w' ((G.bel (uf hg)).up hg.size) (S.grow hg) (KP TB hg) hTs).mono fun e w'' hh=>by
   refine⟨?_,hh.2.2⟩;rw[hh.1 ns (by rw[<-hT];exact hns),hfm,hT]
  have CRI:Hd (∀w',w.grownBy w' none->Calls prog 11 #[sl] w' fun e w''=>∃v,e=.returned v/\EnS w'' v (dC L)/\w'.grownBy w'' none):=fun w' hg=>agM sl L w' (iO.o.grow hg) hL hN IY.2.1
  have CSE:Hd (∀v v' w',EnS w' v (dC L)->EnS w' v' (dC L)->Calls prog 10 #[v,v'] w' fun e w''=>e=.returned (.bool true)/\w'.grownBy w'' none):=fun v v' w' h1 h2=>acR v v' (dC L) w' h1 h2 hrl hrn
  rw[hok,hK,hR,hT]at CC CD;have htt:(T.toList == T.toList)=true:=by simp
  subst hsl;clear h hV hN hS hK hT hR hok IY hlen hrm hrl hrn hrk hQ hns hlo hfm hTs iO G S TB;go_enter func3,ntmps3;go_wp2_with (go_at_call 5;refine(YF.o _ HG.o).mono ?_);rintro e w1 ⟨o1,c1,rfl,hr1,hg⟩;replace HG:Hd (w.grownBy w1 none):=af HG.o hg;have HR1:Hd (EnS w1 (.slice o1 L.length c1) L):=hr1;clear hg hr1;go_wp2_with (go_at_call 4;refine(CC.o _ _ HR1.o).mono ?_);rintro e w2 ⟨rfl,hg⟩;replace HG:Hd (w.grownBy w2 none):=af HG.o hg;clear hg HR1;go_wp2_with (go_at_call 6;refine(CD.o _ HG.o).mono ?_);rintro e w3 ⟨rfl,hg⟩;replace HG:Hd (w.grownBy w3 none):=af HG.o hg;clear hg;go_wp2_with (first|(go_at_call 7;refine(CM.o _ _).mono ?_)|(go_at_call 8;fail));rintro e w4 ⟨rfl,hg⟩;replace HG:Hd (w.grownBy w4 none):=af HG.o hg;clear hg;go_wp2_with (go_at_call 8;refine(CRD.o _ HG.o).mono ?_)
  rintro e w5 ⟨ve,rfl,hE,hg⟩;replace HG:Hd (w.grownBy w5 none):=af HG.o hg;have HE:Hd (EnS w5 ve (dC L)):=hE;clear hg hE;go_wp2_with (go_at_call 4;refine(CP2.o _ _ HE.o).mono ?_);rintro e w6 ⟨rfl,hg⟩;replace HG:Hd (w.grownBy w6 none):=af HG.o hg;replace HE:Hd (EnS w6 ve (dC L)):=HE.o.grow hg;clear hg;go_wp2_with (go_at_call 9;refine(CTP.o _ HG.o).mono ?_);rintro e w7 ⟨rfl,hg⟩;replace HG:Hd (w.grownBy w7 none):=af HG.o hg;replace HE:Hd (EnS w7 ve (dC L)):=HE.o.grow hg;clear hg;go_wp2_with (go_at_call 11;refine(CRI.o _ HG.o).mono ?_);rintro e w8 ⟨vr,rfl,hE,hg⟩;replace HG:Hd (w.grownBy w8 none):=af HG.o hg;replace HE:Hd (EnS w8 ve (dC L)):=HE.o.grow hg;have HE2:Hd (EnS w8 vr (dC L)):=hE;clear hg hE;go_wp2_with (go_at_call 10;refine(CSE.o _ _ _ HE.o HE2.o).mono ?_);rintro e w9 ⟨rfl,hg⟩
  replace HG:Hd (w.grownBy w9 none):=af HG.o hg;clear hg HE HE2;go_wp2_with (go_at_call 7;refine(CM.o _ _).mono ?_;rintro e wn ⟨rfl,hgn⟩;replace HG:Hd (w.grownBy wn none):=af HG.o hgn;clear hgn);go_ret;exact⟨rfl,HG.o⟩
 ·have hR:iU L=⟨#[]⟩:=by unfold iU;rw[if_neg hok]
  obtain⟨Z,hZ⟩:=zN ((bJ L L.length).1);rw[hR,hK,hZ]at CC CD;rw[hZ]at hok;have hz1:(Z == Z)=true:=by simp
  have hz2:(Z == 0)=false:=by simpa using hok
  subst hsl;clear h hV hN hS hK hR hZ iO G S TB;go_enter func3,ntmps3;go_wp2_with (go_at_call 5;refine(YF.o _ HG.o).mono ?_);rintro e w1 ⟨o1,c1,rfl,hr1,hg⟩;replace HG:Hd (w.grownBy w1 none):=af HG.o hg;have HR1:Hd (EnS w1 (.slice o1 L.length c1) L):=hr1;clear hg hr1;go_wp2_with (go_at_call 4;refine(CC.o _ _ HR1.o).mono ?_);rintro e w2 ⟨rfl,hg⟩;replace HG:Hd (w.grownBy w2 none):=af HG.o hg;clear hg HR1;go_wp2_with (go_at_call 6;refine(CD.o _ HG.o).mono ?_);rintro e w3 ⟨rfl,hg⟩;replace HG:Hd (w.grownBy w3 none):=af HG.o hg;clear hg;go_wp2_with (go_at_call 7;refine(CM.o _ _).mono ?_;rintro e w4 ⟨rfl,hg4⟩);go_ret;exact⟨rfl,af HG.o hg4⟩
open Go.RowKit Go.Joins Go.ChangeShapes Go.WideShapes
def YG:Shelf.Ren:=⟨fun x=>x,fun x=>if x=5 then 5 else if x=119 then 313 else if x=138 then 315 else 316,fun x=>if x=3 then 10 else 11⟩
theorem u8T:U8Types prog YG:=⟨by kernel_rfl,by kernel_rfl,by kernel_rfl,by kernel_rfl⟩
theorem u8X:U8Extra prog YG:=⟨by kernel_rfl,by kernel_rfl,by kernel_rfl,by kernel_rfl,by kernel_rfl,by kernel_rfl,by kernel_rfl⟩
theorem agN:(Rows.laid_unicode_utf8_first:DataW Unit)=Lib.firstData:=by kernel_rfl
theorem agO:(Rows.laid_unicode_utf8_acceptRanges:DataW Unit)=Lib.acceptData:=by kernel_rfl
theorem YH : "*" ++ "errors.errorString" = "*errors.errorString":=by decide
theorem EQ(u:TypeId)(h:prog.typeName? 3 u=some "*errors.errorString"):u=330 :=
 typeName_ptr_named (nm := "errors.errorString") (by rw[YH];kernel_rfl) (by kernel_rfl) (by decide) u (by rw[YH];exact h)
theorem ER:prog.cellsOf 332=1:=by kernel_rfl
theorem ES:prog.cellsOf 9=1:=by kernel_rfl
theorem agP:prog.globalNamed "pantry/toml.errLong"=some 0:=by kernel_rfl
theorem agQ:prog.globalNamed "pantry/toml.errText"=some 5:=by kernel_rfl
theorem agR:prog.globalNamed "pantry/toml.errRange"=some 1:=by kernel_rfl
theorem agS:prog.globalNamed "pantry/toml.errMany"=some 2:=by kernel_rfl
theorem agT:prog.globalNamed "pantry/toml.errTwice"=some 3:=by kernel_rfl
theorem agU:prog.globalNamed "errors.errorType"=some 4:=by kernel_rfl
theorem agV:(prog.globals[0]?).map (·.type)=some 50:=by kernel_rfl
theorem agW:(prog.globals[5]?).map (·.type)=some 50:=by kernel_rfl
theorem agX:(prog.globals[1]?).map (·.type)=some 50:=by kernel_rfl
theorem agY:(prog.globals[2]?).map (·.type)=some 50:=by kernel_rfl
theorem agZ:(prog.globals[3]?).map (·.type)=some 50:=by kernel_rfl
theorem ag0:∀ty,ty<prog.types.size->prog.rowNamed ty [101,114,114,111,114]=true->ty=50:=by
 have h:(List.range prog.types.size).all (fun t=>!(prog.rowNamed t [101,114,114,111,114]) || t == 50)=true:=by kernel_rfl
 intro ty hty hr;have:=List.all_eq_true.1 h ty (List.mem_range.2 hty);rw[hr]at this;simpa using this
theorem ag1:(prog.cutTypes.find? (·.1 == "internal/reflectlite.rtype")).map (·.2)=some 202:=by kernel_rfl
theorem ag2:prog.globals.size=14:=by kernel_rfl
theorem ag3{W:World}(h:laidMet prog [("pantry/toml.errLong",Rows.laid_pantry_toml_errLong),("pantry/toml.errText",Rows.laid_pantry_toml_errText),("pantry/toml.errRange",Rows.laid_pantry_toml_errRange),("pantry/toml.errMany",Rows.laid_pantry_toml_errMany),("pantry/toml.errTwice",Rows.laid_pantry_toml_errTwice)] W) :
  ∃(b:Int->Addr),(∀k,1<=k->k<=5->∃cs t,W.heap[(b k).block]?=some (.cells cs t (0,0)))/\(∀k m,1<=k->k<=5->1<=m->m<=5->b k=b m->k=m) ∧
   W.cell? ⟨0,0,none⟩=some (.iface 330 (.pointer (some (b 1))))/\W.cell? ⟨5,0,none⟩=some (.iface 330 (.pointer (some (b 2))))/\W.cell? ⟨1,0,none⟩=some (.iface 330 (.pointer (some (b 3))))/\W.cell? ⟨2,0,none⟩=some (.iface 330 (.pointer (some (b 4))))/\W.cell? ⟨3,0,none⟩=some (.iface 330 (.pointer (some (b 5)))):=by
 obtain⟨ps,⟨g1,t1,cs1,f1,p1,q1,hg1,ht1,hv1,hd1,⟨g2,t2,cs2,f2,p2,q2,hg2,ht2,hv2,hd2,⟨g3,t3,cs3,f3,p3,q3,hg3,ht3,hv3,hd3,⟨g4,t4,cs4,f4,p4,q4,hg4,pK,hv4,hd4,⟨g5,t5,cs5,f5,p5,q5,hg5,vS,hv5,hd5,hq5,e5⟩,e4⟩,e3⟩,e2⟩,e1⟩,hnd,hrows⟩:=h;obtain rfl:=Option.some.inj (agP.symm.trans hg1);obtain rfl:=Option.some.inj (agQ.symm.trans hg2);obtain rfl:=Option.some.inj (agR.symm.trans hg3);obtain rfl:=Option.some.inj (agS.symm.trans hg4);obtain rfl:=Option.some.inj (agT.symm.trans hg5);obtain rfl:=Option.some.inj (agV.symm.trans ht1);obtain rfl:=Option.some.inj (agW.symm.trans ht2);obtain rfl:=Option.some.inj (agX.symm.trans ht3);obtain rfl:=Option.some.inj (agY.symm.trans pK);obtain rfl:=Option.some.inj (agZ.symm.trans vS);have ag4:q5=[]:=hq5;subst ag4 e5 e4 e3 e2 e1;obtain⟨l1⟩:=cs1;obtain⟨l2⟩:=cs2;obtain⟨l3⟩:=cs3;obtain⟨l4⟩:=cs4;obtain⟨l5⟩:=cs5;have ok1:∀u v,l1=[.iface u v]->Value.okWide prog W .any 0 u v:=fun u v e=>by
  subst e;exact(hrows 0 0 (by simp[MemPlace.row])).2 u v (by simpa using World.var?_cell hg1 hv1 0)
 have ok2:∀u v,l2=[.iface u v]->Value.okWide prog W .any 0 u v:=fun u v e=>by
  subst e;exact(hrows 5 0 (by simp[MemPlace.row])).2 u v (by simpa using World.var?_cell hg2 hv2 0)
 have ok3:∀u v,l3=[.iface u v]->Value.okWide prog W .any 0 u v:=fun u v e=>by
  subst e;exact(hrows 1 0 (by simp[MemPlace.row])).2 u v (by simpa using World.var?_cell hg3 hv3 0)
 have ok4:∀u v,l4=[.iface u v]->Value.okWide prog W .any 0 u v:=fun u v e=>by
  subst e;exact(hrows 2 0 (by simp[MemPlace.row])).2 u v (by simpa using World.var?_cell hg4 hv4 0)
 have ok5:∀u v,l5=[.iface u v]->Value.okWide prog W .any 0 u v:=fun u v e=>by
  subst e;exact(hrows 3 0 (by simp[MemPlace.row])).2 u v (by simpa using World.var?_cell hg5 hv5 0)
 obtain⟨a1,s1,rfl,-,-,-,rfl⟩:=errorString_of_trod underlying50 EQ underlying330 underlying332 rfl rfl underlying9 ER ES hd1 ok1;obtain⟨a2,s2,rfl,-,-,-,rfl⟩:=errorString_of_trod underlying50 EQ underlying330 underlying332 rfl rfl underlying9 ER ES hd2 ok2;obtain⟨a3,s3,rfl,-,-,-,rfl⟩:=errorString_of_trod underlying50 EQ underlying330 underlying332 rfl rfl underlying9 ER ES hd3 ok3;obtain⟨a4,s4,rfl,-,-,-,rfl⟩:=errorString_of_trod underlying50 EQ underlying330 underlying332 rfl rfl underlying9 ER ES hd4 ok4;obtain⟨a5,s5,rfl,-,-,-,rfl⟩:=errorString_of_trod underlying50 EQ underlying330 underlying332 rfl rfl underlying9 ER ES hd5 ok5;have b1:=(hrows a1.block a1.off (by simp[MemPlace.row])).1;have b2:=(hrows a2.block a2.off (by simp[MemPlace.row])).1
 have b3:=(hrows a3.block a3.off (by simp[MemPlace.row])).1;have b4:=(hrows a4.block a4.off (by simp[MemPlace.row])).1;have b5:=(hrows a5.block a5.off (by simp[MemPlace.row])).1;have c1:=World.var?_cell hg1 hv1 0;have c2:=World.var?_cell hg2 hv2 0;have c3:=World.var?_cell hg3 hv3 0;have c4:=World.var?_cell hg4 hv4 0;have c5:=World.var?_cell hg5 hv5 0;have n12:a1≠a2:=by rintro rfl;simp[MemPlace.row]at hnd
 have n13:a1≠a3:=by rintro rfl;simp[MemPlace.row]at hnd
 have n14:a1≠a4:=by rintro rfl;simp[MemPlace.row]at hnd
 have n15:a1≠a5:=by rintro rfl;simp[MemPlace.row]at hnd
 have n23:a2≠a3:=by rintro rfl;simp[MemPlace.row]at hnd
 have n24:a2≠a4:=by rintro rfl;simp[MemPlace.row]at hnd
 have n25:a2≠a5:=by rintro rfl;simp[MemPlace.row]at hnd
 have n34:a3≠a4:=by rintro rfl;simp[MemPlace.row]at hnd
 have n35:a3≠a5:=by rintro rfl;simp[MemPlace.row]at hnd
 have n45:a4≠a5:=by rintro rfl;simp[MemPlace.row]at hnd
 refine⟨fun k=>if k=1 then a1 else if k=2 then a2 else if k=3 then a3 else if k=4 then a4 else a5,fun k h1 h5=>?_,fun k m h1 h5 h1' h5'=>?_,by simpa using c1,by simpa using c2,by simpa using c3,by simpa using c4,by simpa using c5⟩
 ·have hk:k=1\/k=2\/k=3\/k=4\/k=5:=by omega
  rcases hk with rfl|rfl|rfl|rfl|rfl
  ·exact b1
  ·exact b2
  ·exact b3
  ·exact b4
  ·exact b5
 ·have hk:k=1\/k=2\/k=3\/k=4\/k=5:=by omega
  have hm:m=1\/m=2\/m=3\/m=4\/m=5:=by omega
  rcases hk with rfl|rfl|rfl|rfl|rfl<;>rcases hm with rfl|rfl|rfl|rfl|rfl<;>simp[n12,n13,n14,n15,n23,n24,n25,n34,n35,n45,n12.symm,n13.symm,n14.symm,n15.symm,n23.symm,n24.symm,n25.symm,n34.symm,n35.symm,n45.symm]
theorem AU{W:World}{g k:Nat}{v:Value}(h:W.cell? ⟨g,k,none⟩=some v):g<W.heap.size:=block_lt_of_cell h
theorem YQ{W:World}(h:laidMetH prog Rows.bookBackUptoRow.laid W):∃(E:Int->TypeId × Value) (b:Int->Addr),Gl W W.heap.size E/\Sn W E b:=by
 obtain⟨hL,hH⟩:=laidMetH_iff.1 h;have h5:laidMet prog [("pantry/toml.errLong",Rows.laid_pantry_toml_errLong),("pantry/toml.errText",Rows.laid_pantry_toml_errText),("pantry/toml.errRange",Rows.laid_pantry_toml_errRange),("pantry/toml.errMany",Rows.laid_pantry_toml_errMany),("pantry/toml.errTwice",Rows.laid_pantry_toml_errTwice)] W:=hL.filter (fun x=>x.1 == "pantry/toml.errLong" || x.1 == "pantry/toml.errText" || x.1 == "pantry/toml.errRange" || x.1 == "pantry/toml.errMany" || x.1 == "pantry/toml.errTwice");have ht:laidMet prog [("unicode/utf8.acceptRanges",Rows.laid_unicode_utf8_acceptRanges),("unicode/utf8.first",Rows.laid_unicode_utf8_first)] W:=hL.filter (fun x=>x.1 == "unicode/utf8.acceptRanges" || x.1 == "unicode/utf8.first");obtain⟨b,b1,b2,c1,c2,c3,c4,c5⟩:=ag3 h5;rw[agN,agO]at ht;have tabs:Lib.Utf8Tabs 10 11 W:=utf8Tabs_of_readsT u8T u8X (Lib.laidMet.reads ht (.tail _ (.head _))) (Lib.laidMet.reads ht (.head _))
 have hh:=hH ("errors.errorType",Rows.laid_errors_errorType) (by exact .head _);obtain⟨name,u,ty,e1,e2,e3,e4,e5⟩:=hh;obtain rfl:=Option.some.inj (ag1.symm.trans e2);have en:name=[101,114,114,111,114]:=(Option.some.inj e1).symm;rw[en]at e4;obtain rfl:=ag0 ty e3 e4;have cty:=World.var?_cell agU e5 0;refine⟨fun k=>(330,.pointer (some (b k))),b,⟨⟨c2,c3,c4,c5⟩,⟨AU c2,AU c3,AU c4,AU c5⟩,tabs,?_,?_⟩,⟨fun k _ _=>rfl,b1,b2,?_,c1⟩⟩
 ·exact AU (tabs.1 0 (by omega))
 ·exact AU (tabs.2 0 (by omega)).1
 ·rw[cty];unfold typeHandle;rw[ag2];rfl
theorem own:ownKnob prog.godebug=none:=by kernel_rfl
def YI{H:Type}:DataW H->Value
 | .lit (.int k n)=>.int k n
 | _=>.bool false
def ET{H:Type}:DataW H->Array Value
 | .agg ps=>(ps.flatMap fun d=>match d with | .agg qs=>qs.map YI|d=>[YI d]).toArray
 | _=>#[]
def ag5{H:Type}:DataW H->ByteArray
 | .iface _ (.ptr (.agg [.lit (.string l)]))=>⟨l.toArray⟩
 | _=>⟨#[]⟩
def ag6(P:Program):Nat:=(World.holding P default ⟨#[],#[],[]⟩).heap.size
def yS(d:DataW Unit):Obj:=.cells #[.string (ag5 d)] 332 (0,0)
def yT(P:Program)(k:Nat)(t:TypeId):Obj:=.cells #[.iface 330 (.pointer (some ⟨ag6 P+k,0,none⟩))] t (0,0)
def laidWorld(P:Program)(os:Os):World :=
 let w0:=World.holding P os ⟨#[yS Rows.laid_strconv_ErrRange,yS Rows.laid_strconv_ErrSyntax,yS Rows.laid_pantry_toml_errLong,yS Rows.laid_pantry_toml_errText,yS Rows.laid_pantry_toml_errRange,yS Rows.laid_pantry_toml_errMany,yS Rows.laid_pantry_toml_errTwice],#[],[]⟩
 { w0 with heap:=((((((((((((w0.heap.setIfInBounds 8 (.cells (ET (Rows.laid_math_bits_deBruijn32tab:DataW Unit)) 309 (0,0))).setIfInBounds 9 (.cells (ET (Rows.laid_math_bits_deBruijn64tab:DataW Unit)) 310 (0,0))).setIfInBounds 6 (.cells (ET (Rows.laid_internal_strconv_uint64pow10:DataW Unit)) 272 (0,0))).setIfInBounds 11 (.cells (ET (Rows.laid_unicode_utf8_acceptRanges:DataW Unit)) 316 (0,0))).setIfInBounds 10 (.cells (ET Rows.laid_unicode_utf8_first) 313 (0,0))).setIfInBounds 4 (.cells #[.iface 202 (.agg #[.pointer (some ⟨14,50,none⟩)])] 149 (0,0))).setIfInBounds 13 (yT P 0 50)).setIfInBounds 12 (yT P 1 50)).setIfInBounds 0 (yT P 2 50)).setIfInBounds 5 (yT P 3 50)).setIfInBounds 1 (yT P 4 50)).setIfInBounds 2 (yT P 5 50)).setIfInBounds 3 (yT P 6 50) }
theorem laid_met(os:Os):laidMetH prog Rows.bookBackUptoRow.laid ((laidWorld prog os).forCall (fun _ _=>0) ⟨#[],#[.slice none 0 0],[]⟩).memory :=
 laidMetH_of_parts (laidMet_of_run' 8 (by kernel_rfl) (by kernel_rfl)) (by kernel_rfl)
open Go.ChangeShapes Go.WideShapes Go.ChangeAt Go.RowKit Go.Joins
instance:Inhabited En:=⟨⟨⟨#[]⟩,⟨#[]⟩,⟨#[]⟩,[]⟩⟩
theorem YJ:prog.cellsOf 43=4:=by kernel_rfl
theorem ag7:prog.cellsOf 9=1:=by kernel_rfl
theorem ag8{H:Type}(d:DataW H):1<=Rows.uptoBulk d:=by
 cases d with
 | lit l=>cases l<;>simp[Rows.uptoBulk]
 | _=>simp[Rows.uptoBulk]
theorem YK{H:Type}(l:List (DataW H)):l.length<=Rows.uptoBulkAll l:=by
 induction l with
 | nil=>simp
 | cons d l ih =>
  have:=ag8 d;simp only[Rows.uptoBulkAll,List.length_cons];omega
theorem YL{H:Type}(l:List (DataW H))(d:DataW H)(h:d∈l):Rows.uptoBulk d<=Rows.uptoBulkAll l:=by
 induction l with
 | nil=>cases h
 | cons e l ih =>
  simp only[Rows.uptoBulkAll]
  rcases List.mem_cons.1 h with rfl|h
  ·omega
  ·have:=ih h;omega
theorem ag9{α:Type}{cs:List α}(h:cs.length=4):∃c0 c1 c2 c3,cs=[c0,c1,c2,c3]:=by
 match cs,h with
 | [c0,c1,c2,c3],_=>exact⟨c0,c1,c2,c3,rfl⟩
theorem aha{H:Type}{enc:TypeId × Value->H}{w:World}{base:Nat}{spare:Nat->Bool}{held:Bool}{fuel:Nat}{v:Value}{x:DataW H × List MemPlace}
  (h:DataW.trod enc prog w base spare held fuel 41 [v]=some x):∃L:List ByteArray,TxS w v L/\L.length<=Rows.uptoBulk x.1/\∀y∈L,y.size<=Rows.uptoBulk x.1:=by
 have hu:=underlying41
 rcases Deep.open_slice hu h with⟨hcs,hx⟩|⟨a,len,cap,m,n,D,Pl,hcs,hb,hl,hm,hmm,hx,hel⟩
 ·simp at hcs;exact⟨[],Or.inl ⟨hcs,rfl⟩,by simp,by simp⟩
 ·simp at hcs;subst hcs;have hle:len<=m:=by rw[hmm];split<;>omega
  have hS:∀i,i<len->∃s:ByteArray,w.cell? (a.add i)=some (.string s)/\s.size<=Rows.uptoBulk (D i):=by
   intro i hi;obtain⟨cs',h1,h2⟩:=hel i (by omega);rw[ag7]at h1;obtain⟨-,h4,h3⟩:=World.cells?_some h1;obtain⟨a0,e0,hd,w0⟩:=DataW.trod_string underlying9 h2;have q0:=h3 0 (by omega);rw[Deep.add_add,e0]at q0;refine⟨a0,by simpa using q0,?_⟩;have hd':=congrArg Prod.fst hd;simp only[]at hd';rw[hd'];simp only[Rows.uptoBulk,Array.length_toList];have e1:a0.data.size=a0.size:=rfl;omega
  obtain⟨S,hS⟩:=Deep.choose_lt hS;have hlen:((List.range len).map S).length=len:=by simp
  refine⟨(List.range len).map S,Or.inr ⟨a,cap,by rw[hlen],by rw[hlen];exact hl,fun i hi=>?_⟩,?_,fun y hy=>?_⟩
  ·have hi':i<len:=by rw[hlen]at hi;exact hi
   rw[List.getElem_map,List.getElem_range];exact(hS i hi').1
  ·rw[hx,hlen];simp only[Rows.uptoBulk];have:=YK ((List.range len).map D);simp only[List.length_map,List.length_range]at this;omega
  ·obtain⟨i,hi,rfl⟩:=List.mem_map.1 hy;have hm:=YL ((List.range len).map D) (D i) (List.mem_map.2 ⟨i,hi,rfl⟩);have:=(hS i (List.mem_range.1 hi)).2;rw[hx];simp only[Rows.uptoBulk];omega
theorem ahb{H:Type}{enc:TypeId × Value->H}{w:World}{base:Nat}{spare:Nat->Bool}{held:Bool}{fuel:Nat}{cs:List Value}{x:DataW H × List MemPlace}
  (h:DataW.trod enc prog w base spare held fuel 43 cs=some x) :
  ∃(r:En) (v:Value),cs=[.string r.nm,.string r.ve,.string r.dg,v]/\TxS w v r.nd/\r.nm.size<=Rows.uptoBulk x.1/\r.ve.size<=Rows.uptoBulk x.1/\r.dg.size<=Rows.uptoBulk x.1/\r.nd.length<=Rows.uptoBulk x.1/\∀y∈r.nd,y.size<=Rows.uptoBulk x.1:=by
 have hu:=underlying43;obtain⟨xs,n,_,hx,hl,hlen,hfs⟩:=DataW.trod_struct hu h;obtain⟨c0,c1,c2,c3,rfl⟩:=ag9 (hl.trans YJ)
 match xs,hlen with
 | [y0,y1,y2,y3],_ =>
  have k9:prog.cellsOf 9=1:=by kernel_rfl
  have k8:prog.cellsOf 41=1:=by kernel_rfl
  have g0:=hfs 0 _ rfl;have g1:=hfs 1 _ rfl;have g2:=hfs 2 _ rfl;have g3:=hfs 3 _ rfl;simp[k8,k9]at g0 g1 g2 g3;obtain⟨a0,e0,rfl,w0⟩:=DataW.trod_string underlying9 g0;obtain⟨a1,e1,rfl,w1⟩:=DataW.trod_string underlying9 g1;obtain⟨a2,e2,rfl,w2⟩:=DataW.trod_string underlying9 g2;obtain⟨N,hN,hNl,hNy⟩:=aha g3;simp at e0 e1 e2;subst e0;subst e1;subst e2;have f0:a0.data.size=a0.size:=rfl;have f1:a1.data.size=a1.size:=rfl;have f2:a2.data.size=a2.size:=rfl;refine⟨⟨a0,a1,a2,N⟩,c3,rfl,hN,?_,?_,?_,?_,fun y hy=>?_⟩
  ·rw[hx];simp only[List.map,Rows.uptoBulk,Rows.uptoBulkAll,Array.length_toList];omega
  ·rw[hx];simp only[List.map,Rows.uptoBulk,Rows.uptoBulkAll,Array.length_toList];omega
  ·rw[hx];simp only[List.map,Rows.uptoBulk,Rows.uptoBulkAll,Array.length_toList];omega
  ·rw[hx];simp only[List.map,Rows.uptoBulk,Rows.uptoBulkAll,Array.length_toList];omega
  ·have:=hNy y hy;rw[hx];simp only[List.map,Rows.uptoBulk,Rows.uptoBulkAll,Array.length_toList];omega
theorem open_entries{H:Type}{enc:TypeId × Value->H}{w:World}{base:Nat}{spare:Nat->Bool}{held:Bool}{r:Reach}{b0:Nat}{v:Value}{d:DataW H}{p:List MemPlace}
  (hv:Value.okWide prog w r b0 22 v) (h:DataW.Trod enc prog w base spare held 22 v d p) :
  ∃L:List En,EnS w v L/\L.length<=Rows.uptoBulk d/\∀s∈L,s.nm.size<=Rows.uptoBulk d/\s.ve.size<=Rows.uptoBulk d/\s.dg.size<=Rows.uptoBulk d/\s.nd.length<=Rows.uptoBulk d/\∀y∈s.nd,y.size<=Rows.uptoBulk d:=by
 have hu:=underlying22;obtain⟨a0,l0,c0,rfl⟩:=okWide_slice hu hv;obtain⟨fuel,hf⟩:=h
 rcases Deep.open_slice hu hf with⟨hcs,hx⟩|⟨a,len,cap,m,n,D,Pl,hcs,hb,hl,hm,hmm,hx,hel⟩
 ·simp[Value.cells]at hcs;obtain⟨rfl,rfl,rfl⟩:=hcs;exact⟨[],Or.inl ⟨rfl,rfl⟩,by simp,by simp⟩
 ·simp[Value.cells]at hcs;obtain⟨rfl,rfl,rfl⟩:=hcs;have hle:l0<=m:=by rw[hmm];split<;>omega
  have hS:∀i,i<l0->∃s:En,EnAt w (a.add (i*4)) s/\s.nm.size<=Rows.uptoBulk (D i)/\s.ve.size<=Rows.uptoBulk (D i)/\s.dg.size<=Rows.uptoBulk (D i)/\s.nd.length<=Rows.uptoBulk (D i)/\∀y∈s.nd,y.size<=Rows.uptoBulk (D i):=by
   intro i hi;obtain⟨cs',h1,h2⟩:=hel i (by omega);obtain⟨s,v,hc,hn,hv1,hv2,hv3,hv4,hv5⟩:=ahb h2;rw[YJ]at h1;obtain⟨-,h4,h3⟩:=World.cells?_some h1;subst hc;have q0:=h3 0 (by omega);have q1:=h3 1 (by omega);have q2:=h3 2 (by omega);have q3:=h3 3 (by omega);rw[Deep.add_add]at q0 q1 q2 q3;rw[Hz _ _ _ (by omega)]at q1 q2 q3;exact⟨s,⟨by simpa using q0,by simpa using q1,by simpa using q2,v,by simpa using q3,hn⟩,hv1,hv2,hv3,hv4,hv5⟩
  obtain⟨S,hS⟩:=Deep.choose_lt hS;have hlen:((List.range l0).map S).length=l0:=by simp
  have hd:d=.slice ((List.range l0).map D) ((List.range (m-l0)).map fun j=>D (l0+j)):=congrArg Prod.fst hx;have hbl:=YK ((List.range l0).map D);simp only[List.length_map,List.length_range]at hbl;refine⟨(List.range l0).map S,Or.inr ⟨a,c0,by rw[hlen],by rw[hlen];exact hl,fun i hi=>?_⟩,?_,fun s hs=>?_⟩
  ·have hi':i<l0:=by rw[hlen]at hi;exact hi
   rw[List.getElem_map,List.getElem_range];exact(hS i hi').1
  ·rw[hd,hlen];simp only[Rows.uptoBulk];omega
  ·obtain⟨i,hi,rfl⟩:=List.mem_map.1 hs;have hm:=YL ((List.range l0).map D) (D i) (List.mem_map.2 ⟨i,hi,rfl⟩);obtain⟨-,b1,b2,b3,b4,b5⟩:=hS i (List.mem_range.1 hi);rw[hd];simp only[Rows.uptoBulk];exact⟨by omega,by omega,by omega,by omega,fun y hy=>by have:=b5 y hy;omega⟩
end Go.Proofs.YtmkjelchiacogaaGreatDoor
