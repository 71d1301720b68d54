import Derived.Test.YtnnbgjaphfhibaaGreatDoorN46
import Derived.Test.YtnnbgjaphfhibaaGreatDoorN40
import Derived.Test.YtnnbgjaphfhibaaGreatDoorN47
set_option linter.unusedVariables false
set_option linter.unusedSimpArgs false
set_option maxRecDepth 100000
set_option maxHeartbeats 6400000
open Go.Proofs.Tryz
namespace Go.Proofs.YtnnbgjaphfhibaaGreatDoor
open Go.RowKit Go.Maps Go.WideMaps Go.Joins
theorem afd{A:List Nat}{f:Nat->List Nat}{P:Nat->Bool}{i:Nat}(hi:i<A.length){k:Nat}(hk:k<(f A[i]).length)(h1:∀y∈(A.take i).flatMap f,P y=false)(h2:∀j (hj:j<(f A[i]).length),j<k->P (f A[i])[j]=false)(h3:P (f A[i])[k]=true):(A.flatMap f).find? P=some (f A[i])[k]:=by
 have hA:A.flatMap f=(A.take i).flatMap f++(f A[i]++(A.drop (i+1)).flatMap f):=by
  conv=>lhs;rw[<-List.take_append_drop i A,List.drop_eq_getElem_cons hi,List.flatMap_append,List.flatMap_cons]
 have e1:((A.take i).flatMap f).find? P=none:=by rw[List.find?_eq_none];intro y hy;rw[h1 y hy];simp
 rw[hA,List.find?_append,e1,Option.none_or,List.find?_append,Gh P _ k hk h2 h3];rfl
theorem afe{A:List Nat}{f:Nat->List Nat}{P:Nat->Bool}{i:Nat}(hi:i<A.length)(h1:∀y∈(A.take i).flatMap f,P y=false)(h2:∀j (hj:j<(f A[i]).length),P (f A[i])[j]=false):∀y∈(A.take (i+1)).flatMap f,P y=false:=fun y hy=>by
 rw[List.take_succ_eq_append_getElem hi,List.flatMap_append,List.mem_append,List.flatMap_singleton]at hy
 rcases hy with hy|hy
 ·exact h1 y hy
 ·obtain⟨j,hj,rfl⟩:=List.getElem_of_mem hy;exact h2 j hj
theorem aff(w:World)(N c:Nat)(ns:List Tn)(h:Dc w N c ns)(p:Nat)(hp:p<ns.length)(vo:Value)(es:List En)(hE:EnS w vo es)(hes:es=(ae ns p).map (iO ns))(hF:∀t∈ae ns p,(ah ns t dV).isSome=true)(F:Option Nat)(hFF:((ae ns p).flatMap (kl ns)).find? (fun y=>!aW es (aQ ns y))=F) :
  Calls prog 15 #[.slice (some ⟨N,0,none⟩) ns.length c,.int .i64 (p:Nat),vo] w fun e w'=>(∀y,F=some y->e=.returned (.tuple #[.slice none 0 0,.int .i64 6,.int .i64 (iD ns y:Nat)]))/\(F=none->e=.returned (.tuple #[vo,.int .i64 0,.int .i64 0]))/\w.grownBy w' none:=by
 obtain⟨S,T⟩:=h.tv;have nT:ae ns p=(ns[p]'hp).ks:=by unfold ae;rw[List.getElem?_eq_getElem hp]
 have hel:es.length=(ae ns p).length:=by rw[hes,List.length_map]
 have hAl:(ae ns p).length<=1000000:=by rw[nT];exact h.kid p hp
 obtain⟨A,hA⟩:=zN (ae ns p);have cZ:Hd (∀k (hk:k<A.length),A[k]<ns.length):=fun k hk=>T.lt p _ (by rw[hA];exact List.getElem_mem hk)
 have kP:Hd (∀w',w.grownBy w' none->∃oA mA,w'.cell? ⟨N,p*6+4,none⟩=some (.slice oA A.length mA)/\∀k (hk:k<A.length),∃g,oA=some ⟨g,0,none⟩/\w'.cell? ⟨g,k,none⟩=some (.int .i64 (A[k]:Nat))):=fun w' hg=>by
  obtain⟨o,m,-,-,-,-,h4,-,o',m',e,hn⟩:=(h.grow hg).node hp;rw[<-nT,hA]at h4 e hn;refine⟨o,m,h4,fun k hk=>?_⟩;injection e with e _ _
  rw[e];exact hn k hk
 have Dw:Hd (∀k (hk:k<A.length),∃y,ah ns A[k] dV=some y/\y<ns.length/\kl ns A[k]=ae ns y):=fun k hk=>by
  have:=hF A[k] (by rw[hA];exact List.getElem_mem hk);obtain⟨y,hy⟩:=Option.isSome_iff_exists.1 this;exact⟨y,hy,T.lt _ _ (iK hy).1,by unfold kl;rw[hy]⟩
 have D7:Hd (∀y (hy:y<ns.length),∀w',w.grownBy w' none->∃oA mA,w'.cell? ⟨N,y*6+4,none⟩=some (.slice oA (ae ns y).length mA)/\∀k (hk:k<(ae ns y).length),∃g,oA=some ⟨g,0,none⟩/\w'.cell? ⟨g,k,none⟩=some (.int .i64 ((ae ns y)[k]:Nat))/\(ae ns y)[k]<ns.length/\w'.cell? ⟨N,(ae ns y)[k]*6+5,none⟩=some (.int .i64 (iD ns (ae ns y)[k]:Nat))):=fun y hy w' hg=>by
  have hky:ae ns y=(ns[y]'hy).ks:=by unfold ae;rw[List.getElem?_eq_getElem hy]
  obtain⟨o,m,-,-,-,-,h4,-,o',m',e,hn⟩:=(h.grow hg).node hy;rw[<-hky]at h4 e hn;refine⟨o,m,h4,fun k hk=>?_⟩;injection e with e _ _
  rw[e];obtain⟨g,g1,g2⟩:=hn k hk;have hl:=T.lt y _ (List.getElem_mem hk);obtain⟨-,-,-,-,-,-,-,h5,-⟩:=(h.grow hg).node hl;refine⟨g,g1,g2,hl,?_⟩;unfold iD;rw[List.getElem?_eq_getElem hl];exact h5
 have qG:Hd (∀y (hy:y<ns.length),(ae ns y).length<=1000000):=fun y hy=>by
  have:ae ns y=(ns[y]'hy).ks:=by unfold ae;rw[List.getElem?_eq_getElem hy]
  rw[this];exact h.kid y hy
 have CK:Hd (∀q,q<ns.length->∀w',w.grownBy w' none->Calls prog 14 #[.slice (some ⟨N,0,none⟩) ns.length c,.int .i64 (q:Nat),.string ⟨#[110,101,101,100,115]⟩] w' fun e w''=>e=.returned (.int .i64 (fB ns q dV))/\w'=w''):=fun q hq w' hg=>((h.grow hg).cKid q hq dV).mono fun e w'' hh=>⟨hh.1,hh.2.symm⟩
 have qo:Hd (∀w',w.grownBy w' none->EnS w' vo es):=fun w' hg=>hE.grow hg
 obtain⟨o,co,rfl⟩:=xH hE;have CE:Hd (∀n w',w.grownBy w' none->Calls prog 35 #[.slice o es.length co,.string n] w' fun e w''=>∃z:Int,e=.returned (.int .i64 z)/\Hd (EntI es n z/\w'.grownBy w'' none)):=fun n w' hg=>(ace _ es n w' (hE.grow hg) (by omega)).mono fun e w'' ⟨z,a1,a2,a3⟩=>⟨z,a1,a2,a3⟩
 have vW:Hd (∀i (hi:i<es.length) (hi':i<A.length),es[i].nd=(kl ns A[i]).map (aQ ns)):=fun i hi hi'=>by
  subst hA;simp only[hes,List.getElem_map];rfl
 have jY:Hd ((A.flatMap (kl ns)).find? (fun y=>!aW es (aQ ns y))=F):=by rw[<-hA];exact hFF
 have hc:=h.cap;have hl:=h.len;obtain⟨n,hn⟩:=zN (es.length);have HN:Hd (es.length=n/\A.length=n):=⟨hn,by rw[<-hA,<-hel,hn]⟩;obtain⟨L,hL⟩:=zN (ns.length);have HL:Hd (ns.length=L):=hL;have hnl:n<=1000000:=by omega
 rw[hL]at hp hc hl CK ⊢;rw[hn]at CE ⊢;clear h T nT hel hAl hA hn hL hE hes hF hFF;go_enter func15,ntmps15;go_wp2;go_loopw [9] (fun v9 wr=>∃i:Nat,v9=.int .i64 (i:Nat)/\i<=n/\(∀y∈(A.take i).flatMap (kl ns),(fun y=>!aW es (aQ ns y)) y=false)/\w.grownBy wr none) (fun v9 _=>n-(intOf v9).toNat)
 case atStart=>exact⟨0,rfl,Nat.zero_le _,fun y hy=>(by cases hy),ak _ _⟩
 case round =>
  obtain⟨i,rfl,hi,hpre,hg⟩:=hrel;have HP:Hd (∀y∈(A.take i).flatMap (kl ns),(fun y=>!aW es (aQ ns y)) y=false):=hpre;have HG:Hd (w.grownBy wr none):=hg;clear hpre
  by_cases hlt:i<n
  ·have hiA:i<A.length:=by rw[HN.o.2];exact hlt
   have Iy:i<es.length:=by rw[HN.o.1];exact hlt
   obtain⟨oA,mA,cA,hcA⟩:=kP.o wr hg;obtain⟨g,rfl,cg⟩:=hcA i hiA;obtain⟨y,hy,hyl,hkl⟩:=Dw.o i hiA;have uO:=CK.o A[i] (by rw[<-HL.o];exact cZ.o i hiA) wr hg;have dL:=cZ.o i hiA;obtain⟨q,hq⟩:=zN (A[i]);have HQ:Hd (A[i]=q/\kl ns q=ae ns y):=⟨hq,by rw[<-hq];exact hkl⟩;rw[hq]at cg uO hy dL;rw[HL.o]at dL;rw[HN.o.2]at cA;have yA:Hd (Calls prog 14 #[.slice (some ⟨N,0,none⟩) L c,.int .i64 (q:Nat),.string ⟨#[110,101,101,100,115]⟩] wr fun e w''=>e=.returned (.int .i64 (y:Nat))/\wr=w''):=uO.mono fun e w'' hh=>by
    refine⟨?_,hh.2⟩;rw[hh.1];unfold fB;rw[hy]
   have WA:Hd (y<ns.length):=hyl;rw[HL.o]at hyl;clear hcA hq hkl uO hy hg;go_wp2_with (go_at_call 14;refine yA.o.mono ?_;rintro e w'' ⟨rfl,rfl⟩);clear cA cg yA;obtain⟨wo,hwo⟩:∃wo,wo=wr:=⟨_,rfl⟩;subst hwo;obtain⟨M,hM⟩:=zN ((ae ns y).length);have HM:Hd ((ae ns y).length=M):=hM;have Hq:M<=1000000:=by rw[<-hM];exact qG.o y WA.o
   clear hM;go_loopw [11] (fun v11 wr=>∃k:Nat,v11=.int .i64 (k:Nat)/\k<=M/\(∀j (hj:j<(ae ns y).length),j<k->(fun y=>!aW es (aQ ns y)) (ae ns y)[j]=false)/\w.grownBy wr none) (fun v11 _=>M-(intOf v11).toNat)
   case atStart=>exact⟨0,rfl,Nat.zero_le _,fun j hj h=>absurd h (by omega),HG.o⟩
   case round =>
    obtain⟨k,rfl,hk,hpre,hg⟩:=hrel;have Ov:Hd (∀j (hj:j<(ae ns y).length),j<k->(fun y=>!aW es (aQ ns y)) (ae ns y)[j]=false):=hpre;have Iz:Hd (w.grownBy wr none):=hg;have hEr:=qo.o wr hg;obtain⟨a,ho,hca,hat⟩:=ML hEr Iy;have hEi:=hat i Iy;obtain⟨-,-,-,sv,e3,htx⟩:=hEi;have IA:es[i].nd.length=M:=by
     rw[vW.o i Iy hiA,List.length_map];simp only[HQ.o.1];rw[HQ.o.2,HM.o]
    have afg:Hd (es[i].nd=(ae ns y).map (aQ ns)):=by
     show _=_;rw[vW.o i Iy hiA];simp only[HQ.o.1];rw[HQ.o.2]
    obtain⟨so,sc,rfl⟩:=A8 htx;rw[IA]at e3;rw[HN.o.1]at hca;subst ho;clear hpre hat hEr
    by_cases rq:k<M
    ·have D8:(k:Int)<(M:Int):=by omega
     have WB:k<(ae ns y).length:=by rw[HM.o];exact rq
     obtain⟨oY,mY,cY,WC⟩:=D7.o y WA.o wr hg;obtain⟨gy,rfl,cgy,hzl,cz⟩:=WC k WB;have hkd:k<es[i].nd.length:=by rw[IA];exact rq
     have ctx:∃a2,so=some a2/\M<=sc/\wr.cell? (a2.add k)=some (.string (aQ ns (ae ns y)[k])):=by
      rcases htx with⟨e1,e2⟩|⟨a2,cap2,e1,e2,e3'⟩
      ·rw[e2]at hkd;exact absurd hkd (by simp)
      ·injection e1 with e4 e5 e6
       refine⟨a2,e4,by omega,?_⟩;have:=e3' k hkd;rw[this];simp only[afg.o,List.getElem_map]
     obtain⟨a2,rfl,hsc,ct⟩:=ctx;have IB:=CE.o (aQ ns (ae ns y)[k]) wr hg;obtain⟨z,hz⟩:=zN ((ae ns y)[k]);have HZ:Hd ((ae ns y)[k]=z):=hz;rw[hz]at cgy cz hzl ct IB;rw[HL.o]at hzl;rw[HM.o]at cY;obtain⟨TX,dW⟩:∃t,aQ ns z=t:=⟨_,rfl⟩;have ng:Hd (aQ ns z=TX):=dW;rw[dW]at ct IB;have CEh:Hd (Calls prog 35 #[.slice (some a) n co,.string TX] wr fun e w''=>∃z:Int,e=.returned (.int .i64 z)/\Hd (EntI es TX z/\wr.grownBy w'' none)):=IB;have IC:Hd (wr.cell? ⟨N,y*6+4,none⟩=some (.slice (some ⟨gy,0,none⟩) M mY)/\wr.cell? ⟨gy,k,none⟩=some (.int .i64 (z:Nat))/\wr.cell? ⟨N,z*6+5,none⟩=some (.int .i64 (iD ns z:Nat))):=⟨cY,cgy,cz⟩;clear hg WC hz dW htx IB IA cY cgy cz hkd;go_wp2_with (go_at_call 35;refine CEh.o.mono ?_);rintro e w5 x5 rfl h5;have gQ:Hd (w.grownBy w5 none):=ai Iz.o h5.o.2;have f1:=h5.o.2.cell IC.o.1 (by simp)
     have f2:=h5.o.2.cell IC.o.2.1 (by simp);have f3:=h5.o.2.cell IC.o.2.2 (by simp);have Oy:Hd ((fun y=>!aW es (aQ ns y)) (ae ns y)[k]=!aW es TX):=by
      show(!aW es (aQ ns (ae ns y)[k]))=_;rw[HZ.o,ng.o]
     clear e3 ct IC
     by_cases hx5:x5<0
     ·have hb:decide (x5<0)=true:=decide_eq_true hx5;have hno:=(h5.o.1.neg).1 hx5;obtain⟨Z,hZ⟩:∃Z:Nat,iD ns z=Z:=⟨_,rfl⟩;have D9:Hd (F=some z/\iD ns z=Z):=by
       refine⟨?_,hZ⟩;have h1:=afd (A:=A) (f:=kl ns) (P:=fun y=>!aW es (aQ ns y)) hiA (k:=k) (by simp only[HQ.o.1];rw[HQ.o.2];exact WB) HP.o (fun j hj hjk=>by
        simp only[HQ.o.1,HQ.o.2];exact Ov.o j (by simp only[HQ.o.1,HQ.o.2]at hj;exact hj) hjk) (by simp only[HQ.o.1,HQ.o.2];rw[HZ.o,ng.o,hno];rfl)
       rw[jY.o]at h1;rw[h1];simp only[HQ.o.1,HQ.o.2,HZ.o]
      rw[hZ]at f3;clear hno hZ h5 Oy;go_wp2;go_quiet (fail);go_wp2;refine bodyPost_ret (results_tmp3 (t:=6) (u:=7) (v:=8) rfl _ _ _) rfl ?_;refine⟨fun y hy=>?_,fun hn=>?_,au gQ.o nq⟩
      ·rw[D9.o.1]at hy
       cases hy
       rw[D9.o.2];rfl
      ·rw[D9.o.1]at hn
       cases hn
     ·have hb:decide (x5<0)=false:=decide_eq_false hx5;have hyes:aW es TX=true:=by
       cases hh:aW es TX with
       | true=>rfl
       | false=>exact absurd ((h5.o.1.neg).2 hh) hx5
      have HP2:Hd (∀j (hj:j<(ae ns y).length),j<k+1->(fun y=>!aW es (aQ ns y)) (ae ns y)[j]=false):=fun j hj hjk=>by
       by_cases hj':j<k
       ·exact Ov.o j hj hj'
       ·have e':j=k:=by omega
        subst e';rw[Oy.o,hyes];rfl
      clear hyes h5 Oy f1 f2 f3;go_wp2;refine⟨⟨k+1,by go_num,by omega,HP2.o,gQ.o⟩,?_⟩;simp[intOf];omega
    ·have D8:¬(k:Int)<(M:Int):=by omega
     have gX:Hd (∀y∈(A.take (i+1)).flatMap (kl ns),(fun y=>!aW es (aQ ns y)) y=false):=afe hiA HP.o (fun j hj=>by
      simp only[HQ.o.1,HQ.o.2]at hj ⊢;exact Ov.o j hj (by rw[HM.o]at hj;omega))
     clear hg htx IA;go_wp2;refine⟨⟨i+1,by go_num,by omega,gX.o,Iz.o⟩,?_⟩;simp[intOf];omega
  ·have hin:i=n:=by omega
   have D9:Hd (F=none):=by
    show _=_;rw[<-jY.o,List.find?_eq_none];intro y hy;have:=HP.o y (by rw[hin,<-HN.o.2,List.take_length];exact hy);simpa using this
   clear hg hin;go_wp2;refine bodyPost_ret (results_tmp3 (t:=6) (u:=7) (v:=8) rfl _ _ _) rfl ?_;exact⟨fun y hy=>(by rw[D9.o]at hy;cases hy),fun _=>rfl,HG.o⟩
open Go.RowKit Go.Maps Go.WideMaps Go.Joins
structure RnB(B:Nat)(w:World)(es:List En)(ve:Value)(vs:List Value):Prop where
 len:vs.length=es.length
 row:w.ownsRow B 47 4 ve es.length (ug es vs)
 nee:∀j (hj:j<es.length),w.ownsRow B 9 1 (vs[j]'(by rw[len];exact hj)) es[j].nd.length (es[j].nd.map Value.string)
section
variable {B:Nat} {w w':World} {es:List En} {ve:Value} {vs:List Value}
theorem RnB.ens(h:RnB B w es ve vs):EnS w ve es:=by
 rcases h.row.2 with⟨e1,e2⟩|⟨g,cap,cu,e1,hb,hgg,hn,hm,hs,ht⟩
 ·exact Or.inl ⟨e1,List.eq_nil_of_length_eq_zero (by omega)⟩
 ·refine Or.inr ⟨⟨g,0,none⟩,cap,e1,hn,fun i hi=>?_⟩;have hr:=h.row;rw[e1]at hr;have key:∀k u,(pG es[i] (vs[i]'(by rw[h.len];exact hi)))[k]?=some u->w.cell? ⟨g,i*4+k,none⟩=some u:=fun k u hu=>by
   have:=hr.cells (g:=g) rfl (i*4+k) u (QX es vs h.len.symm i hi k u hu);rw[mr]at this;exact this
  unfold EnAt;rw[mr];exact⟨key 0 _ rfl,key 1 _ rfl,key 2 _ rfl,_,key 3 _ rfl,JJ (base:=B) rfl (h.nee i hi)⟩
theorem RnB.grow(h:RnB B w es ve vs)(hg:w.grownBy w' none):RnB B w' es ve vs:=⟨h.len,(aX hg).row h.row,fun j hj=>(aX hg).row (h.nee j hj)⟩
theorem RnB.spf{b0 b1:Nat}(h:RnB B w es ve vs)(hf:SpF b0 b1 w w')(hB:b1<=B):RnB B w' es ve vs :=
 ⟨h.len,bK h.row fun g cur hh _=>hf.block g (Or.inr (by have:=(bn h.row hh).1;omega)),fun j hj=>bK (h.nee j hj) fun g cur hh _=>hf.block g (Or.inr (by have:=(bn (h.nee j hj) hh).1;omega))⟩
theorem WE(B:Nat)(w:World):RnB B w [] (.slice none 0 0) []:=⟨rfl,World.ownsRow_nil _ _ _ _,fun j hj=>absurd hj (by simp)⟩
theorem RnB.push(h:RnB B w es ve vs){v' nv:Value}{x:En}(ho:w'.ownsRow B 47 4 v' (es.length+1) (ug es vs++pG x nv))(hg:w.grownBy w' ve.ownBlock)(hn:w.ownsRow B 9 1 nv x.nd.length (x.nd.map Value.string)):RnB B w' (es++[x]) v' (vs++[nv]):=by
 have kt:Kt 9 w w':=yh h.row hg (by decide);refine⟨by simp[h.len],?_,fun j hj=>?_⟩
 ·rw[Zf es vs x nv h.len.symm,List.length_append];exact ho
 ·by_cases e:j<es.length
  ·have e1:(es++[x])[j]=es[j]:=List.getElem_append_left e;have e2:(vs++[nv])[j]'(by simp[h.len];omega)=vs[j]'(by rw[h.len];exact e):=List.getElem_append_left (by rw[h.len];exact e);rw[e1,e2];exact kt.row (h.nee j e)
  ·have hl:j=es.length:=by simp at hj;omega
   have e1:(es++[x])[j]=x:=by subst hl;simp
   have e2:(vs++[nv])[j]'(by simp[h.len];omega)=nv:=by subst hl;simp[<-h.len]
   rw[e1,e2];exact kt.row hn
theorem RnB.up{B':Nat}(h:RnB B w es ve vs)(hB:B'<=B):RnB B' w es ve vs:=by
 have up:∀{X:TypeId} {k n:Nat} {v:Value} {xs:List Value},w.ownsRow B X k v n xs->w.ownsRow B' X k v n xs:=fun h=>⟨h.1,h.2.imp id fun⟨g,cap,cu,e1,hb,r⟩=>⟨g,cap,cu,e1,by omega,r⟩⟩
 exact⟨h.len,up h.row,fun j hj=>up (h.nee j hj)⟩
end
def yB(w:World)(r:Rs (List En))(e:Ending)(w':World):Prop :=
 (∀es,r=.ok es->∃ve vs,e=.returned (.tuple #[ve,.int .i64 0,.int .i64 0])/\RnB w.heap.size w' es ve vs)/\(∀c,r=.error c->e=.returned (.tuple #[.slice none 0 0,.int .i64 c.1,.int .i64 (c.2:Nat)]))/\w.grownBy w' none
theorem WG{w w':World}{es:List En}{ve:Value}{vs:List Value}(h:RnB w.heap.size w' es ve vs)(hg:w.grownBy w' none):yB w (.ok es) (.returned (.tuple #[ve,.int .i64 0,.int .i64 0])) w' :=
 ⟨fun es' e=>(by cases e;exact⟨ve,vs,rfl,h⟩),fun c e=>(by cases e),hg⟩
theorem Ea{w w':World}{z:Int}{p:Nat}(hg:w.grownBy w' none):yB w (.error (z,p)) (.returned (.tuple #[.slice none 0 0,.int .i64 z,.int .i64 (p:Nat)])) w' :=
 ⟨fun es' e=>(by cases e),fun c e=>(by cases e;rfl),hg⟩
theorem afh{w':World}{B N c m:Nat}{ns:List Tn}{own:List Nat}{OV:Value}{xs:List Value}{ks:Nat->Value}(h:DtD w' B 0 ns m own (.slice (some ⟨N,0,none⟩) ns.length c) OV xs ks)(l:List UInt8)(hl:jy l=.ok ns):Dc w' N c ns:=by
 obtain⟨T,own',W,hn⟩:=Hz l ns hl;refine⟨⟨B,0,[],.slice none 0 0,xs,ks,⟨h.row,h.cel,h.kid,h.apart,World.ownsRow_nil _ _ _ _,h.far,h.hP⟩,⟨W.par,W.lt,fun q hq=>(by cases hq),W.len⟩⟩,⟨_,T⟩,by omega,?_,fun i hi=>U5 hl i hi⟩
 rcases h.row.2 with⟨e1,_⟩|⟨g,cap,cu,e1,hb,hgg,hn',_⟩
 ·cases e1
 ·cases e1;exact hn'
theorem afi:(prog.info? 47).map (fun i=>(i.zero,i.size,i.bytes))=some (some (.agg #[.string ⟨#[]⟩,.string ⟨#[]⟩,.string ⟨#[]⟩,.slice none 0 0]),4,72):=by kernel_rfl
open Go.RowKit Go.Maps Go.WideMaps Go.Joins
noncomputable def Eb(l:List UInt8):Rs (List En):=match jy l with | .error e=>.error e | .ok ns=>zD ns
def WH(ns:List Tn):Option Nat->Rs (List En)
 | none=>.ok []
 | some p=>wP ns (ae ns p)
def Ec(ns:List Tn):Option Nat->Rs (List En)
 | none=>.error (6,0)
 | some _=>WH ns (ah ns 0 iY)
def Oz(ns:List Tn):Rs Unit->Rs (List En)
 | .error e=>.error e
 | .ok _=>Ec ns (ah ns 0 jO)
def OA(ns:List Tn)(A:List Nat):Option Nat->Rs (List En)
 | some y=>.error (6,iD ns y)
 | none=>.ok (A.map (iO ns))
theorem afj(ns:List Tn):zD ns=Oz ns (lC ns (ns.length-1)):=by
 unfold zD Oz Ec WH;rfl
theorem afk{ns:List Tn}{i:Nat}(hi:i<ns.length):lC ns (ns.length-i)=if iM ns i ns[i]=0 then lC ns (ns.length-(i+1)) else .error (iM ns i ns[i],ns[i].pl):=by
 obtain⟨m,hm⟩:∃m,ns.length-i=m+1:=⟨ns.length-i-1,by omega⟩;rw[hm,show ns.length-(i+1)=m by omega];show(match ns[ns.length-(m+1)]? with|none=>_|some x=>_)=_;rw[show ns.length-(m+1)=i by omega,List.getElem?_eq_getElem hi]
theorem afl{ns:List Tn}{A:List Nat}{i:Nat}(hi:i<A.length)(h1:∀t∈A.take i,jv ns t=true)(h2:jv ns A[i]=false):wP ns A=.error (6,iD ns A[i]):=by
 unfold wP;rw[Gh (fun t=>!jv ns t) A i hi (fun j hj hji=>by
  rw[h1 A[j] (List.mem_take_iff_getElem.2 ⟨j,by omega,rfl⟩)];rfl) (by rw[h2];rfl)]
theorem afm{ns:List Tn}{A:List Nat}(h1:∀t∈A,jv ns t=true):wP ns A=OA ns A ((A.flatMap (kl ns)).find? (fun y=>!aW (A.map (iO ns)) (aQ ns y))):=by
 unfold wP;have:A.find? (fun t=>!jv ns t)=none:=by
  rw[List.find?_eq_none];intro t ht;rw[h1 t ht];decide
 rw[this];unfold OA;rfl
theorem afn{ns:List Tn}{t:Nat}:(∃a b c d,ah ns t fA=some a/\ah ns t iC=some b/\ah ns t iy=some c/\ah ns t dV=some d/\jv ns t=true)\/(jv ns t=false/\(ah ns t fA=none\/(∃a,ah ns t fA=some a)/\(ah ns t iC=none\/(∃b,ah ns t iC=some b)/\(ah ns t iy=none\/(∃c,ah ns t iy=some c)/\ah ns t dV=none)))):=by
 unfold jv
 cases h1:ah ns t fA with
 | none=>exact Or.inr ⟨rfl,Or.inl rfl⟩
 | some a=>cases h2:ah ns t iC with
  | none=>exact Or.inr ⟨rfl,Or.inr ⟨⟨_,rfl⟩,Or.inl rfl⟩⟩
  | some b=>cases h3:ah ns t iy with
   | none=>exact Or.inr ⟨rfl,Or.inr ⟨⟨_,rfl⟩,Or.inr ⟨⟨_,rfl⟩,Or.inl rfl⟩⟩⟩
   | some c=>cases h4:ah ns t dV with
    | none=>exact Or.inr ⟨rfl,Or.inr ⟨⟨_,rfl⟩,Or.inr ⟨⟨_,rfl⟩,Or.inr ⟨⟨_,rfl⟩,rfl⟩⟩⟩⟩
    | some d=>exact Or.inl ⟨a,b,c,d,rfl,rfl,rfl,rfl,rfl⟩
theorem zS{ns:List Tn}{t:Nat}{k:List UInt8}(h:ah ns t k=none):fB ns t k=-1:=by unfold fB;rw[h]
theorem qg{ns:List Tn}{t y:Nat}{k:List UInt8}(h:ah ns t k=some y):fB ns t k=(y:Int):=by unfold fB;rw[h]
theorem afo{wS wr w3:World}{Y k g cap c4:Nat}{o4:Option Addr}{An Bn Cn TX:ByteArray}{ys:List Value}(hSY:wS.heap.size<=Y)(hg:wS.grownBy wr none)(hy:wr.heap[Y]?=some (.cells #[.string An,.string Bn,.string Cn,.slice o4 k c4] 47 (0,0)))(hrow:wr.ownsRow Y 9 1 (.slice o4 k c4) k ys)(hown:w3.ownsRow Y 9 1 (.slice (some ⟨g,0,none⟩) (k+1) cap) (k+1) (ys++[.string TX]))(hgrow:(wr.drew.alloc (.cells #[.string TX] 9)).grownBy w3 (Value.slice o4 k c4).ownBlock) :
  wS.grownBy (w3.setCell ⟨Y,3,none⟩ (.slice (some ⟨g,0,none⟩) (k+1) cap)) none/\(w3.setCell ⟨Y,3,none⟩ (.slice (some ⟨g,0,none⟩) (k+1) cap)).heap[Y]?=some (.cells #[.string An,.string Bn,.string Cn,.slice (some ⟨g,0,none⟩) (k+1) cap] 47 (0,0))/\(w3.setCell ⟨Y,3,none⟩ (.slice (some ⟨g,0,none⟩) (k+1) cap)).ownsRow Y 9 1 (.slice (some ⟨g,0,none⟩) (k+1) cap) (k+1) (ys++[.string TX]):=by
 have hne:some Y≠(Value.slice o4 k c4).ownBlock:=fun e=>by
  obtain⟨cc,hcc⟩:=(bn hrow e.symm).2;exact aP hy hcc (by decide) rfl
 have h1:=(aX (yu wr (.cells #[.string TX] 9))).blk hy;have h2:=(hgrow.block Y (aA h1) hne).trans h1;have hg3:wS.grownBy w3 none:=by
  have h3:=ai hg (yu wr (.cells #[.string TX] 9))
  cases hb:(Value.slice o4 k c4).ownBlock with
  | none=>rw[hb]at hgrow;exact ai h3 hgrow
  | some b=>rw[hb]at hgrow;exact mX h3 hgrow (Nat.le_trans hSY (bn hrow hb).1)
 exact⟨mX hg3 (iq w3 Y 3 _) hSY,block_setCell (i:=3) h2 _,(iE _ h2 (by decide)).row hown⟩
theorem afp{w:World}{B B':Nat}{X:TypeId}{k n:Nat}{v:Value}{xs:List Value}(hB:B'<=B)(h:w.ownsRow B X k v n xs):w.ownsRow B' X k v n xs:=⟨h.1,h.2.imp id fun⟨g,cap,cu,e1,hb,r⟩=>⟨g,cap,cu,e1,by omega,r⟩⟩
theorem afq(s:ByteArray)(w:World)(h0:0<w.heap.size)(hmx:s.size<2 ^ 62) :
  Calls prog 6 #[.string s] w (yB w (Eb s.data.toList)):=by
 have C0:=aed aeN s w h0 hmx;obtain⟨R,hR⟩:=zN (Eb s.data.toList);rw[hR];unfold Eb at hR
 cases hns:jy s.data.toList with
 | error c0 =>
  obtain⟨z,p⟩:=c0;have hz:¬z=0:=by have:=NC _ _ _ hns;omega
  have HY:Hd (R=.error (z,p)):=by show _=_;rw[<-hR,hns]
  have hzb:(z != 0)=true:=by simpa using hz
  have CP:Hd (Calls prog 12 #[.string s] w fun e w2=>e=.returned (.tuple #[.slice none 0 0,.int .i64 z,.int .i64 (p:Nat)])/\Hd (w.grownBy w2 none)):=C0.mono fun e w2 hh=>⟨hh.2.1 z p hns,hh.2.2⟩
  clear hns C0 hR hz;go_enter func6,ntmps6;go_wp2_with (go_at_call 12;refine CP.o.mono ?_);rintro e w2 ⟨rfl,hP⟩;go_wp2;refine bodyPost_ret (results_tmp3 (t:=2) (u:=3) (v:=4) rfl _ _ _) rfl ?_;rw[HY.o];exact Ea hP.o
 | ok ns =>
  have HR:Hd (zD ns=R):=by show _=_;rw[<-hR,hns]
  have CP:Hd (Calls prog 12 #[.string s] w fun e w2=>∃N c,e=.returned (.tuple #[.slice (some ⟨N,0,none⟩) ns.length c,.int .i64 0,.int .i64 0])/\Hd (Dc w2 N c ns/\w.grownBy w2 none)):=C0.mono fun e w2 hh=>by
   obtain⟨N,c,OV,xs,ks,own,m,he,hD⟩:=hh.1 ns hns;exact⟨N,c,he,afh hD _ hns,hh.2.2⟩
  clear hns C0 hR;go_enter func6,ntmps6;go_wp2_with (first|(go_at_call 12;refine CP.o.mono ?_));rintro e w1 ⟨N,c,rfl,hP⟩;have HD:Hd (Dc w1 N c ns):=hP.o.1;have ay:Hd (w.grownBy w1 none):=hP.o.2;have hl:=HD.o.len;have hcap:=HD.o.cap;have hpos:0<ns.length:=HD.o.tv.choose_spec.root.1;obtain⟨C0,hC0⟩:=zN (lC ns (ns.length-1));have sZ:Hd (lC ns (ns.length-1)=C0):=hC0;have OB:Hd (R=Oz ns C0):=by
   show _=_;rw[<-HR.o,<-hC0,afj]
  have CN:Hd (∀i (hi:i<ns.length),0<i->∀w',w1.grownBy w' none->Calls prog 13 #[.slice (some ⟨N,0,none⟩) ns.length c,.int .i64 (i:Nat)] w' fun e w''=>e=.returned (.int .i64 (iM ns i ns[i]))/\Hd (w'.grownBy w'' none)):=fun i hi h0 w' hg=>aeZ w' N c ns (HD.o.grow hg) i h0 hi
  have CK:Hd (∀q,q<ns.length->∀k w',w1.grownBy w' none->Calls prog 14 #[.slice (some ⟨N,0,none⟩) ns.length c,.int .i64 (q:Nat),.string ⟨k.toArray⟩] w' fun e w''=>e=.returned (.int .i64 (fB ns q k))/\w'=w''):=fun q hq k w' hg=>((HD.o.grow hg).cKid q hq k).mono fun e w'' hh=>⟨hh.1,hh.2.symm⟩
  obtain⟨L,hL⟩:=zN (ns.length);have HL:Hd (ns.length=L):=hL;rw[hL]at hl hcap hpos CK ⊢;clear CP hP HR hC0 hL;go_wp2;go_loopw [8] (fun v8 wr=>∃i:Nat,v8=.int .i64 (i:Nat)/\1<=i/\i<=L/\lC ns (ns.length-i)=C0/\w1.grownBy wr none) (fun v8 _=>L-(intOf v8).toNat)
  case atStart=>exact⟨1,rfl,Nat.le_refl _,by omega,sZ.o,ak _ _⟩
  case round =>
   obtain⟨i,rfl,hi1,hi,hcc,hg⟩:=hrel;have OC:Hd (lC ns (ns.length-i)=C0):=hcc;have HG:Hd (w1.grownBy wr none):=hg;clear hcc
   by_cases hlt:i<L
   ·have hin:i<ns.length:=by rw[HL.o];exact hlt
    have IE:=CN.o i hin (by omega) wr hg;have hst:=afk hin;rw[OC.o]at hst;obtain⟨-,-,-,-,-,-,-,e5,-⟩:=(HD.o.grow hg).node hin;obtain⟨z,hz⟩:=zN (iM ns i ns[i]);obtain⟨pl,hpl⟩:=zN (ns[i].pl);rw[hz]at IE hst;rw[hpl]at e5 hst;rw[HL.o]at IE;have CNh:Hd (Calls prog 13 #[.slice (some ⟨N,0,none⟩) L c,.int .i64 (i:Nat)] wr fun e w''=>e=.returned (.int .i64 z)/\Hd (wr.grownBy w'' none)):=IE;have HST:Hd (C0=if z=0 then lC ns (ns.length-(i+1)) else .error (z,pl)):=hst;clear hst hz hpl IE hg;go_wp2_with (go_at_call 13;refine CNh.o.mono ?_);rintro e w2 ⟨rfl,hg2⟩;have HG2:Hd (w1.grownBy w2 none):=ai HG.o hg2.o;have e52:=hg2.o.cell e5 (by simp);clear e5 hg2
    by_cases hz:z=0
    ·have gX:Hd (lC ns (ns.length-(i+1))=C0):=by show _=_;rw[HST.o,if_pos hz]
     subst hz;clear HST e52;go_wp2;refine⟨⟨i+1,by go_num,by omega,by omega,gX.o,HG2.o⟩,?_⟩;simp[intOf];omega
    ·have HY:Hd (R=.error (z,pl)):=by
      have hh:=HST.o;rw[if_neg hz]at hh;show _=_;rw[OB.o,hh];rfl
     have hzb:(z != 0)=true:=by simpa using hz
     clear HST hz;go_wp2;go_quiet (fail);go_wp2;refine bodyPost_ret (results_tmp3 (t:=2) (u:=3) (v:=4) rfl _ _ _) rfl ?_;rw[HY.o];exact Ea (au (ai ay.o HG2.o) nq)
   ·have hiL:i=L:=by omega
    have zT:Hd (R=Ec ns (ah ns 0 jO)):=by
     have hh:=OC.o;rw[hiL,HL.o,Nat.sub_self]at hh;have h2:C0=.ok ():=hh.symm;show _=_;rw[OB.o,h2];rfl
    have CF:=CK.o 0 (by omega) jO wr hg;have CG:=CK.o 0 (by omega) iY wr hg;have gV:Hd (w.grownBy wr none):=ai ay.o hg;clear hiL OB OC CN hi1 hi
    cases hF:ah ns 0 jO with
    | none =>
     have HY:Hd (R=.error (6,0)):=by show _=_;rw[zT.o,hF];rfl
     rw[zS hF]at CF;have lD:Hd (Calls prog 14 #[.slice (some ⟨N,0,none⟩) L c,.int .i64 0,.string ⟨#[102,111,114,109,97,116]⟩] wr fun e w''=>e=.returned (.int .i64 (-1))/\wr=w''):=CF;clear CF CG hF zT hg;go_wp2_with (go_at_call 14;refine lD.o.mono ?_;rintro e w'' ⟨rfl,rfl⟩);refine bodyPost_ret (results_tmp3 (t:=2) (u:=3) (v:=4) rfl _ _ _) rfl ?_;rw[HY.o];exact Ea (p:=0) gV.o
    | some f =>
     rw[qg hF]at CF;have lD:Hd (Calls prog 14 #[.slice (some ⟨N,0,none⟩) L c,.int .i64 0,.string ⟨#[102,111,114,109,97,116]⟩] wr fun e w''=>e=.returned (.int .i64 (f:Nat))/\wr=w''):=CF
     cases hP:ah ns 0 iY with
     | none =>
      have HY:Hd (R=.ok []):=by show _=_;rw[zT.o,hF];unfold Ec;rw[hP];rfl
      rw[zS hP]at CG;have Ed:Hd (Calls prog 14 #[.slice (some ⟨N,0,none⟩) L c,.int .i64 0,.string ⟨#[112,97,99,107,97,103,101]⟩] wr fun e w''=>e=.returned (.int .i64 (-1))/\wr=w''):=CG;clear CF CG hF hP zT hg;go_wp2_with (go_at_call 14;refine lD.o.mono ?_);rintro e w'' ⟨rfl,rfl⟩;clear lD;go_wp2_with (go_at_call 14;refine Ed.o.mono ?_);rintro e w'' ⟨rfl,rfl⟩;clear Ed;go_wp2;refine bodyPost_ret (results_tmp3 (t:=2) (u:=3) (v:=4) rfl _ _ _) rfl ?_;rw[HY.o];exact WG (WE _ _) gV.o
     | some p =>
      have HY:Hd (R=wP ns (ae ns p)):=by show _=_;rw[zT.o,hF];unfold Ec;rw[hP];rfl
      rw[qg hP]at CG;have Ed:Hd (Calls prog 14 #[.slice (some ⟨N,0,none⟩) L c,.int .i64 0,.string ⟨#[112,97,99,107,97,103,101]⟩] wr fun e w''=>e=.returned (.int .i64 (p:Nat))/\wr=w''):=CG;have hpl:p<L:=by rw[<-HL.o];exact HD.o.tv.choose_spec.lt _ _ (iK hP).1
      clear CF CG hF hP zT hg;go_wp2_with (go_at_call 14;refine lD.o.mono ?_);rintro e w'' ⟨rfl,rfl⟩;clear lD;go_wp2_with (go_at_call 14;refine Ed.o.mono ?_);rintro e w'' ⟨rfl,rfl⟩;clear Ed;obtain⟨S,T⟩:=HD.o.tv;have nT:ae ns p=(ns[p]'(by rw[HL.o];exact hpl)).ks:=by unfold ae;rw[List.getElem?_eq_getElem (by rw[HL.o];exact hpl)]
      have hAl:(ae ns p).length<=1000000:=by rw[nT];exact HD.o.kid p (by rw[HL.o];exact hpl)
      obtain⟨A,hA⟩:=zN (ae ns p);have HA:Hd (ae ns p=A):=hA;have cZ:Hd (∀k (hk:k<A.length),A[k]<ns.length):=fun k hk=>T.lt p _ (by rw[hA];exact List.getElem_mem hk)
      have uj:Hd (∀t k y,ah ns t k=some y->y<ns.length):=fun t k y h=>T.lt _ _ (iK h).1
      have D7:Hd (∀y (hy:y<ns.length),∀w',w1.grownBy w' none->(ae ns y).length<=1000000/\∃oA mA,w'.cell? ⟨N,y*6+4,none⟩=some (.slice oA (ae ns y).length mA)/\∀k (hk:k<(ae ns y).length),∃g,oA=some ⟨g,0,none⟩/\w'.cell? ⟨g,k,none⟩=some (.int .i64 ((ae ns y)[k]:Nat))/\(ae ns y)[k]<ns.length):=fun y hy w' hg=>by
       have hky:ae ns y=(ns[y]'hy).ks:=by unfold ae;rw[List.getElem?_eq_getElem hy]
       obtain⟨o,m,-,-,-,-,h4,-,o',m',e,hn⟩:=(HD.o.grow hg).node hy;rw[<-hky]at h4 e hn;refine⟨by rw[hky];exact HD.o.kid y hy,o,m,h4,fun k hk=>?_⟩;injection e with e _ _
       rw[e];obtain⟨g,g1,g2⟩:=hn k hk;exact⟨g,g1,g2,T.lt y _ (List.getElem_mem hk)⟩
      have oM:Hd (∀q (hq:q<ns.length),∀w',w1.grownBy w' none->w'.cell? ⟨N,q*6+2,none⟩=some (.string (aQ ns q))/\w'.cell? ⟨N,q*6+5,none⟩=some (.int .i64 (iD ns q:Nat))):=fun q hq w' hg=>by
       obtain⟨-,-,-,-,h2,-,-,h5,-⟩:=(HD.o.grow hg).node hq;unfold aQ iD;rw[List.getElem?_eq_getElem hq];exact⟨h2,h5⟩
      obtain⟨n,hn⟩:=zN (A.length);have HN:Hd (A.length=n):=hn;have hnl:n<=1000000:=by rw[<-hn,<-hA];exact hAl
      have WI:Hd (p<ns.length):=by rw[HL.o];exact hpl
      rw[hA]at HY;obtain⟨i0,hi0,hii⟩:=Option.map_eq_some_iff.1 afi;simp only[Prod.mk.injEq]at hii;obtain⟨hz0,hz1,hzb⟩:=hii;obtain⟨j0,hj0,hjj⟩:=Option.map_eq_some_iff.1 QY;simp only[Prod.mk.injEq]at hjj;obtain⟨hy0,hy1,hyb⟩:=hjj;clear T nT hAl hA hn;go_wp2;go_loopw [11,12] (fun v11 v12 wr=>∃(i:Nat) (vs:List Value),v12=.int .i64 (i:Nat)/\i<=n/\RnB w1.heap.size wr ((A.take i).map (iO ns)) v11 vs/\(∀t∈A.take i,jv ns t=true)/\w1.grownBy wr none) (fun _ v12 _=>n-(intOf v12).toNat)
      case atStart=>exact⟨0,[],rfl,Nat.zero_le _,WE _ _,fun t ht=>(by cases ht),HG.o⟩
      case round =>
       obtain⟨i,vs,rfl,hi,hrn,hall,hg⟩:=hrel;have OD:Hd (RnB w1.heap.size wr ((A.take i).map (iO ns)) u11 vs):=hrn;have o6:Hd (∀t∈A.take i,jv ns t=true):=hall;have rC:Hd (w1.grownBy wr none):=hg;obtain⟨-,oA,mA,cA,hcA⟩:=D7.o p WI.o wr hg;rw[HA.o]at cA;rw[HN.o]at cA;clear hrn hall
       by_cases hlt:i<n
       ·have hiA:i<A.length:=by rw[HN.o];exact hlt
        obtain⟨g,rfl,cg,-⟩:=hcA i (by rw[HA.o];exact hiA);simp only[HA.o]at cg;have dL:=cZ.o i hiA;have Ee:A[i]<L:=by rw[<-HL.o];exact dL
        have C1:=CK.o _ Ee fA wr hg;have C2:=CK.o _ Ee iC wr hg;have C3:=CK.o _ Ee iy wr hg;have C4:=CK.o _ Ee dV wr hg;have cq:=(oM.o _ dL wr hg).2;obtain⟨t,ht⟩:=zN (A[i]);have HT:Hd (A[i]=t):=ht;rw[ht]at cg C1 C2 C3 C4 dL cq;rw[HL.o]at dL;have D1:Hd (Calls prog 14 #[.slice (some ⟨N,0,none⟩) L c,.int .i64 (t:Nat),.string ⟨#[110,97,109,101]⟩] wr fun e w''=>e=.returned (.int .i64 (fB ns t fA))/\wr=w''):=C1;have D2:Hd (Calls prog 14 #[.slice (some ⟨N,0,none⟩) L c,.int .i64 (t:Nat),.string ⟨#[118,101,114,115,105,111,110]⟩] wr fun e w''=>e=.returned (.int .i64 (fB ns t iC))/\wr=w''):=C2;have D3:Hd (Calls prog 14 #[.slice (some ⟨N,0,none⟩) L c,.int .i64 (t:Nat),.string ⟨#[100,105,103,101,115,116]⟩] wr fun e w''=>e=.returned (.int .i64 (fB ns t iy))/\wr=w''):=C3;have D4:Hd (Calls prog 14 #[.slice (some ⟨N,0,none⟩) L c,.int .i64 (t:Nat),.string ⟨#[110,101,101,100,115]⟩] wr fun e w''=>e=.returned (.int .i64 (fB ns t dV))/\wr=w''):=C4
        obtain⟨ka,hka⟩:∃z,fB ns t fA=z:=⟨_,rfl⟩;obtain⟨kb,hkb⟩:∃z,fB ns t iC=z:=⟨_,rfl⟩;obtain⟨kc,hkc⟩:∃z,fB ns t iy=z:=⟨_,rfl⟩;obtain⟨kd,hkd⟩:∃z,fB ns t dV=z:=⟨_,rfl⟩;rw[hka]at D1;rw[hkb]at D2;rw[hkc]at D3;rw[hkd]at D4;have jT:Hd (fB ns t fA=ka/\fB ns t iC=kb/\fB ns t iy=kc/\fB ns t dV=kd):=⟨hka,hkb,hkc,hkd⟩;have OE:Hd (wr.cell? ⟨N,t*6+5,none⟩=some (.int .i64 (iD ns t:Nat))):=cq;clear C1 C2 C3 C4 hka hkb hkc hkd ht hcA hg cq Ee;go_wp2_with (go_at_call 14;refine D1.o.mono ?_);rintro e w'' ⟨rfl,rfl⟩;clear cA cg D1;go_wp2_with (go_at_call 14;refine D2.o.mono ?_);rintro e w'' ⟨rfl,rfl⟩;clear D2;go_wp2_with (go_at_call 14;refine D3.o.mono ?_);rintro e w'' ⟨rfl,rfl⟩;clear D3;go_wp2_with (go_at_call 14;refine D4.o.mono ?_);rintro e w'' ⟨rfl,rfl⟩;clear D4
        rcases afn (ns:=ns) (t:=t) with⟨a,b,cc,d,ha,hb,hc,hd,hF⟩|⟨hF,hlk⟩
        ·obtain⟨k1,k2,k3,k4⟩:=jT.o;rw[qg ha]at k1;rw[qg hb]at k2;rw[qg hc]at k3;rw[qg hd]at k4;have hal:=uj.o t fA a ha;have hbl:=uj.o t iC b hb;have hcl:=uj.o t iy cc hc;have hdl:=uj.o t dV d hd;have WJ:Hd (d<ns.length):=hdl;have ta:=(oM.o a hal wr rC.o).1;have tb:=(oM.o b hbl wr rC.o).1;have tc:=(oM.o cc hcl wr rC.o).1;obtain⟨An,hAn⟩:∃x,aQ ns a=x:=⟨_,rfl⟩;obtain⟨Bn,hBn⟩:∃x,aQ ns b=x:=⟨_,rfl⟩;obtain⟨Cn,OG⟩:∃x,aQ ns cc=x:=⟨_,rfl⟩;have eY:Hd (iO ns t=⟨An,Bn,Cn,(ae ns d).map (aQ ns)⟩):=by
          show _=_;unfold iO kx kl;rw[ha,hb,hc,hd];simp only[hAn,hBn,OG]
         rw[hAn]at ta;rw[hBn]at tb;rw[OG]at tc;rw[HL.o]at hal hbl hcl hdl;have je:Hd (jv ns t=true):=hF;have p1:¬(a:Int)<0:=by omega
         have p2:¬(b:Int)<0:=by omega
         have p3:¬(cc:Int)<0:=by omega
         have p4:¬(d:Int)<0:=by omega
         subst k1 k2 k3 k4;clear jT OE ha hb hc hd hF hAn hBn OG;obtain⟨wS,hwS⟩:∃wS,wS=wr:=⟨_,rfl⟩;subst hwS;have ta':(wS.alloc (.cells #[.string ⟨#[]⟩,.string ⟨#[]⟩,.string ⟨#[]⟩,.slice none 0 0] 47)).cell? ⟨N,a*6+2,none⟩=some (.string An):=(World.grownBy_alloc wS _ none).cell ta (by simp);have tb':(wS.alloc (.cells #[.string ⟨#[]⟩,.string ⟨#[]⟩,.string ⟨#[]⟩,.slice none 0 0] 47)).cell? ⟨N,b*6+2,none⟩=some (.string Bn):=(World.grownBy_alloc wS _ none).cell tb (by simp);have tc':(wS.alloc (.cells #[.string ⟨#[]⟩,.string ⟨#[]⟩,.string ⟨#[]⟩,.slice none 0 0] 47)).cell? ⟨N,cc*6+2,none⟩=some (.string Cn):=(World.grownBy_alloc wS _ none).cell tc (by simp);go_upto_region 26 with fail
         go_region
         obtain⟨Y,hY⟩:=zN (wS.heap.size);obtain⟨W,hW⟩:=zN ((wS.alloc (.cells #[.string An,.string Bn,.string Cn,.slice none 0 0] 47)).drew);have afr:Hd (wS.grownBy W none):=hW ▸ au (dn (ak wS none) _) 1;have HYW:Hd (W.heap[Y]?=some (.cells #[.string An,.string Bn,.string Cn,.slice none 0 0] 47 (0,0))):=by
          rw[<-hW,<-hY];exact heap_alloc_new _ _
         have oz:Hd (wS.heap.size=Y):=hY;rw[hY,hW];clear hY hW ta tb tc ta' tb' tc';obtain⟨K,hK⟩:=zN (ae ns d);have HK:Hd (ae ns d=K):=hK;obtain⟨M,hM⟩:=zN (K.length);have HM:Hd (K.length=M):=hM;have Hq:M<=1000000:=by rw[<-hM,<-hK];exact(D7.o d WJ.o wS rC.o).1
         clear hK hM;go_wp2;go_loopw [19] (fun v19 wr=>∃(k:Nat) (nv:Value),v19=.int .i64 (k:Nat)/\k<=M/\wS.grownBy wr none/\wr.heap[Y]?=some (.cells #[.string An,.string Bn,.string Cn,nv] 47 (0,0))/\wr.ownsRow Y 9 1 nv k ((K.take k).map fun q=>.string (aQ ns q))) (fun v19 _=>M-(intOf v19).toNat)
         case atStart=>exact⟨0,.slice none 0 0,rfl,Nat.zero_le _,afr.o,HYW.o,World.ownsRow_nil _ _ _ _⟩
         case round =>
          obtain⟨k,nv,rfl,hk,hg,uP,hrow⟩:=hrel;have Iz:Hd (wS.grownBy wr none):=hg;have OH:Hd (wr.heap[Y]?=some (.cells #[.string An,.string Bn,.string Cn,nv] 47 (0,0))):=uP;obtain⟨o4,c4,hnv⟩:=kV hrow;subst hnv;obtain⟨-,oK,mK,cK,hcK⟩:=D7.o d WJ.o wr (ai rC.o hg);simp only[HK.o]at hcK;rw[HK.o,HM.o]at cK;have y0:wr.cell? ⟨Y,0,none⟩=some (.string An):=by rw[af uP];rfl
          have y1:wr.cell? ⟨Y,1,none⟩=some (.string Bn):=by rw[af uP];rfl
          have y2:wr.cell? ⟨Y,2,none⟩=some (.string Cn):=by rw[af uP];rfl
          have y3:wr.cell? ⟨Y,3,none⟩=some (.slice o4 k c4):=by rw[af uP];rfl
          have hfz:wr.frozen? ⟨Y,3,none⟩=false:=Lib.frozen_of_heap uP 3;obtain⟨Kz,OI⟩:=zN (wr.heap.size);have hBY:Y<Kz:=by rw[<-OI];exact aA uP
          by_cases rq:k<M
          ·have D8:(k:Int)<(M:Int):=by omega
           have nV:k<K.length:=by rw[HM.o];exact rq
           obtain⟨gk,rfl,cgk,hzl⟩:=hcK k nV;have ctx:=(oM.o _ hzl wr (ai rC.o hg)).1;obtain⟨z,hz⟩:=zN (K[k]);obtain⟨TX,dW⟩:∃x,aQ ns z=x:=⟨_,rfl⟩;have HZ:Hd ((K.take (k+1)).map (fun q=>Value.string (aQ ns q))=(K.take k).map (fun q=>Value.string (aQ ns q))++[.string TX]):=by
            show _=_;rw[List.take_succ_eq_append_getElem nV,List.map_append,hz,<-dW];rfl
           rw[hz]at cgk ctx hzl;rw[dW]at ctx;rw[HL.o]at hzl;obtain⟨ys,hys⟩:=zN ((K.take k).map (fun q=>Value.string (aQ ns q)));rw[hys]at hrow HZ;have OJ:Hd (wr.ownsRow Y 9 1 (.slice o4 k c4) k ys):=hrow;have dN:Hd (some Y≠(Value.slice o4 k c4).ownBlock):=fun e=>by
            obtain⟨cc,hcc⟩:=(bn hrow e.symm).2;exact aP OH.o hcc (by decide) rfl
           have hone:∀u∈([.string TX]:List Value),u.oneCell'=true:=by simp[Value.oneCell']
           have dP:Hd ((wr.drew.alloc (.cells #[.string TX] 9)).heap[Kz]?=some (.cells #[.string TX] 9 (0,0))):=by
            have:=heap_alloc_new wr.drew (.cells #[.string TX] 9);rw[show wr.drew.heap.size=Kz from OI]at this;exact this
           have y3A:(wr.alloc (.cells #[.string TX] 9)).cell? ⟨Y,3,none⟩=some (.slice o4 k c4):=(World.grownBy_alloc wr _ none).cell y3 (by simp);clear hg uP hcK hz dW hys y0 y1 y2;go_upto_region 30 with fail
           go_region_law (refine step_append_lies _ (by rfl) _ _ _ (by rfl) Y 9 j0 _ 1 16 underlying31 hj0 hy0 hy1 hyb (by rfl) (by decide) (.slice o4 k c4) k ys (by rfl) (hrow.drew.alloc _) ⟨Kz,0,none⟩ 1 1 [.string TX] (by rfl) (by rfl) (World.news_of_block dP.o) hone (by omega) (by unfold maxLen;omega) (by omega) (by simp;omega) _ rfl ?_;intro g cap w3 hown3 hgrow hat hlt3;have hc3:w3.cell? ⟨Y,3,none⟩=some (.slice o4 k c4):=mF y3 hgrow dN.o;have oq:w3.frozen? ⟨Y,3,none⟩=false:=qF OH.o hgrow dN.o)
           all_goals (
            obtain⟨n1,n2,n3⟩:=afo (Nat.le_of_eq oz.o) Iz.o OH.o OJ.o hown3 hgrow;have ku:Hd (wS.grownBy (w3.setCell ⟨Y,3,none⟩ (.slice (some ⟨g,0,none⟩) (k+1) cap)) none/\(w3.setCell ⟨Y,3,none⟩ (.slice (some ⟨g,0,none⟩) (k+1) cap)).heap[Y]?=some (.cells #[.string An,.string Bn,.string Cn,.slice (some ⟨g,0,none⟩) (k+1) cap] 47 (0,0))/\(w3.setCell ⟨Y,3,none⟩ (.slice (some ⟨g,0,none⟩) (k+1) cap)).ownsRow Y 9 1 (.slice (some ⟨g,0,none⟩) (k+1) cap) (k+1) (ys++[.string TX])):=⟨n1,n2,n3⟩;clear n1 n2 n3;go_wp2;refine⟨⟨k+1,.slice (some ⟨g,0,none⟩) (k+1) cap,by go_num,by omega,ku.o.1,ku.o.2.1,by rw[HZ.o];exact ku.o.2.2⟩,?_⟩;simp[intOf];omega)
          ·have D8:¬(k:Int)<(M:Int):=by omega
           have OL:k=M:=by omega
           have OJ:Hd (wr.ownsRow Y 9 1 (.slice o4 k c4) ((ae ns d).map (aQ ns)).length (((ae ns d).map (aQ ns)).map Value.string)):=by
            have h1:=hrow;rw[OL,<-HM.o,List.take_length,<-HK.o]at h1;rw[OL,<-HM.o,<-HK.o,List.length_map,List.map_map];exact h1
           have HRk:Hd (RnB w1.heap.size wr ((A.take i).map (iO ns)) u11 vs):=OD.o.grow hg;have WL:Hd (w1.grownBy wr none):=ai rC.o hg;obtain⟨m0,hm0⟩:=zN (((A.take i).map (iO ns)).length);have afW:m0<=1000000:=by rw[<-hm0,List.length_map,List.length_take];omega
           have HRW:Hd (wr.ownsRow w1.heap.size 47 4 u11 m0 (ug ((A.take i).map (iO ns)) vs)):=by have:=HRk.o.row;rw[hm0]at this;exact this
           have ww:Hd (((A.take i).map (iO ns)).length=m0):=hm0;have hone:∀u∈pG ⟨An,Bn,Cn,(ae ns d).map (aQ ns)⟩ (.slice o4 k c4),u.oneCell'=true:=Zh _ _ rfl;have hbs:=WL.o.size;clear hg uP hcK hrow hm0 hfz rq OL OI hBY;go_wp2_with (first|(at_builtin;refine wpList_append_own _ rfl _ _ 26 rfl w1.heap.size 47 i0 (.agg #[.string ⟨#[]⟩,.string ⟨#[]⟩,.string ⟨#[]⟩,.slice none 0 0]) 4 72 underlying26 hi0 hz0 hz1 hzb rfl (by decide) _ _ _ rfl (HRW.o.alloc _) _ 1 1 (pG ⟨An,Bn,Cn,(ae ns d).map (aQ ns)⟩ (.slice o4 k c4)) rfl rfl (World.news_of_block (heap_alloc_new _ _)) hone (by unfold maxLen;omega) (by omega) (by simp;omega) ?_;intro v9 w9 hown9 hgrow9 _));have gX:Hd (RnB w1.heap.size w9 ((A.take (i+1)).map (iO ns)) v9 (vs++[.slice o4 k c4])):=by
            have gA:=dn (ak wr none) (.cells #[.string An,.string Bn,.string Cn,.slice o4 k c4] 47);have:=(HRk.o.grow gA).push (x:=iO ns t) (nv:=.slice o4 k c4) (w':=w9) (v':=v9) (by rw[ww.o,eY.o];exact hown9) hgrow9 (by
             rw[eY.o];exact afp (by have:=oz.o;have:=rC.o.size;omega) ((aX gA).row OJ.o))
            rw[List.take_succ_eq_append_getElem hiA,List.map_append,HT.o];exact this
           have BN:Hd (w1.grownBy w9 none):=Om (dn WL.o _) (HRW.o.alloc _) hgrow9;have afs:Hd (∀t∈A.take (i+1),jv ns t=true):=fun t' ht'=>by
            rw[List.take_succ_eq_append_getElem hiA,List.mem_append,List.mem_singleton]at ht'
            rcases ht' with h1|h1
            ·exact o6.o t' h1
            ·rw[h1,HT.o];exact je.o
           clear hown9 hgrow9;go_wp2;refine⟨⟨i+1,vs++[.slice o4 k c4],by go_num,by omega,gX.o,afs.o,BN.o⟩,?_⟩;simp[intOf];omega
        ·have HBAD:Hd (R=.error (6,iD ns t)):=by
          show _=_;rw[HY.o,afl hiA o6.o (by rw[HT.o];exact hF),HT.o]
         have cq:=OE.o;obtain⟨pq,hpq⟩:=zN (iD ns t);rw[hpq]at HBAD cq;have hor:ka<0\/(¬ka<0/\kb<0)\/(¬ka<0/\¬kb<0/\kc<0)\/(¬ka<0/\¬kb<0/\¬kc<0/\kd<0):=by
          obtain⟨k1,k2,k3,k4⟩:=jT.o
          rcases hlk with h1|⟨⟨a,h1⟩,h2|⟨⟨b,h2⟩,h3|⟨⟨cc,h3⟩,h4⟩⟩⟩
          ·rw[zS h1]at k1;exact Or.inl (by omega)
          ·rw[qg h1]at k1;rw[zS h2]at k2;exact Or.inr (Or.inl (by omega))
          ·rw[qg h1]at k1;rw[qg h2]at k2;rw[zS h3]at k3;exact Or.inr (Or.inr (Or.inl (by omega)))
          ·rw[qg h1]at k1;rw[qg h2]at k2;rw[qg h3]at k3;rw[zS h4]at k4;exact Or.inr (Or.inr (Or.inr (by omega)))
         clear hF hlk hpq jT OE
         rcases hor with h1|⟨h1,h2⟩|⟨h1,h2,h3⟩|⟨h1,h2,h3,h4⟩
         all_goals (
          go_wp2;go_quiet (fail);go_wp2;refine bodyPost_ret (results_tmp3 (t:=2) (u:=3) (v:=4) rfl _ _ _) rfl ?_;rw[HBAD.o];exact Ea (au (ai ay.o rC.o) nq))
       ·have hin:i=n:=by omega
        have WM:Hd (RnB w1.heap.size wr (A.map (iO ns)) u11 vs):=by
         have:=OD.o;rw[hin,<-HN.o,List.take_length]at this;exact this
        have WN:Hd (∀t∈A,jv ns t=true):=by
         have:=o6.o;rw[hin,<-HN.o,List.take_length]at this;exact this
        obtain⟨F,hF⟩:=zN ((A.flatMap (kl ns)).find? (fun y=>!aW (A.map (iO ns)) (aQ ns y)));have HRR:Hd (R=OA ns A F):=by
         show _=_;rw[HY.o,afm WN.o,hF]
        have CW:Hd (Calls prog 15 #[.slice (some ⟨N,0,none⟩) L c,.int .i64 (p:Nat),u11] wr fun e w'=>∃v z q,e=.returned (.tuple #[v,z,q])/\Hd ((∀y,F=some y->e=.returned (.tuple #[.slice none 0 0,.int .i64 6,.int .i64 (iD ns y:Nat)]))/\(F=none->e=.returned (.tuple #[u11,.int .i64 0,.int .i64 0]))/\wr.grownBy w' none)):=by
         have:=aff wr N c ns (HD.o.grow hg) p WI.o u11 (A.map (iO ns)) WM.o.ens (by rw[HA.o]) (fun t ht=>by
          have h1:=WN.o t (by rw[<-HA.o];exact ht);unfold jv at h1;simp only[Bool.and_eq_true]at h1;exact h1.2) F (by rw[HA.o];exact hF)
         rw[HL.o]at this;refine this.mono fun e w' hh=>?_
         rcases F with _|y
         ·exact⟨_,_,_,hh.2.1 rfl,hh⟩
         ·exact⟨_,_,_,hh.1 y rfl,hh⟩
        clear hcA hg hF hin OD o6;go_wp2_with (go_at_call 15;refine CW.o.mono ?_;rintro e w9 ⟨v9,z9,q9,rfl,h9⟩);refine bodyPost_ret (results_tmp3 (t:=2) (u:=3) (v:=4) rfl _ _ _) rfl ?_
        rcases F with _|y
        ·have he:=h9.o.2.1 rfl;rw[HRR.o];show yB w _ (.returned (.tuple #[v9,z9,q9])) w9;rw[he];exact WG ((WM.o.grow h9.o.2.2).up ay.o.size) (ai ay.o (ai rC.o h9.o.2.2))
        ·have he:=h9.o.1 y rfl;rw[HRR.o];show yB w _ (.returned (.tuple #[v9,z9,q9])) w9;rw[he];exact Ea (ai ay.o (ai rC.o h9.o.2.2))
end Go.Proofs.YtnnbgjaphfhibaaGreatDoor
