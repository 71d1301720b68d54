import Derived.Test.YtiinliaoojfjaaaGreatDoorF42
set_option linter.all false
set_option maxRecDepth 100000
set_option maxHeartbeats 0
open Go.Proofs.Tryz
namespace Go.Proofs.YtiinliaoojfjaaaGreatDoor
def Fd.up(m:Nat):Fd->Fd
 | .no f=>.no (f+m)
 | x=>x
theorem PI{go:Nat->Nat->Fd}{ft:Nat->Bool}(m:Nat)(hg:∀k f,¬go k f=.dry->go k (f+m)=(go k f).up m):∀(l:List Nat) (f:Nat),¬eu go ft l f=.dry->eu go ft l (f+m)=(eu go ft l f).up m
 | [],f,_=>rfl
 | k :: r,0,h=>absurd rfl h
 | k :: r,f+1,h=>by
  rw[show f+1+m=(f+m)+1 by omega];rw[eu]at h ⊢;rw[eu]
  by_cases hf:ft k=true
  ·rw[if_pos hf]at h ⊢;rw[if_pos hf]
   cases hk:go k f with
   | dry=>rw[hk]at h;exact absurd rfl h
   | no f' =>
    rw[hg k f (by rw[hk];intro e;cases e),hk];rw[hk]at h;exact PI m hg r f' h
   | yes ch=>rw[hg k f (by rw[hk];intro e;cases e),hk];rfl
  ·rw[if_neg hf]at h ⊢;rw[if_neg hf];exact PI m hg r f h
theorem Yz{C:ByteArray->List Nat}{ft:List Nat->Nat->Bool}{ns:Nat->List ByteArray}(m:Nat):∀(d:Nat) (row:List ByteArray) (ch:List Nat) (f:Nat),¬dC C ft ns d row ch f=.dry->dC C ft ns d row ch (f+m)=(dC C ft ns d row ch f).up m
 | 0,row,ch,f,h=>absurd rfl h
 | d+1,row,ch,f,h=>by
  rw[dC]at h ⊢;rw[dC]
  by_cases hl:ch.length=row.length
  ·rw[if_pos hl,if_pos hl];rfl
  ·rw[if_neg hl]at h ⊢;rw[if_neg hl];exact PI m (fun k f hk=>Yz m d _ _ f hk) _ f h
theorem PK{go:Nat->Nat->Fd}{ft:Nat->Bool}{p:Nat}(hp:1<=p):∀(l:List Nat) (f:Nat),(∀k∈l,ft k=true->∀f,(p<=f+1->¬go k f=.dry)/\∀f',go k f=.no f'->f+1<=f'+p)->(l.length*p<=f->¬eu go ft l f=.dry)/\∀f',eu go ft l f=.no f'->f<=f'+l.length*p
 | [],f,_=>⟨fun _ h=>(by cases h),fun f' h=>by cases h;omega⟩
 | k :: r,0,h=>⟨fun h'=>by
   rw[List.length_cons,Nat.succ_mul]at h';omega,fun f' h'=>by cases h'⟩
 | k :: r,f+1,h=>by
  have hr:∀k'∈r,ft k'=true->∀f,(p<=f+1->¬go k' f=.dry)/\∀f',go k' f=.no f'->f+1<=f'+p:=fun k' hk'=>h k' (List.mem_cons_of_mem _ hk')
  rw[List.length_cons,Nat.succ_mul,eu]
  by_cases hf:ft k=true
  ·rw[if_pos hf];obtain⟨h1,h2⟩:=h k List.mem_cons_self hf f
   cases hk:go k f with
   | dry=>exact⟨fun h3 _=>h1 (by omega) hk,fun f' e=>by cases e⟩
   | yes ch=>exact⟨fun _ e=>(by cases e),fun f' e=>by cases e⟩
   | no f1 =>
    have h3:=h2 f1 hk;obtain⟨h4,h5⟩:=PK hp r f1 hr;refine⟨fun h6=>h4 (by omega),fun f' e=>?_⟩;have:=h5 f' e;omega
  ·rw[if_neg hf];obtain⟨h4,h5⟩:=PK hp r f hr;refine⟨fun h6=>h4 (by omega),fun f' e=>?_⟩;have:=h5 f' e;omega
def lI(L:List Re)(x:ByteArray):Nat:=L.countP fun r=>decide (r.nm=x)
def jM(L:List Re):List ByteArray->Nat
 | []=>1
 | x :: r=>(lI L x+1)*jM L r
theorem PL(L:List Re):∀R,1<=jM L R
 | []=>Nat.le_refl _
 | x :: r=>by
  have:=PL L r;unfold jM;exact Nat.mul_pos (by omega) this
theorem YA(L:List Re)(x:ByteArray):∀R,jM L (R++[x])=jM L R*(lI L x+1)
 | []=>by simp[jM]
 | y :: r=>by
  rw[List.cons_append,jM,jM,YA L x r,Nat.mul_assoc]
def ry(R:List ByteArray)(x:ByteArray):List ByteArray:=R.filter fun y=>decide (¬y=x)
theorem aim{R:List ByteArray}{x y:ByteArray}:y∈ry R x↔y∈R/\¬y=x:=by
 unfold ry;rw[List.mem_filter,decide_eq_true_eq]
theorem YB(L:List Re){x:ByteArray}:∀{R:List ByteArray},R.Nodup->x∈R->jM L R=(lI L x+1)*jM L (ry R x)
 | [],_,h=>by cases h
 | y :: r,hn,h=>by
  obtain⟨h1,h2⟩:=List.nodup_cons.1 hn
  by_cases e:y=x
  ·have:ry (y :: r) x=r:=by
    unfold ry;rw[List.filter_cons_of_neg (by simpa using e),List.filter_eq_self];intro z hz;rw[decide_eq_true_eq];exact fun e2=>h1 (e.trans e2.symm ▸ hz)
   rw[this,<-e,jM]
  ·have hm:x∈r:=by
    rcases List.mem_cons.1 h with h|h
    ·exact absurd h.symm e
    ·exact h
   have:ry (y :: r) x=y :: ry r x:=by
    unfold ry;rw[List.filter_cons_of_pos (by simpa using e)]
   rw[this,jM,jM,YB L h2 hm,<-Nat.mul_assoc,<-Nat.mul_assoc,Nat.mul_comm (lI L y+1)]
theorem YC(name:ByteArray):∀(L:List Re) (k:Nat),(bn name L k).length<=lI L name
 | [],k=>by simp[bn,lI]
 | x :: r,k=>by
  have ih:=YC name r (k+1);have hc:lI (x :: r) name=lI r name+if decide (x.nm=name)=true then 1 else 0:=List.countP_cons;rw[hc];unfold bn;split
  ·rename_i h;rw[Bool.and_eq_true]at h;rw[if_pos h.1,List.length_cons];omega
  ·omega
theorem ain(L:List Re)(O:List En)(x:ByteArray):(dL L O x).length<=lI L x:=by
 obtain⟨E,h1,h2⟩:=Jm L x;rw[zG ⟨E,h1,h2,rfl⟩,Wx,List.length_map,h1.length_eq];exact YC x L 0
theorem YD{N:List Nd}{L:List Re}{O:List En}:∀(d:Nat) (row:List ByteArray) (ch:List Nat) (f:Nat) (R:List ByteArray),L.length+1<=d+ch.length->SInv N L row ch->R.Nodup->(∀x,¬dL L O x=[]->x∉ch.map (aF L)->x∈R) →
  (jM L R<=f+1->¬dC (dL L O) (dG N L) (bG L) d row ch f=.dry)/\∀f',dC (dL L O) (dG N L) (bG L) d row ch f=.no f'->f+1<=f'+jM L R
 | 0,row,ch,f,R,hd,hs,hn,hr=>by have:=hs.few;omega
 | d+1,row,ch,f,R,hd,hs,hn,hr=>by
  have hpos:=PL L R;rw[dC]
  by_cases hl:ch.length=row.length
  ·rw[if_pos hl];exact⟨fun _ e=>(by cases e),fun f' e=>by cases e⟩
  ·rw[if_neg hl];have hlt:ch.length<row.length:=by have:=hs.le;omega
   rw[List.getD_eq_getElem?_getD,List.getElem?_eq_getElem hlt,Option.getD_some];obtain⟨x,hx⟩:=zN (row[ch.length]);have hrx:row[ch.length]?=some x:=by rw[List.getElem?_eq_getElem hlt,hx]
   rw[hx];have hxc:x∉ch.map (aF L):=fun hm=>by
    obtain⟨k,hk,e⟩:=List.mem_map.1 hm;obtain⟨i,hi⟩:=List.getElem?_of_mem hk;have h1:=(List.getElem?_eq_some_iff.1 hi).1;obtain⟨h2,h3⟩:=List.getElem?_eq_some_iff.1 (hs.nm i k hi).2;exact List.pairwise_iff_getElem.1 hs.nod i ch.length h2 hlt h1 (h3.trans (e.trans hx.symm))
   by_cases hc:dL L O x=[]
   ·rw[hc];refine⟨fun _ e=>(by cases e),fun f' e=>?_⟩
    cases e
    omega
   ·have hxR:=hr x hc hxc;have hp:=YB L hn hxR;have hp1:=PL L (ry R x);have hcl:=ain L O x;obtain⟨h1,h2⟩:=PK (go:=fun k f=>dC (dL L O) (dG N L) (bG L) d (aU row (bG L k)) (ch++[k]) f) (ft:=dG N L ch) hp1 (dL L O x) f (fun k hk hf f=>by
     obtain⟨bK,hkx⟩:=yB hk;refine YD d (aU row (bG L k)) (ch++[k]) f (ry R x) (by simp;omega) (by rw[wU];exact hs.step bK (by rw[hrx,hkx]) (rq.1 hf)) (List.Pairwise.filter _ hn) (fun y hy hym=>?_);rw[List.map_append,List.mem_append]at hym;refine aim.2 ⟨hr y hy fun h=>hym (Or.inl h),fun e=>hym (Or.inr (by simp[hkx,e]))⟩)
    have hmul:(dL L O x).length*jM L (ry R x)<=lI L x*jM L (ry R x):=Nat.mul_le_mul_right _ hcl;rw[hp,Nat.succ_mul];refine⟨fun h=>h1 (by omega),fun f' e=>?_⟩;have:=h2 f' e;omega
open Go.RowKit
def uT(L:List Re)(i k:Nat)(x:ByteArray):Bool:=!((L.take (min k i)).any fun r=>decide (r.nm=x))
theorem aio(L:List Re)(i k:Nat)(x:ByteArray)(hk:k<L.length):uT L i (k+1) x=if L[k].nm=x then(uT L i k x && decide (i<=k)) else uT L i k x:=by
 unfold uT
 by_cases h:i<=k
 ·rw[show min (k+1) i=i by omega,show min k i=i by omega,decide_eq_true h,Bool.and_true];simp
 ·rw[show min (k+1) i=k+1 by omega,show min k i=k by omega,decide_eq_false h,Bool.and_false,DC _ L k hk];split
  ·rename_i e;simp[e]
  ·rename_i e;simp[e]
theorem aip(L:List Re)(i:Nat)(x:ByteArray)(hi:i<=L.length):uT L i L.length x=!iq (aU [] ((L.take i).map (·.nm))) x:=by
 unfold uT;rw[show min L.length i=i by omega];congr 1;rw[Bool.eq_iff_iff,Bi,qp,List.any_eq_true];constructor
 ·rintro⟨r,h1,h2⟩;exact Or.inr (List.mem_map.2 ⟨r,h1,by simpa using h2⟩)
 ·rintro(h|h)
  ·cases h
  ·obtain⟨r,h1,h2⟩:=List.mem_map.1 h;exact⟨r,h1,by simpa using h2⟩
theorem aiq(L:List Re)(k:Nat)(x:ByteArray)(hk:k<L.length):lI (L.take (k+1)) x=lI (L.take k) x+if L[k].nm=x then 1 else 0:=by
 unfold lI;rw[List.take_succ_eq_append_getElem hk,List.countP_append];congr 1;split
 ·rename_i e;simp[e]
 ·rename_i e;simp[e]
theorem cnt_le(L:List Re)(k:Nat)(x:ByteArray):lI (L.take k) x<=L.length:=by
 unfold lI;have h1:=List.countP_le_length (p:=fun r:Re=>decide (r.nm=x)) (l:=L.take k);have h2:(L.take k).length<=L.length:=by rw[List.length_take];omega
 omega
theorem air(L:List Re)(i:Nat)(hi:i<L.length):aU [] ((L.take (i+1)).map (·.nm))=if iq (aU [] ((L.take i).map (·.nm))) L[i].nm=true then aU [] ((L.take i).map (·.nm)) else aU [] ((L.take i).map (·.nm))++[L[i].nm]:=by
 rw[List.take_succ_eq_append_getElem hi,List.map_append];exact H9 _ _ _
def JJ(L:List Re)(i A:Nat):Prop:=i<=L.length/\1<=A/\A<=1099511627776*1048577/\(A<=1099511627776->A=jM L (aU [] ((L.take i).map (·.nm))))
theorem ais(lo:Option Addr)(lc:Nat)(L:List Re)(w:World)(h:ReS w (.slice lo L.length lc) L)(hL:L.length<=1048576) :
  Calls prog 19 #[.slice lo L.length lc] w fun e w'=>∃z:Int,e=.returned (.int .i64 z)/\w.grownBy w' none/\(z<1099511627776->z=(jM L (aU [] (L.map (·.nm))):Nat)):=by
 have gq:=ae (fun w' (hg:w.grownBy w' none) i (hi:i<L.length)=>lq (h.grow hg) hi);have BR:=ae (fun i k x (hk:k<L.length)=>aio L i k x hk);have HFE:=ae (fun i x (hi:i<=L.length)=>aip L i x hi);have zB:=ae (fun k x (hk:k<L.length)=>aiq L k x hk);have BX:=ae (fun k x=>cnt_le L k x);have bC:=ae (fun i (hi:i<L.length)=>air L i hi);have zH:=ae (fun x R=>YA L x R);have F9:Hd (L.take L.length=L):=List.take_length;clear h;go_enter func19,ntmps19;go_wp2;go_loopw [3,4] (fun va vi wr=>∃i A:Nat,vi=.int .i64 i/\va=.int .i64 (A:Int)/\JJ L i A/\w.grownBy wr none) (fun _ vi _=>L.length-(intOf vi).toNat)
 case atStart=>exact⟨0,1,rfl,rfl,⟨Nat.zero_le _,Nat.le_refl _,by omega,fun _=>rfl⟩,ai _ _⟩
 case round =>
  obtain⟨i,A,rfl,rfl,⟨hi,hA1,hA2,hA3⟩,hg⟩:=hrel;have Ff:=ae hA3;have HG:=ae hg;obtain⟨wo,hwo⟩:∃wo,wo=wr:=⟨_,rfl⟩;subst hwo
  by_cases hlt:i<L.length
  ·have hnx:=bC.o i hlt;obtain⟨a,ho,hcp,hat⟩:=gq.o wo hg i hlt;have e0:=(hat i hlt).1;obtain⟨x,hx⟩:=zN (L[i].nm);rw[hx]at hnx e0;have HN:=ae hnx;have HX:=ae hx;have gp:=ae hlt;clear hA3 hg hat hx hnx;go_wp2;go_loopw [5,6,7] (fun vb vc vk wr=>∃k:Nat,vk=.int .i64 k/\k<=L.length/\vb=.bool (uT L i k x)/\vc=.int .i64 (lI (L.take k) x+1:Nat)/\wo.grownBy wr none) (fun _ _ vk _=>L.length-(intOf vk).toNat)
   case atStart=>exact⟨0,rfl,Nat.zero_le _,rfl,rfl,ai _ _⟩
   case round =>
    obtain⟨k,rfl,hk,rfl,rfl,hg⟩:=hrel;have dH:=ae hg
    by_cases hkl:k<L.length
    ·obtain⟨a',ho',ait,hat'⟩:=gq.o wr (ag HG.o hg) k hkl;have f0:=(hat' k hkl).1;obtain⟨a'',YE,-,YF⟩:=gq.o wr (ag HG.o hg) i gp.o;have f1:=(YF i gp.o).1;rw[HX.o]at f1;obtain rfl:a'=a'':=Option.some.inj (ho'.symm.trans YE);have hfb:=BR.o i k x hkl;have hcs:=zB.o k x hkl;have hcl:=BX.o k x;obtain⟨y,hy⟩:=zN (L[k].nm);rw[hy]at hfb hcs f0;obtain⟨b,hbk⟩:=zN (uT L i k x);obtain⟨c,hck⟩:=zN (lI (L.take k) x);rw[hbk]at hfb;rw[hck]at hcs hcl;rw[hbk,hck];have hil:=gp.o;have hic:i<lc:=by omega
     have hkc:k<lc:=by omega
     subst ho';clear hg hat' YF YE hy hbk hck ait e0 ho hcp hil
     by_cases hxy:y=x
     ·have q:=uA hxy;rw[if_pos hxy]at hfb hcs;have YG:=ae hfb;have DN:=ae hcs;clear hxy hfb hcs
      by_cases hik:i<=k
      ·have hd:((k:Int) ≥ (i:Int)):=by omega
       have hd2:decide ((i:Int)<=(k:Int))=true:=decide_eq_true (by omega);have hfin:uT L i (k+1) x=b:=by rw[YG.o,decide_eq_true hik,Bool.and_true]
       have ni:=ae hfin;have YH:=ae hik;clear hfin hik
       cases b with
       | true =>
        go_wp2;go_quiet (fail);go_wp2;exact⟨⟨k+1,by go_num,by omega,by rw[ni.o],by rw[DN.o];go_num,aH dH.o _⟩,by simp[intOf];omega⟩
       | false =>
        go_wp2;go_quiet (fail);go_wp2;exact⟨⟨k+1,by go_num,by omega,by rw[ni.o],by rw[DN.o];go_num,aH dH.o _⟩,by simp[intOf];omega⟩
      ·have hd:¬((k:Int) ≥ (i:Int)):=by omega
       have hd2:decide ((i:Int)<=(k:Int))=false:=decide_eq_false (by omega);have hfin:uT L i (k+1) x=false:=by rw[YG.o,decide_eq_false hik,Bool.and_false]
       have ni:=ae hfin;have YH:=ae hik;clear hfin hik
       cases b with
       | true =>
        go_wp2;go_quiet (fail);go_wp2;exact⟨⟨k+1,by go_num,by omega,by rw[ni.o];first|rfl|exact congrArg Value.bool (decide_eq_false YH.o),by rw[DN.o];go_num,aH dH.o _⟩,by simp[intOf];omega⟩
       | false =>
        go_wp2;go_quiet (fail);go_wp2;exact⟨⟨k+1,by go_num,by omega,by rw[ni.o],by rw[DN.o];go_num,aH dH.o _⟩,by simp[intOf];omega⟩
     ·have q:=pz hxy;rw[if_neg hxy]at hfb hcs;have ni:=ae hfb;have DN:=ae hcs;clear hxy hfb hcs;go_wp2;go_quiet (fail);go_wp2;exact⟨⟨k+1,by go_num,by omega,by rw[ni.o],by rw[DN.o],aH dH.o _⟩,by simp[intOf];omega⟩
    ·have hke:k=L.length:=by omega
     subst hke;rw[HFE.o i x hi,F9.o];have hcl:=BX.o L.length x;rw[F9.o]at hcl;have hps:=zH.o x (aU [] ((L.take i).map (·.nm)));have hnx:=HN.o;have DT:=Ff.o;obtain⟨R,hR⟩:=zN (aU [] ((L.take i).map (·.nm)));rw[hR]at hps hnx DT;rw[hR];obtain⟨c,hck⟩:=zN (lI L x);rw[hck]at hps hcl;rw[hck];have hgw:=ae (ag HG.o hg);have hil:=gp.o;obtain⟨b,hb⟩:=zN ((!iq R x));rw[hb]
     cases b with
     | false =>
      rw[if_pos (by simpa using hb)]at hnx;have HF:Hd (JJ L (i+1) A):=⟨hil,hA1,hA2,fun h=>by rw[hnx];exact DT h⟩;clear hg hps hnx DT hR hck e0 hb hcl;go_wp2;go_roundw
      case rel=>exact⟨i+1,A,by go_num,rfl,HF.o,hgw.o⟩
      case measure=>simp[intOf];omega
     | true =>
      rw[if_neg (by simpa using hb)]at hnx
      by_cases hA:A<=1099511627776
      ·have Gg:(A:Int)<=1099511627776:=by omega
       have hAd:decide ((A:Int)<=1099511627776)=true:=decide_eq_true Gg;have hm1:A*(c+1)<=1099511627776*1048577:=Nat.mul_le_mul hA (by omega);have hm2:1<=A*(c+1):=Nat.mul_pos hA1 (by omega);have HF:Hd (JJ L (i+1) (A*(c+1))):=⟨hil,hm2,hm1,fun h=>by rw[hnx,hps,<-DT hA]⟩;obtain⟨Z,hZ⟩:∃Z:Nat,A*(c+1)=Z:=⟨_,rfl⟩;have aiu:Hd ((A:Int)*((c:Int)+1)=(Z:Int)):=by
        show _=_;rw[<-hZ];simp
       rw[hZ]at hm1 hm2 HF;clear hg hps hnx DT hR hck e0 hb hcl hZ;go_wp2;go_roundw
       case rel=>exact⟨i+1,Z,by go_num,by rw[aiu.o];simp;unfold wrap64;omega,HF.o,hgw.o⟩
       case measure=>simp[intOf];omega
      ·have Gg:¬(A:Int)<=1099511627776:=by omega
       have hAd:decide ((A:Int)<=1099511627776)=false:=decide_eq_false Gg;have HF:Hd (JJ L (i+1) A):=⟨hil,hA1,hA2,fun h=>absurd h hA⟩;clear hg hps hnx DT hR hck e0 hb hcl;go_wp2;go_roundw
       case rel=>exact⟨i+1,A,by go_num,rfl,HF.o,hgw.o⟩
       case measure=>simp[intOf];omega
  ·have hie:i=L.length:=by omega
   have HF:Hd (A<=1099511627776->A=jM L (aU [] (L.map (·.nm)))):=fun h=>by
    have:=hA3 h;rw[hie,F9.o]at this;exact this
   clear hA3 hg
   by_cases hA:A<=1099511627776
   ·have Gg:¬(A:Int) > 1099511627776:=by omega
    go_wp2;go_ret;exact⟨(A:Int),rfl,HG.o,fun h=>by rw[<-HF.o hA]⟩
   ·have Gg:(A:Int) > 1099511627776:=by omega
    go_wp2;go_ret;exact⟨1099511627776,rfl,HG.o,fun h=>absurd h (by omega)⟩
end Go.Proofs.YtiinliaoojfjaaaGreatDoor
