import Derived.Test.YtapodndfpecglaaGreatDoorK34
import Derived.Test.YtapodndfpecglaaGreatDoorK33
set_option linter.all false
set_option maxRecDepth 100000
set_option maxHeartbeats 0
open Go.Proofs.Tryz
namespace Go.Proofs.YtapodndfpecglaaGreatDoor
section
variable {N:List Nd} {L:List Re} {O:List En} {C:List Int}
theorem xY{k:Nat}:dS C k=true↔k∈C.map Int.toNat:=by
 unfold dS;rw[List.any_eq_true,List.mem_map];simp
theorem KN(h:jW N L C){j k:Nat}(hj:dS C j=true)(hk:dS C k=true)(e:aQ L j=aQ L k):j=k:=by
 obtain⟨c,hc,rfl⟩:=List.mem_map.1 (xY.1 hj);obtain⟨d,hd,rfl⟩:=List.mem_map.1 (xY.1 hk);rw[Uc (Ac h) h.ok hc hd e]
theorem aeF(h:jW N L C):(C.map Int.toNat).Nodup:=by
 unfold List.Nodup;rw[List.pairwise_map,List.pairwise_iff_getElem];intro i j hi hj hij e;have h1:=(KA (Ac h) j _).1 ((FH (Ac h)).1 h.ok j hj);rw[List.any_eq_false]at h1;refine h1 C[i] (List.mem_take_iff_getElem.2 ⟨i,by omega,rfl⟩) ?_;rw[uo L C j hj,e];simp
theorem KO{M:List Nd}(h:jW N L C)(hm:∀j,j<M.length->∃q,dS C q=true/\jV M L j q=true){y:Nd}(hy:y∈M):∃q,dS C q=true/\y.n=aQ L q/\gu y.r (gV L q)=true:=by
 obtain⟨j,hj,rfl⟩:=List.getElem_of_mem hy;obtain⟨q,h1,h2⟩:=hm j hj;rw[xm M L j q hj (in_lt h.ok h1),Bool.and_eq_true,decide_eq_true_eq]at h2;exact⟨q,h1,h2.1,h2.2⟩
theorem FV{M:List Nd}(h:jW N L C)(hm:∀j,j<M.length->∃q,dS C q=true/\jV M L j q=true){y:Nd}(hy:y∈M){q:Nat}(hq:dS C q=true)(e:y.n=aQ L q):gu y.r (gV L q)=true:=by
 obtain⟨p,h1,h2,h3⟩:=KO h hm hy
 rwa [KN h h1 hq (h2.symm.trans e)]at h3
theorem FW(h:jW N L C){k:Nat}(hk:dS C k=true):∀i,i<(lH L k).length->∃q,dS C q=true/\jV (lH L k) L i q=true:=by
 rw[ut L k (in_lt h.ok hk)];exact h.m1 k _ hk
theorem aeG(h:jW N L C){ch:List Nat}(hch:∀k∈ch,dS C k=true){k:Nat}(hk:dS C k=true):Fit N L ch k :=
 ⟨fun y hy e=>FV h h.m0 hy hk e,fun y hy e=>FV h (FW h hk) hy hk e,fun j hj y hy e=>FV h (FW h (hch j hj)) hy hk e,fun j hj y hy e=>FV h (FW h hk) hy (hch j hj) e⟩
theorem aeH(L:List Re)(name:ByteArray):∃E:List It,E.Perm (dw name L 0)/\E.Pairwise (fun a b=>0<=iR b a):=by
 refine⟨(dw name L 0).mergeSort fun a b=>decide (0<=iR b a),List.mergeSort_perm _ _,?_⟩;have hs:=List.pairwise_mergeSort (le:=fun a b=>decide (0<=iR b a)) (fun a b c h1 h2=>by
  rw[decide_eq_true_eq]at h1 h2 ⊢;exact abd h2 h1) (fun a b=>by
  rw[Bool.or_eq_true,decide_eq_true_eq,decide_eq_true_eq];apply Classical.byContradiction;intro hn;have c1:iR b a<0:=by omega
  have c2:iR a b<0:=by omega
  rw[tu]at c1 c2;have d:=eH (cutV a.v) (cutV b.v);omega) (dw name L 0)
 exact hs.imp fun h=>by simpa using h
theorem Ut{name v:ByteArray}{q:Nat}:∀(L:List Re) (k:Nat),gU name v L k=(q:Int)->∃it∈dw name L k,it.k=q
 | [],k,h=>by unfold gU at h;omega
 | x :: r,k,h=>by
  unfold gU at h;unfold dw;split at h
  ·rename_i hh;unfold fG mF at hh;rw[Bool.and_eq_true,Bool.and_eq_true]at hh;rw[if_pos (by rw[hh.1,hh.2.1];rfl)];exact⟨_,List.mem_cons_self,by simp only[];omega⟩
  ·obtain⟨it,h1,h2⟩:=Ut r (k+1) h;split
   ·exact⟨it,List.mem_cons_of_mem _ h1,h2⟩
   ·exact⟨it,h1,h2⟩
theorem aeI{x:ByteArray}{q:Nat}(hk:iM O L x=(q:Int)):∃r,pR L O x=q :: r:=by
 obtain⟨E,h1,h2⟩:=aeH L x;refine⟨(E.map (·.k)).erase q,?_⟩;rw[QW ⟨E,h1,h2,rfl⟩,hk];unfold ku;have hm:q∈E.map (·.k):=by
  unfold iM at hk;split at hk
  ·obtain⟨it,h3,h4⟩:=Ut L 0 hk;exact List.mem_map.2 ⟨it,h1.symm.subset h3,h4⟩
  ·omega
 exact if_pos ⟨by omega,hm⟩
theorem Uu(h:jW N L C)(hk:∀k,dS C k=true->iM O L (aQ L k)=(k:Int)):∀(d:Nat) (row:List ByteArray) (ch:List Nat) (f:Nat),L.length+1<=d+ch.length->SInv N L row ch->(∀k∈ch,dS C k=true)->C.length<=f+ch.length->∃ch',lC (pR L O) (xX N L) (eG L) d row ch f=.yes ch'/\ch'.Perm (C.map Int.toNat)
 | 0,row,ch,f,hd,hs,hc,hf=>by have:=hs.few;omega
 | d+1,row,ch,f,hd,hs,hc,hf=>by
  have hnd:ch.Nodup:=List.Pairwise.imp (fun h e=>h (by rw[e])) (List.pairwise_map.1 hs.one);rw[lC]
  by_cases hl:ch.length=row.length
  ·rw[if_pos hl];refine⟨ch,rfl,?_⟩;have has:∀x∈row,∃k∈ch,aQ L k=x:=fun x hx=>by
    obtain⟨i,hi⟩:=List.getElem?_of_mem hx;have hil:=(List.getElem?_eq_some_iff.1 hi).1;have h2:=(hs.nm i _ (List.getElem?_eq_getElem (l:=ch) (i:=i) (by omega))).2;rw[hi]at h2;exact⟨_,List.getElem_mem _,(Option.some.inj h2).symm⟩
   have key:∀k,Wt N L C k->k∈ch:=fun k hw=>by
    induction hw with
    | base k hc1 hn =>
     unfold nK at hn;rw[Bool.and_eq_true,List.any_eq_true]at hn;obtain⟨-,y,hy,e⟩:=hn;obtain⟨k',h1,h2⟩:=has _ (hs.nee y hy);rw[KN h hc1 (hc k' h1) (by rw[h2];exact(of_decide_eq_true e).symm)];exact h1
    | step k j hj hw hc1 hn ih =>
     unfold nK at hn;rw[Bool.and_eq_true,List.any_eq_true]at hn;obtain⟨-,y,hy,e⟩:=hn;obtain⟨k',h1,h2⟩:=has _ (hs.ndd j ih y (by rw[ut L j hj];exact hy));rw[KN h hc1 (hc k' h1) (by rw[h2];exact(of_decide_eq_true e).symm)];exact h1
   rw[List.perm_ext_iff_of_nodup hnd (aeF h)];exact fun k=>⟨fun hm=>xY.1 (hc k hm),fun hm=>key k (h.wt k (xY.2 hm))⟩
  ·rw[if_neg hl];have hlt:ch.length<row.length:=by have:=hs.le;omega
   obtain⟨q,hq,wV⟩:∃q,dS C q=true/\aQ L q=row[ch.length]:=by
    rcases hs.wt ch.length _ (List.getElem?_eq_getElem hlt) with⟨y,hy,e⟩|⟨j,k,h1,h2,y,hy,e⟩
    ·obtain⟨q,h1,h2,-⟩:=KO h h.m0 hy;exact⟨q,h1,h2.symm.trans e⟩
    ·obtain⟨q,h1,h2,-⟩:=KO h (FW h (hc k (List.mem_of_getElem? h2))) hy;exact⟨q,h1,h2.symm.trans e⟩
   obtain⟨r,hr⟩:=aeI (wV ▸ hk q hq);have hnot:q∉ch:=fun hm=>by
    obtain⟨i,hi⟩:=List.getElem?_of_mem hm;have h1:=(List.getElem?_eq_some_iff.1 hi).1;obtain⟨h2,h3⟩:=List.getElem?_eq_some_iff.1 (hs.nm i q hi).2;exact List.pairwise_iff_getElem.1 hs.nod i ch.length h2 hlt h1 (h3.trans wV)
   have hlen:ch.length<C.length:=by
    have:=List.Nodup.length_le_of_subset (l₁:=q :: ch) (l₂:=C.map Int.toNat) (List.nodup_cons.2 ⟨hnot,hnd⟩) (fun k hm=>by
     rcases List.mem_cons.1 hm with rfl|hm
     ·exact xY.1 hq
     ·exact xY.1 (hc k hm))
    rw[List.length_map]at this;exact this
   obtain⟨f,rfl⟩:∃f',f=f'+1:=⟨f-1,by omega⟩;have hF:=aeG h hc hq;obtain⟨ch',e1,e2⟩:=Uu h hk d (di row (eG L q)) (ch++[q]) f (by simp;omega) (by rw[Ul];exact hs.step (in_lt h.ok hq) (by rw[List.getElem?_eq_getElem hlt,wV]) hF) (fun k hm=>by
    rcases List.mem_append.1 hm with hm|hm
    ·exact hc k hm
    ·rw[List.mem_singleton.1 hm];exact hq) (by simp;omega)
   refine⟨ch',?_,e2⟩;rw[List.getD_eq_getElem?_getD,List.getElem?_eq_getElem hlt,Option.getD_some,hr,sW,if_pos (FU.2 hF),e1]
end
open Go.RowKit Go.Maps
theorem aeJ(oo:Option Addr)(oc:Nat)(O:List En)(L:List Re)(n:ByteArray)(w:World)(h:EnS w (.slice oo O.length oc) O)(hO:O.length<=1048576) :
  Calls prog 16 #[.slice oo O.length oc,.string n] w fun e w'=>∃z:Int,e=.returned (.int .i64 z)/\w.grownBy w' none/\((z=-1/\iM O L n=-1)\/∃(j:Nat) (hj:j<O.length),z=(j:Int)/\iM O L n=gU n O[j].ve L 0):=by
 have H1:=ae h;have aU:=ae (QY (O:=O) (L:=L) (name:=n));have HAT:=ae (fun j (hj:j<O.length)=>QZ (O:=O) (L:=L) (name:=n) (j:=j) hj);clear h;go_enter func16,ntmps16;go_wp2;go_loopw [5] (fun vi wr=>∃i:Nat,vi=.int .i64 i/\i<=O.length/\(∀k (hk:k<O.length),k<i->¬O[k].nm=n)/\w.grownBy wr none) (fun vi _=>O.length-(intOf vi).toNat)
 case atStart=>exact⟨0,rfl,Nat.zero_le _,fun k hk h=>absurd h (by omega),ak _ _⟩
 case round =>
  obtain⟨i,rfl,hi,hf,hg⟩:=hrel;have HF:=ae hf;have HG:=ae hg
  by_cases hlt:i<O.length
  ·obtain⟨a,rfl,hcv,hat⟩:=EC (H1.o.grow hg) hlt;have e0:=(hat i hlt).1;obtain⟨y,hy⟩:=zN (O[i].nm);rw[hy]at e0;have HY:=ae hy;have gK:=ae hlt;clear hf hg hat hy
   by_cases hxy:y=n
   ·have q:=BK hxy;have HT:=ae (HAT.o i hlt (HY.o.trans hxy) (fun k hk=>HF.o k (by omega) hk));clear hxy;go_wp2;go_ret;exact⟨(i:Int),rfl,HG.o,Or.inr ⟨i,gK.o,rfl,HT.o⟩⟩
   ·have q:=uY hxy;have HT:Hd (∀k (hk:k<O.length),k<i+1->¬O[k].nm=n):=fun k hk hki=>by
     by_cases h:k=i
     ·subst h;rw[HY.o];exact hxy
     ·exact HF.o k hk (by omega)
    clear hxy;go_wp2;exact⟨⟨i+1,by go_num,by omega,HT.o,HG.o⟩,by simp[intOf];omega⟩
  ·have HT:Hd (iM O L n=-1):=aU.o (fun x hx=>by
    obtain⟨k,hk,rfl⟩:=List.getElem_of_mem hx;exact hf k hk (by omega))
   clear hf hg;go_wp2;go_ret;exact⟨-1,rfl,HG.o,Or.inl ⟨rfl,HT.o⟩⟩
theorem aeK{w w':World}{a b c:Addr}{x y z:Value}(hg:w.grownBy w' none)(h:w.cell? a=some x/\w.cell? b=some y/\w.cell? c=some z):w'.cell? a=some x/\w'.cell? b=some y/\w'.cell? c=some z :=
 ⟨hg.cell h.1 (by simp),hg.cell h.2.1 (by simp),hg.cell h.2.2 (by simp)⟩
theorem aeL(lo oo co:Option Addr)(lc oc cc:Nat)(L:List Re)(O:List En)(C:List Int)(w:World)(h:ReS w (.slice lo L.length lc) L)(ho:EnS w (.slice oo O.length oc) O)(hc:IS w (.slice co C.length cc) C)(hin:∀z∈C,0<=z/\z<(L.length:Int))(hL:L.length<=1048576)(hO:O.length<=1048576)(hC:C.length<=1048576)(hV:∀x∈L,x.ve.size<2 ^ 62)(hOV:∀x∈O,x.ve.size<2 ^ 62) :
  Calls prog 5 #[.slice lo L.length lc,.slice oo O.length oc,.slice co C.length cc] w fun e w'=>∃b:Bool,e=.returned (.bool b)/\w.grownBy w' none/\(b=true->∀k,dS C k=true->iM O L (aQ L k)=(k:Int)):=by
 have kD:=ae (fun w' (hg:w.grownBy w' none) i (hi:i<L.length)=>sG (h.grow hg) hi);have HEO:=ae (fun w' (hg:w.grownBy w' none) i (hi:i<O.length)=>EC (ho.grow hg) hi);have xW:=ae (fun w' (hg:w.grownBy w' none) i (hi:i<C.length)=>qE (hc.grow hg) hi);have CE:=ae (fun n w' (hg:w.grownBy w' none)=>aeJ oo oc O L n w' (ho.grow hg) hO);have CF:=ae (fun a cap n v w' (h1:L.length<=cap) (h2:v.size<2 ^ 62) (h3:∀i (hi:i<L.length),ReAt w' (a.add (i*4)) L[i])=>Z7 a cap L n v w' hL h1 hV h2 h3);have iJ:=ae hin;have Jt:=ae hOV;clear h ho hc hin hV hOV;go_enter func5,ntmps5;go_wp2;go_loopw [7] (fun vi wr=>∃i:Nat,vi=.int .i64 i/\i<=C.length/\(∀j (hj:j<C.length),j<i->iM O L (aQ L (C[j]).toNat)=C[j])/\w.grownBy wr none) (fun vi _=>C.length-(intOf vi).toNat)
 case atStart=>exact⟨0,rfl,Nat.zero_le _,fun k hk h=>absurd h (by omega),ak _ _⟩
 case round =>
  obtain⟨i,rfl,hi,hf,hg⟩:=hrel;have HF:=ae hf;have HG:=ae hg;obtain⟨wp,hwp⟩:∃wp,wp=wr:=⟨_,rfl⟩;subst hwp
  by_cases hlt:i<C.length
  ·obtain⟨k,hk,gy⟩:∃k:Nat,C[i]=(k:Int)/\k<L.length:=by
    have:=iJ.o _ (List.getElem_mem hlt);exact⟨(C[i]).toNat,by omega,by omega⟩
   have bK:Hd (iM O L L[k].nm=(k:Int)->∀j (hj:j<C.length),j<i+1->iM O L (aQ L (C[j]).toNat)=C[j]):=fun hh j hj hji=>by
    by_cases h:j=i
    ·subst h;rw[hk,show((k:Int)).toNat=k by omega,qF L k gy];exact hh
    ·exact HF.o j hj (by omega)
   obtain⟨a1,ho1,hcp1,iU⟩:=xW.o wp hg i hlt;have f0:=iU i hlt;obtain⟨a2,ho2,hcp2,ik⟩:=kD.o wp hg k gy;obtain⟨e0,e1,⟨sv,e2,e2'⟩,e3⟩:=ik k gy;rw[hk]at f0;obtain⟨x,hx⟩:=zN (L[k]);rw[hx]at e0 e1 e2' e3 bK;obtain⟨so,sn,sc,rfl⟩:∃o n c,sv=.slice o n c:=by
    rcases e2' with⟨rfl,-⟩|⟨_,_,rfl,-⟩<;>exact⟨_,_,_,rfl⟩
   obtain⟨X0,hX0⟩:=zN wp.heap.size;obtain⟨W4,iE⟩:=zN (wp.alloc (.cells #[.string x.nm,.string x.ve,.slice so sn sc,.string x.da] 43));have g4:wp.grownBy W4 none:=by rw[<-iE];exact au (ak wp none) _
   have lD:Hd (W4.heap[X0]?=some (.cells #[.string x.nm,.string x.ve,.slice so sn sc,.string x.da] 43 (0,0))):=by rw[<-iE,<-hX0];exact heap_alloc_new wp _
   obtain⟨x0,x1,x2,x3⟩:=zQ lD.o;have gm:=ae (ah HG.o g4);have C2:=ae (CE.o x.nm W4 gm.o);have hic:i<cc:=by omega
   have hkc:k<lc:=by omega
   have HLC:=ae hcp2;have aeM:=ae ik;have aeN:=ae g4;have EI:=ae f0
   cases ho1
   cases ho2
   clear hg hf iU ik hk hx e2' g4 hcp1 hcp2;go_wp2_with (go_at_call 16;refine C2.o.mono ?_);rintro e w5 ⟨z,rfl,hg5,hz⟩;have jQ:=ae (ah gm.o hg5);have Uw:=ae (ah aeN.o hg5);have c1:=(zQ ((hg5.block X0 (aA lD.o) (by simp)).trans lD.o)).1;have c3:=Uw.o.cell EI.o (by simp);clear hg5 f0 e0 e1 e2 e3 x0 x1 x2 x3 iE hX0
   rcases hz with⟨rfl,hke⟩|⟨j,hj,rfl,hke⟩
   ·clear hke;go_wp2;go_quiet (fail);go_wp2;go_ret;exact⟨false,rfl,aF jQ.o _,fun h=>(by cases h)⟩
   ·obtain⟨a3,ho3,KF,Dc⟩:=HEO.o w5 jQ.o j hj;obtain⟨-,v1,-⟩:=Dc j hj;have hvs:=Jt.o O[j] (List.getElem_mem _);obtain⟨ve,tH⟩:=zN (O[j].ve);rw[tH]at v1 hvs hke;have C3:=ae (CF.o a2 lc x.nm ve w5.drew HLC.o hvs (fun q hq=>(aeM.o q hq).grow (ah Uw.o (show w5.grownBy w5.drew none from⟨rfl,rfl,rfl,Nat.le_refl _,fun _ _ _=>rfl⟩))));obtain⟨fz,hfz⟩:=zN (gU x.nm ve L 0);rw[hfz]at C3 hke;have EO:=ae hke;have hjc:j<oc:=by omega
    have hj0:decide ((j:Int)<0)=false:=by simp
    cases ho3
    clear Dc hvs tH hfz hke KF;go_wp2
    go_region_held3 (fun u=>u.cell? ⟨X0,0,none⟩=some (.string x.nm)/\u.cell? ⟨(a3.add (j*4)).block,(a3.add (j*4)).off+1,none⟩=some (.string ve)/\u.cell? (a1.add i)=some (.int .i64 (k:Int))) ((first|exact aeK (by assumption) (by assumption)|go_keep)) (first|(go_at_call 17;refine C3.o.mono ?_;rintro e w6 ⟨rfl,mf⟩))
    have qo:=ae (ah jQ.o (cZ mf));clear mf c1 c3 v1 hj0
    by_cases hfk:fz=(k:Int)
    ·have hne:(fz != (k:Int))=false:=by simp[hfk]
     have HN2:=ae (bK.o (EO.o.trans hfk));clear hfk;go_wp2;exact⟨⟨i+1,by go_num,by omega,HN2.o,qo.o⟩,by simp[intOf];omega⟩
    ·have hne:(fz != (k:Int))=true:=by simp[hfk]
     clear hfk;go_wp2;go_ret;exact⟨false,rfl,qo.o,fun h=>(by cases h)⟩
  ·have HT:Hd (∀k,dS C k=true->iM O L (aQ L k)=(k:Int)):=fun k hk=>by
    obtain⟨c,hc,rfl⟩:=List.mem_map.1 (xY.1 hk);obtain⟨j,hj,rfl⟩:=List.getElem_of_mem hc;have h1:=hf j hj (by omega);have h2:=iJ.o _ hc;rw[h1];omega
   clear hf hg;go_wp2;go_ret;exact⟨true,rfl,HG.o,fun _=>HT.o⟩
end Go.Proofs.YtapodndfpecglaaGreatDoor
