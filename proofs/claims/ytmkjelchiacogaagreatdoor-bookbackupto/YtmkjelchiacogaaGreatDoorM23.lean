import Derived.Test.YtmkjelchiacogaaGreatDoorM22
import Derived.Test.YtmkjelchiacogaaGreatDoorM14
import Derived.Lib.ItoaLen
import Derived.Test.YtmkjelchiacogaaGreatDoorM15
import Derived.Test.YtmkjelchiacogaaGreatDoorM10
import Derived.Test.YtmkjelchiacogaaGreatDoorM13
set_option linter.unusedVariables false
set_option linter.unusedSimpArgs false
set_option maxRecDepth 100000
set_option maxHeartbeats 6400000
namespace Go.Proofs.YtmkjelchiacogaaGreatDoor
open Go.RowKit Go.Joins
theorem Iq{a A:List Tn}(h:a.map np=A)(t:Nat)(k:List UInt8):aG a t k=aG A t k:=by rw[<-h,LZ]
theorem Ir(A C:List Tn)(u:Tn)(k:List UInt8)(hk:∀q∈u.ks,∃j x,q=A.length+1+j/\C[j]?=some x/\x.ky≠k):aG (A++u :: C) A.length k=none:=by
 unfold aG;rw[List.getElem?_append_right (Nat.le_refl _),Nat.sub_self];simp only[List.getElem?_cons_zero];rw[List.find?_eq_none];intro q hq;obtain⟨j,x,rfl,hx,hne⟩:=hk q hq;rw[aee,hx];simpa using hne
def ln(k v:List UInt8):List UInt8:=k++([32,61,32]++(v++[10]))
def sv(s:List UInt8):List UInt8:=34 :: (s++[34])
theorem Iu{l:List UInt8}{i:Nat}{c:UInt8}{r:List UInt8}(h:l.drop i=c :: r):i<l.length:=by
 have:=congrArg List.length h;simp only[List.length_drop,List.length_cons]at this;omega
theorem N9{l:List UInt8}{i:Nat}{k s r:List UInt8}{a A C:List Tn}{u:Tn}{own:List Nat}(ha:a.map np=A++u :: C)(hk:kt k=k)(hp:k.all pb=true)(hs:s.all pb=true)(h:l.drop i=ln k (sv s)++r)(hn:aG (A++u :: C) A.length k=none) :
  ∃b,Run l ⟨i,a,own,A.length⟩ ⟨i+(ln k (sv s)).length,b,own,A.length⟩/\b.map np=A++⟨u.kd,u.ky,u.tx,u.nu,u.ks++[A.length+1+C.length],u.pl⟩ :: (C++[tS k s]):=by
 have h':l.drop i=k++([32,61,32]++(34 :: (s++34 :: 10 :: r))):=by rw[h];simp[ln,sv]
 have d1:l.drop (i+k.length+3)=34 :: (s++34 :: 10 :: r):=cO (cO h');have hv:=WC hs d1 (2*l.length+1) A.length k i 0 a;have d2:=cO (a:=34 :: (s++[34])) (l:=l) (i:=i+k.length+3) (r:=10 :: r) (by rw[d1];simp);have yO:=N8 (own:=own) (r:=r) hk (yN k hp).2 h' rfl (by rw[Iq ha];exact hn) hv (by rw[<-d2];simp only[List.length_cons,List.length_append,List.length_nil];rfl);have e:i+k.length+3+s.length+2+1=i+(ln k (sv s)).length:=by
  simp only[ln,sv,List.length_cons,List.length_append,List.length_nil];omega
 rw[e]at yO;obtain⟨c,kr,hc,-⟩:=Dw k;rw[hk]at hc;refine⟨_,Dv yO (by rw[hc]at h';exact Iu h') (by simp only[ln,List.length_append,List.length_cons];omega),?_⟩;rw[wG,ha,add_mid];rfl
theorem aef{l:List UInt8}{i:Nat}{k r:List UInt8}{N:List (List UInt8)}{a A C:List Tn}{u:Tn}{own:List Nat}(ha:a.map np=A++u :: C)(hk:kt k=k)(hp:k.all pb=true)(hs:∀y∈N,y.all pb=true)(h:l.drop i=ln k (91 :: (jn N++[93]))++r)(hn:aG (A++u :: C) A.length k=none) :
  ∃b,Run l ⟨i,a,own,A.length⟩ ⟨i+(ln k (91 :: (jn N++[93]))).length,b,own,A.length⟩/\b.map np=A++⟨u.kd,u.ky,u.tx,u.nu,u.ks++[A.length+1+C.length],u.pl⟩ :: (C++(⟨1,k,[],0,List.range' (A.length+1+C.length+1) N.length,0⟩ :: N.map (tS []))):=by
 have h':l.drop i=k++([32,61,32]++(91 :: (jn N++93 :: 10 :: r))):=by rw[h];simp[ln]
 have d1:l.drop (i+k.length+3)=91 :: (jn N++93 :: 10 :: r):=cO (cO h');have d2:=cO (a:=[91]) d1;have hlen:=congrArg List.length d1;simp only[List.length_drop,List.length_cons,List.length_append,List.length_nil]at hlen;have hjl:N.length<=(jn N).length:=by
  have key:∀N:List (List UInt8),N.length<=(jt N).length:=fun N=>by
   induction N with
   | nil=>simp
   | cons y r ih=>simp only[jt,List.length_cons,List.length_append];omega
  cases N with
  | nil=>simp
  | cons y r=>have:=key r;simp only[jn,List.length_cons,List.length_append];omega
 obtain⟨b,hb1,hb2⟩:=WE (l:=l) a.length (10 :: r) N [] (2*l.length+1) (i+k.length+3+1) (addN a A.length ⟨1,k,[],0,[],i⟩) hs (Or.inl rfl) d2 (by omega);have hv:val l (2*l.length+2) (i+k.length+3) A.length k i 0 a=.ok (i+k.length+3+1+(jn N).length+1,b):=by
  have hx:nx l (i+k.length+3)=91:=aec d1;rw[x9,hx,if_neg (by decide),if_neg (by decide),if_neg (by decide),if_pos rfl,if_neg (by decide),hb1];rfl
 have d3:=cO (a:=91 :: (jn N++[93])) (l:=l) (i:=i+k.length+3) (r:=10 :: r) (by rw[d1];simp);have yO:=N8 (own:=own) (r:=r) hk (yN k hp).2 h' rfl (by rw[Iq ha];exact hn) hv (by rw[<-d3];simp only[List.length_cons,List.length_append,List.length_nil];congr 1;omega);have e:i+k.length+3+1+(jn N).length+1+1=i+(ln k (91 :: (jn N++[93]))).length:=by
  simp only[ln,List.length_cons,List.length_append,List.length_nil];omega
 rw[e]at yO;obtain⟨c,kr,hc,-⟩:=Dw k;rw[hk]at hc;refine⟨_,Dv yO (by rw[hc]at h';exact Iu h') (by simp only[ln,List.length_append,List.length_cons];omega),?_⟩;have hal:a.length=A.length+1+C.length:=by
  have:=congrArg List.length ha;simp only[List.length_map,List.length_append,List.length_cons]at this;omega
 have hA:∀v:Tn,(A++v :: C).length=a.length:=fun v=>by rw[hal];simp only[List.length_append,List.length_cons];omega
 rw[hb2,wG,ha,add_mid];have:=WG (A++⟨u.kd,u.ky,u.tx,u.nu,u.ks++[A.length+1+C.length],u.pl⟩ :: C) N ⟨1,k,[],0,[],0⟩ [] rfl;rw[hA]at this;rw[show np ⟨1,k,[],0,[],i⟩=⟨1,k,[],0,[],0⟩ from rfl];simp only[List.append_assoc,List.cons_append,List.nil_append]at this ⊢;rw[this];simp only[List.length_nil,hal,Nat.add_zero];rfl
def wY(x:En):Prop:=x.dg.data.toList.all pb=true/\x.nm.data.toList.all pb=true/\x.ve.data.toList.all pb=true/\∀y∈x.nd,y.data.toList.all pb=true
def tV(x:En):List (List UInt8):=x.nd.map (·.data.toList)
def qo(x:En):List UInt8:=ln lJ (sv x.dg.data.toList)++(ln lK (sv x.nm.data.toList)++(ln kW (91 :: (jn (tV x)++[93]))++ln kH (sv x.ve.data.toList)))
theorem aeg{l:List UInt8}{i:Nat}{a A:List Tn}{own:List Nat}{x:En}{r:List UInt8}(ha:a.map np=A++[fJ []])(hx:wY x)(h:l.drop i=qo x++r):∃b,Run l ⟨i,a,own,A.length⟩ ⟨i+(qo x).length,b,own,A.length⟩/\b.map np=A++iI A.length x:=by
 unfold qo at h;simp only[List.append_assoc]at h;obtain⟨b1,r1,n1⟩:=N9 (own:=own) ha (by decide) (by decide) hx.1 h (Ir A [] _ lJ (fun q hq=>by simp[fJ]at hq));have h2:=cO h;obtain⟨b2,r2,n2⟩:=N9 (own:=own) n1 (by decide) (by decide) hx.2.1 h2 (Ir A _ _ lK (fun q hq=>by
  simp only[fJ,List.nil_append,List.mem_singleton,List.length_nil]at hq;exact⟨0,_,hq,rfl,show lJ≠lK by decide⟩))
 have h3:=cO h2;obtain⟨b3,r3,n3⟩:=aef (own:=own) (N:=tV x) n2 (by decide) (by decide) (fun y hy=>by
  obtain⟨z,hz,rfl⟩:=List.mem_map.1 hy;exact hx.2.2.2 z hz) h3 (Ir A _ _ kW (fun q hq=>by
  simp only[fJ,List.nil_append,List.length_nil,List.length_append,List.length_cons,List.cons_append,List.mem_cons,List.not_mem_nil,or_false]at hq
  rcases hq with hq|hq
  ·exact⟨0,_,hq,rfl,show lJ≠kW by decide⟩
  ·exact⟨1,_,hq,rfl,show lK≠kW by decide⟩))
 have h4:=cO h3;obtain⟨b4,r4,n4⟩:=N9 (own:=own) n3 (by decide) (by decide) hx.2.2.1 h4 (Ir A _ _ kH (fun q hq=>by
  simp only[fJ,List.nil_append,List.length_nil,List.length_append,List.length_cons,List.cons_append,List.mem_cons,List.not_mem_nil,or_false]at hq
  rcases hq with hq|hq|hq
  ·exact⟨0,_,hq,rfl,show lJ≠kH by decide⟩
  ·exact⟨1,_,hq,rfl,show lK≠kH by decide⟩
  ·exact⟨2,_,hq,rfl,show kW≠kH by decide⟩))
 refine⟨b4,?_,?_⟩
 ·have:=((r1.trans r2).trans r3).trans r4;rw[show i+(qo x).length=i+(ln lJ (sv x.dg.data.toList)).length+(ln lK (sv x.nm.data.toList)).length+(ln kW (91 :: (jn (tV x)++[93]))).length+(ln kH (sv x.ve.data.toList)).length by unfold qo;simp only[List.length_append];omega];exact this
 ·rw[n4];unfold iI tV;simp only[fJ,List.nil_append,List.length_nil,List.length_append,List.length_cons,List.length_map,List.cons_append,List.map_map,List.append_assoc,Nat.add_zero,Nat.zero_add];rw[show A.length+1+(1+1)+1=A.length+1+3 by omega,show A.length+1+(x.nd.length+1+1+1)=A.length+1+(3+x.nd.length) by omega];rfl
theorem aeh{l:List UInt8}{i now:Nat}{a A:List Tn}{own:List Nat}{r:List UInt8}(he:∀p,∃b,iL a 0 iC p=.ok (A.length,b)/\b.map np=A++[fJ []])(h:l.drop i=[91,91]++iC++[93,93,10]++r):∃b,Run l ⟨i,a,own,now⟩ ⟨i+12,b,A.length :: own,A.length⟩/\b.map np=A++[fJ []]:=by
 obtain⟨b,hb⟩:=Classical.axiomOfChoice he;have hkk:kt iC=iC:=by decide
 obtain⟨p,hp⟩:=acM (l:=l) (i:=i) (a:=a) (own:=own) (now:=now) (t':=0) (t1:=A.length) (K:=[]) (k:=iC) (dbl:=true) (r:=r) (b:=b) (fun x hx=>by
  rw[List.nil_append,List.mem_singleton]at hx;rw[hx];exact(yN iC (by decide)).2) rfl (fun p=>by rw[if_pos rfl];exact(hb p).1) (by rw[h];show _=[91,91]++kt iC++[93,93,10]++r;rw[hkk])
 have e:i+(oU true++jk ([]++[iC])++Ag true).length=i+12:=by
  show i+([91,91]++kt iC++[93,93,10]).length=i+12;rw[hkk];rfl
 rw[e]at hp;exact⟨b p,Dv hp (Iu (c:=91) h) (show i<i+12 by omega),(hb p).2⟩
theorem aei{es:List En}{a:List Tn}(ha:a.map np=lL es):∃A:List Tn,(∀p,∃b,iL a 0 iC p=.ok (A.length,b)/\b.map np=A++[fJ []])/\∀x,A++iI A.length x=lL (es++[x]):=by
 have hal:=congrArg List.length ha;rw[List.length_map]at hal
 by_cases h0:es=[]
 ·subst h0;refine⟨[fJ [1,2],lZ,pz [3]],fun p=>?_,fun x=>?_⟩
  ·have h1:aG a 0 iC=none:=by rw[Iq ha];rfl
   have hl2:a.length=2:=by rw[hal];rfl
   refine⟨_,by unfold iL;rw[h1,hl2];rfl,?_⟩;rw[wG,wG,ha];rfl
  ·simp[lL,dU,dP]
 ·have ha':a.map np=fJ [1,2] :: lZ :: pz (dU 3 es) :: dP 3 es:=by rw[ha,lL,if_neg h0]
  have hl2:a.length=3+(dP 3 es).length:=by
   have:=congrArg List.length ha';simp only[List.length_map,List.length_cons]at this;omega
  refine⟨fJ [1,2] :: lZ :: pz (dU 3 es++[3+(dP 3 es).length]) :: dP 3 es,fun p=>?_,fun x=>?_⟩
  ·have h1:aG a 0 iC=some 2:=by rw[Iq ha'];rfl
   have h2:ag a 2=2:=by rw[<-Dy,ha'];rfl
   refine⟨addN a 2 ⟨0,[],[],0,[],p⟩,?_,?_⟩
   ·unfold iL;rw[h1];simp only[];rw[if_pos h2,hl2];simp only[List.length_cons];rw[show(dP 3 es).length+1+1+1=3+(dP 3 es).length by omega]
   ·rw[wG,ha'];show(fJ [1,2] :: lZ :: pz (dU 3 es++[(fJ [1,2] :: lZ :: pz (dU 3 es) :: dP 3 es).length]) :: dP 3 es)++[fJ []]=_;simp only[List.length_cons];rw[show(dP 3 es).length+1+1+1=3+(dP 3 es).length by omega]
  ·rw[lL,if_neg (by simp),WI,WH];simp only[List.length_cons,List.cons_append];rw[show(dP 3 es).length+1+1+1=3+(dP 3 es).length by omega]
def jw(x:En):List UInt8:=10 :: ([91,91]++iC++[93,93,10]++qo x)
theorem WJ{l:List UInt8}(r:List UInt8):∀(M es:List En) (i now:Nat) (a:List Tn) (own:List Nat),(∀x∈M,wY x)->a.map np=lL es->l.drop i=M.flatMap jw++r->∃b own' now',Run l ⟨i,a,own,now⟩ ⟨i+(M.flatMap jw).length,b,own',now'⟩/\b.map np=lL (es++M)
 | [],es,i,now,a,own,_,ha,_=>⟨a,own,now,Run.refl _ _,by rw[List.append_nil];exact ha⟩
 | x :: M,es,i,now,a,own,hM,ha,h=>by
  obtain⟨A,h1,h2⟩:=aei ha;have h':l.drop i=10 :: ([91,91]++iC++[93,93,10]++(qo x++(M.flatMap jw++r))):=by rw[h];simp[jw]
  have r1:=Dv (acK h' a own now) (Iu h') (Nat.lt_succ_self i);have d1:l.drop (i+1)=[91,91]++iC++[93,93,10]++(qo x++(M.flatMap jw++r)):=cO (a:=[10]) h';obtain⟨b2,r2,n2⟩:=aeh (now:=now) (own:=own) h1 d1;have d2:=cO d1;obtain⟨b3,r3,n3⟩:=aeg (own:=A.length :: own) n2 (hM x (by simp)) d2;have d3:=cO d2;obtain⟨b,own',now',r4,n4⟩:=WJ r M (es++[x]) _ A.length b3 (A.length :: own) (fun y hy=>hM y (by simp[hy])) (by rw[n3,h2]) d3;refine⟨b,own',now',?_,by rw[n4,List.append_assoc];rfl⟩;have:=(r1.trans (r2.trans r3)).trans r4;rw[show i+((x :: M).flatMap jw).length=i+1+12+(qo x).length+(M.flatMap jw).length by simp[jw,iC];omega];exact this
def rO(M:List En):List UInt8:=ln jv [49]++M.flatMap jw
theorem Iw:Lib.itoa 1=[49]:=by
 rw[Jd (by decide)];show Lib.decDigits 1=[49];unfold Lib.decDigits;rfl
theorem aej(M:List En)(hp:∀x∈M,wY x)(hl:(rO M).length<=100000):∃ns,jf (rO M)=.ok ns/\ns.map np=lL M:=by
 obtain⟨l,hL⟩:=zN (rO M);have h:l.drop 0=ln jv [49]++(M.flatMap jw++[]):=by rw[<-hL];simp[rO]
 have h':l.drop 0=jv++([32,61,32]++(49 :: 10 :: (M.flatMap jw++[]))):=by rw[h];simp[ln]
 have d1:=cO (cO h');obtain⟨i1,i2⟩:=acC (l:=l) (n:=1) (c:=10) (r:=M.flatMap jw++[]) (by decide) (by decide) (by rw[d1,Iw];rfl);rw[Iw]at i1;have hv:val l (2*l.length+2) (0+jv.length+3) 0 jv 0 0 [fJ []]=.ok (0+jv.length+3+1,addN [fJ []] 0 ⟨4,jv,[],1,[],0⟩):=by
  have hx:nx l (0+jv.length+3)=49:=aeb d1;rw[x9,hx,if_neg (by decide),if_pos (by decide),show jR l (0+jv.length+3)=_ from i1];rfl
 have d2:=cO (a:=[49]) d1;have yO:=N8 (own:=[]) (now:=0) (a:=[fJ []]) (by decide) (yN jv (by decide)).2 h' rfl rfl hv d2;have r1:=Dv yO (by rw[List.drop_zero]at h';rw[h'];simp[jv]) (by simp);obtain⟨b,own',now',r2,n2⟩:=WJ (l:=l) [] M [] _ 0 (addN [fJ []] 0 ⟨4,jv,[],1,[],0⟩) [] hp rfl (cO h);have r3:=r1.trans r2;obtain⟨f',hf,he⟩:=r3 (l.length+1) (by simp);refine⟨b,?_,n2⟩;rw[hL]at hl ⊢;rw[GM,if_neg (by omega)];rw[show(⟨0,[⟨0,[],[],0,[],0⟩],[],0⟩:Sd)=⟨0,[fJ []],[],0⟩ from rfl,he];have hend:l.length=0+(ln jv [49]).length+(M.flatMap jw).length:=by
  rw[<-hL];simp[rO]
 match f',hf with
 | f+1,hf =>
  rw[Cm,if_pos (by rw[hend];exact Nat.le_refl _)];rfl
theorem WL(N:List ByteArray):∀i,i<=N.length->(dS N i=false↔(N.take i).Nodup)
 | 0,_=>by simp[dS]
 | i+1,h=>by
  have ih:=WL N i (by omega);have hi:i<N.length:=by omega
  rw[Aw N i hi,Bool.or_eq_false_iff,ih,List.take_succ_eq_append_getElem hi,List.nodup_append];have e1:(N.take i).any (fun y=>decide (y=N[i]))=false↔∀a∈N.take i,a≠N[i]:=by
   rw[List.any_eq_false];constructor
   ·intro h a ha e;exact h a ha (by simpa using e)
   ·intro h a ha e;exact h a ha (by simpa using e)
  rw[e1];constructor
  ·rintro⟨h1,h2⟩;exact⟨h1,by simp,fun a ha b hb=>by rw[List.mem_singleton.1 hb];exact h2 a ha⟩
  ·rintro⟨h1,-,h3⟩;exact⟨h1,fun a ha=>h3 a ha _ (List.mem_singleton.2 rfl)⟩
theorem WM(N:List ByteArray):dS N N.length=false↔N.Nodup:=by
 have:=WL N N.length (Nat.le_refl _)
 rwa [List.take_length]at this
theorem Iy(L:List En)(n:ByteArray):az L n=true↔n∈L.map (·.nm):=by
 unfold az;rw[List.any_eq_true,List.mem_map];simp
theorem WN(L:List En)(i:Nat)(x:En):nX L i x=0↔i<50/\x.nd.length<=20/\ed x=true/\az (L.take i) x.nm=false/\dS x.nd x.nd.length=false/\x.nd.all (az L)=true:=by
 unfold nX
 by_cases h1:50<=i\/20<x.nd.length
 ·rw[if_pos h1];exact⟨fun h=>absurd h (by decide),fun h=>by omega⟩
 ·rw[if_neg h1]
  by_cases h2:ed x=false
  ·rw[if_pos h2];exact⟨fun h=>absurd h (by decide),fun h=>by rw[h.2.2.1]at h2;cases h2⟩
  ·rw[if_neg h2]
   by_cases h3:az (L.take i) x.nm=true\/dS x.nd x.nd.length=true
   ·rw[if_pos h3];refine⟨fun h=>absurd h (by decide),fun h=>?_⟩
    rcases h3 with h3|h3
    ·rw[h.2.2.2.1]at h3;cases h3
    ·rw[h.2.2.2.2.1]at h3;cases h3
   ·rw[if_neg h3]
    by_cases h4:x.nd.all (az L)=true
    ·rw[if_pos h4];exact⟨fun _=>⟨by omega,by omega,by simpa using h2,by simpa using fun e=>h3 (Or.inl e),by simpa using fun e=>h3 (Or.inr e),h4⟩,fun _=>rfl⟩
    ·rw[if_neg h4];exact⟨fun h=>absurd h (by decide),fun h=>absurd h.2.2.2.2.2 h4⟩
def uN(L:List En):Prop:=L.length<=50/\(L.map (·.nm)).Nodup/\∀x∈L,x.nd.length<=20/\ed x=true/\x.nd.Nodup/\∀y∈x.nd,y∈L.map (·.nm)
theorem Oa(L:List En):(bJ L L.length).1=0↔uN L:=by
 constructor
 ·intro h;obtain⟨s1,s2,s3⟩:=NR L h;refine⟨s1,s3,fun x hx=>?_⟩;obtain⟨i,hi,rfl⟩:=List.getElem_of_mem hx;have:=Vy L h i hi;rw[Eb L i hi]at this;obtain⟨-,k2,k3,-,k5,k6⟩:=(WN L i _).1 this;exact⟨k2,k3,(WM _).1 k5,fun y hy=>(Iy L y).1 (List.all_eq_true.1 k6 y hy)⟩
 ·rintro⟨h1,h2,h3⟩;have h0:∀i,i<L.length->fZ L i=0:=fun i hi=>by
   rw[Eb L i hi];obtain⟨k1,k2,k3,k4⟩:=h3 L[i] (List.getElem_mem _);refine(WN L i _).2 ⟨by omega,k1,k2,?_,(WM _).2 k3,List.all_eq_true.2 fun y hy=>(Iy L y).2 (k4 y hy)⟩;unfold az;rw[List.any_eq_false];intro x hx e;obtain⟨j,hj,rfl⟩:=List.mem_take_iff_getElem.1 hx;have:=List.pairwise_iff_getElem.1 h2 j i (by simp;omega) (by simp;omega) (by omega);simp only[List.getElem_map]at this;exact this (by simpa using e)
  have key:∀n,n<=L.length->bJ L n=(0,0):=by
   intro n
   induction n with
   | zero=>intro _;rfl
   | succ n ih=>intro hn;rw[bJ,if_pos (h0 _ (by omega))];exact ih (by omega)
  rw[key _ (Nat.le_refl _)]
theorem aek{L L':List En}(hp:L'.Perm L)(h:uN L):uN L':=by
 obtain⟨h1,h2,h3⟩:=h;refine⟨by rw[hp.length_eq];exact h1,((hp.map (·.nm)).nodup_iff).2 h2,fun x hx=>?_⟩;obtain⟨k1,k2,k3,k4⟩:=h3 x (hp.subset hx);exact⟨k1,k2,k3,fun y hy=>(hp.map (·.nm)).symm.subset (k4 y hy)⟩
theorem WO{L:List En}(h:(bJ L L.length).1=0):iU L=ny L:=by unfold iU;rw[if_pos h]
open Go.RowKit Go.Joins
def sub(ns:List Tn):Nat->Nat->List Nat
 | 0,_=>[]
 | f+1,q=>q :: (ax ns q).flatMap (sub ns f)
theorem EC{ns:List Tn}{own:List Nat}(E:Ef ns own):∀(f q x:Nat),x∈sub ns f q->q<=x/\(q<ns.length->x<ns.length)
 | 0,q,x,h=>by cases h
 | f+1,q,x,h=>by
  rw[sub,List.mem_cons,List.mem_flatMap]at h
  rcases h with rfl|⟨k,hk,hx⟩
  ·exact⟨Nat.le_refl _,id⟩
  ·have h1:=EC E f k x hx;have h2:=E.gt _ _ hk;exact⟨by omega,fun _=>h1.2 (E.wf.lt _ _ hk)⟩
theorem Ob{ns:List Tn}:∀(f q x:Nat),x∈sub ns f q->x=q\/∃y∈sub ns f q,x∈ax ns y
 | 0,q,x,h=>by cases h
 | f+1,q,x,h=>by
  rw[sub,List.mem_cons,List.mem_flatMap]at h
  rcases h with rfl|⟨k,hk,hx⟩
  ·exact Or.inl rfl
  ·right
   rcases Ob f k x hx with rfl|⟨y,hy,hxy⟩
   ·exact⟨q,by rw[sub];simp,hk⟩
   ·exact⟨y,by rw[sub,List.mem_cons,List.mem_flatMap];exact Or.inr ⟨k,hk,hy⟩,hxy⟩
theorem ael{ns:List Tn}{own:List Nat}(E:Ef ns own){p k k':Nat}(hk:k∈ax ns p)(hk':k'∈ax ns p)(hne:k≠k')(f:Nat):∀n x,x<=n->x∈sub ns f k->x∈sub ns f k'->False:=by
 have low:∀k,k∈ax ns p->¬p∈sub ns f k:=fun k hk h=>by
  have:=(EC E f k p h).1;have:=E.gt _ _ hk;omega
 intro n
 induction n with
 | zero =>
  intro x hx h _;have h1:=(EC E f k x h).1;have h2:=E.gt _ _ hk;omega
 | succ n ih =>
  intro x hx h h'
  rcases Ob f k x h with e|⟨y,hy,hxy⟩<;>rcases Ob f k' x h' with e'|⟨y',hy',hxy'⟩
  ·exact hne (e.symm.trans e')
  ·rw[e]at hxy';have:=E.wf.par _ _ _ hk hxy';subst this;exact low k' hk' hy'
  ·rw[e']at hxy;have:=E.wf.par _ _ _ hk' hxy;subst this;exact low k hk hy
  ·have:=E.wf.par _ _ _ hxy hxy';subst this;have:=E.gt _ _ hxy;exact ih y (by omega) hy hy'
theorem WP{ns:List Tn}{own:List Nat}(E:Ef ns own):∀(f q:Nat),(sub ns f q).Nodup
 | 0,q=>List.nodup_nil
 | f+1,q=>by
  rw[sub,List.nodup_cons];refine⟨fun h=>?_,?_⟩
  ·rw[List.mem_flatMap]at h;obtain⟨k,hk,hx⟩:=h;have:=(EC E f k q hx).1;have:=E.gt _ _ hk;omega
  ·unfold List.Nodup;rw[List.pairwise_flatMap];refine⟨fun k _=>WP E f k,?_⟩;refine List.Pairwise.imp_of_mem ?_ (E.nod q);intro a b ha hb hab x hx y hy hxy;subst hxy;exact ael E ha hb hab f x x (Nat.le_refl _) hx hy
def cnt(ns:List Tn)(f q:Nat):Nat:=(sub ns f q).length
theorem Oc(ns:List Tn)(f q:Nat):cnt ns (f+1) q=1+((ax ns q).map (cnt ns f)).sum:=by
 unfold cnt;rw[sub,List.length_cons,List.length_flatMap];omega
theorem cnt_le{ns:List Tn}{own:List Nat}(E:Ef ns own)(f q:Nat)(hq:q<ns.length):cnt ns f q<=ns.length :=
 Lt _ _ (WP E f q) fun x hx=>(EC E f q x hx).2 hq
theorem aem{ns:List Tn}{own:List Nat}(E:Ef ns own):∀(f f' t:Nat),t<ns.length->ns.length-t<=f->ns.length-t<=f'->cnt ns f t=cnt ns f' t:=by
 intro f
 induction f with
 | zero=>intro f' t ht h;omega
 | succ f ih =>
  intro f' t ht h h';obtain⟨f',rfl⟩:∃g,f'=g+1:=⟨f'-1,by omega⟩;rw[Oc,Oc];congr 2;refine List.map_congr_left fun q hq=>?_
  have h1:=E.gt _ _ hq;have h2:=E.wf.lt _ _ hq;exact ih f' q h2 (by omega) (by omega)
def mw(ns:List Tn)(q:Nat):Nat:=2000000*cnt ns ns.length q
theorem Oe{ns:List Tn}{own:List Nat}(E:Ef ns own)(q:Nat)(hq:q<ns.length):mw ns q=2000000+((ax ns q).map (mw ns)).sum:=by
 unfold mw;obtain⟨f,hf⟩:∃f,ns.length=f+1:=⟨ns.length-1,by omega⟩;have e:cnt ns ns.length q=1+((ax ns q).map (cnt ns ns.length)).sum:=by
  conv=>lhs;rw[hf,Oc]
  congr 2;refine List.map_congr_left fun k hk=>?_
  have h1:=E.gt _ _ hk;have h2:=E.wf.lt _ _ hk;exact aem E _ _ k h2 (by omega) (by omega)
 rw[e,Nat.mul_add,Nat.mul_one];congr 1;have:∀l:List Nat,2000000*(l.map (cnt ns ns.length)).sum=(l.map fun q=>2000000*cnt ns ns.length q).sum:=fun l=>by
  induction l with
  | nil=>rfl
  | cons a r ih=>simp only[List.map_cons,List.sum_cons,Nat.mul_add,ih]
 exact this _
theorem WQ:∀(b:Bool) (l:List (List UInt8)),(cm b l).length<=(l.map fun x=>x.length+2).sum
 | b,[]=>by simp[cm]
 | b,a :: r=>by
  rw[cm,List.length_append,List.length_append,List.map_cons,List.sum_cons];have:=WQ false r;have h2:(if b=true then([]:List UInt8) else[44,32]).length<=2:=by split<;>simp
  omega
theorem Og{α:Type}(f g:α->Nat):∀l:List α,(∀x∈l,f x<=g x)->(l.map f).sum<=(l.map g).sum
 | [],_=>Nat.le_refl _
 | a :: r,h=>by
  rw[List.map_cons,List.map_cons,List.sum_cons,List.sum_cons];have:=Og f g r fun x hx=>h x (by simp[hx])
  have:=h a (by simp);omega
theorem aen{ns:List Tn}{own:List Nat}(E:Ef ns own)(T:Tv 100000 ns 100000):∀(f q:Nat),q<ns.length->ns.length-q<=f->(vT ns f q).length+1000000<=mw ns q:=by
 intro f
 induction f with
 | zero=>intro q hq h;omega
 | succ f ih =>
  intro q hq h;have hx:=T.txt ns[q] (List.getElem_mem hq);rw[Tf ns f q hq,Oe E q hq,vX hq];split
  ·have h1:=WQ true (ns[q].ks.map (vT ns f));rw[List.map_map]at h1;have h2:=Og (fun k=>(vT ns f k).length+2) (mw ns) ns[q].ks (fun k hk=>by
    have hk':k∈ax ns q:=by rw[vX hq];exact hk
    have g1:=E.gt _ _ hk';have:=ih k (E.wf.lt _ _ hk') (by omega);omega)
   have e:((fun x:List UInt8=>x.length+2) ∘ vT ns f)=fun k=>(vT ns f k).length+2:=rfl
   rw[e]at h1;simp only[List.length_append,List.length_cons,List.length_nil];omega
  ·split
   ·have:=(KH ns[q].tx).2;omega
   ·split
    ·have:=Lib.itoa_length_le ns[q].nu (by omega) (by omega);omega
    ·split
     ·have:(Lib.formatBool (decide (ns[q].nu=1))).length<=5:=by cases decide (ns[q].nu=1)<;>decide
      omega
     ·simp;omega
def ps(ns:List Tn)(q:Nat):Nat:=((ns.take q).map fun x=>6*x.ky.length+3).sum
theorem WR(ns:List Tn)(q:Nat)(hq:q<ns.length):ps ns (q+1)=ps ns q+(6*ns[q].ky.length+3):=by
 unfold ps;rw[List.take_succ_eq_append_getElem hq,List.map_append,List.sum_append];simp
theorem WS(ns:List Tn){p q:Nat}(h:p<=q):ps ns p<=ps ns q:=by
 obtain⟨d,rfl⟩:∃d,q=p+d:=⟨q-p,by omega⟩
 induction d with
 | zero=>exact Nat.le_refl _
 | succ d ih =>
  by_cases hl:p+d<ns.length
  ·have:=WR ns (p+d) hl;have:=ih (by omega);show _<=ps ns (p+d+1);omega
  ·have e:ps ns (p+(d+1))=ps ns (p+d):=by
    unfold ps;rw[List.take_of_length_le (by omega),List.take_of_length_le (by omega)]
   rw[e];exact ih (by omega)
theorem aeo{ns:List Tn}(T:Tv 100000 ns 100000)(hn:ns.length<=200001)(q:Nat):ps ns q<=1200003:=by
 have h1:ps ns q<=ps ns (q+ns.length):=WS ns (by omega);have e:ps ns (q+ns.length)=(ns.map fun x=>6*x.ky.length+3).sum:=by
  unfold ps;rw[List.take_of_length_le (by omega)]
 have h2:∀l:List Tn,(l.map fun x=>6*x.ky.length+3).sum=6*(l.map fun x=>x.ky.length).sum+3*l.length:=fun l=>by
  induction l with
  | nil=>rfl
  | cons a r ih=>simp only[List.map_cons,List.sum_cons,List.length_cons,ih];omega
 have:=T.sum;rw[e,h2]at h1;omega
def Pw(ns:List Tn)(td:List Vt):Prop:=∀v∈td,v.t<ns.length/\∃k,k<=v.t/\v.ky=aW ns k/\v.ab<=ps ns k
theorem WU{α β:Type}(f:α->List β)(g:β->Nat):∀l:List α,((l.flatMap f).map g).sum=(l.map fun a=>((f a).map g).sum).sum
 | []=>rfl
 | a :: r=>by rw[List.flatMap_cons,List.map_append,List.sum_append,List.map_cons,List.sum_cons,WU f g r]
theorem WV{ns:List Tn}{own:List Nat}(E:Ef ns own)(T:Tv 100000 ns 100000)(t pl:Nat)(ht:t<ns.length):(dK ns t).length+((dm ns t pl).map fun v=>mw ns v.t).sum+2000000<=mw ns t:=by
 rw[Oe E t ht];have e1:(dK ns t).length=((dQ ns t).map fun k=>(gz ns k).length).sum:=by
  unfold dK;rw[List.length_flatMap]
 have e2:((dm ns t pl).map fun v=>mw ns v.t).sum=((dQ ns t).map fun k=>((vs1 ns pl k).map fun v=>mw ns v.t).sum).sum:=by
  unfold dm;rw[WU,List.map_reverse,List.sum_reverse]
 have e3:((ax ns t).map (mw ns)).sum=((dQ ns t).map (mw ns)).sum:=((xG ns t).map _).sum_nat.symm;have add:∀l:List Nat,(l.map fun k=>(gz ns k).length).sum+(l.map fun k=>((vs1 ns pl k).map fun v=>mw ns v.t).sum).sum=(l.map fun k=>(gz ns k).length+((vs1 ns pl k).map fun v=>mw ns v.t).sum).sum:=fun l=>by
  induction l with
  | nil=>rfl
  | cons a r ih=>simp only[List.map_cons,List.sum_cons];omega
 rw[e1,e2,add,e3];have:=Og (fun k=>(gz ns k).length+((vs1 ns pl k).map fun v=>mw ns v.t).sum) (mw ns) (dQ ns t) (fun k hk=>by
  have hkt:=zV hk;have hkl:=E.wf.lt _ _ hkt;unfold gz vs1
  by_cases h0:ag ns k=0
  ·rw[if_pos (Or.inl h0),if_pos h0];simp
  ·by_cases h2:ag ns k=2
   ·rw[if_pos (Or.inr h2),if_neg h0,if_pos h2,List.map_map,Oe E k hkl];have e:((fun v:Vt=>mw ns v.t) ∘ fun m=>(⟨m,aW ns k,true,pl⟩:Vt))=mw ns:=rfl;rw[e,List.map_reverse,List.sum_reverse];simp
   ·rw[if_neg (by rintro(h|h);exact h0 h;exact h2 h),if_neg h0,if_neg h2];have h3:=aen E T ns.length k hkl (by omega);have h4:=(GN (aW ns k)).2;rw[vW hkl]at h4 ⊢;have h5:=(T.txt ns[k] (List.getElem_mem hkl)).1;simp only[List.length_append,List.length_cons,List.length_nil,List.map_nil,List.sum_nil];omega)
 omega
theorem aep(out path:List UInt8)(dbl:Bool):(iR out path dbl).length<=path.length+6:=by
 unfold iR;have h1:(if out=[] then([]:List UInt8) else[10]).length<=1:=by split<;>simp
 have h2:(if dbl=true then([91,91]:List UInt8) else[91]).length<=2:=by split<;>simp
 have h3:(if dbl=true then([93,93,10]:List UInt8) else[93,10]).length<=3:=by split<;>simp
 simp only[List.length_append];omega
theorem WX{ns:List Tn}{own:List Nat}(E:Ef ns own)(T:Tv 100000 ns 100000)(hn:ns.length<=200001):∀(f:Nat) (out path:List UInt8) (td:List Vt) (R:List UInt8),Pw ns td->lH ns f out path td=some R->R.length<=out.length+(td.map fun v=>mw ns v.t).sum
 | 0,_,_,_,_,_,h=>by cases h
 | f+1,out,path,td,R,hw,h=>by
  rcases Hg td with rfl|⟨r,x,rfl⟩
  ·rw[Hf]at h;cases h;simp
  ·rw[Dp]at h;obtain⟨hxl,k,hk1,hk2,hk3⟩:=hw x (by simp);have hkl:k<ns.length:=by omega
   have hp:(bu path x.ab x.ky).length<=ps ns (k+1):=by
    unfold bu;rw[List.length_append,List.length_append,List.length_take,WR ns k hkl];have h1:(if 0<x.ab then([46]:List UInt8) else[]).length<=1:=by split<;>simp
    have h2:=(GN x.ky).2;rw[hk2,vW hkl]at h2 ⊢;omega
   have hpm:=aeo T hn (k+1);have hb:=WV E T x.t (bu path x.ab x.ky).length hxl;have hh:=aep out (bu path x.ab x.ky) x.dbl;have ih:=WX E T hn f _ _ _ _ (fun v hv=>by
    rw[List.mem_append]at hv
    rcases hv with hv|hv
    ·exact hw v (by simp[hv])
    ·obtain⟨h1,k',h2,h3,h4⟩:=uF hv;have h5:=Dq E (Ae hv);have g1:=E.gt _ _ h2;refine⟨h5.2.1,k',?_,h3,?_⟩
     ·rcases h4 with⟨-,e⟩|⟨-,e⟩
      ·omega
      ·have:=E.gt _ _ e;omega
     ·rw[h1];have:=WS ns (p:=k+1) (q:=k') (by omega);omega) h
   rw[List.map_append,List.sum_append]at ih ⊢;simp only[List.length_append,List.map_cons,List.map_nil,List.sum_cons,List.sum_nil]at ih ⊢;omega
theorem aeq{ns:List Tn}{own:List Nat}(E:Ef ns own)(T:Tv 100000 ns 100000)(hn:ns.length<=200001):(oQ ns).length<=70368744177664:=by
 have h:=WX E T hn _ _ _ _ _ (fun v hv=>by
  obtain⟨h1,k',h2,h3,h4⟩:=uF hv;have h5:=Dq E (Ae hv);refine⟨h5.2.1,k',?_,h3,by rw[h1];exact Nat.zero_le _⟩
  rcases h4 with⟨-,e⟩|⟨-,e⟩
  ·omega
  ·have:=E.gt _ _ e;omega) (Lu E)
 have hb:=WV E T 0 0 E.root.1;have hc:=cnt_le E ns.length 0 E.root.1;unfold mw at hb;have hm:2000000*cnt ns ns.length 0<=2000000*200001:=Nat.mul_le_mul_left _ (by omega);have e:∀v:Vt,mw ns v.t=2000000*cnt ns ns.length v.t:=fun _=>rfl
 simp only[e]at h;omega
open Go.RowKit Go.Joins
theorem Oh(ns:List Tn)(t:Nat):aW (ns.map np) t=aW ns t:=by
 unfold aW;rw[List.getElem?_map]
 cases ns[t]?<;>rfl
theorem Iz(ns:List Tn)(t:Nat):ax (ns.map np) t=ax ns t:=by
 unfold ax;rw[List.getElem?_map]
 cases ns[t]?<;>rfl
theorem WY(ns:List Tn)(t:Nat):dQ (ns.map np) t=dQ ns t:=by
 unfold dQ;rw[Iz];simp only[Oh]
theorem WZ(ns:List Tn):∀f t,vT (ns.map np) f t=vT ns f t
 | 0,t=>rfl
 | f+1,t=>by
  rw[vT,vT,List.getElem?_map]
  cases ns[t]? with
  | none=>rfl
  | some x =>
   have e:vT (ns.map np) f=vT ns f:=funext fun q=>WZ ns f q
   simp only[Option.map_some,np,e]
theorem aer(ns:List Tn):gz (ns.map np)=gz ns:=funext fun q=>by
 unfold gz;rw[Dy,Oh,List.length_map,WZ]
theorem aes(ns:List Tn)(t:Nat):dK (ns.map np) t=dK ns t:=by
 unfold dK;rw[WY,aer]
theorem aet(ns:List Tn)(pl:Nat):vs1 (ns.map np) pl=vs1 ns pl:=funext fun q=>by
 unfold vs1;simp only[Dy,Oh,Iz]
theorem aeu(ns:List Tn)(t pl:Nat):dm (ns.map np) t pl=dm ns t pl:=by
 unfold dm;rw[WY,aet]
open Go.RowKit Go.Joins
inductive jh where
 | root:jh
 | tabs:jh
 | key:Nat->jh
 | val:Nat->jh
structure Dr where
 lk:Nat->Option jh
 fm:Bool
 tb:List Nat
 es:List En
 wt:List (ByteArray × Nat)
def keepD(d:Dr)(ks:List Nat)(k:jh):Dr:=⟨fun q=>if q∈ks then some k else d.lk q,d.fm,d.tb,d.es,d.wt⟩
def gq(x:Tn):ByteArray:=⟨x.tx.toArray⟩
def takeD(x:Tn)(is:ByteArray->Bool):Int:=if ¬x.kd=3 then 7 else if is (gq x)=true then 0 else 2
def en0:En:=⟨⟨#[]⟩,⟨#[]⟩,⟨#[]⟩,[]⟩
def aT(es:List En)(e:Nat):En:=es[e]?.getD en0
def l7(d:Dr)(e:Nat)(y:En):Dr:=⟨d.lk,d.fm,d.tb,d.es.set e y,d.wt⟩
def rP(d:Dr)(x:Tn)(is:ByteArray->Bool)(e:Nat)(y:En):Except Int Dr:=if takeD x is=0 then .ok (l7 d e y) else .error (takeD x is)
noncomputable def jG(d:Dr)(x:Tn)(e:Nat):Except Int Dr :=
 if x.ky=lK then
  if takeD x nameB=0 then if az d.es (gq x)=true then .error 5 else .ok (l7 d e ⟨gq x,(aT d.es e).ve,(aT d.es e).dg,(aT d.es e).nd⟩) else .error (takeD x nameB)
 else if x.ky=kH then rP d x okV e ⟨(aT d.es e).nm,gq x,(aT d.es e).dg,(aT d.es e).nd⟩
 else if x.ky=lJ then rP d x o9 e ⟨(aT d.es e).nm,(aT d.es e).ve,gq x,(aT d.es e).nd⟩
 else if x.ky=kW/\x.kd=1 then .ok (keepD d x.ks (.val e)) else .error 7
noncomputable def pF(d:Dr)(x:Tn)(e:Nat):Except Int Dr :=
 if takeD x nameB=0 then
  if(aT d.es e).nd.any (fun y=>decide (y=gq x))=true then .error 5
  else if(aT d.es e).nd.length=20 then .error 4
  else .ok ⟨d.lk,d.fm,d.tb,d.es.set e ⟨(aT d.es e).nm,(aT d.es e).ve,(aT d.es e).dg,(aT d.es e).nd++[gq x]⟩,d.wt++[(gq x,x.pl)]⟩
 else .error (takeD x nameB)
noncomputable def gG(d:Dr)(q:Nat)(x:Tn):jh->Except Int Dr
 | .root=>if x.ky=jv then(if ¬x.kd=4 then .error 7 else if ¬x.nu=1 then .error 3 else .ok ⟨d.lk,true,d.tb,d.es,d.wt⟩) else if x.ky=iC/\x.kd=2 then .ok (keepD d x.ks .tabs) else .error 7
 | .tabs=>if d.tb.length=50 then .error 4 else .ok (keepD ⟨d.lk,d.fm,d.tb++[q],d.es++[en0],d.wt⟩ x.ks (.key d.es.length))
 | .key e=>jG d x e
 | .val e=>pF d x e
noncomputable def stepD(ns:List Tn)(q:Nat)(d:Dr):Rs Dr:=match ns[q]? with
 | none=>.ok d
 | some x=>match d.lk q with
  | none=>.ok d
  | some k=>match gG d q x k with
   | .error c=>.error (c,x.pl)
   | .ok d'=>.ok d'
noncomputable def iq(ns:List Tn):Nat->Dr->Rs Dr
 | 0,d=>.ok d
 | n+1,d=>match stepD ns (ns.length-(n+1)) d with
  | .error e=>.error e
  | .ok d'=>iq ns n d'
theorem Oi{ns:List Tn}{q:Nat}(d:Dr)(hq:q<ns.length):iq ns (ns.length-q) d=match stepD ns q d with | .error e=>.error e | .ok d'=>iq ns (ns.length-(q+1)) d':=by
 obtain⟨n,hn⟩:∃n,ns.length-q=n+1:=⟨ns.length-q-1,by omega⟩;rw[hn,show ns.length-(q+1)=n by omega];show(match stepD ns (ns.length-(n+1)) d with|Except.error e=>Except.error e|Except.ok d'=>iq ns n d')=_;rw[show ns.length-(n+1)=q by omega]
def IA(ns:List Tn)(q:Nat):Nat:=match ns[q]? with|some x=>x.pl|none=>0
def l9(ns:List Tn)(d:Dr):Int × Nat :=
 if d.fm=false then(6,0)
 else match d.tb.find? (fun q=>decide ((ax ns q).length<4)) with
  | some q=>(6,IA ns q)
  | none=>match d.wt.find? (fun y=>!az d.es y.1) with
   | some y=>(6,y.2)
   | none=>(0,0)
def iV:Dr:=⟨fun _=>none,false,[],[],[]⟩
noncomputable def xe(ns:List Tn):Rs (List En):=match iq ns ns.length (keepD iV (ax ns 0) .root) with
 | .error e=>.error e
 | .ok d=>if(l9 ns d).1=0 then .ok d.es else .error (l9 ns d)
theorem xg{ns:List Tn}{q:Nat}{d d':Dr}{x:Tn}{k:jh}(hx:ns[q]?=some x)(hk:d.lk q=some k)(hl:gG d q x k=.ok d'):iq ns (ns.length-q) d=iq ns (ns.length-(q+1)) d':=by
 rw[Oi d (List.getElem?_eq_some_iff.1 hx).1];unfold stepD;rw[hx];simp only[];rw[hk];simp only[];rw[hl]
theorem aev{ns:List Tn}{q:Nat}{d:Dr}(hq:q<ns.length)(hk:d.lk q=none):iq ns (ns.length-q) d=iq ns (ns.length-(q+1)) d:=by
 rw[Oi d hq];unfold stepD;rw[List.getElem?_eq_getElem hq];simp only[];rw[hk]
theorem uO{ns T:List Tn}(h:ns.map np=T){q:Nat}{y:Tn}(hy:T[q]?=some y):∃p,ns[q]?=some ⟨y.kd,y.ky,y.tx,y.nu,y.ks,p⟩:=by
 rw[<-h,List.getElem?_map]at hy;obtain⟨x,hx,e⟩:=Option.map_eq_some_iff.1 hy;rw[hx];obtain⟨a1,a2,a3,a4,a5,a6⟩:=x;exact⟨a6,by rw[<-e];rfl⟩
theorem IB(es:List En)(z:En):aT (es++[z]) es.length=z:=by
 unfold aT;rw[List.getElem?_append_right (Nat.le_refl _),Nat.sub_self];rfl
theorem IC(es:List En)(z y:En):(es++[z]).set es.length y=es++[y]:=by
 rw[List.set_append_right _ _ (Nat.le_refl _),Nat.sub_self];rfl
theorem ED(s:ByteArray)(kd:Int)(ky:List UInt8)(nu:Int)(ks:List Nat)(p:Nat):gq ⟨kd,ky,s.data.toList,nu,ks,p⟩=s:=by
 unfold gq;exact ByteArray.ext (by simp)
theorem IE(s:ByteArray)(is:ByteArray->Bool)(ky:List UInt8)(ks:List Nat)(p:Nat)(h:is s=true):takeD ⟨3,ky,s.data.toList,0,ks,p⟩ is=0:=by
 unfold takeD;rw[ED,if_neg (by simp),if_pos h]
theorem W9{ns:List Tn}{b e:Nat}(es:List En)(x:En)(he:es.length=e)(hn:∀y∈x.nd,nameB y=true)(hd:x.nd.Nodup)(h20:x.nd.length<=20)(nm ve dg:ByteArray)(hg:∀j (hj:j<x.nd.length),∃p,ns[b+j]?=some ⟨3,[],x.nd[j].data.toList,0,[],p⟩):∀(n j:Nat) (d:Dr),j+n=x.nd.length->(∀i,j<=i->i<x.nd.length->d.lk (b+i)=some (.val e))->d.es=es++[⟨nm,ve,dg,x.nd.take j⟩]->∃wt,iq ns (ns.length-(b+j)) d=iq ns (ns.length-(b+x.nd.length)) ⟨d.lk,d.fm,d.tb,es++[⟨nm,ve,dg,x.nd⟩],d.wt++wt⟩/\∀y∈wt,y.1∈x.nd
 | 0,j,d,hj,hl,hes=>by
  obtain rfl:j=x.nd.length:=by omega
  rw[List.take_length]at hes;refine⟨[],?_,fun y hy=>by simp at hy⟩;rw[List.append_nil,<-hes]
 | n+1,j,d,hj,hl,hes=>by
  have hjl:j<x.nd.length:=by omega
  obtain⟨p,hp⟩:=hg j hjl;have hA:aT d.es e=⟨nm,ve,dg,x.nd.take j⟩:=by rw[hes,<-he,IB]
  have hno:(x.nd.take j).any (fun y=>decide (y=x.nd[j]))=false:=by
   rw[List.any_eq_false];intro y hy;obtain⟨k,hk,rfl⟩:=List.mem_take_iff_getElem.1 hy;have:=List.pairwise_iff_getElem.1 hd k j (by omega) hjl (by omega);simpa using this
  have hstep:gG d (b+j) ⟨3,[],x.nd[j].data.toList,0,[],p⟩ (.val e)=.ok ⟨d.lk,d.fm,d.tb,es++[⟨nm,ve,dg,x.nd.take (j+1)⟩],d.wt++[(x.nd[j],p)]⟩:=by
   show pF _ _ _=_;unfold pF;rw[if_pos (IE _ _ _ _ _ (hn _ (List.getElem_mem hjl))),ED,hA];simp only[];rw[hno,if_neg (by simp),if_neg (by rw[List.length_take];omega),hes,<-he,IC,List.take_succ_eq_append_getElem hjl]
  rw[xg hp (hl j (Nat.le_refl _) hjl) hstep];obtain⟨wt,h1,h2⟩:=W9 es x he hn hd h20 nm ve dg hg n (j+1) ⟨d.lk,d.fm,d.tb,es++[⟨nm,ve,dg,x.nd.take (j+1)⟩],d.wt++[(x.nd[j],p)]⟩ (by omega) (fun i h1 h2=>hl i (by omega) h2) rfl;refine⟨(x.nd[j],p) :: wt,?_,fun y hy=>?_⟩
  ·rw[Nat.add_assoc,h1,List.append_assoc];rfl
  ·rcases List.mem_cons.1 hy with rfl|hy
   ·exact List.getElem_mem hjl
   ·exact h2 y hy
theorem aew{ns S P:List Tn}{x:En}{es:List En}(hT:ns.map np=P++(iI P.length x++S))(hg:ed x=true)(hd:x.nd.Nodup)(h20:x.nd.length<=20)(hno:az es x.nm=false)(hne:¬x.nm=⟨#[]⟩)(d:Dr)(h50:d.tb.length<50)(hes:d.es=es)(hk:d.lk P.length=some .tabs)(hlk:∀q,P.length<q->q<P.length+5+x.nd.length->d.lk q=none) :
  ∃d',iq ns (ns.length-P.length) d=iq ns (ns.length-(P.length+5+x.nd.length)) d'/\d'.fm=d.fm/\d'.tb=d.tb++[P.length]/\d'.es=es++[x]/\(∃wt,d'.wt=d.wt++wt/\∀y∈wt,y.1∈x.nd)/\∀q,P.length+5+x.nd.length<=q->d'.lk q=d.lk q:=by
 obtain⟨b,hb⟩:=zN (P.length);have hgj:∀j,(ns.map np)[b+j]?=(iI b x++S)[j]?:=fun j=>by
  rw[hT,<-hb,List.getElem?_append_right (by omega),show P.length+j-P.length=j by omega]
 obtain⟨p0,g0⟩:=uO (ns:=ns) rfl (hgj 0);obtain⟨p1,g1⟩:=uO (ns:=ns) rfl (hgj 1);obtain⟨p2,g2⟩:=uO (ns:=ns) rfl (hgj 2);obtain⟨p3,g3⟩:=uO (ns:=ns) rfl (hgj 3);have gj:∀j (hj:j<x.nd.length),∃p,ns[b+4+j]?=some ⟨3,[],x.nd[j].data.toList,0,[],p⟩:=fun j hj=>by
  have:(ns.map np)[b+4+j]?=some (tS [] x.nd[j].data.toList):=by
   rw[show b+4+j=b+(j+1+1+1+1) by omega,hgj];unfold iI;simp only[List.cons_append,List.getElem?_cons_succ,List.append_assoc];rw[List.getElem?_append_left (by simpa using hj)];simp[List.getElem?_eq_getElem hj]
  exact uO (ns:=ns) rfl this
 have g4:∃p,ns[b+4+x.nd.length]?=some ⟨3,kH,x.ve.data.toList,0,[],p⟩:=by
  have:(ns.map np)[b+4+x.nd.length]?=some (tS kH x.ve.data.toList):=by
   rw[show b+4+x.nd.length=b+(x.nd.length+1+1+1+1) by omega,hgj];unfold iI;simp only[List.cons_append,List.getElem?_cons_succ,List.append_assoc];rw[List.getElem?_append_right (by simp)];simp
  exact uO (ns:=ns) rfl this
 obtain⟨p4,g4⟩:=g4;unfold ed at hg;simp only[Bool.and_eq_true,List.all_eq_true]at hg;obtain⟨⟨⟨hnm,jo⟩,hdg⟩,hnd⟩:=hg;rw[hb]at hk hlk ⊢;obtain⟨ks,hks⟩:=zN ([b+1,b+1+1,b+1+2,b+1+(3+x.nd.length)]);obtain⟨e,he⟩:=zN (es.length);have s0:gG d b ⟨0,[],[],0,[b+1,b+1+1,b+1+2,b+1+(3+x.nd.length)],p0⟩ .tabs=.ok (keepD ⟨d.lk,d.fm,d.tb++[b],es++[en0],d.wt⟩ ks (.key e)):=by
  show(if d.tb.length=50 then _ else _)=_;rw[if_neg (by omega),hes,he,hks]
 have L0:=xg g0 hk s0;obtain⟨d1,hd1⟩:=zN (keepD ⟨d.lk,d.fm,d.tb++[b],es++[en0],d.wt⟩ ks (.key e));have k1:∀q∈ks,d1.lk q=some (.key e):=fun q hq=>by rw[<-hd1];unfold keepD;simp only[];rw[if_pos hq]
 have k1':∀q,¬q∈ks->d1.lk q=d.lk q:=fun q hq=>by rw[<-hd1];unfold keepD;simp only[];rw[if_neg hq]
 have e1:d1.fm=d.fm/\d1.tb=d.tb++[b]/\d1.es=es++[en0]/\d1.wt=d.wt:=by rw[<-hd1];exact⟨rfl,rfl,rfl,rfl⟩
 rw[hd1]at L0;clear hd1 s0;have s1:gG d1 (b+1) ⟨3,lJ,x.dg.data.toList,0,[],p1⟩ (.key e)=.ok ⟨d1.lk,d1.fm,d1.tb,es++[⟨⟨#[]⟩,⟨#[]⟩,x.dg,[]⟩],d1.wt⟩:=by
  show jG _ _ _=_;unfold jG rP l7;rw[if_neg (show ¬lJ=lK by decide),if_neg (show ¬lJ=kH by decide),if_pos rfl,if_pos (IE _ _ _ _ _ hdg),ED,e1.2.2.1,<-he,IB,IC];rfl
 have L1:=xg g1 (k1 (b+1) (by rw[<-hks];simp)) s1;have aex:∀ve dg nd,az (es++[⟨⟨#[]⟩,ve,dg,nd⟩]) x.nm=false:=fun ve dg nd=>by
  unfold az at hno ⊢;rw[List.any_append,hno];simp only[List.any_cons,List.any_nil,Bool.or_false,Bool.false_or];exact decide_eq_false (fun h=>hne h.symm)
 have s2:gG ⟨d1.lk,d1.fm,d1.tb,es++[⟨⟨#[]⟩,⟨#[]⟩,x.dg,[]⟩],d1.wt⟩ (b+2) ⟨3,lK,x.nm.data.toList,0,[],p2⟩ (.key e)=.ok ⟨d1.lk,d1.fm,d1.tb,es++[⟨x.nm,⟨#[]⟩,x.dg,[]⟩],d1.wt⟩:=by
  show jG _ _ _=_;unfold jG l7;rw[if_pos rfl,if_pos (IE _ _ _ _ _ hnm),ED];simp only[];rw[aex,if_neg (by simp),<-he,IB,IC]
 have L2:=xg (d:=⟨d1.lk,d1.fm,d1.tb,es++[⟨⟨#[]⟩,⟨#[]⟩,x.dg,[]⟩],d1.wt⟩) g2 (k1 (b+2) (by rw[<-hks];simp)) s2;obtain⟨vs,hvs⟩:=zN (List.range' (b+1+3) x.nd.length);have s3:gG ⟨d1.lk,d1.fm,d1.tb,es++[⟨x.nm,⟨#[]⟩,x.dg,[]⟩],d1.wt⟩ (b+3) ⟨1,kW,[],0,List.range' (b+1+3) x.nd.length,p3⟩ (.key e)=.ok (keepD ⟨d1.lk,d1.fm,d1.tb,es++[⟨x.nm,⟨#[]⟩,x.dg,[]⟩],d1.wt⟩ vs (.val e)):=by
  show jG _ _ _=_;unfold jG;rw[if_neg (show ¬kW=lK by decide),if_neg (show ¬kW=kH by decide),if_neg (show ¬kW=lJ by decide),if_pos ⟨rfl,rfl⟩,hvs]
 have L3:=xg (d:=⟨d1.lk,d1.fm,d1.tb,es++[⟨x.nm,⟨#[]⟩,x.dg,[]⟩],d1.wt⟩) g3 (k1 (b+3) (by rw[<-hks];simp)) s3;obtain⟨d3,hd3⟩:=zN (keepD ⟨d1.lk,d1.fm,d1.tb,es++[⟨x.nm,⟨#[]⟩,x.dg,[]⟩],d1.wt⟩ vs (.val e));have k3:∀q,d3.lk q=if q∈vs then some (.val e) else d1.lk q:=fun q=>by rw[<-hd3];rfl
 have e3:d3.fm=d1.fm/\d3.tb=d1.tb/\d3.es=es++[⟨x.nm,⟨#[]⟩,x.dg,[]⟩]/\d3.wt=d1.wt:=by rw[<-hd3];exact⟨rfl,rfl,rfl,rfl⟩
 rw[hd3]at L3;clear hd3 s3;have mvs:∀q,q∈vs↔b+4<=q/\q<b+4+x.nd.length:=fun q=>by rw[<-hvs,List.mem_range'_1]
 obtain⟨wt,L4,hwt⟩:=W9 (ns:=ns) (b:=b+4) es x he hnd hd h20 x.nm ⟨#[]⟩ x.dg gj x.nd.length 0 d3 (by omega) (fun i h1 h2=>by rw[k3,if_pos ((mvs _).2 (by omega))]) (by rw[e3.2.2.1];rfl);have hkv:d3.lk (b+4+x.nd.length)=some (.key e):=by
  rw[k3,if_neg (by rw[mvs];omega)];refine k1 _ ?_;rw[<-hks,show b+4+x.nd.length=b+1+(3+x.nd.length) by omega];simp
 have s5:gG ⟨d3.lk,d3.fm,d3.tb,es++[⟨x.nm,⟨#[]⟩,x.dg,x.nd⟩],d3.wt++wt⟩ (b+4+x.nd.length) ⟨3,kH,x.ve.data.toList,0,[],p4⟩ (.key e)=.ok ⟨d3.lk,d3.fm,d3.tb,es++[x],d3.wt++wt⟩:=by
  show jG _ _ _=_;unfold jG rP l7;rw[if_neg (show ¬kH=lK by decide),if_pos rfl,if_pos (IE _ _ _ _ _ jo),ED];simp only[];rw[<-he,IB,IC]
 have L5:=xg (d:=⟨d3.lk,d3.fm,d3.tb,es++[⟨x.nm,⟨#[]⟩,x.dg,x.nd⟩],d3.wt++wt⟩) g4 hkv s5;refine⟨⟨d3.lk,d3.fm,d3.tb,es++[x],d3.wt++wt⟩,?_,?_,?_,rfl,⟨wt,?_,hwt⟩,?_⟩
 ·rw[show b+5+x.nd.length=b+4+x.nd.length+1 by omega,<-L5,<-L4];exact((L0.trans L1).trans L2).trans L3
 ·rw[e3.1,e1.1]
 ·rw[e3.2.1,e1.2.1]
 ·rw[e3.2.2.2,e1.2.2.2]
 ·intro q hq;show d3.lk q=_;rw[k3,if_neg (by rw[mvs];omega),k1' q];rw[<-hks];simp only[List.mem_cons,List.not_mem_nil,or_false];omega
theorem Xa:∀(M:List En) (b q:Nat),q∈dU b M->b<=q
 | [],b,q,h=>by simp[dU]at h
 | x :: M,b,q,h=>by
  rcases List.mem_cons.1 h with rfl|h
  ·exact Nat.le_refl _
  ·have:=Xa M _ q h;omega
theorem Xb{ns:List Tn}:∀(M es:List En) (P:List Tn) (d:Dr),ns.map np=P++dP P.length M->(∀x∈M,ed x=true/\x.nd.Nodup/\x.nd.length<=20/\¬x.nm=⟨#[]⟩)->((es++M).map (·.nm)).Nodup->(es++M).length<=50->d.tb.length=es.length->d.es=es->(∀q,P.length<=q->d.lk q=if q∈dU P.length M then some .tabs else none) →
  ∃d',iq ns (ns.length-P.length) d=.ok d'/\d'.fm=d.fm/\d'.tb=d.tb++dU P.length M/\d'.es=es++M/\∃wt,d'.wt=d.wt++wt/\∀y∈wt,∃x∈M,y.1∈x.nd
 | [],es,P,d,hT,_,_,_,_,hes,_=>by
  have hl:ns.length=P.length:=by
   have:=congrArg List.length hT;simpa [dP] using this
  refine⟨d,?_,rfl,by simp[dU],by rw[hes,List.append_nil],[],by simp,fun y hy=>by simp at hy⟩;rw[hl,Nat.sub_self];rfl
 | x :: M,es,P,d,hT,hM,hnd,h50,htb,hes,hlk=>by
  have hT1:ns.map np=P++(iI P.length x++dP (P.length+5+x.nd.length) M):=hT;obtain⟨a1,a2,a3,a4⟩:=hM x (by simp);have hno:az es x.nm=false:=by
   rw[Bool.eq_false_iff];intro hh;rw[Iy]at hh;rw[List.map_append,List.nodup_append]at hnd;exact hnd.2.2 _ hh x.nm (by simp) rfl
  obtain⟨d',L,f1,f2,f3,⟨wt,f4,f5⟩,f6⟩:=aew hT1 a1 a2 a3 hno a4 d (by rw[htb];simp only[List.length_append,List.length_cons]at h50;omega) hes (by rw[hlk _ (Nat.le_refl _),if_pos (by simp[dU])]) (fun q h1 h2=>by
   rw[hlk q (by omega),if_neg];intro hh
   rcases List.mem_cons.1 hh with hh|hh
   ·omega
   ·have:=Xa M _ q hh;omega)
  have hT2:ns.map np=(P++iI P.length x)++dP (P++iI P.length x).length M:=by
   rw[hT1,List.length_append,wX,List.append_assoc,Nat.add_assoc]
  have hPl:(P++iI P.length x).length=P.length+5+x.nd.length:=by rw[List.length_append,wX,Nat.add_assoc]
  obtain⟨d2,L2,e1,e2,e3,wt2,e4,e5⟩:=Xb M (es++[x]) (P++iI P.length x) d' hT2 (fun y hy=>hM y (by simp[hy])) (by rw[List.append_assoc];exact hnd) (by rw[List.append_assoc];exact h50) (by rw[f2,List.length_append,List.length_append,htb];rfl) f3 (fun q hq=>by
   rw[hPl]at hq ⊢;rw[f6 q hq,hlk q (by omega)];have:q∈dU P.length (x :: M)↔q∈dU (P.length+5+x.nd.length) M:=by
    show q∈P.length :: dU (P.length+5+x.nd.length) M↔_;rw[List.mem_cons];constructor
    ·rintro(h|h)
     ·omega
     ·exact h
    ·exact Or.inr
   simp only[this])
  refine⟨d2,?_,by rw[e1,f1],?_,by rw[e3,List.append_assoc];rfl,wt++wt2,by rw[e4,f4,List.append_assoc],fun y hy=>?_⟩
  ·rw[L,<-hPl];exact L2
  ·rw[e2,f2,hPl,List.append_assoc];rfl
  ·rcases List.mem_append.1 hy with hy|hy
   ·exact⟨x,by simp,f5 y hy⟩
   ·obtain⟨z,hz,h⟩:=e5 y hy;exact⟨z,by simp[hz],h⟩
theorem aey{M:List En}{ns:List Tn}(hn:ns.map np=lL M)(hok:uN M)(hne:∀x∈M,¬x.nm=⟨#[]⟩):xe ns=.ok M:=by
 obtain⟨h50,hnd,hM⟩:=hok;unfold xe;have hks:ax ns 0=if M=[] then[1] else[1,2]:=by
  rw[<-Iz,hn,lL];split<;>rfl
 have hlen:=congrArg List.length hn;rw[List.length_map]at hlen;obtain⟨K,hK⟩:=zN ((if M=[] then[1] else[1,2]:List Nat));obtain⟨p0,g0⟩:∃p,ns[0]?=some ⟨0,[],[],0,K,p⟩:=uO hn (y:=fJ K) (by rw[lL,<-hK];split<;>rfl);obtain⟨p1,g1⟩:∃p,ns[1]?=some ⟨4,jv,[],1,[],p⟩:=uO hn (y:=lZ) (by rw[lL];split<;>rfl);have hl0:=(List.getElem?_eq_some_iff.1 g0).1;have hl1:=(List.getElem?_eq_some_iff.1 g1).1;rw[hks,hK];have h1K:(1:Nat)∈K:=by rw[<-hK];split<;>simp
 have h0K:¬(0:Nat)∈K:=by rw[<-hK];split<;>simp
 have L0:iq ns ns.length (keepD iV K .root)=iq ns (ns.length-1) (keepD iV K .root):=by
  have:=aev (ns:=ns) (q:=0) (d:=keepD iV K .root) hl0 (by unfold keepD;simp only[];rw[if_neg h0K];rfl);exact this
 have L1:=xg (d:=keepD iV K .root) (k:=.root) g1 (by unfold keepD;simp only[];rw[if_pos h1K]) (d':=⟨(keepD iV K .root).lk,true,[],[],[]⟩) (by
  unfold gG;simp only[];rw[if_pos trivial,if_neg (by simp),if_neg (by simp)];rfl)
 have fin:∀d:Dr,d.fm=true->d.es=M->(∀q∈d.tb,¬(ax ns q).length<4)->(∀y∈d.wt,∃x∈M,y.1∈x.nd)->(if(l9 ns d).1=0 then Except.ok d.es else Except.error (l9 ns d):Rs (List En))=.ok M:=fun d h1 h2 h3 h4=>by
  have:l9 ns d=(0,0):=by
   unfold l9;rw[h1,if_neg (by simp),List.find?_eq_none.2 (fun q hq=>by simpa using h3 q hq)];simp only[];rw[List.find?_eq_none.2 (fun y hy=>by
    obtain⟨x,hx,hy⟩:=h4 y hy;have:=(Iy M y.1).2 ((hM x hx).2.2.2 _ hy);rw[h2,this];simp)]
  rw[this,if_pos rfl,h2]
 by_cases h0:M=[]
 ·subst h0;have hl:ns.length=2:=by rw[hlen];rfl
  rw[L0,L1,hl];exact fin _ rfl rfl (fun q hq=>by simp at hq) (fun y hy=>by simp at hy)
 ·rw[if_neg h0]at hK;have hT:ns.map np=[fJ [1,2],lZ,pz (dU 3 M)]++dP 3 M:=by rw[hn,lL,if_neg h0];rfl
  obtain⟨p2,g2⟩:∃p,ns[2]?=some ⟨2,iC,[],0,dU 3 M,p⟩:=uO hT (y:=pz (dU 3 M)) rfl;have L2:=xg (d:=⟨(keepD iV K .root).lk,true,[],[],[]⟩) (k:=.root) g2 (by rw[<-hK];rfl) (d':=keepD ⟨(keepD iV K .root).lk,true,[],[],[]⟩ (dU 3 M) .tabs) (by
   unfold gG;simp only[];rw[if_neg (show ¬iC=jv by decide)];rfl)
  obtain⟨d,L3,f1,f2,f3,wt,f4,f5⟩:=Xb (ns:=ns) M [] [fJ [1,2],lZ,pz (dU 3 M)] (keepD ⟨(keepD iV K .root).lk,true,[],[],[]⟩ (dU 3 M) .tabs) hT (fun x hx=>⟨(hM x hx).2.1,(hM x hx).2.2.1,(hM x hx).1,hne x hx⟩) hnd h50 rfl rfl (fun q hq=>by
   have hq3:3<=q:=hq;show(if q∈dU 3 M then some jh.tabs else if q∈K then some jh.root else none)=_;rw[if_neg (show ¬q∈K by rw[<-hK];simp;omega)];rfl)
  rw[L0,L1,L2,show iq ns (ns.length-(2+1)) _=_ from L3];simp only[];refine fin d f1 f3 (fun q hq=>?_) (fun y hy=>?_)
  ·rw[f2]at hq;have hq':q∈dU 3 M:=hq;have key:∀(M:List En) (P:List Tn),ns.map np=P++dP P.length M->q∈dU P.length M->(ax ns q).length=4:=fun M=>by
    induction M with
    | nil=>intro P _ h;simp[dU]at h
    | cons x M ih =>
     intro P hT h
     rcases List.mem_cons.1 h with rfl|h
     ·rw[<-Iz,hT];unfold ax;rw[List.getElem?_append_right (Nat.le_refl _),Nat.sub_self];rfl
     ·refine ih (P++iI P.length x) ?_ ?_
      ·rw[hT,List.length_append,wX,<-Nat.add_assoc,List.append_assoc];rfl
      ·rw[List.length_append,wX,<-Nat.add_assoc];exact h
   rw[key M [fJ [1,2],lZ,pz (dU 3 M)] hT hq'];omega
  ·rw[f4]at hy;exact f5 y hy
end Go.Proofs.YtmkjelchiacogaaGreatDoor
