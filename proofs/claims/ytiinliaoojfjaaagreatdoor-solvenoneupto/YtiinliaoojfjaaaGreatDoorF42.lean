import Derived.Test.YtiinliaoojfjaaaGreatDoorF33
import Derived.Test.YtiinliaoojfjaaaGreatDoorF39
import Derived.Test.YtiinliaoojfjaaaGreatDoorF41
import Derived.Test.YtiinliaoojfjaaaGreatDoorF37
import Derived.Test.YtiinliaoojfjaaaGreatDoorF27
set_option linter.all false
set_option maxRecDepth 100000
set_option maxHeartbeats 0
open Go.Proofs.Tryz
namespace Go.Proofs.YtiinliaoojfjaaaGreatDoor
open Go.RowKit
theorem agX(s:ByteArray)(w:World)(hs:s.size<2 ^ 60):Calls prog 86 #[.string s] w fun e w'=>e=.returned (.bool (okR s))/\w.grownBy w' none:=by
 have CR:Hd (∀w,Calls prog 115 #[.string s] w fun e w'=>(∃(o:Option Addr) (n c:Nat) (k:Int),e=.returned (.tuple #[.slice o n c,.int .i64 (fJ s.data.toList).1,.int .i64 k]))/\w.grownBy w' none):=fun w=>(WY s w (by omega)).mono fun e w' ⟨o,n,c,h1,h2,_⟩=>⟨⟨o,n,c,_,h1⟩,h2⟩
 unfold okR;obtain⟨E,hE⟩:=zN ((fJ s.data.toList).1);rw[hE]at CR ⊢;clear hE;have hd:decide (E=0)=(E == 0):=by rw[Bool.eq_iff_iff];simp
 rw[hd];clear hd;go_enter func86,ntmps86;go_wp2_with (go_at_call 115;refine(CR.o _).mono ?_);rintro e w1 ⟨⟨o,n,c,k,rfl⟩,hg⟩
 cases hz:(E == 0) with
 | true =>
  go_wp2;go_ret;exact⟨bi hz.symm,hg⟩
 | false =>
  go_wp2;go_ret;exact⟨bi hz.symm,hg⟩
theorem agY(s:ByteArray)(w:World)(hs:s.size<2 ^ 60):Calls prog 65 #[.string s] w fun e w'=>e=.returned (.bool (okR s))/\w.grownBy w' none:=by
 have CR:Hd (∀w,Calls prog 22 #[.string s] w fun e w'=>(∃(o:Option Addr) (n c:Nat) (k:Int),e=.returned (.tuple #[.slice o n c,.int .i64 (fJ s.data.toList).1,.int .i64 k]))/\w.grownBy w' none):=fun w=>(Ou s w hs).mono fun e w' ⟨o,n,c,A,h1,h2,_⟩=>⟨⟨o,n,c,_,h1⟩,h2⟩
 unfold okR;obtain⟨E,hE⟩:=zN ((fJ s.data.toList).1);rw[hE]at CR ⊢;clear hE;have hd:decide (E=0)=(E == 0):=by rw[Bool.eq_iff_iff];simp
 rw[hd];clear hd;go_enter func65,ntmps65;go_wp2_with (go_at_call 22;refine(CR.o _).mono ?_);rintro e w1 ⟨⟨o,n,c,k,rfl⟩,hg⟩
 cases hz:(E == 0) with
 | true =>
  go_wp2;go_ret;exact⟨bi hz.symm,hg⟩
 | false =>
  go_wp2;go_ret;exact⟨bi hz.symm,hg⟩
theorem agZ{s:ByteArray}(h:nameB s=true):s.size<=30:=by
 apply Classical.byContradiction;intro hn;rw[vN (fun h=>hn h.2.1)]at h
 cases h
theorem ag0{L:List Nd}(h:L.all iC=true):∀x∈L,x.n.size<=maxLen:=by
 intro x hx;have h1:=List.all_eq_true.1 h x hx;unfold iC at h1;have:=agZ (Bool.and_eq_true_iff.1 h1).1;unfold maxLen;omega
theorem ag1(w:World):Calls prog 87 #[.slice none 0 0] w fun e w'=>e=.returned (.bool false)/\w.grownBy w' none:=by
 have hmm:=RZ 0 w;go_enter func87,ntmps87;go_wp2;go_loopw [13] (fun vi wr=>vi=.int .i64 0/\w.grownBy wr none) (fun vi _=>0)
 case atStart=>exact⟨rfl,ak (ai w none) _⟩
 case round =>
  obtain⟨rfl,hb⟩:=hrel;have HB:=ae hb;clear hb hmm;go_wp2;go_ret;exact⟨rfl,HB.o⟩
theorem ag2(v:Value)(L:List Nd)(w:World)(h:NdS w v L)(hL:L.length<=1048576)(hz:L.all iC=true) :
  Calls prog 87 #[v] w fun e w'=>e=.returned (.bool (fU L L.length))/\w.grownBy w' none:=by
 rcases h with⟨rfl,rfl⟩|⟨a,cap,rfl,h2,h3⟩
 ·exact ag1 w
 ·exact abn a cap L w hL h2 (ag0 hz) h3
theorem FZ{w:World}{o:Option Addr}{c:Nat}{L:List Nd}(h:NdS w (.slice o L.length c) L){i:Nat}(hi:i<L.length):∃a,o=some a/\L.length<=c/\∀j (hj:j<L.length),NdAt w (a.add (j*2)) L[j]:=by
 rcases h with⟨h1,h2⟩|⟨a,cap,h1,h2,h3⟩
 ·rw[h2]at hi;simp at hi
 ·cases h1
  exact⟨a,rfl,h2,h3⟩
theorem Xt(v:Value)(L:List Nd)(w:World)(h:NdS w v L)(hL:L.length<=1048576)(hS:∀x∈L,x.n.size<2 ^ 60/\x.r.size<2 ^ 60) :
  Calls prog 53 #[v] w fun e w'=>e=.returned (.int .i64 (bY L))/\w.grownBy w' none:=by
 have H1:=ae h;have CN:=ae (fun x (hx:x∈L) w=>name_any x.n w (by have:=(hS x hx).1;omega));have CR:=ae (fun x (hx:x∈L) w=>agX x.r w (hS x hx).2);have CT:=ae (fun w (h:NdS w v L) (hz:L.all iC=true)=>ag2 v L w h hL hz);obtain⟨o,c,rfl⟩:=mP h;have HT:=ae (VO L);have H5:=ae (VT L);have H0:=ae (VU L);obtain⟨R,hR⟩:=zN (bY L);rw[hR]at HT H5 H0 ⊢;clear h hS hR;go_enter func53,ntmps53;go_wp2;go_loopw [7] (fun vi wr=>∃i:Nat,vi=.int .i64 i/\i<=L.length/\(L.take i).all iC=true/\w.grownBy wr none) (fun vi _=>L.length-(intOf vi).toNat)
 case atStart=>exact⟨0,rfl,Nat.zero_le _,rfl,ai _ _⟩
 case round =>
  obtain⟨i,rfl,hi,hall,hg⟩:=hrel;have jH:=ae hall;have HG:=ae hg
  by_cases hlt:i<L.length
  ·obtain⟨a,rfl,hcv,hat⟩:=FZ (H1.o.grow hg) hlt;obtain⟨x,hx⟩:=zN (L[i]);obtain⟨e0,e1⟩:NdAt wr (a.add (i*2)) x:=by rw[<-hx];exact hat i hlt
   have hmem:x∈L:=by rw[<-hx];exact List.getElem_mem _
   have CX:=ae (CN.o x hmem);have CY:=ae (CR.o x hmem);have HF:Hd (iC x=false->R=2):=fun h=>HT.o i hlt (by rw[hx];exact h)
   have HN:=ae (fun(h:iC x=true)=>VQ L i hlt (by rw[hx];exact h) jH.o);have hgd:iC x=(nameB x.n && okR x.r):=rfl;rw[hgd]at HF HN;obtain⟨q1,hq1⟩:=zN (nameB x.n);obtain⟨q2,hq2⟩:=zN (okR x.r);rw[hq1]at CX HF HN;rw[hq2]at CY HF HN;obtain⟨xn,xr⟩:=x;simp only[]at CX CY e0 e1;clear hall hg hx hmem hgd hq1 hq2 hat
   cases q1 with
   | false =>
    go_wp2_with (go_at_call 85;refine(CX.o _).mono ?_;rintro e w' ⟨rfl,rfl⟩);go_ret;exact⟨bF (HF.o (by trivial)).symm,ak HG.o _⟩
   | true =>
    go_wp2_with (first|(go_at_call 85;refine(CX.o _).mono ?_;rintro e w' ⟨rfl,rfl⟩)|(go_at_call 86;refine(CY.o _).mono ?_));rintro e w3 ⟨rfl,hg3⟩;have dD:=ae (ag HG.o (ag (ak (ai wr none) _) hg3));clear hg3
    cases q2 with
    | false =>
     go_wp2;go_ret;exact⟨bF (HF.o (by trivial)).symm,dD.o⟩
    | true =>
     go_wp2;exact⟨⟨i+1,by go_num,by omega,HN.o (by trivial),dD.o⟩,by simp[intOf];omega⟩
  ·have hil:i=L.length:=by omega
   have HL:Hd (L.all iC=true):=by
    show L.all iC=true;rw[hil,List.take_length]at hall;exact hall
   have zW:=ae (CT.o wr (H1.o.grow hg) HL.o);have Xu:=ae (H5.o HL.o);have H0':=ae (H0.o HL.o);obtain⟨q,hq⟩:=zN (fU L L.length);rw[hq]at zW Xu H0';clear hall hg hil hi hq
   cases q with
   | true =>
    go_wp2_with (go_at_call 87;refine zW.o.mono ?_;rintro e w3 ⟨rfl,hg3⟩);go_ret;exact⟨bF (Xu.o (by trivial)).symm,ag HG.o hg3⟩
   | false =>
    go_wp2_with (go_at_call 87;refine zW.o.mono ?_;rintro e w3 ⟨rfl,hg3⟩);go_ret;exact⟨bF (H0'.o (by trivial)).symm,ag HG.o hg3⟩
open Go.RowKit Go.Maps
theorem ag3:(prog.info? 114).map (fun i=>(i.zero,i.size,i.bytes))=some (some (.int .u64 0),1,8):=by kernel_rfl
theorem ag4(n:Nat):madeCells #[Value.int .u64 0] n=iW (List.replicate n 0):=by
 unfold madeCells iW;apply Array.ext';simp;apply List.ext_getElem?;intro i;simp
 by_cases h:i<n
 ·simp[h,Nat.mod_one]
 ·simp[h]
theorem ag5(n:Nat)(hn:n<=1048576)(W:World):(Instr.makeSlice 115 (.int .i64 (n:Int)) (.int .i64 (n:Int))).run prog W=.ok (.slice (some ⟨W.heap.size,0,none⟩) n n) (W.alloc (.cells (iW (List.replicate n 0)) 114)):=by
 obtain⟨i0,hi0,hii⟩:=Option.map_eq_some_iff.1 ag3;simp only[Prod.mk.injEq]at hii;obtain⟨hz0,hz1,hzb⟩:=hii;have:=run_make W 115 114 i0 (.int .u64 0) underlying115 hi0 hz0 .i64 .i64 (n:Int) (n:Int) (by omega) (Int.le_refl _) (by rw[hzb];omega) (by omega);rw[this,hz1];have e:((n:Int)).toNat=n:=by omega
 rw[e,Nat.mul_one];have e2:(Value.int .u64 0).cells=#[.int .u64 0]:=rfl;rw[e2,ag4]
structure gY(N:List Nd)(L:List Re)(x:Pl):Prop where
 ok:acu x
 ln:x.mt.length=N.length
 nam:∀q,x.nam.testBit q=sW N L q
 mt:∀j (hj:j<x.mt.length) q,x.mt[j].testBit q=kZ N L j q
 br:∀q,x.bar.testBit q=false->q<L.length->∀y∈N,y.n=aF L q->dE y.r (dY L q)=true
 bx:∀q,x.bar.testBit q=true->∃y∈N,y.n=aF L q/\dE y.r (dY L q)=false
structure lF(N:List Nd)(L:List Re)(i k nam bar:Nat)(M:List Nat):Prop where
 n1:nam<18446744073709551616
 n2:bar<18446744073709551616
 n3:∀m∈M,m<18446744073709551616
 b1:∀q,nam.testBit q=sZ N L i k q
 b2:∀j (hj:j<M.length) q,M[j].testBit q=tu N L i k j q
 b3:∀q,bar.testBit q=false->q<L.length->∀j (hj:j<N.length),(j<i\/(j=i/\q<k))->N[j].n=aF L q->dE N[j].r (dY L q)=true
 b4:∀q,bar.testBit q=true->∃y∈N,y.n=aF L q/\dE y.r (dY L q)=false
theorem ag6(N:List Nd)(L:List Re)(n:Nat):lF N L 0 0 0 0 (List.replicate n 0) :=
 ⟨by decide,by decide,fun m hm=>by rw[List.eq_of_mem_replicate hm];decide,fun q=>by rw[agz,Nat.zero_testBit],fun j hj q=>by rw[List.getElem_replicate,agA,Nat.zero_testBit],fun q _ _ j hj h=>by omega,fun q h=>by rw[Nat.zero_testBit]at h;cases h⟩
theorem ag7{N:List Nd}{L:List Re}{i nam bar:Nat}{M:List Nat}(h:lF N L i L.length nam bar M)(hi:i<N.length):lF N L (i+1) 0 nam bar M :=
 ⟨h.n1,h.n2,h.n3,fun q=>by rw[h.b1,agB N L i q hi],fun j hj q=>by rw[h.b2 j hj,agC],fun q hb hq j hj hh e=>h.b3 q hb hq j hj (by omega) e,h.b4⟩
theorem ag8{N:List Nd}{L:List Re}{i k nam bar:Nat}{M:List Nat}(h:lF N L i k nam bar M)(hi:i<N.length)(hk:k<L.length)(hn:¬N[i].n=aF L k):lF N L i (k+1) nam bar M:=by
 have h1:zL N L i k=false:=by rw[I9 N L i k hi];simpa using hn
 have h2:kZ N L i k=false:=by rw[zK N L i k hi hk];simp[hn]
 exact⟨h.n1,h.n2,h.n3,fun q=>by rw[h.b1,Oj N L i k q hk,h1];simp,fun j hj q=>by rw[h.b2 j hj,Ol,h2];simp,fun q hb hq j hj hh e=>by
  by_cases hx:j=i/\q=k
  ·obtain⟨rfl,rfl⟩:=hx;exact absurd e hn
  ·exact h.b3 q hb hq j hj (by omega) e,h.b4⟩
theorem ag9{N:List Nd}{L:List Re}{i k nam bar:Nat}{M:List Nat}(h:lF N L i k nam bar M)(hi:i<N.length)(hk:k<L.length)(hk64:k<64)(hn:N[i].n=aF L k)(ha:dE N[i].r (dY L k)=true)(hiM:i<M.length):lF N L i (k+1) (nam ||| 2 ^ k) bar (M.set i (M[i] ||| 2 ^ k)):=by
 have h1:zL N L i k=true:=by rw[I9 N L i k hi];simpa using hn
 have h2:kZ N L i k=true:=by rw[zK N L i k hi hk,ha];simp[hn]
 refine⟨yT h.n1 (rG hk64),h.n2,fun m hm=>?_,fun q=>by rw[Es,h.b1,Oj N L i k q hk,h1];simp,fun j hj q=>?_,fun q hb hq j hj hh e=>?_,h.b4⟩
 ·rcases List.mem_or_eq_of_mem_set hm with hm|rfl
  ·exact h.n3 m hm
  ·exact yT (h.n3 _ (List.getElem_mem _)) (rG hk64)
 ·rw[Ol,h2]
  by_cases hj':j=i
  ·subst hj';rw[List.getElem_set_self,Es,h.b2 j hiM];simp
  ·rw[List.getElem_set_ne (fun e=>hj' e.symm),h.b2 j (by simpa using hj)];simp[hj']
 ·by_cases hx:j=i/\q=k
  ·obtain⟨rfl,rfl⟩:=hx;exact ha
  ·exact h.b3 q hb hq j hj (by omega) e
theorem aha{N:List Nd}{L:List Re}{i k nam bar:Nat}{M:List Nat}(h:lF N L i k nam bar M)(hi:i<N.length)(hk:k<L.length)(hk64:k<64)(hn:N[i].n=aF L k)(ha:dE N[i].r (dY L k)=false):lF N L i (k+1) (nam ||| 2 ^ k) (bar ||| 2 ^ k) M:=by
 have h1:zL N L i k=true:=by rw[I9 N L i k hi];simpa using hn
 have h2:kZ N L i k=false:=by rw[zK N L i k hi hk,ha];simp
 exact⟨yT h.n1 (rG hk64),yT h.n2 (rG hk64),h.n3,fun q=>by rw[Es,h.b1,Oj N L i k q hk,h1];simp,fun j hj q=>by rw[h.b2 j hj,Ol,h2];simp,fun q hb hq j hj hh e=>by
  rw[Es,Bool.or_eq_false_iff]at hb;have hqk:¬k=q:=by simpa using hb.2
  exact h.b3 q hb.1 hq j hj (by omega) e,fun q hb=>by
  rw[Es,Bool.or_eq_true]at hb
  rcases hb with hb|hb
  ·exact h.b4 q hb
  ·obtain rfl:k=q:=by simpa using hb
   exact⟨N[i],List.getElem_mem _,hn,ha⟩⟩
theorem ahb{N:List Nd}{L:List Re}{nam bar:Nat}{M:List Nat}(h:lF N L N.length 0 nam bar M)(hl:M.length=N.length)(hN:N.length<=1048576):gY N L ⟨nam,bar,M⟩ :=
 ⟨⟨h.n1,h.n2,h.n3,by show M.length<=_;omega⟩,hl,fun q=>by rw[<-agD];exact h.b1 q,fun j hj q=>by rw[<-agE N L j q (by have:j<M.length:=hj;omega)];exact h.b2 j hj q,fun q hb hq y hy e=>by
  obtain⟨j,hj,rfl⟩:=List.getElem_of_mem hy;exact h.b3 q hb hq j hj (Or.inl hj) e,h.b4⟩
open Go.RowKit
def qA(b:Bool):Int:=if b=true then 5 else 0
theorem ahc(L:List Nd)(n:ByteArray)(k:Nat)(hk:k<L.length):(L.take (k+1)).any (fun y=>decide (y.n=n))=((L.take k).any (fun y=>decide (y.n=n)) || decide (L[k].n=n)):=by
 rw[List.take_succ_eq_append_getElem hk,List.any_append];simp
theorem ahd(a:Addr)(cap:Nat)(L:List Nd)(w:World)(hcap:L.length<=cap)(h:∀i (hi:i<L.length),NdAt w (a.add (i*2)) L[i])(hL:L.length<=1048576)(hS:∀x∈L,x.n.size<2 ^ 60/\x.r.size<2 ^ 60) :
  Calls prog 31 #[.slice (some a) L.length cap] w fun e w'=>e=.returned (.int .i64 (bY L))/\w.grownBy w' none:=by
 have HA:=ae h;have CN:=ae (fun x (hx:x∈L) w=>Tu x.n w (by have:=(hS x hx).1;omega));have CR:=ae (fun x (hx:x∈L) w=>agY x.r w (hS x hx).2);have HT:=ae (VO L);have HE:Hd (L.all iC=true->qA (fU L L.length)=bY L):=fun h=>by
  unfold qA
  cases ht:fU L L.length with
  | true=>rw[if_pos rfl,VT L h ht]
  | false=>rw[if_neg (by simp),VU L h ht]
 obtain⟨R,hR⟩:=zN (bY L);rw[hR]at HT HE ⊢;clear h hS hR;go_enter func31,ntmps31;go_wp2;go_loopw [3,4] (fun ve vi wr=>∃i:Nat,vi=.int .i64 i/\ve=.int .i64 (qA (fU L i))/\i<=L.length/\(L.take i).all iC=true/\w.grownBy wr none) (fun _ vi _=>L.length-(intOf vi).toNat)
 case atStart=>exact⟨0,rfl,rfl,Nat.zero_le _,rfl,ai _ _⟩
 case round =>
  obtain⟨i,rfl,rfl,hi,hall,hg⟩:=hrel;have jH:=ae hall;have HG:=ae hg
  by_cases hlt:i<L.length
  ·obtain⟨x,hx⟩:=zN (L[i]);obtain⟨e0,e1⟩:NdAt wr (a.add (i*2)) x:=by rw[<-hx];exact(HA.o i hlt).grow hg
   have hmem:x∈L:=by rw[<-hx];exact List.getElem_mem _
   have CX:=ae (CN.o x hmem);have CY:=ae (CR.o x hmem);have HF:Hd (iC x=false->R=2):=fun h=>HT.o i hlt (by rw[hx];exact h)
   have HN:=ae (fun(h:iC x=true)=>VQ L i hlt (by rw[hx];exact h) jH.o);have Oz:Hd (fU L (i+1)=(fU L i || (L.take i).any (fun y=>decide (y.n=x.n)))):=by
    show _=_;rw[Ew L i hlt,hx];rfl
   have HX:=ae hx;have hgd:iC x=(nameB x.n && okR x.r):=rfl;rw[hgd]at HF HN;obtain⟨t0,ht0⟩:=zN (fU L i);rw[ht0]at Oz ⊢;obtain⟨q1,hq1⟩:=zN (nameB x.n);obtain⟨q2,hq2⟩:=zN (okR x.r);rw[hq1]at CX HF HN;rw[hq2]at CY HF HN;obtain⟨xn,xr⟩:=x;simp only[]at CX CY e0 e1 Oz;clear hall hg hx hmem hgd hq1 hq2 ht0;go_wp2_with (first|(go_at_call 39;refine(CX.o _).mono ?_;rintro e w' ⟨rfl,rfl⟩)|(go_at_call 65;refine(CY.o _).mono ?_));rintro e w3 ⟨rfl,hg3⟩;have dD:=ae (ag HG.o hg3);clear hg3 e0 e1
   cases q1 with
   | false =>
    go_wp2;go_ret;exact⟨bF (HF.o (by trivial)).symm,dD.o⟩
   | true =>
    cases q2 with
    | false =>
     go_wp2;go_ret;exact⟨bF (HF.o (by trivial)).symm,dD.o⟩
    | true =>
     go_wp2;go_loopw [3,7] (fun ve vk wk=>∃k:Nat,vk=.int .i64 k/\ve=.int .i64 (qA (t0 || (L.take k).any (fun y=>decide (y.n=xn))))/\k<=i/\w.grownBy wk none) (fun _ vk _=>i-(intOf vk).toNat)
     case atStart=>exact⟨0,rfl,by simp,Nat.zero_le _,dD.o⟩
     case round =>
      obtain⟨k,rfl,rfl,hk,hgk⟩:=hrel;have jv:=ae hgk
      by_cases hki:k<i
      ·have hkl:k<L.length:=by omega
       obtain⟨y,hy⟩:=zN (L[k]);have f0:wr.cell? (a.add (k*2))=some (.string y.n):=by rw[<-hy];exact((HA.o k hkl).grow hgk).1
       have f1:wr.cell? (a.add (i*2))=some (.string xn):=by
        have:=((HA.o i hlt).grow hgk).1;rw[HX.o]at this;exact this
       have yz:Hd ((L.take (k+1)).any (fun y=>decide (y.n=xn))=((L.take k).any (fun y=>decide (y.n=xn)) || decide (y.n=xn))):=by
        show _=_;rw[ahc L xn k hkl,hy]
       obtain⟨q0,hq0⟩:=zN ((t0 || (L.take k).any (fun y=>decide (y.n=xn))));have bC:Hd ((t0 || (L.take (k+1)).any (fun y=>decide (y.n=xn)))=(q0 || decide (y.n=xn))):=by
        show _=_;rw[yz.o,<-Bool.or_assoc,hq0]
       try rw[hq0]
       clear hgk hy hq0
       by_cases hxy:y.n=xn
       ·have q:=uA hxy;have HV:Hd ((5:Int)=qA (t0 || (L.take (k+1)).any (fun y=>decide (y.n=xn)))):=by
         show _=_;rw[bC.o];simp[hxy,qA]
        go_wp2;go_quiet (fail);go_wp2;go_roundw
        case rel=>exact⟨k+1,by go_num,by rw[<-HV.o],by omega,aH jv.o _⟩
        case measure=>simp[intOf];omega
       ·have q:=pz hxy;have HV:Hd (qA q0=qA (t0 || (L.take (k+1)).any (fun y=>decide (y.n=xn)))):=by
         show _=_;rw[bC.o];simp[hxy]
        go_wp2;go_quiet (fail);go_wp2;go_roundw
        case rel=>exact⟨k+1,by go_num,by rw[<-HV.o],by omega,aH jv.o _⟩
        case measure=>simp[intOf];omega
      ·have hke:k=i:=by omega
       subst hke;clear hgk hk;have HV:Hd (qA (t0 || (L.take k).any (fun y=>decide (y.n=xn)))=qA (fU L (k+1))):=by
        show _=_;rw[Oz.o]
       obtain⟨E1,hE1⟩:=zN (qA (t0 || (L.take k).any (fun y=>decide (y.n=xn))));rw[hE1]at HV
       try rw[hE1]
       clear hE1;go_wp2;go_roundw
       case rel=>exact⟨k+1,by go_num,by rw[HV.o],by omega,HN.o (by trivial),jv.o⟩
       case measure=>simp[intOf];omega
  ·have hil:i=L.length:=by omega
   have HL:Hd (qA (fU L i)=R):=by
    show _=R;rw[hil,List.take_length]at hall;rw[hil];exact HE.o hall
   obtain⟨E1,hE1⟩:=zN (qA (fU L i));rw[hE1]at HL
   try rw[hE1]
   clear hall hg hil hi hE1;go_wp2;go_ret;exact⟨bF HL.o,HG.o⟩
theorem ahe(w:World):Calls prog 31 #[.slice none 0 0] w fun e w'=>e=.returned (.int .i64 (bY []))/\w.grownBy w' none:=by
 have e0:bY []=0:=by simp[bY,fU]
 rw[e0];clear e0;go_enter func31,ntmps31;go_wp2;go_loopw [3,4] (fun ve vi wr=>vi=.int .i64 0/\ve=.int .i64 0/\w.grownBy wr none) (fun _ vi _=>0)
 case atStart=>exact⟨rfl,rfl,ai _ _⟩
 case round =>
  obtain⟨rfl,rfl,hb⟩:=hrel;have HB:=ae hb;clear hb;go_wp2;go_ret;exact⟨rfl,HB.o⟩
theorem OB(v:Value)(L:List Nd)(w:World)(h:NdS w v L)(hL:L.length<=1048576)(hS:∀x∈L,x.n.size<2 ^ 60/\x.r.size<2 ^ 60) :
  Calls prog 31 #[v] w fun e w'=>e=.returned (.int .i64 (bY L))/\w.grownBy w' none:=by
 rcases h with⟨rfl,rfl⟩|⟨a,cap,rfl,h2,h3⟩
 ·exact ahe w
 ·exact ahd a cap L w h2 h3 hL hS
open Go.RowKit
theorem yA{i:Nat}{P:List Re}{x:Re}(h:50<=i\/20<x.nd.length):pG i P x=4:=by unfold pG;rw[if_pos h]
theorem Jg{i:Nat}{P:List Re}{x:Re}(h:¬(50<=i\/20<x.nd.length))(h2:nameB x.nm=false\/okV x.ve=false\/bY x.nd=2):pG i P x=2:=by unfold pG;rw[if_neg h,if_pos h2]
theorem Jh{i:Nat}{P:List Re}{x:Re}(h:¬(50<=i\/20<x.nd.length))(h2:¬(nameB x.nm=false\/okV x.ve=false\/bY x.nd=2)):pG i P x=if bY x.nd=5\/P.any (fA x.nm x.ve)=true then 5 else 0:=by unfold pG;rw[if_neg h,if_neg h2]
theorem uM{w:World}{N:Nat}{n v d:ByteArray}{sv:Value}{t:TypeId}(h:w.heap[N]?=some (.cells #[.string n,.string v,sv,.string d] t (0,0))):w.cell? ⟨N,0,none⟩=some (.string n)/\w.cell? ⟨N,1,none⟩=some (.string v)/\w.cell? ⟨N,2,none⟩=some sv/\w.cell? ⟨N,3,none⟩=some (.string d) :=
 ⟨by rw[ah h];rfl,by rw[ah h];rfl,by rw[ah h];rfl,by rw[ah h];rfl⟩
theorem ahf{w:World}{a:Addr}{cap:Nat}{L:List Re}(i:Nat)(hi:i<=L.length)(hc:L.length<=cap)(h:∀j (hj:j<L.length),ReAt w (a.add (j*4)) L[j]):ReS w (.slice (some a) i cap) (L.take i):=by
 have hl:(L.take i).length=i:=by simp;omega
 refine Or.inr ⟨a,cap,by rw[hl],by omega,fun j hj=>?_⟩;rw[List.getElem_take];exact h j (by omega)
theorem ahg(a:Addr)(cap:Nat)(L:List Re)(i:Nat)(w:World)(hi:i<L.length)(hcap:L.length<=cap)(h:∀j (hj:j<L.length),ReAt w (a.add (j*4)) L[j])(hL:L.length<=1048576)(hV:∀x∈L,x.nm.size<2 ^ 60/\x.ve.size<2 ^ 60)(hN:∀x∈L,x.nd.length<=1048576)(hS:∀x∈L,∀y∈x.nd,y.n.size<2 ^ 60/\y.r.size<2 ^ 60) :
  Calls prog 84 #[.slice (some a) L.length cap,.int .i64 i] w fun e w'=>e=.returned (.int .i64 (lD L i))/\w.grownBy w' none:=by
 rw[CU L i hi];have HA:=ae h;obtain⟨x,hx⟩:=zN (L[i]);have hmem:x∈L:=by rw[<-hx];exact List.getElem_mem _
 obtain⟨e0,e1,⟨sv,e2,hsv⟩,e3⟩:ReAt w (a.add (i*4)) x:=by rw[<-hx];exact h i hi
 rw[hx];have HP:=ae (fun w' (hg:w.grownBy w' none)=>ahf i (by omega) hcap fun j hj=>(HA.o j hj).grow hg);have wS:=ae hsv;obtain⟨so,sc,rfl⟩:=mP hsv;have CP:Hd (∀w,Calls prog 88 #[.string x.ve] w fun e w'=>(∃(x1 x2 x3:Int) (x4 x5:ByteArray) (k:Int),e=.returned (.tuple #[.agg #[.int .i64 x1,.int .i64 x2,.int .i64 x3,.string x4,.string x5],.int .i64 (ig x.ve.data.toList).1,.int .i64 k]))/\w.grownBy w' none):=fun w=>(parse_any x.ve w (by have:=(hV x hmem).2;omega)).mono fun e w' ⟨h1,h2⟩=>⟨⟨_,_,_,_,_,_,h1⟩,h2⟩
 have CN:=ae (fun w=>name_any x.nm w (by have:=(hV x hmem).1;omega));have CF:=ae (fun w (h:NdS w (.slice so x.nd.length sc) x.nd)=>Xt _ x.nd w h (hN x hmem) (hS x hmem));have CI:=ae (fun w (h:ReS w (.slice (some a) i cap) (L.take i))=>VK _ (L.take i) x.nm x.ve w h (by simp;omega) (fun y hy=>by have:=(hV y (List.mem_of_mem_take hy)).2;omega) (by have:=(hV x hmem).2;omega));have uF:Hd (0<=fB x.nm x.ve (L.take i) 0↔(L.take i).any (fA x.nm x.ve)=true):=VV _ _ _ _;have hil:i<=1048576:=by omega
 have hiL:(i:Int)<(L.length:Int):=by omega
 have hic:i<=cap:=by omega
 clear h hV hN hS hmem hx hsv;obtain⟨R,hR⟩:=zN (pG i (L.take i) x);rw[hR]
 by_cases hm:50<=i
 ·have HR:=ae (hR.symm.trans (yA (Or.inl hm)));clear hR;go_enter func84,ntmps84;go_wp2;go_ret;exact⟨bF HR.o.symm,ak (ai w none) _⟩
 ·by_cases hn:20<x.nd.length
  ·have HR:=ae (hR.symm.trans (yA (Or.inr hn)));clear hR;go_enter func84,ntmps84;go_wp2;go_ret;exact⟨bF HR.o.symm,ak (ai w none) _⟩
  ·have zX:¬(50<=i\/20<x.nd.length):=by omega
   have HT:Hd (nameB x.nm=false\/okV x.ve=false\/bY x.nd=2->R=2):=fun h=>hR.symm.trans (Jg zX h)
   have HQ:Hd (¬(nameB x.nm=false\/okV x.ve=false\/bY x.nd=2)->R=if bY x.nd=5\/(L.take i).any (fA x.nm x.ve)=true then 5 else 0):=fun h=>hR.symm.trans (Jh zX h)
   have hok:okV x.ve=decide ((ig x.ve.data.toList).1=0):=rfl;rw[hok]at HT HQ;obtain⟨E,hE⟩:=zN ((ig x.ve.data.toList).1);rw[hE]at HT HQ CP;obtain⟨q,hq⟩:=zN (nameB x.nm);rw[hq]at HT HQ CN;obtain⟨W,hW⟩:=zN (bY x.nd);rw[hW]at HT HQ CF;obtain⟨F,hF⟩:=zN (fB x.nm x.ve (L.take i) 0);rw[hF]at uF CI;obtain⟨nn,hnn⟩:=zN (x.nd.length);rw[hnn]at wS CF e2 hn;obtain⟨xn,xv,xd,xa⟩:=x;simp only[]at CP CN CI e0 e1 e3 wS CF HQ uF;clear hR zX hok hE hq hW hF hnn;obtain⟨A,hA⟩:=zN (w.heap.size);go_enter func84,ntmps84;go_wp2_with (first|(go_at_call 88;refine(CP.o _).mono ?_));rintro e w1 ⟨⟨x1,x2,x3,x4,x5,k,rfl⟩,hg1⟩;obtain⟨c0,c1,c2,c3⟩:=uM ((hg1.block w.heap.size (by simp) (by simp)).trans (heap_alloc_new w _));have bg:=ae (ag (ak (ai w none) _) hg1);have Jf:Hd (A<w1.heap.size):=by
    have:=hg1.size;simp at this;show A < _;omega
   try rw[hA]
   rw[hA]at c0 c1 c2 c3;have hal:=Jf.o;clear hg1 e0 e1 e2 e3;have g1:=ak (ai w1 none) (.cells #[.int .i64 x1,.int .i64 x2,.int .i64 x3,.string x4,.string x5] 150);have d0:=g1.cell c0 (by simp);have d1:=g1.cell c1 (by simp);have d2:=g1.cell c2 (by simp);clear c0 c1 c2 c3;go_wp2_with (first|(go_at_call 53;refine(CF.o _ (wS.o.grow (ag bg.o g1))).mono ?_));rintro e w2 ⟨rfl,hg2⟩;have f0:=hg2.cell d0 (by simp);have f1:=hg2.cell d1 (by simp);have HG2:=ae (ag bg.o (ag g1 hg2));clear d0 d1 d2 g1 hg2 wS hal hA;have Di:=ae (fun w' (hg:w2.grownBy w' none)=>HP.o w' (ag HG2.o hg))
   cases q with
   | false =>
    go_wp2_with (go_at_call 85;refine(CN.o _).mono ?_;rintro e w' ⟨rfl,rfl⟩);go_ret;exact⟨bF (HT.o (Or.inl (by trivial))).symm,HG2.o⟩
   | true =>
    by_cases hE:E=0
    ·subst hE
     by_cases hW2:W=2
     ·subst hW2;go_wp2_with (go_at_call 85;refine(CN.o _).mono ?_;rintro e w' ⟨rfl,rfl⟩);go_ret;exact⟨bF (HT.o (Or.inr (Or.inr (by trivial)))).symm,HG2.o⟩
     ·have hw2:(W == 2)=false:=by simp[hW2]
      have zY:Hd (R=if W=5\/(L.take i).any (fA xn xv)=true then 5 else 0):=HQ.o (by simp[hW2]);clear hW2
      by_cases hW5:W=5
      ·subst hW5;have HR:=ae (zY.o.trans (if_pos (Or.inl rfl)));have h55:((5:Int) == 5)=true:=rfl;go_wp2_with (go_at_call 85;refine(CN.o _).mono ?_;rintro e w' ⟨rfl,rfl⟩);go_quiet (fail);go_wp2;go_ret;exact⟨bF HR.o.symm,aH HG2.o _⟩
      ·have hw5:(W == 5)=false:=by simp[hW5]
       have zo:Hd (0<=F->R=5):=fun h=>zY.o.trans (if_pos (Or.inr (uF.o.1 h)))
       have HR0:Hd (¬0<=F->R=0):=fun h=>zY.o.trans (if_neg (fun h2=>h2.elim hW5 (fun h3=>h (uF.o.2 h3))))
       have CII:Hd (Calls prog 94 #[.slice (some a) i cap,.string xn,.string xv] w2.drew fun e w'=>e=.returned (.int .i64 F)/\w2.drew.grownBy w' none):=CI.o _ (Di.o _ ⟨rfl,rfl,rfl,Nat.le_refl _,fun _ _ _=>rfl⟩);clear hW5;go_wp2_with (go_at_call 85;refine(CN.o _).mono ?_;rintro e w' ⟨rfl,rfl⟩)
       go_region_held3 (fun w'=>w'.cell? ⟨A,0,none⟩=some (.string xn)/\w'.cell? ⟨A,1,none⟩=some (.string xv)) ((first|exact⟨World.grownBy.cell (by assumption) (And.left (by assumption)) (by simp),World.grownBy.cell (by assumption) (And.right (by assumption)) (by simp)⟩|go_keep)) (first|(go_at_call 94;refine CII.o.mono ?_;rintro e w3 ⟨rfl,hg3⟩))
       have dD:=ae (ag HG2.o (dF hg3));clear hg3
       by_cases hF:0<=F
       ·go_wp2;go_ret;exact⟨bF (zo.o hF).symm,dD.o⟩
       ·go_wp2;go_ret;exact⟨bF (HR0.o hF).symm,dD.o⟩
    ·have hE1:(E != 0)=true:=by simp[hE]
     have HR:=ae (HT.o (Or.inr (Or.inl (by simp[hE]))));clear hE;go_wp2_with (go_at_call 85;refine(CN.o _).mono ?_;rintro e w' ⟨rfl,rfl⟩);go_ret;exact⟨bF HR.o.symm,HG2.o⟩
theorem check_any(v:Value)(L:List Re)(w:World)(h:ReS w v L)(hL:L.length<=1048576)(hV:∀x∈L,x.nm.size<2 ^ 60/\x.ve.size<2 ^ 60)(hN:∀x∈L,x.nd.length<=1048576)(hS:∀x∈L,∀y∈x.nd,y.n.size<2 ^ 60/\y.r.size<2 ^ 60) :
  Calls prog 52 #[v] w fun e w'=>e=.returned (.tuple #[.int .i64 (bQ L L.length).1,.int .i64 ((bQ L L.length).2:Int)])/\w.grownBy w' none:=by
 have H1:=ae h;have CF:=ae (fun(a:Addr) (cap:Nat) (i:Nat) (w:World) (h1:i<L.length) (h2:L.length<=cap) (h3:(∀j (hj:j<L.length),ReAt w (a.add (j*4)) L[j]))=>ahg a cap L i w h1 h2 h3 hL hV hN hS);obtain⟨o,c,rfl⟩:∃o c,v=.slice o L.length c:=by
  rcases h with⟨rfl,rfl⟩|⟨a,cap,rfl,-⟩
  ·exact⟨_,_,rfl⟩
  ·exact⟨_,_,rfl⟩
 have HH:=ae (VW L);have HM:=ae (VY L);obtain⟨R,hR⟩:=zN (bQ L L.length);have OC:Hd (bQ L (L.length-0)=R):=hR;rw[hR];clear h hV hN hS hR;go_enter func52,ntmps52;go_wp2;go_loopw [8] (fun vi wr=>∃i:Nat,vi=.int .i64 i/\i<=L.length/\bQ L (L.length-i)=R/\w.grownBy wr none) (fun vi _=>L.length-(intOf vi).toNat)
 case atStart=>exact⟨0,rfl,Nat.zero_le _,OC.o,ai _ _⟩
 case round =>
  obtain⟨i,rfl,hi,hc,hg⟩:=hrel;have HG:=ae hg;have HC:=ae hc
  by_cases hlt:i<L.length
  ·have OD:Hd (Calls prog 84 #[.slice o L.length c,.int .i64 i] wr fun e w'=>e=.returned (.int .i64 (lD L i))/\wr.grownBy w' none):=by
    rcases H1.o.grow hg with⟨h1,h2⟩|⟨a,cap,h1,h2,h3⟩
    ·rw[h2]at hlt;simp at hlt
    ·cases h1
     exact CF.o a c i wr hlt h2 h3
   have zZ:Hd (¬lD L i=0->R=(lD L i,i)):=fun h=>HC.o.symm.trans (HH.o i hlt h)
   have Ji:=ae (fun(h:lD L i=0)=>(HM.o i hlt h).symm.trans HC.o);obtain⟨F,hF⟩:=zN (lD L i);rw[hF]at OD zZ Ji;clear hF hc hg
   by_cases hz:F=0
   ·subst hz;go_wp2_with (go_at_call 84;refine OD.o.mono ?_;rintro e w3 ⟨rfl,hg3⟩);exact⟨⟨i+1,by go_num,by omega,Ji.o (by trivial),ag HG.o hg3⟩,by simp[intOf];omega⟩
   ·have hz1:(F != 0)=true:=by simp[hz]
    have HR:=ae (zZ.o hz);clear hz;go_wp2_with (go_at_call 84;refine OD.o.mono ?_;rintro e w3 ⟨rfl,hg3⟩);refine bodyPost_ret (results_tmp2 (t:=2) (u:=3) rfl _ _ _) rfl ⟨?_,ag HG.o hg3⟩;rw[HR.o];rfl
  ·have hil:i=L.length:=by omega
   have HR:Hd (R=(0,0)):=by
    show R=_;rw[<-hc,hil,Nat.sub_self];rfl
   clear hc hg hil hi;go_wp2;refine bodyPost_ret (results_tmp2 (t:=2) (u:=3) rfl _ _ _) rfl ⟨?_,HG.o⟩;rw[HR.o];rfl
open Go.RowKit Go.Maps
def fD(C:List Int)(k:Nat):Bool:=C.any fun c=>decide (c.toNat=k)
inductive Wt(N:List Nd)(L:List Re)(C:List Int):Nat->Prop
 | base (k:Nat):fD C k=true->sW N L k=true->Wt N L C k
 | step (k j:Nat) (hj:j<L.length):Wt N L C j->fD C k=true->sW L[j].nd L k=true->Wt N L C k
noncomputable def fE(N:List Nd)(L:List Re):Int:=if(bQ L L.length).1=0 then bY N else 7
structure l9(N:List Nd)(L:List Re)(C:List Int):Prop where
 f:fE N L=0
 ok:vO L C C.length=true
 m0:∀j,j<N.length->∃q,fD C q=true/\kZ N L j q=true
 m1:∀k (hk:k<L.length),fD C k=true->∀j,j<L[k].nd.length->∃q,fD C q=true/\kZ L[k].nd L j q=true
 wt:∀k,fD C k=true->Wt N L C k
theorem ahh{N:List Nd}{L:List Re}{C:List Int}{k:Nat}(h:Wt N L C k):fD C k=true:=by cases h<;>assumption
section
variable {N:List Nd} {L:List Re} {C:List Int} {x:Pl} {Q:List Pl}
theorem in_lt{k:Nat}(hr:vO L C C.length=true)(h:fD C k=true):k<L.length:=by
 unfold vO qo at hr;rw[Bool.and_eq_true,List.take_length,List.all_eq_true]at hr;unfold fD at h;rw[List.any_eq_true]at h;obtain⟨c,hc,he⟩:=h;have h1:=of_decide_eq_true (hr.1 c hc);have h2:=of_decide_eq_true he;omega
end
theorem OE(L:List Re)(h:(bQ L L.length).1=0):∀i,i<L.length->lD L i=0:=by
 have key:∀n,n<=L.length->(bQ L n).1=0->∀i,L.length-n<=i->i<L.length->lD L i=0:=by
  intro n
  induction n with
  | zero=>intro _ _ i h1 h2;omega
  | succ n ih =>
   intro hn h0 i h1 h2
   by_cases he:lD L (L.length-(n+1))=0
   ·rw[bQ,if_pos he]at h0
    by_cases hi:i=L.length-(n+1)
    ·rw[hi];exact he
    ·exact ih (by omega) h0 i (by omega) h2
   ·rw[bQ,if_neg he]at h0;exact absurd h0 he
 intro i hi;exact key L.length (Nat.le_refl _) h i (by omega) hi
theorem Dx{N:List Nd}(h:bY N=0):∀y∈N,iC y=true:=by
 unfold bY at h;split at h
 ·rename_i ha;exact List.all_eq_true.1 ha
 ·exact absurd h (by decide)
theorem uN(L:List Re)(h:(bQ L L.length).1=0):L.length<=50/\∀x∈L,x.nd.length<=20/\okV x.ve=true/\∀y∈x.nd,okR y.r=true:=by
 have h0:=OE L h;have h1:∀i (hi:i<L.length),i<50/\L[i].nd.length<=20/\okV L[i].ve=true/\bY L[i].nd=0:=fun i hi=>by
  have:=h0 i hi;rw[CU L i hi]at this
  by_cases c1:50<=i\/20<L[i].nd.length
  ·rw[yA c1]at this;exact absurd this (by decide)
  ·by_cases c2:nameB L[i].nm=false\/okV L[i].ve=false\/bY L[i].nd=2
   ·rw[Jg c1 c2]at this;exact absurd this (by decide)
   ·rw[Jh c1 c2]at this;have c3:¬bY L[i].nd=5:=fun e=>by rw[if_pos (Or.inl e)]at this;exact absurd this (by decide)
    have c4:okV L[i].ve=true:=by
     cases hv:okV L[i].ve with
     | true=>rfl
     | false=>exact absurd (Or.inr (Or.inl hv)) c2
    refine⟨by omega,by omega,c4,?_⟩
    rcases IW L[i].nd with e|e|e
    ·exact e
    ·exact absurd (Or.inr (Or.inr e)) c2
    ·exact absurd e c3
 refine⟨?_,fun x hx=>?_⟩
 ·apply Classical.byContradiction;intro hn;have:=(h1 50 (by omega)).1;omega
 ·obtain⟨i,hi,rfl⟩:=List.getElem_of_mem hx;obtain⟨-,a1,a2,a3⟩:=h1 i hi;refine⟨a1,a2,fun y hy=>?_⟩;have:=Dx a3 y hy;unfold iC at this;rw[Bool.and_eq_true]at this;exact this.2
def gm(L:List Re)(k:Nat):List Nd:=match L[k]? with|some x=>x.nd|none=>[]
theorem uO(L:List Re)(k:Nat)(h:k<L.length):gm L k=L[k].nd:=by simp[gm,List.getElem?_eq_getElem h]
def Fit(N:List Nd)(L:List Re)(ch:List Nat)(k:Nat):Prop :=
 (∀y∈N,y.n=aF L k->dE y.r (dY L k)=true)/\(∀y∈gm L k,y.n=aF L k->dE y.r (dY L k)=true)/\(∀j∈ch,∀y∈gm L j,y.n=aF L k->dE y.r (dY L k)=true)/\∀j∈ch,∀y∈gm L k,y.n=aF L j->dE y.r (dY L j)=true
structure SInv(N:List Nd)(L:List Re)(row:List ByteArray)(ch:List Nat):Prop where
 le:ch.length<=row.length
 nod:row.Nodup
 nm:∀(i k:Nat),ch[i]?=some k->k<L.length/\row[i]?=some (aF L k)
 nee:∀y∈N,y.n∈row
 ndd:∀k∈ch,∀y∈gm L k,y.n∈row
 wt:∀(i:Nat) (x:ByteArray),row[i]?=some x->(∃y∈N,y.n=x)\/∃j k:Nat,j<i/\ch[j]?=some k/\∃y∈gm L k,y.n=x
 ft0:∀k∈ch,∀y∈N,y.n=aF L k->dE y.r (dY L k)=true
 ft:∀k∈ch,∀k'∈ch,∀y∈gm L k,y.n=aF L k'->dE y.r (dY L k')=true
section
variable {N:List Nd} {L:List Re} {row:List ByteArray} {ch:List Nat}
theorem Dz(N:List Nd)(L:List Re):SInv N L (aU [] (N.map (·.n))) [] :=
 ⟨Nat.zero_le _,Bj _ _ List.nodup_nil,fun i k h=>(by simp at h),fun y hy=>(qp _ _).2 (Or.inr (List.mem_map.2 ⟨y,hy,rfl⟩)),fun k h=>(by cases h),fun i x h=>by
  have:=(qp _ _).1 (List.mem_of_getElem? h)
  rcases this with h|h
  ·cases h
  ·obtain⟨y,hy,e⟩:=List.mem_map.1 h;exact Or.inl ⟨y,hy,e⟩,fun k h=>(by cases h),fun k h=>(by cases h)⟩
theorem SInv.step(h:SInv N L row ch){k:Nat}(hk:k<L.length)(hr:row[ch.length]?=some (aF L k))(hf:Fit N L ch k):SInv N L (aU row ((gm L k).map (·.n))) (ch++[k]):=by
 obtain⟨t,ht⟩:=H8 ((gm L k).map (·.n)) row;have hlt:ch.length<row.length:=(List.getElem?_eq_some_iff.1 hr).1;have hin:=@qp;have old:∀(i:Nat) (x:ByteArray),row[i]?=some x->(aU row ((gm L k).map (·.n)))[i]?=some x:=fun i x hx=>by
  rw[ht,List.getElem?_append_left (List.getElem?_eq_some_iff.1 hx).1];exact hx
 have cho:∀i j:Nat,(ch++[k])[i]?=some j->ch[i]?=some j\/(i=ch.length/\j=k):=fun i j hj=>by
  rcases Nat.lt_or_ge i ch.length with hi|hi
  ·rw[List.getElem?_append_left hi]at hj;exact Or.inl hj
  ·rw[List.getElem?_append_right hi]at hj;have hi0:i-ch.length=0:=by
    have:=(List.getElem?_eq_some_iff.1 hj).1;simp at this;omega
   rw[hi0]at hj
   cases hj
   exact Or.inr ⟨by omega,rfl⟩
 have mem:∀j,j∈ch++[k]->j∈ch\/j=k:=fun j hj=>by
  rcases List.mem_append.1 hj with h|h
  ·exact Or.inl h
  ·exact Or.inr (List.mem_singleton.1 h)
 refine⟨?_,Bj _ _ h.nod,fun i j hj=>?_,fun y hy=>(qp _ _).2 (Or.inl (h.nee y hy)),fun j hj y hy=>?_,fun i x hx=>?_,fun j hj y hy e=>?_,fun j hj j' hj' y hy e=>?_⟩
 ·rw[ht];simp only[List.length_append,List.length_cons,List.length_nil];omega
 ·rcases cho i j hj with hj|⟨rfl,rfl⟩
  ·exact⟨(h.nm i j hj).1,old _ _ (h.nm i j hj).2⟩
  ·exact⟨hk,old _ _ hr⟩
 ·rcases mem j hj with hj|rfl
  ·exact(qp _ _).2 (Or.inl (h.ndd j hj y hy))
  ·exact(qp _ _).2 (Or.inr (List.mem_map.2 ⟨y,hy,rfl⟩))
 ·rcases Nat.lt_or_ge i row.length with hi|hi
  ·rw[ht,List.getElem?_append_left hi]at hx
   rcases h.wt i x hx with h1|⟨j,q,h1,h2,h3⟩
   ·exact Or.inl h1
   ·exact Or.inr ⟨j,q,h1,by rw[List.getElem?_append_left (List.getElem?_eq_some_iff.1 h2).1];exact h2,h3⟩
  ·have hm:=(qp _ _).1 (List.mem_of_getElem? hx);have hn:¬x∈row:=fun hr2=>by
    obtain⟨q,hq⟩:=List.getElem?_of_mem hr2;have GN:=(List.getElem?_eq_some_iff.1 hq).1;have h2:=old q x hq;obtain⟨a1,a2⟩:=List.getElem?_eq_some_iff.1 h2;obtain⟨b1,b2⟩:=List.getElem?_eq_some_iff.1 hx;exact List.pairwise_iff_getElem.1 (Bj ((gm L k).map (·.n)) row h.nod) q i a1 b1 (by omega) (a2.trans b2.symm)
   rcases hm with hm|hm
   ·exact absurd hm hn
   ·obtain⟨y,hy,e⟩:=List.mem_map.1 hm;exact Or.inr ⟨ch.length,k,by omega,by simp,y,hy,e⟩
 ·rcases mem j hj with hj|rfl
  ·exact h.ft0 j hj y hy e
  ·exact hf.1 y hy e
 ·rcases mem j hj with h1|h1
  ·rcases mem j' hj' with h2|h2
   ·exact h.ft j h1 j' h2 y hy e
   ·rw[h2]at e ⊢;exact hf.2.2.1 j h1 y hy e
  ·rw[h1]at hy
   rcases mem j' hj' with h2|h2
   ·exact hf.2.2.2 j' h2 y hy e
   ·rw[h2]at e ⊢;exact hf.2.1 y hy e
theorem SInv.one(h:SInv N L row ch):(ch.map (aF L)).Nodup:=by
 unfold List.Nodup;rw[List.pairwise_map,List.pairwise_iff_getElem];intro i j hi hj hij e;obtain⟨-,h1⟩:=h.nm i _ (List.getElem?_eq_getElem hi);obtain⟨-,h2⟩:=h.nm j _ (List.getElem?_eq_getElem hj);obtain⟨a1,a2⟩:=List.getElem?_eq_some_iff.1 h1;obtain⟨b1,b2⟩:=List.getElem?_eq_some_iff.1 h2;exact List.pairwise_iff_getElem.1 h.nod i j a1 b1 hij (a2.trans (e.trans b2.symm))
theorem Jj(C:List Int)(hC:C.Perm (ch.map fun(k:Nat)=>(k:Int)))(k:Nat):fD C k=true↔k∈ch:=by
 unfold fD;rw[List.any_eq_true];constructor
 ·rintro⟨c,hc,e⟩;obtain⟨j,hj,rfl⟩:=List.mem_map.1 (hC.subset hc);have:j=k:=by simpa using e
  exact this ▸ hj
 ·intro hk;exact⟨(k:Int),hC.symm.subset (List.mem_map.2 ⟨k,hk,rfl⟩),by simp⟩
theorem Xv(D:List Nd)(h:(D.map (·.n)).Nodup):∀i,i<=D.length->fU D i=false
 | 0,_=>rfl
 | i+1,hi=>by
  have hlt:i<D.length:=by omega
  rw[Ew D i hlt,Xv D h i (by omega),Bool.false_or];unfold ui;rw[List.any_eq_false];intro y hy e;obtain⟨j,hj,rfl⟩:=List.mem_take_iff_getElem.1 hy;have:=List.pairwise_iff_getElem.1 h j i (by simp;omega) (by simpa using hlt) (by omega);simp only[List.getElem_map]at this;exact this (by simpa using e)
theorem SInv.good(h:SInv N L row ch)(he:ch.length=row.length)(hf:fE N L=0)(C:List Int)(hC:C.Perm (ch.map fun(k:Nat)=>(k:Int))):l9 N L C:=by
 have hlt:∀k∈ch,k<L.length:=fun k hk=>by
  obtain⟨i,hi⟩:=List.getElem?_of_mem hk;exact(h.nm i k hi).1
 have has:∀x∈row,∃k∈ch,aF L k=x:=fun x hx=>by
  obtain⟨i,hi⟩:=List.getElem?_of_mem hx;have hil:=(List.getElem?_eq_some_iff.1 hi).1;have h1:=List.getElem?_eq_getElem (l:=ch) (i:=i) (by omega);have h2:=(h.nm i _ h1).2;rw[hi]at h2;exact⟨_,List.getElem_mem _,(Option.some.inj h2).symm⟩
 have meet:∀(M:List Nd),(∀y∈M,y.n∈row)->(∀k∈ch,∀y∈M,y.n=aF L k->dE y.r (dY L k)=true)->∀j,j<M.length->∃q,fD C q=true/\kZ M L j q=true:=fun M h1 h2 j hj=>by
  obtain⟨k,hk,e⟩:=has _ (h1 M[j] (List.getElem_mem _));refine⟨k,(Jj C hC k).2 hk,?_⟩;rw[zK M L j k hj (hlt k hk),h2 k hk _ (List.getElem_mem _) e.symm];simp[e]
 refine⟨hf,?_,meet N h.nee h.ft0,fun k hk hc j hj=>?_,?_⟩
 ·unfold vO qo;rw[List.take_length,Bool.and_eq_true];constructor
  ·rw[List.all_eq_true];intro c hc;obtain⟨k,hk,rfl⟩:=List.mem_map.1 (hC.subset hc);have:=hlt k hk;simp;omega
  ·have hl:C.length=(jV L C).length:=by simp[jV]
   rw[hl,Xv (jV L C) ?_ _ (Nat.le_refl _)]
   ·rfl
   ·have e1:(jV L C).map (·.n)=C.map fun c=>aF L c.toNat:=by simp[jV,Function.comp_def]
    rw[e1];have:=hC.map fun c=>aF L c.toNat
    refine this.nodup_iff.2 ?_;rw[List.map_map];have e2:((fun c:Int=>aF L c.toNat) ∘ fun(k:Nat)=>(k:Int))=aF L:=by funext k;simp
    rw[e2];exact h.one
 ·have hc':=(Jj C hC k).1 hc;have hnd:=uO L k hk;refine meet L[k].nd (fun y hy=>h.ndd k hc' y (by rw[hnd];exact hy)) (fun q hq y hy e=>h.ft k hc' q hq y (by rw[hnd];exact hy) e) j hj
 ·have key:∀i k:Nat,ch[i]?=some k->Wt N L C k:=fun i=>by
   induction i using Nat.strongRecOn with
   | ind i ih =>
    intro k hi;obtain⟨h1,h2⟩:=h.nm i k hi;have hc:=(Jj C hC k).2 (List.mem_of_getElem? hi)
    rcases h.wt i _ h2 with⟨y,hy,e⟩|⟨j,q,h3,h4,y,hy,e⟩
    ·refine Wt.base k hc ?_;unfold sW;rw[Bool.and_eq_true,List.any_eq_true];exact⟨by simpa using h1,y,hy,by simpa using e⟩
    ·have hq:=(h.nm j q h4).1;refine Wt.step k q hq (ih j h3 q h4) hc ?_;rw[uO L q hq]at hy;unfold sW;rw[Bool.and_eq_true,List.any_eq_true];exact⟨by simpa using h1,y,hy,by simpa using e⟩
  intro k hk;obtain⟨i,hi⟩:=List.getElem?_of_mem ((Jj C hC k).1 hk);exact key i k hi
end
def Jk(P:List Pl)(j:Nat):Nat:=match P[j]? with|some x=>x.bar|none=>0
theorem Jl(P:List Pl)(j:Nat)(h:j<P.length):Jk P j=P[j].bar:=by simp[Jk,List.getElem?_eq_getElem h]
structure Bt(P:List Pl)(p0:Nat)(ch:List Nat)(A D:Nat):Prop where
 a1:A<18446744073709551616
 d1:D<18446744073709551616
 a2:∀k∈ch,A.testBit k=true
 d2:∀q,D.testBit q=false->p0.testBit q=false/\∀j∈ch,(Jk P j).testBit q=false
theorem Bt.zero(P:List Pl)(p0:Nat)(h:p0<18446744073709551616):Bt P p0 [] 0 p0:=⟨by decide,h,fun k hk=>(by cases hk),fun q hq=>⟨hq,fun j hj=>(by cases hj)⟩⟩
theorem Bt.step{P:List Pl}{p0:Nat}{ch:List Nat}{A D:Nat}(h:Bt P p0 ch A D){k:Nat}(hk:k<P.length)(h64:k<64)(hb:P[k].bar<18446744073709551616):Bt P p0 (ch++[k]) (A ||| 2 ^ k) (D ||| P[k].bar):=by
 refine⟨yT h.a1 (rG h64),yT h.d1 hb,fun j hj=>?_,fun q hq=>?_⟩
 ·rw[Nat.testBit_or,Bool.or_eq_true]
  rcases List.mem_append.1 hj with hj|hj
  ·exact Or.inl (h.a2 j hj)
  ·rw[List.mem_singleton.1 hj];exact Or.inr (by simp)
 ·rw[Nat.testBit_or,Bool.or_eq_false_iff]at hq;obtain⟨h1,h2⟩:=h.d2 q hq.1;refine⟨h1,fun j hj=>?_⟩
  rcases List.mem_append.1 hj with hj|hj
  ·exact h2 j hj
  ·rw[List.mem_singleton.1 hj,Jl P k hk];exact hq.2
theorem Bt.fit{N:List Nd}{L:List Re}{P:List Pl}{x0:Pl}{ch:List Nat}{A D k:Nat}(h:Bt P x0.bar ch A D)(hx:gY N L x0)(hP:P.length=L.length)(hPl:∀j (h1:j<L.length) (h2:j<P.length),gY L[j].nd L P[j])(hch:∀j∈ch,j<L.length)(hk:k<P.length)(hf:(!(D ||| P[k].bar).testBit k && decide (P[k].bar &&& A=0))=true):Fit N L ch k:=by
 rw[Bool.and_eq_true,Bool.not_eq_true',Nat.testBit_or,Bool.or_eq_false_iff,decide_eq_true_eq]at hf;obtain⟨⟨f1,f2⟩,f3⟩:=hf;obtain⟨g1,g2⟩:=h.d2 k f1;have bK:k<L.length:=by omega
 refine⟨hx.br k g1 bK,?_,fun j hj=>?_,fun j hj=>?_⟩
 ·rw[uO L k bK];exact(hPl k bK hk).br k f2 bK
 ·have qB:=hch j hj;have:=g2 j hj;rw[Jl P j (by omega)]at this;rw[uO L j qB];exact(hPl j qB (by omega)).br k this bK
 ·have qB:=hch j hj;rw[uO L k bK];refine(hPl k bK hk).br j ?_ qB;have h1:(P[k].bar &&& A).testBit j=false:=by rw[f3,Nat.zero_testBit]
  rw[Nat.testBit_and,h.a2 j hj,Bool.and_true]at h1;exact h1
theorem Xw:∀(n:Nat) (l:List Nat),l.Nodup->(∀x∈l,x<n)->l.length<=n
 | 0,[],_,_=>Nat.le_refl _
 | 0,a :: r,_,h=>absurd (h a (by simp)) (by omega)
 | n+1,l,hn,h=>by
  have h1:=Xw n (l.erase n) (hn.erase n) (fun x hx=>by
   have h2:=h x (List.mem_of_mem_erase hx);have h3:=((List.Nodup.mem_erase_iff hn).1 hx).1;omega)
  rw[List.length_erase]at h1;split at h1<;>omega
theorem SInv.few{N:List Nd}{L:List Re}{row:List ByteArray}{ch:List Nat}(h:SInv N L row ch):ch.length<=L.length :=
 Xw L.length ch (List.Pairwise.of_map (aF L) (fun a b h e=>h (by rw[e])) h.one) fun k hk=>by
  obtain⟨i,hi⟩:=List.getElem?_of_mem hk;exact(h.nm i k hi).1
theorem wU(L:List Re)(k:Nat):bG L k=(gm L k).map (·.n):=by
 unfold bG gm
 cases L[k]? with
 | none=>rfl
 | some x=>rfl
def SI(N:List Nd)(L:List Re)(P:List Pl)(p0:Nat)(row:List ByteArray)(ch:List Nat)(A D:Nat):Prop:=SInv N L row ch/\Bt P p0 ch A D/\row.length<=N.length+64*ch.length/\∀x∈row,x.size<=maxLen
theorem ahi{N:List Nd}{L:List Re}{P:List Pl}{p0:Nat}(h0:p0<18446744073709551616)(hz:∀y∈N,y.n.size<=maxLen):SI N L P p0 (aU [] (N.map (·.n))) [] 0 p0:=by
 refine⟨Dz N L,Bt.zero P p0 h0,?_,fun x hx=>?_⟩
 ·have:=xP (N.map (·.n)) [];simpa using this
 ·rcases(qp _ _).1 hx with hx|hx
  ·cases hx
  ·obtain⟨y,hy,rfl⟩:=List.mem_map.1 hx;exact hz y hy
open Classical in
noncomputable def dG(N:List Nd)(L:List Re)(ch:List Nat)(k:Nat):Bool:=decide (Fit N L ch k)
open Classical in
theorem rq{N:List Nd}{L:List Re}{ch:List Nat}{k:Nat}:dG N L ch k=true↔Fit N L ch k:=by
 unfold dG;simp
structure BtX(P:List Pl)(p0:Nat)(ch:List Nat)(A D:Nat):Prop where
 b:Bt P p0 ch A D
 a3:∀k,A.testBit k=true->k∈ch
 d3:∀q,D.testBit q=true->p0.testBit q=true\/∃j∈ch,(Jk P j).testBit q=true
theorem BtX.zero(P:List Pl)(p0:Nat)(h:p0<18446744073709551616):BtX P p0 [] 0 p0:=⟨Bt.zero P p0 h,fun k hk=>(by rw[Nat.zero_testBit]at hk;cases hk),fun q hq=>Or.inl hq⟩
theorem BtX.step{P:List Pl}{p0:Nat}{ch:List Nat}{A D:Nat}(h:BtX P p0 ch A D){k:Nat}(hk:k<P.length)(h64:k<64)(hb:P[k].bar<18446744073709551616):BtX P p0 (ch++[k]) (A ||| 2 ^ k) (D ||| P[k].bar):=by
 refine⟨h.b.step hk h64 hb,fun j hj=>?_,fun q hq=>?_⟩
 ·rw[Nat.testBit_or,Bool.or_eq_true]at hj
  rcases hj with hj|hj
  ·exact List.mem_append.2 (Or.inl (h.a3 j hj))
  ·rw[Nat.testBit_two_pow]at hj;have:k=j:=by simpa using hj
   exact List.mem_append.2 (Or.inr (by simp[this]))
 ·rw[Nat.testBit_or,Bool.or_eq_true]at hq
  rcases hq with hq|hq
  ·rcases h.d3 q hq with h1|⟨j,h1,h2⟩
   ·exact Or.inl h1
   ·exact Or.inr ⟨j,List.mem_append.2 (Or.inl h1),h2⟩
  ·exact Or.inr ⟨k,by simp,by rw[Jl P k hk];exact hq⟩
theorem BtX.fit{N:List Nd}{L:List Re}{P:List Pl}{x0:Pl}{ch:List Nat}{A D k:Nat}(h:BtX P x0.bar ch A D)(hx:gY N L x0)(hP:P.length=L.length)(hPl:∀j (h1:j<L.length) (h2:j<P.length),gY L[j].nd L P[j])(hch:∀j∈ch,j<L.length)(hk:k<P.length):(!(D ||| P[k].bar).testBit k && decide (P[k].bar &&& A=0))=dG N L ch k:=by
 have bK:k<L.length:=by omega
 cases hf:(!(D ||| P[k].bar).testBit k && decide (P[k].bar &&& A=0)) with
 | true=>exact(rq.2 (h.b.fit hx hP hPl hch hk hf)).symm
 | false =>
  refine(Bool.eq_false_iff.2 fun hF=>?_).symm;obtain⟨f1,f2,f3,f4⟩:=rq.1 hF;rw[uO L k bK]at f2 f4;have no:∀{M:List Nd} {q:Nat},(∀y∈M,y.n=aF L q->dE y.r (dY L q)=true)->¬∃y∈M,y.n=aF L q/\dE y.r (dY L q)=false:=fun hM ⟨y,h1,h2,h3⟩=>by
   rw[hM y h1 h2]at h3;cases h3
  rw[Bool.and_eq_false_iff,Bool.not_eq_false',Nat.testBit_or,Bool.or_eq_true,decide_eq_false_iff_not]at hf
  rcases hf with(hf|hf)|hf
  ·rcases h.d3 k hf with h1|⟨j,h1,h2⟩
   ·exact no f1 (hx.bx k h1)
   ·have qB:=hch j h1;rw[Jl P j (by omega)]at h2;have:=f3 j h1;rw[uO L j qB]at this;exact no this ((hPl j qB (by omega)).bx k h2)
  ·exact no f2 ((hPl k bK hk).bx k hf)
  ·apply hf;apply Nat.eq_of_testBit_eq;intro j;rw[Nat.testBit_and,Nat.zero_testBit]
   cases h1:P[k].bar.testBit j with
   | false=>rfl
   | true =>
    cases h2:A.testBit j with
    | false=>rfl
    | true=>exact absurd ((hPl k bK hk).bx j h1) (no (f4 j (h.a3 j h2)))
theorem yB{L:List Re}{O:List En}{x:ByteArray}{k:Nat}(h:k∈dL L O x):k<L.length/\aF L k=x:=by
 unfold dL at h;split at h
 ·rename_i hex;exact(Classical.choose_spec hex).nm k h
 ·cases h
def SIX(N:List Nd)(L:List Re)(P:List Pl)(p0:Nat)(row:List ByteArray)(ch:List Nat)(A D:Nat):Prop:=SInv N L row ch/\BtX P p0 ch A D/\row.length<=N.length+64*ch.length/\∀x∈row,x.size<=maxLen
theorem ahj{N:List Nd}{L:List Re}{O:List En}{P:List Pl}{x0:Pl}(hN:N.length<=1040000)(hL:L.length<=64)(hP:P.length=L.length)(hx:gY N L x0)(hPl:∀j (h1:j<L.length) (h2:j<P.length),gY L[j].nd L P[j])(hnd:∀x∈L,x.nd.length<=64)(hz:∀x∈L,∀y∈x.nd,y.n.size<=maxLen):Vl L.length P (bG L) (dL L O) (dG N L) (SIX N L P x0.bar) where
 few h:=h.1.few
 le h:=h.1.le
 nod h:=h.1.nod
 len {row ch A D} h:=by
  have h1:=h.2.2.1;have h2:=h.1.few;omega
 sz h:=h.2.2.2
 a h:=h.2.1.b.a1
 d h:=h.2.1.b.d1
 nsl k hk:=by
  rw[Df L k hk,List.length_map];exact hnd _ (List.getElem_mem _)
 nsz k hk x hx':=by
  rw[Df L k hk]at hx';obtain⟨y,hy,rfl⟩:=List.mem_map.1 hx';exact hz _ (List.getElem_mem _) y hy
 bar k hk:=(hPl k (by omega) hk).ok.bar
 fit {row ch A D} h k hk:=h.2.1.fit hx hP hPl (fun j hj=>by
   obtain⟨i,hi⟩:=List.getElem?_of_mem hj;exact(h.1.nm i j hi).1) hk
 step {row ch A D} h x k hk hr hc hf:=by
  obtain⟨h1,h2,h3,h4⟩:=h;have bK:k<L.length:=by omega
  have hns:(bG L k).length<=64:=by
   rw[Df L k bK,List.length_map];exact hnd _ (List.getElem_mem _)
  have hkx:=(yB hc).2;refine⟨?_,h2.step hk (by omega) (hPl k bK hk).ok.bar,?_,fun y hy=>?_⟩
  ·rw[wU];exact h1.step bK (by rw[hr,hkx]) (rq.1 hf)
  ·have:=xP (bG L k) row;rw[List.length_append,List.length_singleton];omega
  ·rcases(qp _ _).1 hy with hy|hy
   ·exact h4 y hy
   ·rw[Df L k bK]at hy;obtain⟨z,hz',rfl⟩:=List.mem_map.1 hy;exact hz _ (List.getElem_mem _) z hz'
theorem ahk{N:List Nd}{L:List Re}{P:List Pl}{p0:Nat}(h0:p0<18446744073709551616)(hz:∀y∈N,y.n.size<=maxLen):SIX N L P p0 (aU [] (N.map (·.n))) [] 0 p0:=by
 obtain⟨h1,-,h3,h4⟩:=ahi (L:=L) (P:=P) h0 hz;exact⟨h1,BtX.zero P p0 h0,h3,h4⟩
theorem Jm(L:List Re)(name:ByteArray):∃E:List It,E.Perm (bn name L 0)/\E.Pairwise (fun a b=>0<=eF b a):=by
 refine⟨(bn name L 0).mergeSort fun a b=>decide (0<=eF b a),List.mergeSort_perm _ _,?_⟩;have hs:=List.pairwise_mergeSort (le:=fun a b=>decide (0<=eF b a)) (fun a b c h1 h2=>by
  rw[decide_eq_true_eq]at h1 h2 ⊢;exact V9 h2 h1) (fun a b=>by
  rw[Bool.or_eq_true,decide_eq_true_eq,decide_eq_true_eq];apply Classical.byContradiction;intro hn;have c1:eF b a<0:=by omega
  have c2:eF a b<0:=by omega
  rw[qW]at c1 c2;have d:=dN (cutV a.v) (cutV b.v);omega) (bn name L 0)
 exact hs.imp fun h=>by simpa using h
theorem Xx{name v:ByteArray}{q:Nat}:∀(L:List Re) (k:Nat),fB name v L k=(q:Int)->∃it∈bn name L k,it.k=q
 | [],k,h=>by unfold fB at h;omega
 | x :: r,k,h=>by
  unfold fB at h;unfold bn;split at h
  ·rename_i hh;unfold fA og at hh;rw[Bool.and_eq_true,Bool.and_eq_true]at hh;rw[if_pos (by rw[hh.1,hh.2.1];rfl)];exact⟨_,List.mem_cons_self,by simp only[];omega⟩
  ·obtain⟨it,h1,h2⟩:=Xx r (k+1) h;split
   ·exact⟨it,List.mem_cons_of_mem _ h1,h2⟩
   ·exact⟨it,h1,h2⟩
def nI(cs:List Nat):List Value:=cs.map fun(k:Nat)=>Value.int .i64 (k:Int)
noncomputable def jB(N:List Nd)(L:List Re)(O:List En)(fu:Int):Fd:=dC (dL L O) (dG N L) (bG L) (L.length+1) (aU [] (N.map (·.n))) [] (max fu 0).toNat
def qC(N:List Nd)(L:List Re)(O:List En)(fu:Int)(C:List Nat)(E:Int):Prop:=(¬fE N L=0/\E=fE N L/\C=[])\/(fE N L=0/\jB N L O fu=.dry/\E=10/\C=[])\/(fE N L=0/\(∃f,jB N L O fu=.no f)/\E=8/\C=[])\/(fE N L=0/\E=0/\(∃ch,jB N L O fu=.yes ch/\C.Perm ch)/\(C.Pairwise fun a b=>cT (aF L a) (aF L b)<=0)/\(C.map (aF L)).Nodup/\C.length<=64/\∀k∈C,k<L.length)
def Xy(N:List Nd)(L:List Re)(O:List En)(fu:Int)(w:World)(e:Ending)(w':World):Prop:=w.grownBy w' none/\∃(o:Option Addr) (c:Nat) (C:List Nat) (E:Int),e=.returned (.tuple #[.slice o C.length c,.int .i64 E])/\w'.ownsRow w.heap.size 3 1 (.slice o C.length c) C.length (nI C)/\qC N L O fu C E
theorem ahl{a b:ByteArray}(h:cT a b=0):a=b:=by
 unfold cT at h
 cases h1:Op.bytesLess a.data.toList b.data.toList with
 | true=>rw[(xx _ _).1 h1]at h;cases h
 | false =>
  cases h2:(a.data.toList == b.data.toList) with
  | true=>exact ByteArray.ext (Array.ext' (by simpa using h2))
  | false=>rw[(xx _ _).2.1 h1 h2]at h;cases h
theorem ahm{a b:ByteArray}(h1:cT a b<=0)(h2:cT b a<=0):a=b:=by
 exact ahl (by have:=uB.anti a b;omega)
theorem Xz{L:List Re}{ch:List Nat}(h:(ch.map (aF L)).Nodup){a b:Nat}(ha:a∈ch)(hb:b∈ch)(e:aF L a=aF L b):a=b:=by
 obtain⟨i,hi,rfl⟩:=List.getElem_of_mem ha;obtain⟨j,hj,rfl⟩:=List.getElem_of_mem hb
 rcases Nat.lt_trichotomy i j with h1|h1|h1
 ·exact absurd (by rw[List.getElem_map,List.getElem_map];exact e) (List.pairwise_iff_getElem.1 h i j (by simpa using hi) (by simpa using hj) h1)
 ·subst h1;rfl
 ·exact absurd (by rw[List.getElem_map,List.getElem_map];exact e.symm) (List.pairwise_iff_getElem.1 h j i (by simpa using hj) (by simpa using hi) h1)
theorem XA{L:List Re}{ch:List Nat}(h:(ch.map (aF L)).Nodup):ch.Nodup:=List.Pairwise.imp (fun h e=>h (by rw[e])) (List.pairwise_map.1 h)
theorem wV{N:List Nd}{L:List Re}{O:List En}{fu:Int}{C D:List Nat}{E F:Int}(h:qC N L O fu C E)(h':qC N L O fu D F):C=D/\E=F:=by
 rcases h with⟨h1,h2,h3⟩|⟨h1,h2,h3,h4⟩|⟨h1,⟨f,h2⟩,h3,h4⟩|⟨h1,h2,⟨ch,h3,h4⟩,h5,h6,-⟩<;>rcases h' with⟨k1,k2,k3⟩|⟨k1,k2,k3,k4⟩|⟨k1,⟨g,k2⟩,k3,k4⟩|⟨k1,k2,⟨dh,k3,k4⟩,k5,k6,-⟩<;>first|exact absurd h1 k1|exact absurd k1 h1|(exfalso;rw[h2]at k2;cases k2;done)|(exfalso;rw[h2]at k3;cases k3;done)|(exfalso;rw[h3]at k2;cases k2;done)|exact⟨by rw[h3,k3],by rw[h2,k2]⟩|exact⟨by rw[h4,k4],by rw[h3,k3]⟩|skip
 ·rw[h3]at k3
  cases k3
  refine⟨NU (fun a b=>cT (aF L a) (aF L b)<=0) C D (h4.trans k4.symm) h5 k5 fun a ha b hb r1 r2=>Xz h6 ha hb (ahm r1 r2),by rw[h2,k2]⟩
open Go.RowKit Go.Maps
def eG(L:List Re)(C:List Int)(n:ByteArray):Int:=match C.find? (fun c=>decide (aF L c.toNat=n)) with|some c=>c|none=>-1
theorem ahn(L:List Re)(C:List Int)(n:ByteArray)(i:Nat)(hi:i<C.length)(h:aF L (C[i]).toNat=n)(h0:(C.take i).any (fun c=>decide (aF L c.toNat=n))=false):eG L C n=C[i]:=by
 have:C.find? (fun c=>decide (aF L c.toNat=n))=some C[i]:=by
  rw[List.find?_eq_some_iff_getElem];refine⟨by simpa using h,i,hi,rfl,fun j hj=>?_⟩;rw[List.any_eq_false]at h0;have:=h0 C[j] (List.mem_take_iff_getElem.2 ⟨j,by omega,rfl⟩);simpa using this
 unfold eG;rw[this]
theorem XB(L:List Re)(C:List Int)(n:ByteArray)(h0:C.any (fun c=>decide (aF L c.toNat=n))=false):eG L C n=-1:=by
 have:C.find? (fun c=>decide (aF L c.toNat=n))=none:=by
  rw[List.find?_eq_none];rw[List.any_eq_false]at h0;exact h0
 unfold eG;rw[this]
theorem yC(L:List Re)(C:List Int)(n:ByteArray):(∃c∈C,eG L C n=c/\aF L c.toNat=n)\/(eG L C n=-1/\∀c∈C,¬aF L c.toNat=n):=by
 unfold eG
 cases hf:C.find? (fun c=>decide (aF L c.toNat=n)) with
 | none =>
  right;refine⟨rfl,fun c hc e=>?_⟩;have:=List.find?_eq_none.1 hf c hc;exact this (by simpa using e)
 | some c =>
  left;refine⟨c,List.mem_of_find?_eq_some hf,rfl,?_⟩;have:=List.find?_some hf;simpa using this
theorem DC{α:Type}(p:α->Bool)(C:List α)(i:Nat)(hi:i<C.length):(C.take (i+1)).any p=((C.take i).any p || p C[i]):=by
 rw[List.take_succ_eq_append_getElem hi,List.any_append];simp
theorem Jn(o oc:Option Addr)(c cc:Nat)(L:List Re)(C:List Int)(n:ByteArray)(w:World)(h:ReS w (.slice o L.length c) L)(hc:IS w (.slice oc C.length cc) C)(hL:L.length<=1048576)(hC:C.length<=1048576)(hin:∀z∈C,0<=z/\z<(L.length:Int)) :
  Calls prog 37 #[.slice o L.length c,.slice oc C.length cc,.string n] w fun e w'=>e=.returned (.int .i64 (eG L C n))/\w.grownBy w' none:=by
 have HE:=ae (fun w' (hg:w.grownBy w' none) i (hi:i<L.length)=>lq (h.grow hg) hi);have HI:=ae (fun w' (hg:w.grownBy w' none) i (hi:i<C.length)=>rU (hc.grow hg) hi);have jT:=ae hin;have HH:=ae (ahn L C n);have HM:=ae (XB L C n);obtain⟨R,hR⟩:=zN (eG L C n);rw[hR]at HH HM ⊢;clear h hc hin hR;go_enter func37,ntmps37;go_wp2;go_loopw [7] (fun vi wr=>∃i:Nat,vi=.int .i64 i/\i<=C.length/\(C.take i).any (fun c=>decide (aF L c.toNat=n))=false/\w.grownBy wr none) (fun vi _=>C.length-(intOf vi).toNat)
 case atStart=>exact⟨0,rfl,Nat.zero_le _,rfl,ai _ _⟩
 case round =>
  obtain⟨i,rfl,hi,hno,hg⟩:=hrel;have HG:=ae hg;have iQ:=ae hno
  by_cases hlt:i<C.length
  ·obtain⟨a1,ho1,hcp1,iD⟩:=HI.o wr hg i hlt;have f0:=iD i hlt;obtain⟨hz1,hz2⟩:=jT.o _ (List.getElem_mem hlt);obtain⟨k,hk⟩:∃k:Nat,C[i]=(k:Int):=⟨(C[i]).toNat,by omega⟩;have hkl:k<L.length:=by omega
   obtain⟨a2,ho2,hcp2,gu⟩:=HE.o wr hg k hkl;obtain⟨e0,-⟩:=gu k hkl;have hhi:=HH.o i hlt;have HST:Hd ((C.take (i+1)).any (fun c=>decide (aF L c.toNat=n))=((C.take i).any (fun c=>decide (aF L c.toNat=n)) || decide (aF L (C[i]).toNat=n))):=DC _ C i hlt;rw[hk]at f0 hhi HST;have e1:((k:Int)).toNat=k:=by omega
   rw[e1,mX L k hkl]at hhi HST;obtain⟨x,hx⟩:=zN (L[k].nm);rw[hx]at hhi HST e0;have hic:i<cc:=by omega
   have hkc:k<c:=by omega
   have qY:=ae hhi;subst ho1 ho2;clear iD gu hg hno hcp1 hcp2 hz1 hz2 hk hx hhi e1
   by_cases hn:x=n
   ·have hnn:(x.toList == n.toList)=true:=by rw[hn];simp
    have nP:=ae (qY.o hn iQ.o);clear hn;go_wp2;refine bodyPost_ret (results_tmp (t:=6) rfl _ _ _) rfl ⟨?_,HG.o⟩;rw[nP.o];rfl
   ·have hnn:=pz hn;have eP:Hd ((C.take (i+1)).any (fun c=>decide (aF L c.toNat=n))=false):=by
     show _=_;rw[HST.o,iQ.o,decide_eq_false hn];rfl
    clear hn;go_wp2;go_roundw
    case rel=>exact⟨i+1,by go_num,by omega,eP.o,HG.o⟩
    case measure=>simp[intOf];omega
  ·have hil:i=C.length:=by omega
   have nP:Hd (R=-1):=by
    rw[hil,List.take_length]at hno;exact HM.o hno
   clear hno hg hil hi;go_wp2;refine bodyPost_ret (results_tmp (t:=6) rfl _ _ _) rfl ⟨?_,HG.o⟩;rw[nP.o];rfl
theorem XC(r v:ByteArray)(w:World)(hr:r.size<2 ^ 60)(hv:v.size<2 ^ 60)(ho:okR r=true) :
  Calls prog 69 #[.string r,.string v] w fun e w'=>e=.returned (.bool (dE r v))/\w.grownBy w' none:=by
 have h0:=of_decide_eq_true ho;have CR:=ae (fun w=>Ou r w hr);have CV:=ae (fun w=>Iy v w (by omega));have hp:=sF v;have CQ:Hd (∀(sv:Value) (A:List (List Tq)) (w:World),SsAt w sv A->A.length<=201->(∀L∈A,L.length<=1000/\∀x∈L,jL x)->Calls prog 24 #[sv,eY (aK v)] w fun e w'=>e=.returned (.bool (wR A (cutV (aK v))))/\w.grownBy w' none):=fun sv A w h1 h2 h3=>(Xn sv A _ _ _ _ _ w h1 h2 h3 (by show(aK v).pre.toArray.size<=_;simp;omega)).mono fun e w' ⟨he,hg⟩=>⟨by rw[he];simp[cutV],hg⟩
 have HAD:Hd (∀A:List (List Tq),A.map (·.map cO)=(fJ r.data.toList).2.2->wR A (cutV (aK v))=dE r v):=fun A hA=>by
  show _=_;unfold dE;rw[Xm,hA]
 have HR0:=ae h0;unfold eY at CV CQ;obtain⟨v1,hv1⟩:=zN ((aK v).major);obtain⟨v2,hv2⟩:=zN ((aK v).minor);obtain⟨v3,hv3⟩:=zN ((aK v).patch);obtain⟨v4,hv4⟩:∃x:ByteArray,⟨(aK v).pre.toArray⟩=x:=⟨_,rfl⟩;obtain⟨v5,hv5⟩:∃x:ByteArray,⟨(aK v).build.toArray⟩=x:=⟨_,rfl⟩;rw[hv1,hv2,hv3,hv4,hv5]at CV CQ;obtain⟨R,hR⟩:=zN (dE r v);rw[hR]at HAD ⊢;clear hv1 hv2 hv3 hv4 hv5 hp h0 ho hr hv hR;go_enter func69,ntmps69;go_wp2_with (go_at_call 22;refine(CR.o _).mono ?_);rintro e w1 ⟨o,n,c,A,rfl,hg,hok⟩;obtain⟨h1,h2,h3,h4⟩:=hok HR0.o;have lL:Hd (SsAt w1 (.slice o n c) A/\A.length<=201/\∀L∈A,L.length<=1000/\∀x∈L,jL x):=⟨Xl h1,h3,h4⟩;have HQ:=ae (HAD.o A h2);have HG:=ae hg;clear hok h1 h2 h3 h4 hg;go_wp2_with (go_at_call 73;refine(CV.o _).mono ?_);rintro e w2 ⟨rfl,hg2⟩;have CQ2:Hd (Calls prog 24 #[.slice o n c,.agg #[.int .i64 v1,.int .i64 v2,.int .i64 v3,.string v4,.string v5]] w2 fun e w'=>e=.returned (.bool R)/\w2.grownBy w' none):=by
  have:=CQ.o (.slice o n c) A w2 (lL.o.1.grow hg2) lL.o.2.1 lL.o.2.2;rw[HQ.o]at this;exact this
 replace HG:=ae (ag HG.o hg2);clear hg2;go_wp2_with (go_at_call 24;refine CQ2.o.mono ?_;rintro e w3 ⟨rfl,hg3⟩);go_ret;exact⟨rfl,ag HG.o hg3⟩
def jC(N:List Nd)(n:ByteArray):Bool:=N.any fun y=>decide (y.n=n)
theorem XD(v:Value)(N:List Nd)(n:ByteArray)(w:World)(h:NdS w v N)(hN:N.length<=1048576) :
  Calls prog 70 #[v,.string n] w fun e w'=>e=.returned (.bool (jC N n))/\w.grownBy w' none:=by
 obtain⟨o,c,rfl⟩:∃o c,v=.slice o N.length c:=by
  rcases h with⟨rfl,rfl⟩|⟨_,_,rfl,-⟩
  ·exact⟨_,_,rfl⟩
  ·exact⟨_,_,rfl⟩
 have HE:=ae (fun w' (hg:w.grownBy w' none) i (hi:i<N.length)=>FZ (h.grow hg) hi);have HH:Hd (∀i (hi:i<N.length),N[i].n=n->jC N n=true):=fun i hi he=>by
  show jC N n=true;unfold jC;rw[List.any_eq_true];exact⟨N[i],List.getElem_mem _,by simpa using he⟩
 have HA:Hd (jC N n=N.any fun y=>decide (y.n=n)):=rfl;obtain⟨R,hR⟩:=zN (jC N n);rw[hR]at HH HA ⊢;clear h hR;go_enter func70,ntmps70;go_wp2;go_loopw [5] (fun vi wr=>∃i:Nat,vi=.int .i64 i/\i<=N.length/\(N.take i).any (fun y=>decide (y.n=n))=false/\w.grownBy wr none) (fun vi _=>N.length-(intOf vi).toNat)
 case atStart=>exact⟨0,rfl,Nat.zero_le _,rfl,ai _ _⟩
 case round =>
  obtain⟨i,rfl,hi,hno,hg⟩:=hrel;have HG:=ae hg;have iQ:=ae hno
  by_cases hlt:i<N.length
  ·obtain⟨a1,ho1,hcp1,iD⟩:=HE.o wr hg i hlt;obtain⟨e0,-⟩:=iD i hlt;have qY:=HH.o i hlt;have HST:Hd ((N.take (i+1)).any (fun y=>decide (y.n=n))=((N.take i).any (fun y=>decide (y.n=n)) || decide (N[i].n=n))):=DC _ N i hlt;obtain⟨x,hx⟩:=zN (N[i].n);rw[hx]at qY HST e0;have OG:=ae qY;have hic:i<c:=by omega
   subst ho1;clear iD hg hno hcp1 hx qY
   by_cases hn:x=n
   ·have hnn:(x.toList == n.toList)=true:=by rw[hn];simp
    have nP:=ae (OG.o hn);clear hn;go_wp2;refine bodyPost_ret (results_tmp (t:=4) rfl _ _ _) rfl ⟨?_,HG.o⟩;rw[nP.o];rfl
   ·have hnn:=pz hn;have eP:Hd ((N.take (i+1)).any (fun y=>decide (y.n=n))=false):=by
     show _=_;rw[HST.o,iQ.o,decide_eq_false hn];rfl
    clear hn;go_wp2;go_roundw
    case rel=>exact⟨i+1,by go_num,by omega,eP.o,HG.o⟩
    case measure=>simp[intOf];omega
  ·have hil:i=N.length:=by omega
   have nP:Hd (R=false):=by
    rw[hil,List.take_length]at hno;exact HA.o.trans hno
   clear hno hg hil hi;go_wp2;refine bodyPost_ret (results_tmp (t:=4) rfl _ _ _) rfl ⟨?_,HG.o⟩;rw[nP.o];rfl
open Go.RowKit
def aho(R:List ByteArray)(w:World)(e:Ending)(w':World):Prop:=∃v,e=.returned v/\w'.ownsRow w.heap.size 9 1 v R.length (R.map Value.string)/\Below w.heap.size w w'
theorem ahp(R:List ByteArray)(x:ByteArray)(k:Nat)(hk:k<R.length):iq (R.take (k+1)) x=(iq (R.take k) x || decide (R[k]=x)):=DC _ R k hk
theorem ahq(row:List ByteArray)(N:List Nd)(i:Nat)(hi:i<N.length):aU row ((N.take (i+1)).map (·.n))=if iq (aU row ((N.take i).map (·.n))) N[i].n=true then aU row ((N.take i).map (·.n)) else aU row ((N.take i).map (·.n))++[N[i].n]:=by
 rw[List.take_succ_eq_append_getElem hi,List.map_append];exact H9 _ _ _
theorem Jo{w:World}{B:Nat}{v:Value}{R:List ByteArray}(h:w.ownsRow B 9 1 v R.length (R.map Value.string)):∃o c,v=.slice o R.length c/\∀k (hk:k<R.length),∃g,o=some ⟨g,0,none⟩/\R.length<=c/\w.cell? ⟨g,k,none⟩=some (.string R[k]):=by
 obtain⟨o,c,rfl⟩:=mY h;refine⟨o,c,rfl,fun k hk=>?_⟩
 rcases h.2 with⟨e,-⟩|⟨g,c',cur,e,hgB,hgb,hnc,hcm,hcs,hct⟩
 ·injection e with _ e _;omega
 ·injection e with e1 _ e2
  subst e1 e2;refine⟨g,rfl,hnc,?_⟩;have hx:cur[k]?=(R.map Value.string)[k]?:=by rw[<-hct,List.getElem?_take,if_pos (by omega),Array.getElem?_toList]
  rw[ah hgb,hx,List.getElem?_map,List.getElem?_eq_getElem hk];rfl
theorem XE(ro no:Option Addr)(rc nc:Nat)(row:List ByteArray)(N:List Nd)(w:World)(h:TxS w (.slice ro row.length rc) row)(h':NdS w (.slice no N.length nc) N)(hR:row.length<=8388608)(hN:N.length<=1048576) :
  Calls prog 33 #[.slice ro row.length rc,.slice no N.length nc] w (aho (aU row (N.map (·.n))) w):=by
 have lm:=ae (aeM h);have jW:=ae (fun w' (hg:w.grownBy w' none) i (hi:i<N.length)=>Nr (h'.grow hg) hi);have bC:=ae (fun i (hi:i<N.length)=>ahq row N i hi);have bW:=ae (fun i=>xP ((N.take i).map (·.n)) row);have FM:Hd (aU row ((N.take N.length).map (·.n))=aU row (N.map (·.n))):=by rw[List.take_length];exact rfl
 obtain⟨F,hF⟩:=zN (aU row (N.map (·.n)));rw[hF]at FM ⊢;obtain⟨i0,hi0,hii⟩:=Option.map_eq_some_iff.1 H7;simp only[Prod.mk.injEq]at hii;obtain⟨hz0,hz1,hzb⟩:=hii;obtain⟨B,hB⟩:=zN (w.heap.size);have HB:=ae hB;clear h h' hF hB;go_enter func33,ntmps33;go_wp2_with (first|(at_builtin;refine IL (base:=w.heap.size) rfl _ _ 67 rfl i0 (.string ⟨#[]⟩) 16 underlying67 hi0 hz0 hz1 hzb rfl (by decide) rfl ro row.length rc (row.map Value.string) rfl lm.o (by unfold maxLen;omega) (by omega) (Nat.le_refl _) ?_;intro o1 c1 w1 hown1 hg1));have HB1:Hd (Below B w w1):=⟨hg1.os,hg1.tape,hg1.output,hg1.size,fun k hk=>hg1.block k (by rw[HB.o];exact hk) (by simp)⟩;rw[HB.o]at hown1;have dB:=ae hown1;clear hown1 hg1;go_loopw [5,6] (fun vm vi wr=>∃(i:Nat) (R:List ByteArray),vi=.int .i64 i/\i<=N.length/\R=aU row ((N.take i).map (·.n))/\wr.ownsRow B 9 1 vm R.length (R.map Value.string)/\Below B w wr) (fun _ vi _=>N.length-(intOf vi).toNat)
 case atStart=>exact⟨0,row,rfl,Nat.zero_le _,rfl,dB.o,HB1.o⟩
 case round =>
  obtain⟨i,R,rfl,hi,hRe,hown,hb⟩:=hrel;have HRE:=ae hRe;have HO:=ae hown;have pK:=ae hb;have hBw:=hb.size;rw[HB.o]at hBw;obtain⟨wo,hwo⟩:∃wo,wo=wr:=⟨_,rfl⟩;subst hwo;have hRl:R.length<=9437184:=by
   have:=bW.o i;rw[<-hRe]at this;simp at this;omega
  have hgw:w.grownBy wo none:=gz (by rw[HB.o];exact hb);have bD:=ae hgw;obtain⟨ou,cu,hu,lG⟩:=Jo hown;subst hu
  by_cases hlt:i<N.length
  ·obtain⟨a,rfl,hcap,hat⟩:=jW.o wo hgw i hlt;obtain⟨e0,-⟩:=hat i hlt;have hnx:=bC.o i hlt;rw[<-hRe]at hnx;obtain⟨x,hx⟩:=zN (N[i].n);rw[hx]at e0 hnx;have HX:=ae hnx;have hic:i<nc:=by omega
   have jT:=ae (fun k (hk:k<R.length)=>ahp R x k hk);have HIE:Hd (iq (R.take R.length) x=iq R x):=by rw[List.take_length];exact rfl
   have HI0:Hd (iq (R.take 0) x=false):=rfl;have BX:=ae lG;clear hRe hown hb hgw hat hx hnx lG;go_wp2;go_loopw [7,8] (fun vb vk wr=>∃k:Nat,vk=.int .i64 k/\k<=R.length/\vb=.bool (iq (R.take k) x)/\wo.grownBy wr none) (fun _ vk _=>R.length-(intOf vk).toNat)
   case atStart=>exact⟨0,rfl,Nat.zero_le _,rfl,ai _ _⟩
   case round =>
    obtain⟨k,rfl,hk,rfl,hg⟩:=hrel;have HG:=ae hg
    by_cases hkl:k<R.length
    ·obtain⟨g,hg0,hcu,hck⟩:=BX.o k hkl;subst hg0;have c1:=hg.cell hck (by simp);have c2:=hg.cell e0 (by simp);have hst:=jT.o k hkl;obtain⟨b,hbk⟩:=zN (iq (R.take k) x);obtain⟨y,hy⟩:=zN (R[k]);rw[hbk,hy]at hst;rw[hy]at c1;rw[hbk];have hkc:k<cu:=by omega
     clear hg hck hbk hy e0 hcu
     cases b with
     | true =>
      have HST:Hd (iq (R.take (k+1)) x=true):=by rw[hst];exact rfl
      clear hst;go_wp2;go_quiet (fail);go_wp2;exact⟨⟨k+1,by go_num,by omega,by rw[HST.o],aH HG.o _⟩,by simp[intOf];omega⟩
     | false =>
      by_cases hxy:y=x
      ·have q:=uA hxy;have HST:Hd (iq (R.take (k+1)) x=true):=by rw[hst,hxy];simp;exact trivial
       clear hst hxy;go_wp2;go_quiet (fail);go_wp2;exact⟨⟨k+1,by go_num,by omega,by rw[HST.o],aH HG.o _⟩,by simp[intOf];omega⟩
      ·have q:=pz hxy;have HST:Hd (iq (R.take (k+1)) x=false):=by
        show _=_;rw[hst];simpa using hxy
       clear hst hxy;go_wp2;go_quiet (fail);go_wp2;exact⟨⟨k+1,by go_num,by omega,by rw[HST.o],aH HG.o _⟩,by simp[intOf];omega⟩
    ·have hke:k=R.length:=by omega
     subst hke;have c2:=hg.cell e0 (by simp);rw[HIE.o];obtain⟨b,hbk⟩:=zN (iq R x);have hx2:=HX.o;rw[hbk]at hx2 ⊢;have pI:=ae hbk;have hown:=dV HO.o hg;have Dc:Hd (Below B w wr):=hbelow pK.o hBw hg;have hsz:=hg.size;clear hbk hg e0
     cases b with
     | true =>
      have HR2:Hd (R=aU row ((N.take (i+1)).map (·.n))):=by rw[hx2];exact rfl
      have cZ:=ae hown;clear hx2 hown;go_wp2;exact⟨⟨i+1,R,by go_num,by omega,HR2.o,cZ.o,Dc.o⟩,by simp[intOf];omega⟩
     | false =>
      have HR2:Hd (R++[x]=aU row ((N.take (i+1)).map (·.n))):=by rw[hx2];exact rfl
      clear hx2;go_wp2_with (first|(at_builtin;refine wpList_append_lies _ rfl _ _ 67 rfl B 9 i0 (.string ⟨#[]⟩) 1 16 underlying67 hi0 hz0 hz1 hzb rfl (by decide) _ _ _ rfl (hown.alloc _) _ 1 1 [.string x] rfl rfl (World.news_of_block (heap_alloc_new _ _)) (EW [x]) (by decide) (by unfold maxLen;omega) (by omega) (by simp;omega) _ rfl ?_;intro g cap1 w3 hown3 hgrow iI hlt3));have HB3:Hd (Below B w w3):=(Dc.o.alloc (by omega) _).grown hgrow (by simp;omega) (fun q hq=>(hown.lt q hq).1);have jl:Hd (w3.ownsRow B 9 1 (.slice (some ⟨g,0,none⟩) (R++[x]).length cap1) (R++[x]).length ((R++[x]).map Value.string)):=by
       show World.ownsRow _ _ _ _ _ _ _;rw[List.map_append,List.length_append];exact hown3
      clear hgrow hown3 iI hlt3 hown;go_wp2;exact⟨⟨i+1,R++[x],by go_num,by omega,HR2.o,by have:=jl.o;rw[List.length_append]at this ⊢;exact this,HB3.o⟩,by simp[intOf];omega⟩
  ·have HF:Hd (R=F):=by
    show R=F;rw[hRe,<-FM.o,show i=N.length by omega]
   clear hRe hown hb hgw lG;go_wp2;go_ret;refine⟨_,rfl,?_,?_⟩
   ·rw[<-HF.o,HB.o];exact HO.o
   ·rw[HB.o];exact pK.o
end Go.Proofs.YtiinliaoojfjaaaGreatDoor
