import Derived.Test.YtbcfhgpfgdbjgaaGreatDoorK23
import Derived.Test.YtbcfhgpfgdbjgaaGreatDoorK25
import Derived.Test.YtbcfhgpfgdbjgaaGreatDoorK21
import Derived.Test.YtbcfhgpfgdbjgaaGreatDoorK24
set_option linter.all false
set_option maxRecDepth 100000
set_option maxHeartbeats 0
namespace Go.Proofs.YtbcfhgpfgdbjgaaGreatDoor
open Go.RowKit Go.Maps Go.WideMaps Go.Joins
variable{s:ByteArray}{ns ns':List Tn}{k:List UInt8}{B P R S de i j n p t t' y:Nat}{w:World}
theorem aiB{c:Int × Nat}(h:gm ns t k p=.error c):c=(5,p):=by
 unfold gm at h;split at h
 ·cases h
 ·split at h
  ·cases h
  ·split at h
   ·split at h
    ·cases h
    ·cases h;rfl
   ·cases h;rfl
theorem aiC{own:List Nat}{c:Int × Nat}(h:gy ns own t k p=.error c):c=(5,p):=by
 unfold gy at h;split at h
 ·cases h
 ·split at h
  ·cases h
  ·cases h;rfl
theorem aiD{c:Int × Nat}(h:gz ns t k p=.error c):c=(5,p):=by
 unfold gz at h;split at h
 ·cases h
 ·split at h
  ·cases h
  ·cases h;rfl
section
variable {w w':World} {B P P' R:Nat} {s:ByteArray} {now de:Nat} {q:Rs Nat} {ns:List Tn} {own:List Nat}
theorem Dt.toP(h:Dt w B P R s now de q ns own)(hP:P'<B):Dt w B P' R s now de q ns own:=by
 have hb:=h.base;obtain⟨h1,h2,N,c,O,oc,xs,ks,h3,h4,h5,h6⟩:=h;have n1:=(dO h5.row (g:=N) rfl).1;have n2:=(dO h5.owr (g:=O) rfl).1;refine⟨h1,by omega,N,c,O,oc,xs,ks,by omega,by omega,h5.far2 (by omega) fun i hi e=>?_,h6⟩;have:=(dO (h5.kid i hi) e).1;omega
theorem DFr.toP(h:DFr B P w w')(hP:P'<B):DFr B P' w w':=⟨h.bel,h.oth,h.bel.block P' hP⟩
theorem Fq.toP{e:Int × Nat}(h:Fq w B P R s now de e)(hP:P'<B):Fq w B P' R s now de e:=by
 obtain⟨L,O,h1,h2,h3,h4⟩:=h;obtain⟨i,er,p,hd⟩:=h1.dd;have:=aG hd;exact⟨L,O,h1,h2,by omega,by omega⟩
end
def vC(l:List (List UInt8 × Nat)):List Value:=l.map fun x=>.string ⟨x.1.toArray⟩
def vF(l:List (List UInt8 × Nat)):List Value:=l.map fun x=>.int .i64 (x.2:Nat)
theorem aiE(l:List (List UInt8 × Nat))(x:List UInt8 × Nat):vC (l++[x])=vC l++[.string ⟨x.1.toArray⟩]:=by simp[vC]
theorem aiF(l:List (List UInt8 × Nat))(x:List UInt8 × Nat):vF (l++[x])=vF l++[.int .i64 (x.2:Nat)]:=by simp[vF]
theorem Rj(l:List (List UInt8 × Nat))(i:Nat)(hi:i<l.length):(vC l)[i]?=some (.string ⟨l[i].1.toArray⟩):=by simp[vC,hi]
theorem Rk(l:List (List UInt8 × Nat))(i:Nat)(hi:i<l.length):(vF l)[i]?=some (.int .i64 (l[i].2:Nat)):=by simp[vF,hi]
theorem Dt.places{w':World}{now j' g:Nat}{own:List Nat}(h:Dt w B P R s now de (.ok j) ns own)(hg:w.grownBy w' (some R))(hs:∀L O,Ds w R s L O now de (.ok j)->Ds w' R s L O now de (.ok j'))(h1:w.heap.size<=g)(h2:g<w'.heap.size):Dt w' B g R s now de (.ok j') ns own:=by
 have hb:=h.base;obtain⟨a1,a2,N,c,O,oc,xs,ks,a3,a4,a5,a6⟩:=h;obtain⟨cn,hn⟩:=(dO a5.row (g:=N) rfl).2;obtain⟨co,ho⟩:=(dO a5.owr (g:=O) rfl).2;have n1:=aG hn;have n2:=aG ho;refine⟨a1,by omega,N,c,O,oc,xs,ks,by omega,by omega,(a5.keepR a6.2 hg).far2 h2 fun i hi e=>?_,hs _ _ a6⟩;obtain⟨cc,hcc⟩:=(dO (a5.kid i hi) e).2;have:=aG hcc;omega
theorem Ds.uni{L O L' O':Value}{now:Nat}(h:Ds w R s L O now de (.ok i))(h':Ds w R s L' O' now de (.ok i)):L=L'/\O=O':=by
 obtain⟨-,-,a,b,-⟩:=h.2.cells;obtain⟨-,-,a',b',-⟩:=h'.2.cells;rw[a]at a';rw[b]at b';exact⟨Option.some.inj a',Option.some.inj b'⟩
theorem Dt.owns{now:Nat}{own:List Nat}(h:Dt w B P R s now de (.ok j) ns own)(t:Nat)(ht:t<ns.length):∃O oc v,w.cell? ⟨R,3,none⟩=some (.slice (some ⟨O,0,none⟩) ns.length oc)/\w.cell? ⟨O,t,none⟩=some v/\w.frozen? ⟨O,t,none⟩=false ∧
  (w.setCell ⟨O,t,none⟩ (.bool true)).cell? ⟨R,4,none⟩=some (.int .i64 (now:Nat))/\(w.setCell ⟨O,t,none⟩ (.bool true)).frozen? ⟨R,4,none⟩=false ∧
  Dt ((w.setCell ⟨O,t,none⟩ (.bool true)).setCell ⟨R,4,none⟩ (.int .i64 (t:Nat))) B P R s t de (.ok j) ns (t :: own)/\DFr B P w ((w.setCell ⟨O,t,none⟩ (.bool true)).setCell ⟨R,4,none⟩ (.int .i64 (t:Nat))):=by
 obtain⟨hb1,hb2,hb3⟩:=h.base;obtain⟨h1,h2,N,c,O,oc,xs,ks,h3,h4,h5,h6⟩:=h;obtain⟨f1,f2⟩:=h5.flagAt t ht;obtain⟨-,-,-,c3,-⟩:=h6.2.cells;obtain⟨hOB,cu,hO⟩:=dO h5.owr (g:=O) rfl;have hRO:=aZ h6.2 hO (by decide);have m5:=h5.mark t ht;have d6:=h6.other (fO w O t (.bool true)) hRO;obtain⟨-,-,-,-,e4,-,-,-,ef⟩:=d6.2.cells;have fr1:=DFr.row (fO w O t (.bool true)) hb1 hb2 hOB h4 hO (Or.inr (Or.inr (Or.inr rfl)));have fr2:DFr B P (w.setCell ⟨O,t,none⟩ (.bool true)) ((w.setCell ⟨O,t,none⟩ (.bool true)).setCell ⟨R,4,none⟩ (.int .i64 (t:Nat))):=sV d6 h1 h2 m5.hP (fO _ R 4 _);exact⟨O,oc,_,c3,f1,f2,e4,ef 4,⟨h1,h2,N,c,O,oc,xs,ks,h3,h4,m5.keepR d6.2 (fO _ R 4 _),d6.setN t⟩,fr1.two fr2⟩
open Go.RowKit Go.Joins
theorem aiG(l:List UInt8)(i:Nat)(n:Int)(j:Nat)(hi:i<l.length)(h:ji l i=.ok (n,j)):-1000000000000000000<n/\n<1000000000000000000:=by
 unfold ji at h;simp only[]at h;have ha:(if aI (nx l i)=true then i else i+1)<=l.length:=by split<;>omega
 generalize (if aI (nx l i)=true then i else i+1)=a at h ha;have hj:=qH aI l a ha;split at h
 ·cases h
 ·split at h
  ·cases h
  ·have hb:=(WA l a (toR aI l a) (fun c hc=>by
    have:=Nr aI l a c hc;unfold aI at this;have:=of_decide_eq_true this;omega) hj.1 hj.2 (by omega)).2
   cases h
   split<;>omega
theorem aiH(l:List UInt8)(i:Nat)(n:Int)(j:Nat)(h:l7 l i=.ok (n,j)):n=0\/n=1:=by
 rw[IE]at h;split at h
 ·cases h;decide
 ·split at h
  ·cases h;decide
  ·cases h
theorem ZR:∀(s:List UInt8),(∀c∈s,c.toNat<128)->Us s
 | [],_=>Us.nil
 | c :: s,h=>(Ou c (h c (by simp))).app (ZR s fun b hb=>h b (by simp[hb]))
theorem ZT(l:List UInt8)(i:Nat)(k:List UInt8)(j:Nat)(h:dw l i=.ok (k,j)):Us k:=by
 unfold dw at h;split at h
 ·exact Jp l _ _ [] k j Us.nil h
 ·split at h
  ·cases h
  ·injection h with h
   injection h with h1 h2
   rw[<-h1];refine ZR _ fun c hc=>?_
   have:=Nr bP l i c hc;unfold bP dN aI at this;simp at this;omega
theorem aiI(l:List UInt8):∀f:Nat,(∀i up k p d ns j ns',i<=l.length->up<ns.length->((ay ns up=0/\Us k)\/(ay ns up=1/\k=[]))->Ld ns up d->d<=8->(ay ns up=0->aK ns up k=none)->k.length<=l.length->(∃S,Tv l.length ns S)->Live ns up->val l f i up k p d ns=.ok (j,ns')->j<=l.length/\GrT l.length ns ns' k.length/\∀r,Live ns r->Live ns' r)/\(∀i up d ns j ns',i<=l.length->up<ns.length->ay ns up=1->Ld ns up d->d<=8->(∃S,Tv l.length ns S)->Live ns up->lst l f i up d ns=.ok (j,ns')->j<=l.length/\GrT l.length ns ns' 0/\∀r,Live ns r->Live ns' r):=by
 intro f
 induction f with
 |zero=>
  refine⟨fun i up k p d ns j ns' _ _ _ _ _ _ _ _ _ h=>?_,fun i up d ns j ns' _ _ _ _ _ _ _ h=>?_⟩
  ·rw[val]at h;cases h
  ·rw[lst]at h;cases h
 |succ f ih=>
  refine⟨fun i up k p d ns j ns' hi hu h2 hld hd hf hk ⟨S,T⟩ lv h=>?_,fun i up d ns j ns' hi hu h1 hld hd ⟨S,T⟩ lv h=>?_⟩
  ·have one:∀x:Tn,x.ks=[]->x.ky=k->x.tx.length<=l.length->-1000000000000000000<=x.nu/\x.nu<=1000000000000000000->(x.kd=1\/x.kd=3\/x.kd=4\/x.kd=5)->(if x.kd=3 then Us x.tx else x.tx=[])->(if x.kd=4 then -1000000000000000000<x.nu/\x.nu<1000000000000000000 else if x.kd=5 then x.nu=0\/x.nu=1 else x.nu=0)->(x.kd=1->d<8)->GrT l.length ns (addN ns up x) k.length/\∀r,Live ns r->Live (addN ns up x) r:=fun x a b c e f g g2 g3=>by
    have:=GrT.one (n:=l.length) (x:=x) hu ⟨a,by rw[b];exact hk,c,e,fun e=>by rw[b];exact hf e,fun e=>(by rcases h2 with h2|h2<;>rw[e]at h2<;>exact absurd h2.1 (by decide)),⟨by
     rw[b]
     rcases h2 with⟨h2,h3⟩|⟨h2,h3⟩
     ·exact Or.inl ⟨h2,h3,by omega,by omega⟩
     ·exact Or.inr (Or.inl ⟨h2,h3,f⟩),g,g2⟩,fun e=>⟨d,g3 e,hld⟩,lv⟩
    rw[b]at this;exact⟨this,fun r hr=>XG hu a T.gt hr (Or.inr (by rcases h2 with h2|h2<;>rw[h2.1]<;>decide))⟩
   rw[ut]at h;split at h
   ·rename_i hx;have hlt:=bD (l:=l) (i:=i) (by rw[hx];decide)
    cases hs:str l (l.length+1) (i+1) [] with
    |error e=>rw[hs]at h;cases h
    |ok q=>
     obtain⟨t,j'⟩:=q;rw[hs]at h;obtain⟨a,b,c⟩:=I4 l _ (i+1) [] t j' (by omega) hs;simp only[List.length_nil]at c;have hus:=Jp l _ _ [] t j' Us.nil hs
     cases h
     exact⟨b,one ⟨3,k,t,0,[],p⟩ rfl rfl (by simp only[];omega) (by simp) (by simp) (by simpa using hus) (by simp) (by simp)⟩
   ·split at h
    ·rename_i hx;have hlt:i<l.length:=by
      apply bD
      rcases hx with hx|hx|hx
      ·rw[hx];decide
      ·rw[hx];decide
      ·have:=of_decide_eq_true hx;omega
     cases hs:ji l i with
     |error e=>rw[hs]at h;cases h
     |ok q=>
      obtain⟨t,j'⟩:=q;rw[hs]at h;obtain⟨a,b⟩:=Vs l i t j' hlt hs;have c:=aiG l i t j' hlt hs
      cases h
      exact⟨b,one ⟨4,k,[],t,[],p⟩ rfl rfl (by simp) (by simp only[];omega) (by simp) (by simp) (by simpa using c) (by simp)⟩
    ·split at h
     ·cases hs:l7 l i with
      |error e=>rw[hs]at h;cases h
      |ok q=>
       obtain⟨t,j'⟩:=q;rw[hs]at h;obtain⟨a,b⟩:=Vt l i t j' hi hs;have c:=aiH l i t j' hs
       cases h
       exact⟨b,one ⟨5,k,[],t,[],p⟩ rfl rfl (by simp) (by simp only[];omega) (by simp) (by simp) (by simpa using c) (by simp)⟩
     ·split at h
      ·rename_i hx;have hlt:=bD (l:=l) (i:=i) (by rw[hx];decide);split at h
       ·cases h
       ·rename_i hd8;have A:=one ⟨1,k,[],0,[],p⟩ rfl rfl (by simp) (by simp) (by simp) (by simp) (by simp) (fun _=>by omega);have k1:ay (addN ns up ⟨1,k,[],0,[],p⟩) ns.length=1:=by rw[eX ns up _ hu,if_pos rfl]
        obtain⟨a1,a2⟩:=ih.2 (i+1) ns.length (d+1) _ j ns' (by omega) (by rw[bW];omega) k1 (Ld.kid up ns.length d k1 (by rw[jR ns up _ hu,if_neg (by omega),if_pos rfl];simp) (hld.addN hu)) (by omega) ⟨_,A.1.tv T⟩ (CJ hu rfl T.gt T.lt lv) h;exact⟨a1,A.1.trans a2.1,fun r hr=>a2.2 r (A.2 r hr)⟩
      ·cases h
  ·rw[ER]at h
   cases hg:gap l (l.length+1) i with
   |error e=>rw[hg]at h;cases h
   |ok j0=>
    rw[hg]at h;simp only[]at h;obtain⟨g1,g2⟩:=xO l _ i j0 hi hg;split at h
    ·rename_i hx;have hlt:=bD (l:=l) (i:=j0) (by rw[hx];decide)
     cases h
     exact⟨by omega,GrT.refl _,fun _ h=>h⟩
    ·cases hv:val l f j0 up [] j0 d ns with
     |error e=>rw[hv]at h;cases h
     |ok q=>
      obtain⟨j1,ns1⟩:=q;rw[hv]at h;simp only[]at h;obtain⟨v1,v2,v3⟩:=ih.1 j0 up [] j0 d ns j1 ns1 g2 hu (Or.inr ⟨h1,rfl⟩) hld hd (fun e=>by rw[h1]at e;exact absurd e (by decide)) (by simp) ⟨S,T⟩ lv hv
      cases hg2:gap l (l.length+1) j1 with
      |error e=>rw[hg2]at h;cases h
      |ok j2=>
       rw[hg2]at h;simp only[]at h;obtain⟨g3,g4⟩:=xO l _ j1 j2 v1 hg2;split at h
       ·rename_i hx;have hlt:=bD (l:=l) (i:=j2) (by rw[hx];decide);have hlen:=v2.len;obtain⟨a1,a2⟩:=ih.2 (j2+1) up d ns1 j ns' (by omega) (by omega) (by rw[v2.kd hu];exact h1) (v2.ld hld) hd ⟨_,v2.tv T⟩ (v3 _ lv) h;exact⟨a1,v2.trans a2.1,fun r hr=>a2.2 r (v3 r hr)⟩
       ·split at h
        ·rename_i hx;have hlt:=bD (l:=l) (i:=j2) (by rw[hx];decide)
         cases h
         exact⟨by omega,v2,v3⟩
        ·cases h
theorem aiJ{own:List Nat}(T:Tv n ns S)(lv:Live ns t)(J:Jt ns own t)(hk:k.length<=n)(hus:Us k)(h:gm ns t k p=.ok (t',ns')):(∃m,GrT n ns ns' m/\m<=k.length)/\Live ns' t':=by
 unfold gm at h
 cases hq:aK ns t k with
 |none=>
  rw[hq]at h
  cases h
  exact⟨⟨_,GrT.one (x:=⟨0,k,[],0,[],p⟩) J.lt ⟨rfl,hk,by simp,by simp,fun _=>hq,fun _=>rfl,FQ (Or.inl ⟨J.kd,hus,Or.inl rfl⟩),fun e=>absurd (show(0:Int)=1 from e) (by decide),lv⟩,Nat.le_refl _⟩,CJ J.lt rfl T.gt T.lt lv⟩
 |some q=>
  rw[hq]at h;simp only[]at h;have hm:=(ui hq).1;split at h
  ·cases h
   exact⟨⟨0,GrT.refl _,Nat.zero_le _⟩,Live.kid t _ lv hm fun e=>by rw[J.kd]at e;exact absurd e (by decide)⟩
  ·split at h
   ·rename_i h2;have hl:=oO h2 (by omega);have lq:Live ns q:=Live.kid t q lv hm fun e=>by rw[J.kd]at e;exact absurd e (by decide)
    have hks:aA ns q=ns[q].ks:=by unfold aA;rw[List.getElem?_eq_getElem hl]
    have hne:=(J.wt q h2).1;have hin:=T.inc q;rw[hks]at hne hin;rw[List.getElem?_eq_getElem hl]at h;simp only[]at h;have hla:ns[q].ks.getLastD 0=ns[q].ks.getLast hne:=by rw[List.getLastD_eq_getLast?,List.getLast?_eq_some_getLast hne];rfl
    rw[hla]at h
    cases h
    refine⟨⟨0,GrT.refl _,Nat.zero_le _⟩,Live.kid q _ lq (by rw[hks];exact List.getLast_mem hne) fun _ b hb=>?_⟩;rw[hks,<-List.dropLast_concat_getLast hne,List.mem_append,List.mem_singleton]at hb;rw[<-List.dropLast_concat_getLast hne,List.pairwise_append]at hin
    rcases hb with hb|hb
    ·exact Nat.le_of_lt (hin.2.2 b hb _ (by simp))
    ·omega
   ·cases h
theorem aiK{own:List Nat}(T:Tv n ns S)(lv:Live ns t)(J:Jt ns own t)(hk:k.length<=n)(hus:Us k)(h:gy ns own t k p=.ok (t',ns')):(∃m,GrT n ns ns' m/\m<=k.length)/\Live ns' t':=by
 unfold gy at h
 cases hq:aK ns t k with
 |none=>
  rw[hq]at h
  cases h
  exact⟨⟨_,GrT.one (x:=⟨0,k,[],0,[],p⟩) J.lt ⟨rfl,hk,by simp,by simp,fun _=>hq,fun _=>rfl,FQ (Or.inl ⟨J.kd,hus,Or.inl rfl⟩),fun e=>absurd (show(0:Int)=1 from e) (by decide),lv⟩,Nat.le_refl _⟩,CJ J.lt rfl T.gt T.lt lv⟩
 |some q=>
  rw[hq]at h;simp only[]at h;split at h
  ·cases h
   exact⟨⟨0,GrT.refl _,Nat.zero_le _⟩,Live.kid t _ lv (ui hq).1 fun e=>by rw[J.kd]at e;exact absurd e (by decide)⟩
  ·cases h
theorem aiL{own:List Nat}(T:Tv n ns S)(lv:Live ns t)(J:Jt ns own t)(hk:k.length<=n)(hus:Us k)(h:gz ns t k p=.ok (t',ns')):(∃m,GrT n ns ns' m/\m<=k.length)/\Live ns' t':=by
 unfold gz at h
 cases hq:aK ns t k with
 |none=>
  rw[hq]at h
  cases h
  have A:GrT n ns (addN ns t ⟨2,k,[],0,[],p⟩) k.length:=GrT.one (x:=⟨2,k,[],0,[],p⟩) J.lt ⟨rfl,hk,by simp,by simp,fun _=>hq,fun e=>by rw[J.kd]at e;exact absurd e (by decide),FQ (Or.inl ⟨J.kd,hus,Or.inr rfl⟩),fun e=>absurd (show(2:Int)=1 from e) (by decide),lv⟩;have lv1:=CJ (x:=⟨2,k,[],0,[],p⟩) J.lt rfl T.gt T.lt lv;have T1:=A.tv T;have e2:ay (addN ns t ⟨2,k,[],0,[],p⟩) ns.length=2:=by rw[eX ns t _ J.lt,if_pos rfl]
  have B:GrT n (addN ns t ⟨2,k,[],0,[],p⟩) (addN (addN ns t ⟨2,k,[],0,[],p⟩) ns.length ⟨0,[],[],0,[],p⟩) 0:=GrT.one (x:=⟨0,[],[],0,[],p⟩) (by rw[bW];omega) ⟨rfl,by simp,by simp,by simp,fun e=>by rw[e2]at e;exact absurd e (by decide),fun _=>rfl,FQ (Or.inr ⟨e2,rfl,rfl⟩),fun e=>absurd (show(0:Int)=1 from e) (by decide),lv1⟩;have l2:=CJ (x:=⟨0,[],[],0,[],p⟩) (by rw[bW];omega) rfl T1.gt T1.lt lv1;rw[bW]at l2;exact⟨⟨_,A.trans B,Nat.le_refl _⟩,l2⟩
 |some q=>
  rw[hq]at h;simp only[]at h;have lq:Live ns q:=Live.kid t q lv (ui hq).1 fun e=>by rw[J.kd]at e;exact absurd e (by decide)
  split at h
  ·rename_i h2
   cases h
   refine⟨⟨0,?_,Nat.zero_le _⟩,CJ (oO h2 (by omega)) rfl T.gt T.lt lq⟩;exact GrT.one (x:=⟨0,[],[],0,[],p⟩) (oO h2 (by omega)) ⟨rfl,by simp,by simp,by simp,fun e=>by rw[h2]at e;exact absurd e (by decide),fun _=>rfl,FQ (Or.inr ⟨h2,rfl,rfl⟩),fun e=>absurd (show(0:Int)=1 from e) (by decide),lq⟩
  ·cases h
def rD(l:List (List UInt8 × Nat)):Nat:=(l.map fun x=>x.1.length).sum
theorem ZU{n:Nat}(many:Bool)(own:List Nat):∀(l:List (List UInt8 × Nat)) (t:Nat) (ns ns':List Tn) (t':Nat),(∀x∈l,x.1.length<=n/\Us x.1)->(∃S,Tv n ns S)->Live ns t->Jt ns own t->way many own l t ns=.ok (t',ns')->(∃m,GrT n ns ns' m/\m<=rD l)/\Live ns' t'
 | [],t,ns,ns',t',hl,⟨S,T⟩,lv,J,h=>by
  cases h
  exact⟨⟨0,GrT.refl _,Nat.zero_le _⟩,lv⟩
 | [(k,p)],t,ns,ns',t',hl,⟨S,T⟩,lv,J,h=>by
  rw[EO]at h;obtain⟨hk,hus⟩:=hl (k,p) (by simp);have e:rD [(k,p)]=k.length:=by simp[rD]
  rw[e];split at h
  ·exact aiL T lv J hk hus h
  ·exact aiK T lv J hk hus h
 | (k,p) :: b :: r,t,ns,ns',t',hl,⟨S,T⟩,lv,J,h=>by
  rw[EP]at h
  cases hs:gm ns t k p with
  |error e=>rw[hs]at h;cases h
  |ok z=>
   obtain⟨t1,ns1⟩:=z;rw[hs]at h;obtain⟨⟨m1,a1,a2⟩,lv1⟩:=aiJ (k:=k) T lv J (hl (k,p) (by simp)).1 (hl (k,p) (by simp)).2 hs;have a3:=a2;obtain⟨⟨m2,b1,b2⟩,lv2⟩:=ZU many own (b :: r) t1 ns1 ns' t' (fun x hx=>hl x (by simp only[List.mem_cons]at hx ⊢;exact Or.inr hx)) ⟨_,a1.tv T⟩ lv1 (EN J hs).1 h;refine⟨⟨m1+m2,a1.trans b1,?_⟩,lv2⟩;have e:rD ((k,p) :: b :: r)=k.length+rD (b :: r):=by simp[rD]
   omega
theorem ZV(l:List UInt8)(i:Nat)(k:List UInt8)(j:Nat)(hi:i<=l.length)(h:dw l i=.ok (k,j)):k.length+i<=j:=by
 unfold dw at h;split at h
 ·rename_i hx;have hlt:=bD (l:=l) (i:=i) (by rw[hx];decide);obtain⟨a,b,c⟩:=I4 l _ (i+1) [] k j (by omega) h;simp at c;omega
 ·split at h
  ·cases h
  ·have:=qH bP l i hi
   cases h
   unfold au;simp;omega
theorem aiM(l:List UInt8):∀(f i:Nat) (acc ks:List (List UInt8 × Nat)) (j:Nat),i<=l.length->gV l f i acc=.ok (ks,j)->rD ks+i<=rD acc+j:=by
 intro f
 induction f with
 |zero=>intro i acc ks j hi h;cases h
 |succ f ih=>
  intro i acc ks j hi h;rw[FX]at h;have b1:=jQ l i hi
  cases hk:dw l (bl l i) with
  |error e=>rw[hk]at h;cases h
  |ok q=>
   obtain⟨k,j1⟩:=q;rw[hk]at h;simp only[]at h;obtain⟨k1,k2,k3⟩:=xK l (bl l i) k j1 b1.2 hk;have k4:=ZV l (bl l i) k j1 b1.2 hk;have b2:=jQ l j1 k2;have e:rD (acc++[(k,bl l i)])=rD acc+k.length:=by simp[rD]
   split at h
   ·rename_i hx;have hlt:=bD (l:=l) (i:=bl l j1) (by rw[hx];decide);have:=ih (bl l j1+1) (acc++[(k,bl l i)]) ks j (by omega) h;omega
   ·cases h
    omega
theorem aiN(l:List UInt8):∀(f i:Nat) (acc ks:List (List UInt8 × Nat)) (j:Nat),(∀x∈acc,Us x.1)->gV l f i acc=.ok (ks,j)->∀x∈ks,Us x.1:=by
 intro f
 induction f with
 |zero=>intro i acc ks j ha h;cases h
 |succ f ih=>
  intro i acc ks j ha h;rw[FX]at h
  cases hk:dw l (bl l i) with
  |error e=>rw[hk]at h;cases h
  |ok q=>
   obtain⟨k,j1⟩:=q;rw[hk]at h;simp only[]at h;have ha':∀x∈acc++[(k,bl l i)],Us x.1:=fun x hx=>by
    rcases List.mem_append.1 hx with hx|hx
    ·exact ha x hx
    ·rw[List.mem_singleton.1 hx];exact ZT l _ k j1 hk
   split at h
   ·exact ih _ _ ks j ha' h
   ·cases h
    exact ha'
def Gi(l:List UInt8)(d d':Sd):Prop:=(∃m,GrT l.length d.ns d'.ns m/\m+d.i<=d'.i)/\Live d'.ns d'.now
def Gf(l:List UInt8)(d:Sd):Prop:=(∃S,Tv l.length d.ns S)/\Live d.ns d.now
theorem aiO(l:List UInt8)(d d':Sd)(L:Li l d)(F:Gf l d)(h:rdPair l d=.ok d'):Gi l d d':=by
 obtain⟨i,ns,own,now⟩:=d;have L1:=L.jt;have L3:=L.le;simp only[]at L1 L3;rw[PQ]at h
 cases hk:dw l i with
 |error e=>rw[hk]at h;cases h
 |ok q=>
  obtain⟨k,j⟩:=q;rw[hk]at h;simp only[]at h;obtain⟨k1,k2,k3⟩:=xK l i k j L3 hk;have k4:=ZV l i k j L3 hk;have b1:=jQ l j k2
  cases hm:must l (bl l j) 61 with
  |error e=>rw[hm]at h;cases h
  |ok j1=>
   rw[hm]at h;simp only[]at h;obtain⟨m1,m2⟩:=yE l _ _ 61 (by decide) hm;have b2:=jQ l j1 (by omega)
   cases hq:aK ns now k with
   |some q=>rw[hq]at h;cases h
   |none=>
    rw[hq]at h;simp only[]at h
    cases hv:val l (2*l.length+2) (bl l j1) now k i 0 ns with
    |error e=>rw[hv]at h;cases h
    |ok z=>
     obtain⟨j2,ns'⟩:=z;rw[hv]at h;have A:=(I9 l own _).1 (bl l j1) now k i 0 ns j2 ns' b2.2 L1.wf L1.wt L1.lt (by rw[L1.kd];decide) hv;have a3:=A.fw;obtain⟨v1,v2,v3⟩:=(aiI l _).1 (bl l j1) now k i 0 ns j2 ns' b2.2 L1.lt (Or.inl ⟨L1.kd,ZT l i k j hk⟩) (Ld.top now L1.kd) (by omega) (fun _=>hq) k3 F.1 F.2 hv
     cases h
     exact⟨⟨_,v2,by simp only[];omega⟩,v3 _ F.2⟩
theorem aiP(l:List UInt8)(d d':Sd)(L:Li l d)(F:Gf l d)(hi:d.i<l.length)(h:iw l d=.ok d'):Gi l d d':=by
 obtain⟨i,ns,own,now⟩:=d;have L1:=L.jt;have L2:=L.rt;simp only[]at L1 L2 hi;obtain⟨many,uQ⟩:=zN (decide (nx l (i+1)=91));rw[F7 l i ns own now many uQ]at h;have ha:i+1<=(if many=true then i+2 else i+1)/\(if many=true then i+2 else i+1)<=l.length:=by
  cases many with
  |false=>simp;omega
  |true=>
   have hx:=of_decide_eq_true uQ;have:=bD (l:=l) (i:=i+1) (by rw[hx];decide);simp;omega
 generalize (if many=true then i+2 else i+1)=a at h ha
 cases hk:gV l (l.length+1) a [] with
 |error e=>rw[hk]at h;cases h
 |ok q=>
  obtain⟨ks,j⟩:=q;rw[hk]at h;simp only[]at h;obtain⟨k1,k2,k3,k4⟩:=JS l _ a [] ks j ha.2 (by simp) hk;have k5:=aiM l _ a [] ks j ha.2 hk;have e0:rD []=0:=rfl
  cases hm:must l j 93 with
  |error e=>rw[hm]at h;cases h
  |ok j1=>
   rw[hm]at h;simp only[]at h;obtain⟨m1,m2⟩:=yE l _ _ 93 (by decide) hm;have hj2:∀j2,(if many=true then must l j1 93 else(.ok j1:Rs Nat))=.ok j2->j1<=j2:=fun j2 hh=>by
    split at hh
    ·obtain⟨n1,n2⟩:=yE l _ _ 93 (by decide) hh;omega
    ·cases hh
     omega
   cases hc:(if many=true then must l j1 93 else(.ok j1:Rs Nat)) with
   |error e=>rw[hc]at h;cases h
   |ok j2=>
    rw[hc]at h;simp only[]at h;have c1:=hj2 j2 hc
    cases hw:way many own ks 0 ns with
    |error e=>rw[hw]at h;cases h
    |ok z=>
     obtain⟨t,ns'⟩:=z;rw[hw]at h;obtain⟨⟨m,g1,g2⟩,g3⟩:=ZU many own ks 0 ns ns' t (fun x hx=>⟨k1 x hx,aiN l _ a [] ks j (by simp) hk x hx⟩) F.1 Live.root ⟨L1.wf,L1.wt,by have:=L1.lt;omega,L2⟩ hw
     cases h
     exact⟨⟨m,g1,by simp only[];omega⟩,g3⟩
theorem aiQ(l:List UInt8)(d d':Sd)(L:Li l d)(F:Gf l d)(hi:d.i<l.length)(h:iH l d=.ok d'):Gi l d d':=by
 obtain⟨i,ns,own,now⟩:=d;simp only[]at hi;rw[QN]at h;have b1:=jQ l i (by omega);have L':Li l ⟨bl l i,ns,own,now⟩:=GM L (bl l i) b1.1 b1.2
 cases hm:(if nx l (bl l i)=91 then iw l ⟨bl l i,ns,own,now⟩ else if nx l (bl l i)=34\/bP (nx l (bl l i))=true then rdPair l ⟨bl l i,ns,own,now⟩ else .ok ⟨bl l i,ns,own,now⟩) with
 |error e=>rw[hm]at h;cases h
 |ok d1=>
  rw[hm]at h;have mid:Gi l ⟨bl l i,ns,own,now⟩ d1/\d1.i<=l.length:=by
   split at hm
   ·rename_i hx;have hlt:=bD (l:=l) (i:=bl l i) (by rw[hx];decide);exact⟨aiP l _ d1 L' F hlt hm,(P5 l _ d1 L' hlt hm).1.le⟩
   ·split at hm
    ·exact⟨aiO l _ d1 L' F hm,(PZ l _ d1 L' hm).1.le⟩
    ·cases hm
     exact⟨⟨⟨0,GrT.refl _,by simp only[];omega⟩,F.2⟩,b1.2⟩
  obtain⟨⟨⟨m,g1,g2⟩,g3⟩,hle⟩:=mid;simp only[]at g1 g2;have h2:vg l d1 (bH l (bl l d1.i))=.ok d':=h;have b2:=jQ l d1.i hle;have c2:=Eu l (bl l d1.i) b2.2;unfold vg at h2;split at h2
  ·cases h2
  ·split at h2
   ·cases h2
    exact⟨⟨m,g1,by simp only[];omega⟩,g3⟩
   ·cases hq:must l (bH l (bl l d1.i)).2 10 with
    |error e=>rw[hq]at h2;cases h2
    |ok q=>
     rw[hq]at h2;obtain⟨m1,m2⟩:=yE l _ _ 10 (by decide) hq
     cases h2
     exact⟨⟨m,g1,by simp only[];omega⟩,g3⟩
theorem ZW(l:List UInt8):∀(f:Nat) (d d':Sd),Li l d->Gf l d->jP l f d=.ok d'->Gi l d d'
 | 0,d,d',L,F,h=>by cases h;exact⟨⟨0,GrT.refl _,by omega⟩,F.2⟩
 | f+1,d,d',L,F,h=>by
  rw[KU]at h;split at h
  ·cases h;exact⟨⟨0,GrT.refl _,by omega⟩,F.2⟩
  ·cases hr:iH l d with
   |error e=>rw[hr]at h;cases h
   |ok d1=>
    rw[hr]at h;obtain⟨⟨m1,a1,a2⟩,a3⟩:=aiQ l d d1 L F (by omega) hr;obtain⟨S,T⟩:=F.1;obtain⟨⟨m2,b1,b2⟩,b3⟩:=ZW l f d1 d' (KN l d d1 L (by omega) hr).1 ⟨⟨_,a1.tv T⟩,a3⟩ h;exact⟨⟨m1+m2,a1.trans b1,by omega⟩,b3⟩
theorem Rl(l:List UInt8)(ns:List Tn)(h:lJ l=.ok ns):Tv 100000 ns 100000/\∃own,WF ns own/\ns.length<=200001:=by
 obtain⟨own,now,J,-,hn,hl⟩:=ZA l ns h;refine⟨?_,own,J.wf,hn⟩;rw[KX]at h;split at h
 ·cases h
 ·cases ha:jP l (l.length+1) ⟨0,[⟨0,[],[],0,[],0⟩],[],0⟩ with
  |error e=>rw[ha]at h;cases h
  |ok d=>
   rw[ha]at h
   cases h
   obtain⟨⟨m,g1,g2⟩,-⟩:=ZW l _ _ _ (GN l) ⟨⟨0,XH l.length⟩,Live.root⟩ ha;have hle:=(QX l _ _ _ (GN l) ha).le;have T:=g1.tv (XH l.length);exact⟨T.lt,T.gt,T.nod,T.kdd,T.two,T.root,fun x hx=>by
    obtain⟨a,b,c⟩:=T.txt x hx;exact⟨by omega,by omega,c⟩,by have:=T.sum;simp only[]at g2;omega,T.shp,T.dep,T.par,T.rt,T.uni,T.inc,T.sep⟩
open Go.RowKit Go.Joins
def okV(s:ByteArray):Bool:=decide ((kU s.data.toList).1=0)
def okR(s:ByteArray):Bool:=decide ((jM s.data.toList).1=0)
def ig:List UInt8:=[110,97,109,101]
def jE:List UInt8:=[110,101,101,100,115]
def iG:List UInt8:=[118,101,114,115,105,111,110]
def dB(x:Tn):ByteArray:=⟨x.tx.toArray⟩
def jg(x:Tn):ByteArray:=⟨x.ky.toArray⟩
def takeD(x:Tn)(is:ByteArray->Bool):Int:=if ¬x.kd=3 then 7 else if is (dB x)=true then 0 else 2
def lo(q:Nat)(l:List Nat):List Nat:=l.filter fun x=>decide (x<q)
def G5(ns:List Tn)(q:Nat):ByteArray:=match ns[q]? with|some x=>dB x|none=>⟨#[]⟩
def nK(ns:List Tn):List Nat:=match aK ns 0 jE with|some y=>if ay ns y=0 then aA ns y else[]|none=>[]
def Lh(ns:List Tn)(q:Nat):Nd:=match ns[q]? with|some x=>⟨jg x,dB x⟩|none=>⟨⟨#[]⟩,⟨#[]⟩⟩
structure Mn where
 nm:ByteArray
 ve:ByteArray
 nd:List Nd
def qo(ns:List Tn)(q:Nat)(k:List UInt8):ByteArray:=match aK ns 0 k with|some y=>if y<q then G5 ns y else⟨#[]⟩|none=>⟨#[]⟩
def mQ(ns:List Tn)(q:Nat):Mn:=⟨qo ns q ig,qo ns q iG,(lo q (nK ns)).map (Lh ns)⟩
noncomputable def nI(x:Tn):Int:=if x.ky=ig then takeD x nameB else if x.ky=iG then takeD x okV else if x.ky=jE/\x.kd=0 then 0 else 7
noncomputable def oG(k:Nat)(x:Tn):Int:=if ¬x.kd=3 then 7 else if nameB (jg x)=true/\okR (dB x)=true then(if 20<=k then 4 else 0) else 2
noncomputable def mN(ns:List Tn)(q:Nat)(x:Tn):Int:=if q∈aA ns 0 then nI x else if q∈nK ns then oG (lo q (nK ns)).length x else 0
noncomputable def mC(ns:List Tn):Nat->Rs Unit
 | 0=>.ok ()
 | n+1=>match ns[ns.length-(n+1)]? with
  |none=>.ok ()
  |some x=>if mN ns (ns.length-(n+1)) x=0 then mC ns n else .error (mN ns (ns.length-(n+1)) x,x.pl)
def xm(ns:List Tn):Rs Mn:=if(aK ns 0 ig).isSome=true/\(aK ns 0 iG).isSome=true then .ok (mQ ns ns.length) else .error (6,0)
def ZX(ns:List Tn):Rs Unit->Rs Mn
 | .error e=>.error e
 | .ok _=>xm ns
noncomputable def qw(ns:List Tn):Rs Mn:=ZX ns (mC ns ns.length)
def mRd(f:List Tn->Rs Mn):Rs (List Tn)->Rs Mn
 | .error e=>.error e
 | .ok ns=>f ns
noncomputable def tH(l:List UInt8):Rs Mn:=mRd qw (lJ l)
def fQ(ns:List Tn)(q p:Nat):Option Bool:=if p∈aA ns 0 then some true else if p∈nK ns/\((aK ns 0 jE).any fun y=>decide (y<q))=true then some false else none
theorem Lj{q:Nat}{l:List Nat}(h:¬q∈l):lo (q+1) l=lo q l:=by
 unfold lo;apply List.filter_congr;intro x hx;have:¬x=q:=fun e=>h (e ▸ hx)
 simp;omega
theorem ZY{q:Nat}:∀{l:List Nat},l.Pairwise (· < ·)->q∈l->lo (q+1) l=lo q l++[q]
 | [],_,h=>by cases h
 | a :: r,h,hq=>by
  rw[List.pairwise_cons]at h;unfold lo;rw[List.filter_cons,List.filter_cons]
  by_cases e:a=q
  ·rw[decide_eq_true (show a<q+1 by omega),decide_eq_false (show ¬a<q by omega)];simp only[if_true,Bool.false_eq_true,if_false];have e1:r.filter (fun x=>decide (x<q+1))=[]:=by rw[List.filter_eq_nil_iff];intro b hb;have:=h.1 b hb;simp;omega
   have e2:r.filter (fun x=>decide (x<q))=[]:=by rw[List.filter_eq_nil_iff];intro b hb;have:=h.1 b hb;simp;omega
   rw[e1,e2,e];rfl
  ·have hr:q∈r:=by rcases List.mem_cons.1 hq with h1|h1;exact absurd h1.symm e;exact h1
   have:=h.1 q hr;rw[decide_eq_true (show a<q+1 by omega),decide_eq_true (show a<q by omega)];simp only[if_true,List.cons_append];exact congrArg _ (ZY h.2 hr)
section
variable {n S:Nat} {ns:List Tn} {q:Nat}
theorem xn(h:aK ns t k=some y):y∈aA ns t/\ja ns y=k:=by
 rw[qI]at h;refine⟨List.mem_of_find?_eq_some h,?_⟩;have h2:=List.find?_some h;unfold iC at h2;unfold ja;split at h2
 ·simpa using h2
 ·cases h2
theorem Ll(T:Tv n ns S)(ht:ay ns t=0)(hy:y∈aA ns t)(hk:ja ns y=k):aK ns t k=some y:=by
 rw[qI];have hb:∀q∈aA ns t,(iC ns k q=true↔ja ns q=k):=fun q hq=>by
  unfold iC ja;rw[List.getElem?_eq_getElem (T.lt _ _ hq)];simp
 have key:∀l:List Nat,(∀q∈l,q∈aA ns t)->l.Pairwise (fun a b=>ja ns a≠ja ns b)->y∈l->l.find? (iC ns k)=some y:=fun l=>by
  induction l with
  |nil=>intro _ _ h;cases h
  |cons a r ih=>
   intro hl hp hm;rw[List.pairwise_cons]at hp;rw[List.find?_cons]
   by_cases e:a=y
   ·rw[e,(hb y hy).2 hk]
   ·have hr:y∈r:=by rcases List.mem_cons.1 hm with h1|h1;exact absurd h1.symm e;exact h1
    have:iC ns k a=false:=by
     cases hc:iC ns k a with
     |false=>rfl
     |true=>exact absurd (((hb a (hl a (by simp))).1 hc).trans hk.symm) (hp.1 y hr)
    rw[this];exact ih (fun q hq=>hl q (by simp[hq])) hp.2 hr
 exact key _ (fun q hq=>hq) (T.kdd t ht) hy
theorem Ap(h:q∈nK ns):∃y,aK ns 0 jE=some y/\ay ns y=0/\q∈aA ns y/\y∈aA ns 0/\nK ns=aA ns y:=by
 unfold nK at h ⊢
 cases hk:aK ns 0 jE with
 |none=>rw[hk]at h;cases h
 |some y=>
  rw[hk]at h;simp only[]at h ⊢
  by_cases e:ay ns y=0
  ·rw[if_pos e]at h ⊢;exact⟨y,rfl,e,h,(xn hk).1,rfl⟩
  ·rw[if_neg e]at h;cases h
theorem yU(T:Tv n ns S)(h:q∈nK ns):¬q∈aA ns 0:=fun h0=>by
 obtain⟨y,-,-,h1,h2,-⟩:=Ap h;have:=T.uni _ _ _ h0 h1;have:=T.gt _ _ h2;omega
theorem ZZ(T:Tv n ns S):(nK ns).Pairwise (· < ·):=by
 unfold nK;split
 ·split
  ·exact T.inc _
  ·exact List.Pairwise.nil
 ·exact List.Pairwise.nil
theorem tJ{x:Tn}(h:ns[q]?=some x):ja ns q=x.ky/\ay ns q=x.kd/\aA ns q=x.ks/\G5 ns q=dB x/\Lh ns q=⟨jg x,dB x⟩:=by
 unfold ja ay aA G5 Lh;rw[h];exact⟨rfl,rfl,rfl,rfl,rfl⟩
theorem DT(h:¬aK ns 0 k=some q):qo ns (q+1) k=qo ns q k:=by
 unfold qo
 cases hk:aK ns 0 k with
 |none=>rfl
 |some y=>
  have:¬y=q:=fun e=>h (by rw[hk,e])
  simp only[]
  by_cases h2:y<q
  ·rw[if_pos h2,if_pos (by omega)]
  ·rw[if_neg h2,if_neg (by omega)]
theorem Z4(h:aK ns 0 k=some q):qo ns (q+1) k=G5 ns q:=by
 unfold qo;rw[h];simp only[];rw[if_pos (by omega)]
theorem DU(h:¬(q∈aA ns 0/\ja ns q=k)):¬aK ns 0 k=some q:=fun e=>h (xn e)
theorem Z5(T:Tv n ns S)(hq:q∈aA ns 0){x:Tn}(hx:ns[q]?=some x)(hk:x.ky=ig):mQ ns (q+1)=⟨dB x,(mQ ns q).ve,(mQ ns q).nd⟩:=by
 have hy:=(tJ hx).1.trans hk;unfold mQ;rw[Z4 (Ll T T.root.2 hq hy),(tJ hx).2.2.2.1,DT (DU fun h=>absurd (hy.symm.trans h.2) (by decide)),Lj fun h=>yU T h hq]
theorem Z7(T:Tv n ns S)(hq:q∈aA ns 0){x:Tn}(hx:ns[q]?=some x)(hk:x.ky=iG):mQ ns (q+1)=⟨(mQ ns q).nm,dB x,(mQ ns q).nd⟩:=by
 have hy:=(tJ hx).1.trans hk;unfold mQ;rw[Z4 (Ll T T.root.2 hq hy),(tJ hx).2.2.2.1,DT (DU fun h=>absurd (hy.symm.trans h.2) (by decide)),Lj fun h=>yU T h hq]
theorem Rn(T:Tv n ns S)(hq:q∈nK ns){x:Tn}(hx:ns[q]?=some x):mQ ns (q+1)=⟨(mQ ns q).nm,(mQ ns q).ve,(mQ ns q).nd++[⟨jg x,dB x⟩]⟩:=by
 have h0:=yU T hq;unfold mQ;rw[DT (DU fun h=>h0 h.1),DT (DU fun h=>h0 h.1),ZY (ZZ T) hq,List.map_append,List.map_cons,(tJ hx).2.2.2.2];rfl
theorem G6(T:Tv n ns S){x:Tn}(hx:ns[q]?=some x)(h:¬q∈nK ns)(h2:q∈aA ns 0->¬x.ky=ig/\¬x.ky=iG):mQ ns (q+1)=mQ ns q:=by
 have hy:=(tJ hx).1;unfold mQ;rw[DT (DU fun g=>(h2 g.1).1 (hy.symm.trans g.2)),DT (DU fun g=>(h2 g.1).2 (hy.symm.trans g.2)),Lj h]
theorem Lm(hi:i<ns.length):mC ns (ns.length-i)=if mN ns i ns[i]=0 then mC ns (ns.length-(i+1)) else .error (mN ns i ns[i],ns[i].pl):=by
 obtain⟨m,hm⟩:∃m,ns.length-i=m+1:=⟨ns.length-i-1,by omega⟩;rw[hm,show ns.length-(i+1)=m by omega];show(match ns[ns.length-(m+1)]? with|none=>_|some x=>_)=_;rw[show ns.length-(m+1)=i by omega,List.getElem?_eq_getElem hi]
theorem aiR(T:Tv n ns S)(x:Tn):mN ns 0 x=0:=by
 unfold mN;rw[if_neg (fun h=>absurd (T.gt _ _ h) (by omega)),if_neg];intro h;obtain⟨y,-,-,h1,-⟩:=Ap h;exact absurd (T.gt _ _ h1) (by omega)
theorem aiS(T:Tv n ns S):mC ns ns.length=mC ns (ns.length-1):=by
 have:=Lm (ns:=ns) (i:=0) T.root.1
 rwa [aiR T,if_pos rfl]at this
theorem Z8:∀(m i:Nat),i+m=ns.length->mC ns m=.ok ()->∀j (hj:j<ns.length),i<=j->mN ns j ns[j]=0
 | 0,i,h,_,j,hj,hij=>absurd hij (by omega)
 | m+1,i,h,hc,j,hj,hij=>by
  have hs:=Lm (ns:=ns) (i:=i) (by omega);rw[show ns.length-i=m+1 by omega,show ns.length-(i+1)=m by omega,hc]at hs
  by_cases e:mN ns i (ns[i]'(by omega))=0
  ·rw[if_pos e]at hs
   by_cases hji:j=i
   ·subst hji;exact e
   ·exact Z8 m (i+1) (by omega) hs.symm j hj (by omega)
  ·rw[if_neg e]at hs;cases hs
theorem Z9{x:Tn}{is:ByteArray->Bool}(h:takeD x is=0):x.kd=3/\is (dB x)=true:=by
 unfold takeD at h;split at h
 ·cases h
 ·rename_i h3;split at h
  ·rename_i h4;exact⟨by simpa using h3,h4⟩
  ·cases h
theorem aiT(h:okV s=true):¬s=⟨#[]⟩:=fun e=>by
 subst e;exact absurd h (by decide)
theorem aiU(h:nameB s=true):¬s=⟨#[]⟩:=fun e=>by
 rw[wu (fun h=>by subst e;exact absurd h.1 (by decide))]at h
 cases h
theorem aiV(T:Tv n ns S)(hc:mC ns ns.length=.ok ()):(qo ns ns.length ig=⟨#[]⟩↔¬(aK ns 0 ig).isSome=true)/\(qo ns ns.length iG=⟨#[]⟩↔¬(aK ns 0 iG).isSome=true):=by
 have key:∀k,(∀y (hy:y<ns.length),y∈aA ns 0->ns[y].ky=k->¬G5 ns y=⟨#[]⟩)->(qo ns ns.length k=⟨#[]⟩↔¬(aK ns 0 k).isSome=true):=fun k h=>by
  unfold qo
  cases hk:aK ns 0 k with
  |none=>simp
  |some y=>
   have hy:=T.lt _ _ (xn hk).1;simp only[];rw[if_pos hy];have:=h y hy (xn hk).1 (by rw[<-TR hy];exact(xn hk).2);exact⟨fun e=>absurd e this,fun e=>absurd rfl e⟩
 have hall:=Z8 ns.length 0 (by omega) hc;refine⟨key _ fun y hy h0 hk=>?_,key _ fun y hy h0 hk=>?_⟩
 ·have:=hall y hy (Nat.zero_le _);unfold mN nI at this;rw[if_pos h0,if_pos hk]at this;rw[(tJ (List.getElem?_eq_getElem hy)).2.2.2.1];exact aiU (Z9 this).2
 ·have:=hall y hy (Nat.zero_le _);unfold mN nI at this;rw[if_pos h0,if_neg (by rw[hk];decide),if_pos hk]at this;rw[(tJ (List.getElem?_eq_getElem hy)).2.2.2.1];exact aiT (Z9 this).2
theorem aiW(h:q∈aA ns 0)(p:Nat):fQ ns p q=some true:=by unfold fQ;rw[if_pos h]
theorem aiX(T:Tv n ns S)(h:q∈nK ns):fQ ns q q=some false:=by
 obtain⟨y,h1,-,h2,-⟩:=Ap h;unfold fQ;rw[if_neg (yU T h),h1,if_pos ⟨h,by simpa using T.gt _ _ h2⟩]
theorem aiY(h:¬q∈aA ns 0)(h':¬q∈nK ns)(p:Nat):fQ ns p q=none:=by
 unfold fQ;rw[if_neg h,if_neg fun e=>h' e.1]
theorem Ro(h:¬(q∈aA ns 0/\ja ns q=jE/\ay ns q=0)):fQ ns (q+1)=fQ ns q:=by
 funext p;unfold fQ
 by_cases h0:p∈aA ns 0
 ·rw[if_pos h0,if_pos h0]
 ·rw[if_neg h0,if_neg h0]
  by_cases h1:p∈nK ns
  ·obtain⟨y,hk,hd,-⟩:=Ap h1;rw[hk];have:¬y=q:=fun e=>h (by subst e;exact⟨(xn hk).1,(xn hk).2,hd⟩)
   simp only[Option.any_some,decide_eq_true_eq]
   by_cases h2:y<q
   ·rw[if_pos ⟨h1,by omega⟩,if_pos ⟨h1,h2⟩]
   ·rw[if_neg fun e=>absurd e.2 (by omega),if_neg fun e=>h2 e.2]
  ·rw[if_neg fun e=>h1 e.1,if_neg fun e=>h1 e.1]
theorem aiZ(T:Tv n ns S)(h:q∈aA ns 0)(hk:ja ns q=jE)(hd:ay ns q=0):fQ ns (q+1)=fun p=>if p∈aA ns q then some false else fQ ns q p:=by
 have hK:=Ll T T.root.2 h hk;have hn:nK ns=aA ns q:=by unfold nK;rw[hK];simp only[];rw[if_pos hd]
 funext p
 by_cases h1:p∈aA ns q
 ·rw[if_pos h1];unfold fQ;rw[if_neg (yU T (hn ▸ h1)),hK,if_pos ⟨hn ▸ h1,by simp⟩]
 ·rw[if_neg h1];unfold fQ
  by_cases h0:p∈aA ns 0
  ·rw[if_pos h0,if_pos h0]
  ·rw[if_neg h0,if_neg h0,if_neg fun e=>h1 (hn ▸ e.1),if_neg fun e=>h1 (hn ▸ e.1)]
theorem ai0:fQ ns 0=fun p=>if p∈aA ns 0 then some true else none:=by
 funext p;unfold fQ
 by_cases h0:p∈aA ns 0
 ·rw[if_pos h0,if_pos h0]
 ·rw[if_neg h0,if_neg h0,if_neg];intro e;have:=e.2
  cases hk:aK ns 0 jE<;>rw[hk]at this<;>simp at this
theorem Rq:mQ ns 0=⟨⟨#[]⟩,⟨#[]⟩,[]⟩:=by
 have hz:∀k,qo ns 0 k=⟨#[]⟩:=fun k=>by unfold qo;split<;>simp
 have:lo 0 (nK ns)=[]:=by unfold lo;rw[List.filter_eq_nil_iff];intro x _;simp
 unfold mQ;rw[hz,hz,this];rfl
end
end Go.Proofs.YtbcfhgpfgdbjgaaGreatDoor
