import Derived.Test.YtiinliaoojfjaaaGreatDoorF43
set_option linter.all false
set_option maxRecDepth 100000
set_option maxHeartbeats 0
namespace Go.Proofs.YtiinliaoojfjaaaGreatDoor
theorem aiv(L:List Re)(h:∀i,i<L.length->lD L i=0):(bQ L L.length).1=0:=by
 have key:∀n,n<=L.length->(bQ L n).1=0:=by
  intro n
  induction n with
  | zero=>intro _;rfl
  | succ n ih =>
   intro hn;rw[bQ,if_pos (h _ (by omega))];exact ih (by omega)
 exact key _ (Nat.le_refl _)
section
variable {N:List Nd} {L:List Re} {O:List En} {R:Re}
theorem aiw(h:(bQ (L++[R]) (L++[R]).length).1=0):(bQ L L.length).1=0:=by
 refine aiv L fun i hi=>?_
 have h1:=OE _ h i (by simp;omega);rw[CU _ i (by simp;omega),List.getElem_append_left hi,List.take_append_of_le_length (by omega)]at h1;rw[CU _ i hi];exact h1
theorem DU{k:Nat}(hk:k<L.length):aF (L++[R]) k=aF L k:=by
 unfold aF;rw[List.getElem?_append_left hk]
theorem PM{k:Nat}(hk:k<L.length):dY (L++[R]) k=dY L k:=by
 unfold dY;rw[List.getElem?_append_left hk]
theorem JK{k:Nat}(hk:k<L.length):gm (L++[R]) k=gm L k:=by
 unfold gm;rw[List.getElem?_append_left hk]
theorem YI{x:ByteArray}(hx:¬R.nm=x):∀(L:List Re) (k:Nat),bn x (L++[R]) k=bn x L k
 | [],k=>by
  simp[bn,hx]
 | y :: r,k=>by
  rw[List.cons_append,bn,bn,YI hx r (k+1)]
theorem YJ{x v:ByteArray}(hx:¬R.nm=x):∀(L:List Re) (k:Nat),fB x v (L++[R]) k=fB x v L k
 | [],k=>by
  simp[fB,fA,hx]
 | y :: r,k=>by
  rw[List.cons_append,fB,fB,YJ hx r (k+1)]
theorem aix{x:ByteArray}(hx:¬R.nm=x):dL (L++[R]) O x=dL L O x:=by
 obtain⟨E,h1,h2⟩:=Jm L x;have hk:jK O (L++[R]) x=jK O L x:=by
  unfold jK;split
  ·exact YJ hx L 0
  ·rfl
 rw[zG (L:=L) ⟨E,h1,h2,rfl⟩,zG (L:=L++[R]) ⟨E,by rw[YI hx];exact h1,h2,rfl⟩,hk]
theorem YK{ch:List Nat}{k:Nat}(hk:k<L.length)(hc:∀j∈ch,j<L.length):dG N (L++[R]) ch k=dG N L ch k:=by
 rw[Bool.eq_iff_iff,rq,rq];unfold Fit;rw[DU hk,PM hk,JK hk];constructor
 ·rintro⟨h1,h2,h3,h4⟩;exact⟨h1,h2,fun j hj=>by have:=h3 j hj;rwa [JK (hc j hj)]at this,fun j hj=>by have:=h4 j hj;rwa [DU (hc j hj),PM (hc j hj)]at this⟩
 ·rintro⟨h1,h2,h3,h4⟩;exact⟨h1,h2,fun j hj=>by rw[JK (hc j hj)];exact h3 j hj,fun j hj=>by rw[DU (hc j hj),PM (hc j hj)];exact h4 j hj⟩
end
theorem YL{go go':Nat->Nat->Fd}{ft ft':Nat->Bool}:∀(l:List Nat) (f:Nat),(∀k∈l,ft k=ft' k/\(ft k=true->∀f,go k f=go' k f))->eu go ft l f=eu go' ft' l f
 | [],f,_=>rfl
 | k :: r,0,_=>rfl
 | k :: r,f+1,h=>by
  obtain⟨h1,h2⟩:=h k List.mem_cons_self;have hr:∀f,eu go ft r f=eu go' ft' r f:=fun f=>YL r f fun q hq=>h q (List.mem_cons_of_mem _ hq)
  rw[eu,eu,<-h1]
  by_cases hf:ft k=true
  ·rw[if_pos hf,if_pos hf,h2 hf f]
   cases go' k f with
   | no f'=>exact hr f'
   | dry=>rfl
   | yes ch=>rfl
  ·rw[if_neg hf,if_neg hf];exact hr f
section
variable {N:List Nd} {L:List Re} {O:List En} {R:Re}
theorem YM(hN:∀y∈N,¬y.n=R.nm)(hL:∀k,∀y∈gm L k,¬y.n=R.nm):∀(d d':Nat) (row:List ByteArray) (ch:List Nat) (f:Nat),L.length+1<=d+ch.length->L.length+1<=d'+ch.length->SInv N L row ch->dC (dL (L++[R]) O) (dG N (L++[R])) (bG (L++[R])) d' row ch f=dC (dL L O) (dG N L) (bG L) d row ch f
 | 0,d',row,ch,f,h1,h2,hs=>by have:=hs.few;omega
 | d+1,0,row,ch,f,h1,h2,hs=>by have:=hs.few;omega
 | d+1,d'+1,row,ch,f,h1,h2,hs=>by
  have hc:∀j∈ch,j<L.length:=fun j hj=>by
   obtain⟨i,hi⟩:=List.getElem?_of_mem hj;exact(hs.nm i j hi).1
  rw[dC,dC]
  by_cases hl:ch.length=row.length
  ·rw[if_pos hl,if_pos hl]
  ·rw[if_neg hl,if_neg hl];have hlt:ch.length<row.length:=by have:=hs.le;omega
   rw[List.getD_eq_getElem?_getD,List.getElem?_eq_getElem hlt,Option.getD_some];have hx:¬R.nm=row[ch.length]:=fun e=>by
    rcases hs.wt ch.length _ (List.getElem?_eq_getElem hlt) with⟨y,hy,e2⟩|⟨j,k,-,-,y,hy,e2⟩
    ·exact hN y hy (e2.trans e.symm)
    ·exact hL k y hy (e2.trans e.symm)
   rw[aix hx];refine YL _ f fun k hk=>?_
   obtain⟨bK,hkx⟩:=yB hk;refine⟨YK bK hc,fun hf f=>?_⟩;rw[YK bK hc]at hf;have hns:bG (L++[R]) k=bG L k:=by rw[wU,wU,JK bK]
   rw[hns];exact YM hN hL d d' _ _ f (by simp;omega) (by simp;omega) (by rw[wU];exact hs.step bK (by rw[List.getElem?_eq_getElem hlt,hkx]) (rq.1 hf))
theorem aiy{fu:Int}{D:List Nat}{E:Int}(hf:(bQ (L++[R]) (L++[R]).length).1=0)(hN:∀y∈N,¬y.n=R.nm)(hL:∀x∈L,∀y∈x.nd,¬y.n=R.nm)(h:qC N L O fu D E):qC N (L++[R]) O fu D E:=by
 have hfb:fE N (L++[R])=fE N L:=by
  unfold fE;rw[if_pos hf,if_pos (aiw hf)]
 have hres:jB N (L++[R]) O fu=jB N L O fu:=by
  unfold jB;refine YM hN (fun k y hy=>?_) _ _ _ _ _ (by simp) (by simp) (Dz N L);unfold gm at hy;split at hy
  ·rename_i x hx;exact hL x (List.mem_of_getElem? hx) y hy
  ·cases hy
 unfold qC;rw[hfb,hres]
 rcases h with h|h|h|⟨h1,h2,h3,h4,h5,h6,h7⟩
 ·exact Or.inl h
 ·exact Or.inr (Or.inl h)
 ·exact Or.inr (Or.inr (Or.inl h))
 ·refine Or.inr (Or.inr (Or.inr ⟨h1,h2,h3,List.Pairwise.imp_of_mem (fun {a b} ha hb hab=>?_) h4,?_,h6,fun k hk=>by have:=h7 k hk;simp;omega⟩))
  ·rw[DU (h7 a ha),DU (h7 b hb)];exact hab
  ·rw[List.map_congr_left (g:=aF L) fun k hk=>DU (h7 k hk)];exact h5
end
end Go.Proofs.YtiinliaoojfjaaaGreatDoor
