import Derived.Test.YtiinliaoojfjaaaGreatDoorF42
set_option linter.all false
set_option maxRecDepth 100000
set_option maxHeartbeats 0
open Go.Proofs.Tryz
namespace Go.Proofs.YtiinliaoojfjaaaGreatDoor
open Go.RowKit Go.Maps Go.Joins
theorem OH(b n:Nat):(⟨b,0,none⟩:Addr).add n=⟨b,n,none⟩:=by
 unfold Addr.add;split
 ·rename_i h0;rw[h0]
 ·simp
theorem XF{w:World}{g n:Nat}{M:List Nat}(h:w.heap[g]?=some (.cells (iW M) 114 (0,0)))(hn:M.length=n):SnS w (.slice (some ⟨g,0,none⟩) n n) M:=by
 subst hn;refine Or.inr ⟨⟨g,0,none⟩,_,rfl,Nat.le_refl _,fun j hj=>?_⟩;rw[OH,ah h];unfold iW;simp[hj]
theorem ahr:(prog.info? 150).map (fun i=>(i.zero,i.size,i.bytes))=some (some (.agg #[.int .i64 0,.int .i64 0,.int .i64 0,.string ⟨#[]⟩,.string ⟨#[]⟩]),5,56):=by kernel_rfl
theorem ahs:(prog.info? 117).map (fun i=>(i.zero,i.size,i.bytes))=some (some (.agg #[.int .u64 0,.int .u64 0,.slice none 0 0]),3,40):=by kernel_rfl
theorem aht(n:Nat)(hn:n<=1048576)(W:World):(Instr.makeSlice 149 (.int .i64 (n:Int)) (.int .i64 (n:Int))).run prog W=.ok (.slice (some ⟨W.heap.size,0,none⟩) n n) (W.alloc (.cells (madeCells #[.int .i64 0,.int .i64 0,.int .i64 0,.string ⟨#[]⟩,.string ⟨#[]⟩] (n*5)) 150)):=by
 obtain⟨i0,hi0,hii⟩:=Option.map_eq_some_iff.1 ahr;simp only[Prod.mk.injEq]at hii;obtain⟨hz0,hz1,hzb⟩:=hii;have:=run_make W 149 150 i0 _ underlying149 hi0 hz0 .i64 .i64 (n:Int) (n:Int) (by omega) (Int.le_refl _) (by rw[hzb];omega) (by omega);rw[this,hz1];have e:((n:Int)).toNat=n:=by omega
 rw[e];rfl
theorem ahu(n:Nat)(hn:n<=1048576)(W:World):(Instr.makeSlice 118 (.int .i64 (n:Int)) (.int .i64 (n:Int))).run prog W=.ok (.slice (some ⟨W.heap.size,0,none⟩) n n) (W.alloc (.cells (madeCells #[.int .u64 0,.int .u64 0,.slice none 0 0] (n*3)) 117)):=by
 obtain⟨i0,hi0,hii⟩:=Option.map_eq_some_iff.1 ahs;simp only[Prod.mk.injEq]at hii;obtain⟨hz0,hz1,hzb⟩:=hii;have:=run_make W 118 117 i0 _ underlying118 hi0 hz0 .i64 .i64 (n:Int) (n:Int) (by omega) (Int.le_refl _) (by rw[hzb];omega) (by omega);rw[this,hz1];have e:((n:Int)).toNat=n:=by omega
 rw[e];rfl
theorem setAt(cur:Array Value)(p k:Nat)(v:Value):(cur.setIfInBounds p v)[k]?=if p=k then(if p<cur.size then some v else none) else cur[k]?:=by
 rw[Array.getElem?_setIfInBounds]
def RowV(w:World)(V n i:Nat)(L:List Re):Prop:=∃cur:Array Value,w.heap[V]?=some (.cells cur 150 (0,0))/\cur.size=n*5/\∀j (hj:j<L.length),j<i->cur[j*5]?=some (.int .i64 (aK L[j].ve).major)/\cur[j*5+1]?=some (.int .i64 (aK L[j].ve).minor)/\cur[j*5+2]?=some (.int .i64 (aK L[j].ve).patch)/\cur[j*5+3]?=some (.string ⟨(aK L[j].ve).pre.toArray⟩)/\cur[j*5+4]?=some (.string ⟨(aK L[j].ve).build.toArray⟩)
theorem RowV.grow{w w':World}{V n i:Nat}{L:List Re}(h:RowV w V n i L)(hg:w.grownBy w' none):RowV w' V n i L:=by
 obtain⟨cur,h1,h2,h3⟩:=h;exact⟨cur,(hg.block V (aC h1) (by simp)).trans h1,h2,h3⟩
theorem RowV.lt{w:World}{V n i:Nat}{L:List Re}(h:RowV w V n i L):V<w.heap.size:=by
 obtain⟨cur,h1,-⟩:=h;exact(aC h1)
theorem RowV.room{w:World}{V n i:Nat}{L:List Re}(h:RowV w V n i L)(q:Nat)(hq:q<n*5):(∃v,w.cell? ⟨V,q,none⟩=some v)/\w.frozen? ⟨V,q,none⟩=false:=by
 obtain⟨cur,h1,h2,-⟩:=h;refine⟨?_,Lib.frozen_of_heap h1 q⟩;rw[ah h1];exact⟨cur[q]'(by omega),Array.getElem?_eq_getElem (by omega)⟩
theorem RowV.set{w:World}{V n i:Nat}{L:List Re}(h:RowV w V n i L)(hi:i<L.length)(hn:L.length=n)(v1 v2 v3:Int)(v4 v5:ByteArray)(e1:(aK L[i].ve).major=v1)(e2:(aK L[i].ve).minor=v2)(e3:(aK L[i].ve).patch=v3)(e4:(⟨(aK L[i].ve).pre.toArray⟩:ByteArray)=v4)(e5:(⟨(aK L[i].ve).build.toArray⟩:ByteArray)=v5) :
  RowV (((((w.setCell ⟨V,i*5,none⟩ (.int .i64 v1)).setCell ⟨V,i*5+1,none⟩ (.int .i64 v2)).setCell ⟨V,i*5+2,none⟩ (.int .i64 v3)).setCell ⟨V,i*5+3,none⟩ (.string v4)).setCell ⟨V,i*5+4,none⟩ (.string v5)) V n (i+1) L:=by
 obtain⟨cur,h1,h2,h3⟩:=h;refine⟨_,block_setCell (block_setCell (block_setCell (block_setCell (block_setCell h1 _) _) _) _) _,by simpa using h2,fun j hj hji=>?_⟩;have hs:i*5+4<cur.size:=by omega
 by_cases he:j=i
 ·subst he;rw[e1,e2,e3,e4,e5];simp only[setAt,Array.size_setIfInBounds];refine⟨?_,?_,?_,?_,?_⟩
  ·rw[if_neg (by omega),if_neg (by omega),if_neg (by omega),if_neg (by omega),if_pos trivial,if_pos (by omega)]
  ·rw[if_neg (by omega),if_neg (by omega),if_neg (by omega),if_pos trivial,if_pos (by omega)]
  ·rw[if_neg (by omega),if_neg (by omega),if_pos trivial,if_pos (by omega)]
  ·rw[if_neg (by omega),if_pos trivial,if_pos (by omega)]
  ·rw[if_pos trivial,if_pos (by omega)]
 ·have hlt:j<i:=by omega
  obtain⟨c1,c2,c3,c4,c5⟩:=h3 j hj hlt;simp only[setAt,Array.size_setIfInBounds];refine⟨?_,?_,?_,?_,?_⟩
  ·rw[if_neg (by omega),if_neg (by omega),if_neg (by omega),if_neg (by omega),if_neg (by omega)];exact c1
  ·rw[if_neg (by omega),if_neg (by omega),if_neg (by omega),if_neg (by omega),if_neg (by omega)];exact c2
  ·rw[if_neg (by omega),if_neg (by omega),if_neg (by omega),if_neg (by omega),if_neg (by omega)];exact c3
  ·rw[if_neg (by omega),if_neg (by omega),if_neg (by omega),if_neg (by omega),if_neg (by omega)];exact c4
  ·rw[if_neg (by omega),if_neg (by omega),if_neg (by omega),if_neg (by omega),if_neg (by omega)];exact c5
theorem RowV.vrs{w:World}{V n:Nat}{L:List Re}(h:RowV w V n L.length L):VrS w ⟨V,0,none⟩ L:=fun j hj=>by
 obtain⟨cur,h1,h2,h3⟩:=h;obtain⟨c1,c2,c3,c4,c5⟩:=h3 j hj hj;rw[OH];simp only[ah h1];exact⟨c1,c2,c3,c4,c5⟩
def RowP(w:World)(P n:Nat)(Q:List Pl):Prop:=∃cur:Array Value,w.heap[P]?=some (.cells cur 117 (0,0))/\cur.size=n*3/\∀j (hj:j<Q.length),∃g,cur[j*3]?=some (.int .u64 (Q[j].nam:Nat))/\cur[j*3+1]?=some (.int .u64 (Q[j].bar:Nat))/\cur[j*3+2]?=some (.slice (some ⟨g,0,none⟩) Q[j].mt.length Q[j].mt.length)/\w.heap[g]?=some (.cells (iW Q[j].mt) 114 (0,0))
theorem RowP.grow{w w':World}{P n:Nat}{Q:List Pl}(h:RowP w P n Q)(hg:w.grownBy w' none):RowP w' P n Q:=by
 obtain⟨cur,h1,h2,h3⟩:=h;refine⟨cur,(hg.block P (aC h1) (by simp)).trans h1,h2,fun j hj=>?_⟩;obtain⟨g,c1,c2,c3,c4⟩:=h3 j hj;exact⟨g,c1,c2,c3,(hg.block g (aC c4) (by simp)).trans c4⟩
theorem RowP.room{w:World}{P n:Nat}{Q:List Pl}(h:RowP w P n Q)(q:Nat)(hq:q<n*3):(∃v,w.cell? ⟨P,q,none⟩=some v)/\w.frozen? ⟨P,q,none⟩=false:=by
 obtain⟨cur,h1,h2,-⟩:=h;refine⟨?_,Lib.frozen_of_heap h1 q⟩;rw[ah h1];exact⟨cur[q]'(by omega),Array.getElem?_eq_getElem (by omega)⟩
theorem RowP.push{w:World}{P n i:Nat}{Q:List Pl}(h:RowP w P n Q)(hi:Q.length=i)(hin:i<n)(x:Pl)(g:Nat)(hg:w.heap[g]?=some (.cells (iW x.mt) 114 (0,0)))(m:Nat)(hm:x.mt.length=m) :
  RowP (((w.setCell ⟨P,i*3,none⟩ (.int .u64 (x.nam:Nat))).setCell ⟨P,i*3+1,none⟩ (.int .u64 (x.bar:Nat))).setCell ⟨P,i*3+2,none⟩ (.slice (some ⟨g,0,none⟩) m m)) P n (Q++[x]):=by
 subst hm hi;obtain⟨cur,h1,h2,h3⟩:=h;have hne:∀(k:Nat) (cs:Array Value),w.heap[k]?=some (.cells cs 114 (0,0))->¬k=P:=fun k cs hk e=>by
  subst e;rw[h1]at hk;injection hk with hk
  injection hk with _ e2 _
  exact absurd e2 (by decide)
 have hkeep:∀(k:Nat) (cs:Array Value),w.heap[k]?=some (.cells cs 114 (0,0))->(((w.setCell ⟨P,Q.length*3,none⟩ (.int .u64 (x.nam:Nat))).setCell ⟨P,Q.length*3+1,none⟩ (.int .u64 (x.bar:Nat))).setCell ⟨P,Q.length*3+2,none⟩ (.slice (some ⟨g,0,none⟩) x.mt.length x.mt.length)).heap[k]?=some (.cells cs 114 (0,0)):=fun k cs hk=>by
  rw[heap_setCell_other _ _ k _ (hne k cs hk),heap_setCell_other _ _ k _ (hne k cs hk),heap_setCell_other _ _ k _ (hne k cs hk)];exact hk
 refine⟨_,block_setCell (block_setCell (block_setCell h1 _) _) _,by simpa using h2,fun j hj=>?_⟩;rw[List.length_append,List.length_singleton]at hj
 by_cases he:j=Q.length
 ·subst he;rw[List.getElem_append_right (Nat.le_refl _)];simp only[Nat.sub_self,List.getElem_cons_zero];refine⟨g,?_,?_,?_,hkeep g _ hg⟩
  ·simp only[setAt,Array.size_setIfInBounds];rw[if_neg (by omega),if_neg (by omega),if_pos trivial,if_pos (by omega)]
  ·simp only[setAt,Array.size_setIfInBounds];rw[if_neg (by omega),if_pos trivial,if_pos (by omega)]
  ·simp only[setAt,Array.size_setIfInBounds];rw[if_pos trivial,if_pos (by omega)]
 ·have hlt:j<Q.length:=by omega
  rw[List.getElem_append_left hlt];obtain⟨g',c1,c2,c3,c4⟩:=h3 j hlt;refine⟨g',?_,?_,?_,hkeep g' _ c4⟩
  ·simp only[setAt,Array.size_setIfInBounds];rw[if_neg (by omega),if_neg (by omega),if_neg (by omega)];exact c1
  ·simp only[setAt,Array.size_setIfInBounds];rw[if_neg (by omega),if_neg (by omega),if_neg (by omega)];exact c2
  ·simp only[setAt,Array.size_setIfInBounds];rw[if_neg (by omega),if_neg (by omega),if_neg (by omega)];exact c3
theorem RowP.pls{w:World}{P n:Nat}{Q:List Pl}(h:RowP w P n Q)(hn:Q.length=n):PlS w (.slice (some ⟨P,0,none⟩) n n) Q:=by
 subst hn;obtain⟨cur,h1,h2,h3⟩:=h;refine Or.inr ⟨⟨P,0,none⟩,_,rfl,Nat.le_refl _,fun j hj=>?_⟩;obtain⟨g,c1,c2,c3,c4⟩:=h3 j hj;rw[OH];unfold PlAt;simp only[ah h1];exact⟨c1,c2,_,c3,XF c4 rfl⟩
theorem OI{go:Nat->Nat->Fd}{ft:Nat->Bool}:∀(l:List Nat) (f f':Nat),eu go ft l f=.no f'->∀k∈l,ft k=true->∃f1 f2,go k f1=.no f2
 | [],f,f',h,k,hk,_=>by cases hk
 | q :: r,0,f',h,k,hk,_=>by cases h
 | q :: r,f+1,f',h,k,hk,hf=>by
  rw[eu]at h
  by_cases hq:ft q=true
  ·rw[if_pos hq]at h
   cases hg:go q f with
   | dry=>rw[hg]at h;cases h
   | yes ch=>rw[hg]at h;cases h
   | no f1 =>
    rw[hg]at h
    rcases List.mem_cons.1 hk with e|hk
    ·rw[e];exact⟨f,f1,hg⟩
    ·exact OI r f1 f' h k hk hf
  ·rw[if_neg hq]at h
   rcases List.mem_cons.1 hk with e|hk
   ·rw[e]at hf;exact absurd hf hq
   ·exact OI r f f' h k hk hf
theorem OJ{go:Nat->Nat->Fd}{ft:Nat->Bool}{ch:List Nat}:∀(l:List Nat) (f:Nat),eu go ft l f=.yes ch->∃k∈l,ft k=true/\∃f1,go k f1=.yes ch
 | [],f,h=>by cases h
 | q :: r,0,h=>by cases h
 | q :: r,f+1,h=>by
  rw[eu]at h
  by_cases hq:ft q=true
  ·rw[if_pos hq]at h
   cases hg:go q f with
   | dry=>rw[hg]at h;cases h
   | yes ch' =>
    rw[hg]at h
    cases h
    exact⟨q,List.mem_cons_self,hq,f,hg⟩
   | no f1 =>
    rw[hg]at h;obtain⟨k,h1,h2⟩:=OJ r f1 h;exact⟨k,List.mem_cons_of_mem _ h1,h2⟩
  ·rw[if_neg hq]at h;obtain⟨k,h1,h2⟩:=OJ r f h;exact⟨k,List.mem_cons_of_mem _ h1,h2⟩
section
variable {N:List Nd} {L:List Re} {O:List En}
theorem XG{ch':List Nat}:∀(d:Nat) (row:List ByteArray) (ch:List Nat) (f:Nat),SInv N L row ch->dC (dL L O) (dG N L) (bG L) d row ch f=.yes ch'->∃row',SInv N L row' ch'/\ch'.length=row'.length
 | 0,row,ch,f,hs,h=>by cases h
 | d+1,row,ch,f,hs,h=>by
  rw[dC]at h
  by_cases hl:ch.length=row.length
  ·rw[if_pos hl]at h
   cases h
   exact⟨row,hs,hl⟩
  ·rw[if_neg hl]at h;have hlt:ch.length<row.length:=by have:=hs.le;omega
   rw[List.getD_eq_getElem?_getD,List.getElem?_eq_getElem hlt,Option.getD_some]at h;obtain⟨k,h1,h2,f1,h3⟩:=OJ _ _ h;obtain⟨bK,hkx⟩:=yB h1;exact XG d _ _ _ (by rw[wU];exact hs.step bK (by rw[List.getElem?_eq_getElem hlt,hkx]) (rq.1 h2)) h3
theorem XH{name:ByteArray}:∀(L:List Re) (k q:Nat) (h:q<L.length),L[q].nm=name->okV L[q].ve=true->∃it∈bn name L k,it.k=k+q
 | [],k,q,h,_,_=>by simp at h
 | x :: r,k,0,h,h1,h2=>by
  unfold bn;rw[List.getElem_cons_zero]at h1 h2;rw[if_pos (by rw[h2];simpa using h1)];exact⟨_,List.mem_cons_self,rfl⟩
 | x :: r,k,q+1,h,h1,h2=>by
  rw[List.getElem_cons_succ]at h1 h2;obtain⟨it,h3,h4⟩:=XH r (k+1) q (by simpa using h) h1 h2;refine⟨it,?_,by omega⟩;unfold bn;split
  ·exact List.mem_cons_of_mem _ h3
  ·exact h3
theorem ahv(z:Int)(l:List Nat)(k:Nat):k∈jw z l↔k∈l:=by
 unfold jw;split
 ·rename_i h;exact(List.perm_cons_erase h.2).symm.mem_iff
 ·rfl
theorem XI{q:Nat}(h:q<L.length)(hv:okV L[q].ve=true):q∈dL L O (aF L q):=by
 obtain⟨E,h1,h2⟩:=Jm L (aF L q);rw[zG ⟨E,h1,h2,rfl⟩,ahv];obtain⟨it,h3,h4⟩:=XH L 0 q h (mX L q h).symm hv;exact List.mem_map.2 ⟨it,h1.symm.subset h3,by omega⟩
end
open Go.RowKit
def qE(b:Bool)(W:Int):Int:=if b=true then 5 else W
theorem ahw(L:List Re)(n v:ByteArray)(k:Nat)(hk:k<L.length):(L.take (k+1)).any (fA n v)=((L.take k).any (fA n v) || fA n v L[k]):=by
 rw[List.take_succ_eq_append_getElem hk,List.any_append];simp
theorem ahx(a:Addr)(cap:Nat)(L:List Re)(w:World)(hcap:L.length<=cap)(h:∀j (hj:j<L.length),ReAt w (a.add (j*4)) L[j])(hL:L.length<=1048576)(hV:∀x∈L,x.nm.size<2 ^ 60/\x.ve.size<2 ^ 60)(hN:∀x∈L,x.nd.length<=1048576)(hS:∀x∈L,∀y∈x.nd,y.n.size<2 ^ 60/\y.r.size<2 ^ 60) :
  Calls prog 20 #[.slice (some a) L.length cap] w fun e w'=>e=.returned (.tuple #[.int .i64 (bQ L L.length).1,.int .i64 ((bQ L L.length).2:Int)])/\w.grownBy w' none:=by
 have HA:=ae h;have CN:=ae (fun x (hx:x∈L) w=>Tu x.nm w (by have:=(hV x hx).1;omega));have CV:=ae (fun x (hx:x∈L) w=>Iw x.ve w (by have:=(hV x hx).2;omega));have CW:=ae (fun x (hx:x∈L) v w (h:NdS w v x.nd)=>OB v x.nd w h (hN x hx) (hS x hx));have CT:=ae (fun x (hx:x∈L) y (hy:y∈L) w=>UF y.ve x.ve w (by have:=(hV y hy).2;omega) (by have:=(hV x hx).2;omega));have oP:=ae hN;have HH:=ae (VW L);have HM:=ae (VY L);obtain⟨R,hR⟩:=zN (bQ L L.length);have OC:Hd (bQ L (L.length-0)=R):=hR;rw[hR];clear h hV hN hS hR;go_enter func20,ntmps20;go_wp2;go_loopw [4] (fun vi wr=>∃i:Nat,vi=.int .i64 i/\i<=L.length/\bQ L (L.length-i)=R/\w.grownBy wr none) (fun vi _=>L.length-(intOf vi).toNat)
 case atStart=>exact⟨0,rfl,Nat.zero_le _,OC.o,ai _ _⟩
 case round =>
  obtain⟨i,rfl,hi,hc,hg⟩:=hrel;have HG:=ae hg;have HC:=ae hc
  by_cases hlt:i<L.length
  ·obtain⟨x,hx⟩:=zN (L[i]);have hmem:x∈L:=by rw[<-hx];exact List.getElem_mem _
   have F5:=ae hmem;have OM:lD L i=pG i (L.take i) x:=by rw[CU L i hlt,hx]
   have zZ:Hd (¬pG i (L.take i) x=0->R=(pG i (L.take i) x,i)):=fun h=>by rw[<-OM]at h ⊢;exact HC.o.symm.trans (HH.o i hlt h)
   have Ji:Hd (pG i (L.take i) x=0->bQ L (L.length-(i+1))=R):=fun h=>by rw[<-OM]at h;exact(HM.o i hlt h).symm.trans HC.o
   obtain⟨e0,e1,⟨sv,e2,hsv⟩,e3⟩:ReAt wr (a.add (i*4)) x:=by rw[<-hx];exact(HA.o i hlt).grow hg
   have wS:=ae hsv;obtain⟨so,sc,rfl⟩:=mP hsv;have hnl:=oP.o x hmem;have OO:=ae (CN.o x hmem);have OQ:=ae (CV.o x hmem);have OU:=ae (CW.o x hmem);have XJ:=ae (CT.o x hmem);clear hc hg hx hmem OM hsv
   by_cases hm:50<=i
   ·have HR:Hd (R=(4,i)):=by
     have:=zZ.o (by rw[yA (Or.inl hm)];decide)
     rwa [yA (Or.inl hm)]at this
    go_wp2;refine bodyPost_ret (results_tmp2 (t:=2) (u:=3) rfl _ _ _) rfl ⟨?_,ak HG.o _⟩;rw[HR.o];rfl
   ·by_cases hn:20<x.nd.length
    ·have HR:Hd (R=(4,i)):=by
      have:=zZ.o (by rw[yA (Or.inr hn)];decide)
      rwa [yA (Or.inr hn)]at this
     go_wp2;refine bodyPost_ret (results_tmp2 (t:=2) (u:=3) rfl _ _ _) rfl ⟨?_,ak HG.o _⟩;rw[HR.o];rfl
    ·have zX:¬(50<=i\/20<x.nd.length):=by omega
     have HT:Hd (nameB x.nm=false\/okV x.ve=false\/bY x.nd=2->R=(2,i)):=fun h=>by
      have h1:=Jg (P:=L.take i) zX h;have:=zZ.o (by rw[h1];decide)
      rwa [h1]at this
     have HQ:Hd (¬(nameB x.nm=false\/okV x.ve=false\/bY x.nd=2)->(qE ((L.take i).any (fA x.nm x.ve)) (bY x.nd)=0->bQ L (L.length-(i+1))=R)/\(¬qE ((L.take i).any (fA x.nm x.ve)) (bY x.nd)=0->R=(qE ((L.take i).any (fA x.nm x.ve)) (bY x.nd),i))):=fun h=>by
      have h1:=Jh (P:=L.take i) zX h;have h2:qE ((L.take i).any (fA x.nm x.ve)) (bY x.nd)=pG i (L.take i) x:=by
       rw[h1];unfold qE
       rcases IW x.nd with h3|h3|h3
       ·rw[h3];cases (L.take i).any (fA x.nm x.ve)<;>simp
       ·exact absurd (Or.inr (Or.inr h3)) h
       ·rw[h3];cases (L.take i).any (fA x.nm x.ve)<;>simp
      rw[h2];exact⟨Ji.o,zZ.o⟩
     obtain⟨q1,hq1⟩:=zN (nameB x.nm);obtain⟨q2,hq2⟩:=zN (okV x.ve);obtain⟨W,hW⟩:=zN (bY x.nd);rw[hq1]at HT HQ OO;rw[hq2]at HT HQ OQ;rw[hW]at HT HQ OU;obtain⟨nn,hnn⟩:=zN (x.nd.length);rw[hnn]at wS e2 hn hnl;have XK:Hd (∀k (hk:k<L.length),fA x.nm x.ve L[k]=(decide (L[k].nm=x.nm) && og L[k].ve x.ve)):=fun k hk=>rfl
     obtain⟨xn,xv,xd,xa⟩:=x;simp only[]at OO OQ OU XJ e0 e1 e3 wS HQ XK;clear zX hq1 hq2 hW hnn;obtain⟨A,hA⟩:=zN (wr.heap.size);go_wp2_with (first|(go_at_call 39;refine(OO.o _).mono ?_;rintro e w' ⟨rfl,rfl⟩)|(go_at_call 40;refine(OQ.o _).mono ?_));rintro e w1 ⟨rfl,hg1⟩;obtain⟨c0,c1,c2,c3⟩:=uM ((hg1.block wr.heap.size (by simp) (by simp)).trans (heap_alloc_new wr _));have bg:=ae (ag (ak (ai wr none) _) hg1)
     try rw[hA]
     rw[hA]at c0 c1 c2 c3;clear hg1 e0 e1 e2 e3 hA;go_wp2_with (first|(go_at_call 31;refine(OU.o _ _ (wS.o.grow bg.o)).mono ?_));rintro e w2 ⟨rfl,hg2⟩;have f0:=hg2.cell c0 (by simp);have f1:=hg2.cell c1 (by simp);have HG2:=ae (ag HG.o (ag bg.o hg2));have XL:Hd (w2.cell? ⟨A,0,none⟩=some (.string xn)/\w2.cell? ⟨A,1,none⟩=some (.string xv)):=⟨f0,f1⟩;clear c0 c1 c2 c3 hg2 wS f0 f1
     cases q1 with
     | false =>
      go_wp2;refine bodyPost_ret (results_tmp2 (t:=2) (u:=3) rfl _ _ _) rfl ⟨?_,HG2.o⟩;rw[HT.o (Or.inl (by trivial))];rfl
     | true =>
      cases q2 with
      | false =>
       go_wp2;refine bodyPost_ret (results_tmp2 (t:=2) (u:=3) rfl _ _ _) rfl ⟨?_,HG2.o⟩;rw[HT.o (Or.inr (Or.inl (by trivial)))];rfl
      | true =>
       by_cases hW2:W=2
       ·subst hW2;go_wp2;refine bodyPost_ret (results_tmp2 (t:=2) (u:=3) rfl _ _ _) rfl ⟨?_,HG2.o⟩;rw[HT.o (Or.inr (Or.inr (by trivial)))];rfl
       ·have hw2:(W == 2)=false:=by simp[hW2]
        have zY:=ae (HQ.o (by simp[hW2]));clear hW2;go_wp2;clear hw2;go_loopw [8,9] (fun ve vk wk=>∃k:Nat,vk=.int .i64 k/\ve=.int .i64 (qE ((L.take k).any (fA xn xv)) W)/\k<=i/\w2.grownBy wk none) (fun _ vk _=>i-(intOf vk).toNat)
        case atStart=>exact⟨0,rfl,rfl,Nat.zero_le _,ai _ _⟩
        case round =>
         obtain⟨k,rfl,rfl,hk,hgk⟩:=hrel;have jv:=ae hgk;have bD:=ae (ag HG2.o hgk);have f0:=hgk.cell XL.o.1 (by simp);have f1:=hgk.cell XL.o.2 (by simp)
         by_cases hki:k<i
         ·have hkl:k<L.length:=by omega
          obtain⟨y,hy⟩:=zN (L[k]);obtain⟨p0,p1,-,-⟩:ReAt wr (a.add (k*4)) y:=by rw[<-hy];exact(HA.o k hkl).grow bD.o
          have zW:Hd (Calls prog 41 #[.string y.ve,.string xv] wr.drew fun e w'=>e=.returned (.bool (og y.ve xv))/\wr.drew.grownBy w' none):=XJ.o y (by rw[<-hy];exact List.getElem_mem _) _;have yz:Hd ((L.take (k+1)).any (fA xn xv)=((L.take k).any (fA xn xv) || (decide (y.nm=xn) && og y.ve xv))):=by
           show _=_;rw[ahw L xn xv k hkl,XK.o k hkl,hy]
          obtain⟨q0,hq0⟩:=zN ((L.take k).any (fA xn xv));obtain⟨tg,XM⟩:=zN (og y.ve xv);rw[hq0]at yz;rw[XM]at zW yz
          try rw[hq0]
          obtain⟨yn,yv,yd,ya⟩:=y;simp only[]at zW yz p0 p1;clear hgk hy hq0 XM;have XN:Hd (wr.cell? (a.add (k*4))=some (.string yn)/\wr.cell? ⟨A,0,none⟩=some (.string xn)):=⟨p0,f0⟩;go_wp2
          go_region_held3 (fun w'=>w'.cell? ⟨(a.add (k*4)).block,(a.add (k*4)).off+1,none⟩=some (.string yv)/\w'.cell? ⟨A,1,none⟩=some (.string xv)) ((first|exact⟨World.grownBy.cell (by assumption) (And.left (by assumption)) (by simp),World.grownBy.cell (by assumption) (And.right (by assumption)) (by simp)⟩|go_keep)) (first|(go_at_call 41;refine zW.o.mono ?_;rintro e w3 ⟨rfl,hg3⟩))
          have hg4:=dF hg3;have r0:=hg4.cell XN.o.1 (by simp);have r1:=hg4.cell XN.o.2 (by simp);have eX:=ae (ag jv.o hg4);clear hg3 hg4 p0 p1 f0 f1
          by_cases hxy:yn=xn
          ·have q:=uA hxy
           cases tg with
           | true =>
            have HV:Hd ((5:Int)=qE ((L.take (k+1)).any (fA xn xv)) W):=by
             show _=_;rw[yz.o];simp[hxy,qE]
            go_wp2;go_quiet (fail);go_wp2;go_roundw
            case rel=>exact⟨k+1,by go_num,by rw[<-HV.o],by omega,aH eX.o _⟩
            case measure=>simp[intOf];omega
           | false =>
            have HV:Hd (qE q0 W=qE ((L.take (k+1)).any (fA xn xv)) W):=by
             show _=_;rw[yz.o];simp
            go_wp2;go_quiet (fail);go_wp2;go_roundw
            case rel=>exact⟨k+1,by go_num,by rw[<-HV.o],by omega,aH eX.o _⟩
            case measure=>simp[intOf];omega
          ·have q:=pz hxy;have HV:Hd (qE q0 W=qE ((L.take (k+1)).any (fA xn xv)) W):=by
            show _=_;rw[yz.o];simp[hxy]
           go_wp2;go_quiet (fail);go_wp2;go_roundw
           case rel=>exact⟨k+1,by go_num,by rw[<-HV.o],by omega,aH eX.o _⟩
           case measure=>simp[intOf];omega
         ·have hke:k=i:=by omega
          subst hke;clear hgk hk f0 f1;obtain⟨E1,hE1⟩:=zN (qE ((L.take k).any (fA xn xv)) W);rw[hE1]at zY
          try rw[hE1]
          clear hE1
          by_cases hz:E1=0
          ·subst hz;go_wp2;go_roundw
           case rel=>exact⟨k+1,by go_num,by omega,zY.o.1 rfl,bD.o⟩
           case measure=>simp[intOf];omega
          ·have hz1:(E1 != 0)=true:=by simp[hz]
           have HR:=ae (zY.o.2 hz);clear hz;go_wp2;refine bodyPost_ret (results_tmp2 (t:=2) (u:=3) rfl _ _ _) rfl ⟨?_,bD.o⟩;rw[HR.o];rfl
  ·have hil:i=L.length:=by omega
   have HR:Hd (R=(0,0)):=by
    show R=_;rw[<-hc,hil,Nat.sub_self];rfl
   clear hc hg hil hi;go_wp2;refine bodyPost_ret (results_tmp2 (t:=2) (u:=3) rfl _ _ _) rfl ⟨?_,HG.o⟩;rw[HR.o];rfl
theorem ahy(w:World):Calls prog 20 #[.slice none 0 0] w fun e w'=>e=.returned (.tuple #[.int .i64 0,.int .i64 0])/\w.grownBy w' none:=by
 go_enter func20,ntmps20;go_wp2;go_loopw [4] (fun vi wr=>vi=.int .i64 0/\w.grownBy wr none) (fun vi _=>0)
 case atStart=>exact⟨rfl,ai _ _⟩
 case round =>
  obtain⟨rfl,hb⟩:=hrel;have HB:=ae hb;clear hb;go_wp2;exact bodyPost_ret (results_tmp2 (t:=2) (u:=3) rfl _ _ _) rfl ⟨rfl,HB.o⟩
theorem OV(v:Value)(L:List Re)(w:World)(h:ReS w v L)(hL:L.length<=1048576)(hV:∀x∈L,x.nm.size<2 ^ 60/\x.ve.size<2 ^ 60)(hN:∀x∈L,x.nd.length<=1048576)(hS:∀x∈L,∀y∈x.nd,y.n.size<2 ^ 60/\y.r.size<2 ^ 60) :
  Calls prog 20 #[v] w fun e w'=>e=.returned (.tuple #[.int .i64 (bQ L L.length).1,.int .i64 ((bQ L L.length).2:Int)])/\w.grownBy w' none:=by
 rcases h with⟨rfl,rfl⟩|⟨a,cap,rfl,h2,h3⟩
 ·exact ahy w
 ·exact ahx a cap L w h2 h3 hL hV hN hS
end Go.Proofs.YtiinliaoojfjaaaGreatDoor
