import Derived.Test.YtapodndfpecglaaGreatDoorK21
import Derived.Test.YtapodndfpecglaaGreatDoorK22
set_option linter.all false
set_option maxRecDepth 100000
set_option maxHeartbeats 0
open Go.Proofs.Tryz
namespace Go.Proofs.YtapodndfpecglaaGreatDoor
open Go.RowKit Go.Maps Go.Joins
theorem BN(name:ByteArray):∀(L:List Re) (k:Nat) (x:It),x∈dw name L k->∃j,x.k=k+j/\∃h:j<L.length,L[j].nm=name
 | [],k,x,hx=>by simp[dw]at hx
 | y :: r,k,x,hx=>by
  unfold dw at hx;split at hx
  ·rename_i hc
   rcases List.mem_cons.1 hx with rfl|hx
   ·exact⟨0,rfl,by simp,by simp at hc;exact hc.1⟩
   ·obtain⟨j,h1,h2,h3⟩:=BN name r (k+1) x hx;exact⟨j+1,by omega,by simp;omega,by simpa using h3⟩
  ·obtain⟨j,h1,h2,h3⟩:=BN name r (k+1) x hx;exact⟨j+1,by omega,by simp;omega,by simpa using h3⟩
theorem abS{w:World}{B:Nat}{N:List Nat}(h:NxAt w B N N.length):IS w (.slice (some ⟨B,0,none⟩) N.length N.length) (N.map fun(k:Nat)=>(k:Int)):=by
 refine Or.inr ⟨⟨B,0,none⟩,N.length,by rw[List.length_map],by rw[List.length_map];exact Nat.le_refl _,fun j hj=>?_⟩;rw[List.length_map]at hj;rw[uZ,ag h];simp[hj]
theorem abT(b n c j:Nat)(h:j+1<=c)(wx:World):(Instr.slice 25 (.slice (some ⟨b,0,none⟩) n c) (some (.int .i64 (j:Int))) (some (.int .i64 ((j:Int)+1))) none).run prog wx=.ok (.slice (some ⟨b,j,none⟩) 1 (c-j)) wx:=by
 have ht:prog.underlying 25=some (.slice (prog.elem 25)):=by kernel_rfl
 have hsz:∀w,(sizeOf (prog.elem 25)).run prog w=.ok 1 w:=fun w=>by kernel_rfl
 rw[run_slice_lh wx _ _ n c ht .i64 .i64 (j:Int) ((j:Int)+1) (by omega) (by omega) (by omega),hsz];have e1:((j:Int)).toNat=j:=by omega
 have e2:((j:Int)+1).toNat=j+1:=by omega
 simp only[Result.andThen,sliced,e1,e2];rw[if_neg (by omega),Option.map_some,Nat.mul_one,uZ,show j+1-j=1 by omega]
theorem abU(b n c j:Nat)(h:j+1<=n)(hc:n<=c)(wx:World):(Instr.slice 25 (.slice (some ⟨b,0,none⟩) n c) (some (.int .i64 ((j:Int)+1))) none none).run prog wx=.ok (.slice (some ⟨b,if c=j+1 then 0 else j+1,none⟩) (n-(j+1)) (c-(j+1))) wx:=by
 have ht:prog.underlying 25=some (.slice (prog.elem 25)):=by kernel_rfl
 have hsz:∀w,(sizeOf (prog.elem 25)).run prog w=.ok 1 w:=fun w=>by kernel_rfl
 rw[run_slice_l wx _ _ n c ht .i64 ((j:Int)+1) (by omega) (by omega),hsz];have e2:((j:Int)+1).toNat=j+1:=by omega
 simp only[Result.andThen,sliced,e2]
 by_cases hc':c=j+1
 ·rw[if_pos hc',if_pos hc']
 ·rw[if_neg hc',if_neg hc',Option.map_some,Nat.mul_one,uZ]
theorem abV{p q:Addr}{x y:Value}{w w':World}(hg:w.grownBy w' none)(h:w.cell? p=some x/\w.cell? q=some y):w'.cell? p=some x/\w'.cell? q=some y:=⟨hg.cell h.1 (by simp),hg.cell h.2 (by simp)⟩
theorem QU(b o n:Nat):(⟨b,o,none⟩:Addr).add n=⟨b,o+n,none⟩:=by
 unfold Addr.add;split
 ·rename_i h;rw[h];rfl
 ·simp
def c3(N:List Nat)(j i:Nat):List Int:=match i with
 | 0=>((N.drop j).take 1).map fun(k:Nat)=>(k:Int)
 | 1=>(N.take j).map fun(k:Nat)=>(k:Int)
 | _=>(N.drop (j+1)).map fun(k:Nat)=>(k:Int)
def a3(B j o i:Nat):Addr:=match i with
 | 0=>⟨B,j,none⟩
 | 1=>⟨B,0,none⟩
 | _=>⟨B,o,none⟩
def k3(n j i:Nat):Nat:=match i with
 | 0=>n-j
 | 1=>n
 | _=>n-(j+1)
theorem QV(N:List Nat)(j:Nat)(hj:j<N.length):(gp (c3 N j) 3).length=N.length/\∀x∈gp (c3 N j) 3,∃k∈N,x=(k:Int):=by
 have e:gp (c3 N j) 3=([]++c3 N j 0++c3 N j 1)++c3 N j 2:=rfl;rw[e];refine⟨by simp[c3];omega,fun x hx=>?_⟩;simp only[List.nil_append,List.mem_append,c3,List.mem_map]at hx
 rcases hx with(⟨k,hk,rfl⟩|⟨k,hk,rfl⟩)|⟨k,hk,rfl⟩
 ·exact⟨k,List.mem_of_mem_drop (List.mem_of_mem_take hk),rfl⟩
 ·exact⟨k,List.mem_of_mem_take hk,rfl⟩
 ·exact⟨k,List.mem_of_mem_drop hk,rfl⟩
theorem abW(N:List Nat)(B j o q:Nat)(hj:j<N.length)(hN:N.length<=64)(ho:(if N.length=j+1 then 0 else j+1)=o)(w:World)(h:IS w (.slice (some ⟨B,0,none⟩) N.length N.length) (N.map fun(k:Nat)=>(k:Int)))(hq:w.heap[q]?=some (.cells #[.slice (some ⟨B,j,none⟩) 1 (N.length-j),.slice (some ⟨B,0,none⟩) j N.length,.slice (some ⟨B,o,none⟩) (N.length-(j+1)) (N.length-(j+1))] 25 (0,0))) :
  Calls prog 60 #[.slice (some ⟨q,0,none⟩) 3 3] w fun e w'=>∃v,e=.returned v/\w'.ownsRow w.heap.size 3 1 v (gp (c3 N j) 3).length ((gp (c3 N j) 3).map (Value.int .i64))/\w.grownBy w' none:=by
 have hcell:∀t (ht:t<N.length),w.cell? ⟨B,t,none⟩=some (.int .i64 (N[t]:Int)):=fun t ht=>by
  rcases h with⟨e,-⟩|⟨a,cap,e,-,h3⟩
  ·cases e
  ·injection e with e _ _
   cases e
   have:=h3 t (by simpa using ht);rw[uZ,List.getElem_map]at this;exact this
 refine aas q (a3 B j o) (c3 N j) (k3 N.length j) w (fun i hi=>?_) (fun i hi t u hu=>?_) (fun i hi=>?_) ?_
 ·rw[ag hq]
  rcases(show i=0\/i=1\/i=2 by omega) with rfl|rfl|rfl
  ·have:(c3 N j 0).length=1:=by simp[c3];omega
   rw[this];rfl
  ·have:(c3 N j 1).length=j:=by simp[c3];omega
   rw[this];rfl
  ·have:(c3 N j 2).length=N.length-(j+1):=by simp[c3]
   rw[this];rfl
 ·obtain⟨x,hx,rfl⟩:=Option.map_eq_some_iff.1 ((List.getElem?_map (f:=Value.int .i64)) ▸ hu)
  rcases(show i=0\/i=1\/i=2 by omega) with rfl|rfl|rfl
  ·obtain⟨k,hk,rfl⟩:=Option.map_eq_some_iff.1 ((List.getElem?_map (f:=fun(k:Nat)=>(k:Int))) ▸ hx);rw[List.getElem?_take]at hk;split at hk
   ·rename_i ht;obtain rfl:t=0:=by omega
    rw[List.getElem?_drop]at hk;obtain⟨h1,h2⟩:=List.getElem?_eq_some_iff.1 hk;show w.cell? ((⟨B,j,none⟩:Addr).add 0)=_;rw[QU,hcell (j+0) h1,h2]
   ·cases hk
  ·obtain⟨k,hk,rfl⟩:=Option.map_eq_some_iff.1 ((List.getElem?_map (f:=fun(k:Nat)=>(k:Int))) ▸ hx);rw[List.getElem?_take]at hk;split at hk
   ·obtain⟨h1,h2⟩:=List.getElem?_eq_some_iff.1 hk;show w.cell? ((⟨B,0,none⟩:Addr).add t)=_;rw[uZ,hcell t h1,h2]
   ·cases hk
  ·obtain⟨k,hk,rfl⟩:=Option.map_eq_some_iff.1 ((List.getElem?_map (f:=fun(k:Nat)=>(k:Int))) ▸ hx);rw[List.getElem?_drop]at hk;obtain⟨h1,h2⟩:=List.getElem?_eq_some_iff.1 hk;rw[if_neg (by omega)]at ho;subst ho;show w.cell? ((⟨B,j+1,none⟩:Addr).add t)=_;rw[QU,hcell (j+1+t) h1,h2]
 ·rcases(show i=0\/i=1\/i=2 by omega) with rfl|rfl|rfl<;>(simp[c3];try omega)
 ·rw[(QV N j hj).1];omega
open Go.RowKit Go.Maps Go.Joins Go.ChangeMaps Go.MapKept
def eG(L:List Re)(k:Nat):List ByteArray:=match L[k]? with|some x=>x.nd.map (·.n)|none=>[]
theorem BO(L:List Re)(k:Nat)(h:k<L.length):eG L k=L[k].nd.map (·.n):=by simp[eG,List.getElem?_eq_getElem h]
def Far(S M nb Mc b:Nat):Prop:=¬b=S/\¬b=M/\¬b=nb/\¬b=Mc
def Gv(S M nb Mc:Nat)(w:World)(v:Value)(cs:List Int):Prop:=(v=.slice none 0 0/\cs=[])\/∃g c,v=.slice (some ⟨g,0,none⟩) cs.length c/\cs.length<=c/\g<w.heap.size/\Far S M nb Mc g/\∀j (hj:j<cs.length),w.cell? ⟨g,j,none⟩=some (.int .i64 cs[j])
structure Nw(L:List Re)(S M nb Mc:Nat)(pv:Value)(f:Int)(bar kn km:Nat)(w:World):Prop where
 sb:Sb w S pv (.slice (some ⟨nb,0,none⟩) L.length L.length) (.map (some Mc)) (.slice none 0 0) (.map (some M)) (.slice none 0 0) f 0 bar
 mm:w.heap[M]?=some (.map #[] 0)
 row:∃cur,w.heap[nb]?=some (.cells cur 49 (0,0))/\cur.size=L.length
 nm:∀k (hk:k<L.length),k<kn->∃ng nc,w.cell? ⟨nb,k,none⟩=some (.slice (some ⟨ng,0,none⟩) (eG L k).length nc)/\(eG L k).length<=nc/\ng<w.heap.size/\Far S M nb Mc ng/\∀t (ht:t<(eG L k).length),w.cell? ⟨ng,t,none⟩=some (.string (eG L k)[t])
 cd:∃D,w.ownsMap prog 9 ja Mc km D/\∀x,∃v cs,ja v=some (D.atKey (kT x) sV,[])/\Gv S M nb Mc w v cs/\cs.length<=64/\∀c∈cs,∃k:Nat,c=(k:Int)/\k<L.length/\aQ L k=x
section
variable {L:List Re} {S M nb Mc:Nat} {pv:Value} {f:Int} {bar kn km:Nat} {w w':World} {X:Nat->Prop}
theorem Gv.fx{v:Value}{cs:List Int}(h:Gv S M nb Mc w v cs)(hf:Fx X w w')(hX:∀b,b<w.heap.size->Far S M nb Mc b->¬X b):Gv S M nb Mc w' v cs:=by
 rcases h with h|⟨g,c,h1,h2,h3,h4,h5⟩
 ·exact Or.inl h
 ·exact Or.inr ⟨g,c,h1,h2,Nat.lt_of_lt_of_le h3 hf.size,h4,fun j hj=>hf.cell (h5 j hj) (hX g h3 h4)⟩
theorem Gv.is{v:Value}{cs:List Int}(h:Gv S M nb Mc w v cs):IS w v cs:=by
 rcases h with h|⟨g,c,h1,h2,h3,h4,h5⟩
 ·exact Or.inl h
 ·exact Or.inr ⟨⟨g,0,none⟩,c,h1,h2,fun j hj=>by rw[uZ];exact h5 j hj⟩
theorem Nw.grow(h:Nw L S M nb Mc pv f bar kn km w)(hg:w.grownBy w' none):Nw L S M nb Mc pv f bar kn km w':=by
 have hf:Fx (fun _=>False) w w':=(Fx.refl _ w).gb hg (fun b e=>by cases e);obtain⟨cur,h1,h2⟩:=h.row;refine⟨h.sb.grow hg,(hf.block M (aA h.mm) (fun h=>h)).trans h.mm,⟨cur,(hf.block nb (aA h1) (fun h=>h)).trans h1,h2⟩,fun k hk hkn=>?_,?_⟩
 ·obtain⟨ng,nc,e1,e2,e3,e4,e5⟩:=h.nm k hk hkn;exact⟨ng,nc,hf.cell e1 (fun h=>h),e2,Nat.lt_of_lt_of_le e3 hf.size,e4,fun t ht=>hf.cell (e5 t ht) (fun h=>h)⟩
 ·obtain⟨D,d1,d2⟩:=h.cd;refine⟨D,d1.kept hg (by simp),fun x=>?_⟩;obtain⟨v,cs,e1,e2,e3⟩:=d2 x;exact⟨v,cs,e1,e2.fx hf (fun _ _ _ h=>h),e3⟩
theorem Nw.name(h:Nw L S M nb Mc pv f bar kn km w)(hd:¬S=nb/\¬M=nb/\¬Mc=nb)(hk:kn<L.length){ng nc:Nat}(hnc:(eG L kn).length<=nc)(qO:ng<w.heap.size)(hF:Far S M nb Mc ng)(hc:∀t (ht:t<(eG L kn).length),w.cell? ⟨ng,t,none⟩=some (.string (eG L kn)[t])):Nw L S M nb Mc pv f bar (kn+1) km (w.setCell ⟨nb,kn,none⟩ (.slice (some ⟨ng,0,none⟩) (eG L kn).length nc)):=by
 have hf:Fx (fun b=>b=nb) w (w.setCell ⟨nb,kn,none⟩ (.slice (some ⟨ng,0,none⟩) (eG L kn).length nc)):=(Fx.refl (fun b=>b=nb) w).set (Or.inl rfl) _ _;obtain⟨cur,h1,h2⟩:=h.row;have hb:=block_setCell (i:=kn) h1 (.slice (some ⟨ng,0,none⟩) (eG L kn).length nc);refine⟨h.sb.fx hf hd.1,(hf.block M (aA h.mm) hd.2.1).trans h.mm,⟨_,hb,by simpa using h2⟩,fun k hk hkn=>?_,?_⟩
 ·by_cases e:k=kn
  ·subst e;refine⟨ng,nc,?_,hnc,Nat.lt_of_lt_of_le qO hf.size,hF,fun t ht=>hf.cell (hc t ht) hF.2.2.1⟩;rw[ag hb,Array.getElem?_setIfInBounds_self,if_pos (by omega)]
  ·obtain⟨ng',nc',e1,e2,e3,e4,e5⟩:=h.nm k hk (by omega);refine⟨ng',nc',?_,e2,Nat.lt_of_lt_of_le e3 hf.size,e4,fun t ht=>hf.cell (e5 t ht) e4.2.2.1⟩;rw[ag h1]at e1;rw[ag hb,Array.getElem?_setIfInBounds_ne (fun h=>e h.symm)];exact e1
 ·obtain⟨D,⟨es,cl,m1,m2⟩,d2⟩:=h.cd;refine⟨D,⟨es,cl,(hf.block Mc (aA m1) hd.2.2).trans m1,m2⟩,fun x=>?_⟩;obtain⟨v,cs,e1,e2,e3⟩:=d2 x;exact⟨v,cs,e1,e2.fx hf (fun b _ hb=>hb.2.2.1),e3⟩
theorem Nw.cand{D:DataW Unit}(h:Nw L S M nb Mc pv f bar kn km w)(hd:¬S=Mc/\¬M=Mc/\¬nb=Mc)(hD:IsMap D)(d2:∀x,∃v cs,ja v=some (D.atKey (kT x) sV,[])/\Gv S M nb Mc w v cs/\cs.length<=64/\∀c∈cs,∃k:Nat,c=(k:Int)/\k<L.length/\aQ L k=x){x:ByteArray}{v:Value}{cs:List Int}{d:DataW Unit}(hv:ja v=some (d,[]))(hG:Gv S M nb Mc w v cs)(hl:cs.length<=64)(hcs:∀c∈cs,∃k:Nat,c=(k:Int)/\k<L.length/\aQ L k=x)(hown:w'.ownsMap prog 9 ja Mc (km+1) (D.put (kT x) d))(hg:w.grownBy w' (some Mc)):Nw L S M nb Mc pv f bar kn (km+1) w':=by
 have hf:Fx (fun b=>b=Mc) w w':=(Fx.refl _ w).gb hg (fun b e=>by cases e;exact Or.inl rfl);obtain⟨cur,h1,h2⟩:=h.row;refine⟨h.sb.fx hf hd.1,(hf.block M (aA h.mm) hd.2.1).trans h.mm,⟨cur,(hf.block nb (aA h1) hd.2.2).trans h1,h2⟩,fun k hk hkn=>?_,⟨_,hown,fun y=>?_⟩⟩
 ·obtain⟨ng,nc,e1,e2,e3,e4,e5⟩:=h.nm k hk hkn;exact⟨ng,nc,hf.cell e1 hd.2.2,e2,Nat.lt_of_lt_of_le e3 hf.size,e4,fun t ht=>hf.cell (e5 t ht) e4.2.2.2⟩
 ·by_cases e:y=x
  ·subst e;exact⟨v,cs,by rw[atKey_put_same hD (by trivial)];exact hv,hG.fx hf (fun b _ hb=>hb.2.2.2),hl,hcs⟩
  ·obtain⟨v',cs',e1,e2,e3⟩:=d2 y;exact⟨v',cs',by rw[atKey_put_other (fun h=>e (yT h))];exact e1,e2.fx hf (fun b _ hb=>hb.2.2.2),e3⟩
theorem Nw.ro{B:Nat}{P:List Pl}(h:Nw L S M nb Mc pv f bar L.length km w)(hB:B=w.heap.size)(hd:¬nb=S/\¬nb=M/\¬Mc=S/\¬Mc=M)(hp:PlS w' pv P)(hf:Fx (Xb B S M) w w'):Ro L.length P (eG L) (fun x k=>aQ L k=x) B S M nb Mc pv w':=by
 have far:∀b,b<w.heap.size->¬b=S->¬b=M->¬Xb B S M b:=fun b h1 h2 h3 h4=>by
  rcases h4 with h|h|h
  ·exact h2 h
  ·exact h3 h
  ·omega
 obtain⟨cur,r1,r2⟩:=h.row;refine⟨hp,fun k hk=>?_,?_⟩
 ·obtain⟨ng,nc,e1,e2,e3,e4,e5⟩:=h.nm k hk hk;have hn:=far ng e3 e4.1 e4.2.1;exact⟨ng,nc,hf.cell e1 (far nb (aA r1) hd.1 hd.2.1),e2,hn,fun t ht=>hf.cell (e5 t ht) hn⟩
 ·obtain⟨D,⟨es,cl,m1,m2⟩,d2⟩:=h.cd;refine⟨km,D,⟨es,cl,(hf.block Mc (aA m1) (far Mc (aA m1) hd.2.2.1 hd.2.2.2)).trans m1,m2⟩,fun x=>?_⟩;obtain⟨v,cs,e1,e2,e3,e4⟩:=d2 x;exact⟨v,cs,e1,fun w'' hf'=>(e2.fx (hf.trans hf') (fun b h1 h2=>far b h1 h2.1 h2.2.1)).is,e3,e4⟩
theorem abX(hM:w.heap[M]?=some (.map #[] 0)):InR w M []:=⟨.map [],⟨#[],0,hM,⟨by simp,stamped_empty 0,by simp⟩,Nat.le_refl _,rfl⟩,fun x=>rfl⟩
theorem abY(W:World)(a b c d:Obj):((((W.alloc a).alloc b).alloc c).alloc d).heap[W.heap.size]?=some a/\((((W.alloc a).alloc b).alloc c).alloc d).heap[W.heap.size+1]?=some b/\((((W.alloc a).alloc b).alloc c).alloc d).heap[W.heap.size+2]?=some c/\((((W.alloc a).alloc b).alloc c).alloc d).heap[W.heap.size+3]?=some d/\W.grownBy ((((W.alloc a).alloc b).alloc c).alloc d) none:=by
 have e1:(W.alloc a).heap.size=W.heap.size+1:=World.size_alloc _ _;have e2:((W.alloc a).alloc b).heap.size=W.heap.size+2:=by rw[World.size_alloc,e1]
 have e3:(((W.alloc a).alloc b).alloc c).heap.size=W.heap.size+3:=by rw[World.size_alloc,e2]
 have h1:=heap_alloc_new W a;have h2:=heap_alloc_new (W.alloc a) b;have h3:=heap_alloc_new ((W.alloc a).alloc b) c;have h4:=heap_alloc_new (((W.alloc a).alloc b).alloc c) d;rw[e1]at h2;rw[e2]at h3;rw[e3]at h4;refine⟨?_,?_,?_,h4,au (au (au (au (ak W none) _) _) _) _⟩
 ·rw[Below.heap_alloc _ _ _ (by omega),Below.heap_alloc _ _ _ (by omega),Below.heap_alloc _ _ _ (by omega),h1]
 ·rw[Below.heap_alloc _ _ _ (by omega),Below.heap_alloc _ _ _ (by omega),h2]
 ·rw[Below.heap_alloc _ _ _ (by omega),h3]
end
open Go.RowKit Go.Maps Go.Joins
def iM(O:List En)(L:List Re)(name:ByteArray):Int:=match O.find? (fun e=>decide (e.nm=name)) with|some e=>gU name e.ve L 0|none=>-1
def ku(z:Int)(l:List Nat):List Nat:=if 0<=z/\z.toNat∈l then z.toNat :: l.erase z.toNat else l
def IsCand(L:List Re)(O:List En)(name:ByteArray)(cs:List Nat):Prop:=∃E:List It,E.Perm (dw name L 0)/\E.Pairwise (fun a b=>0<=iR b a)/\cs=ku (iM O L name) (E.map (·.k))
open Classical in
noncomputable def pR(L:List Re)(O:List En)(name:ByteArray):List Nat:=if h:∃cs,IsCand L O name cs then Classical.choose h else[]
theorem QW{L:List Re}{O:List En}{name:ByteArray}{cs:List Nat}(h:IsCand L O name cs):pR L O name=cs:=by
 have hex:∃cs,IsCand L O name cs:=⟨cs,h⟩;unfold pR;rw[dif_pos hex];obtain⟨E,h1,h2,h3⟩:=h;obtain⟨E',k1,k2,k3⟩:=Classical.choose_spec hex;rw[k3,h3,abe name L E' E k1 h1 k2 h2]
theorem QX:∀(N:List Nat) (j:Nat) (hj:j<N.length),(∀i (hi:i<j),¬N[i]=N[j])->N.erase N[j]=N.take j++N.drop (j+1)
 | [],j,hj,_=>by simp at hj
 | a :: r,0,_,_=>by simp
 | a :: r,j+1,hj,h=>by
  have h0:¬a=r[j]'(by simpa using hj):=h 0 (by omega);have ih:=QX r j (by simpa using hj) (fun i hi=>by have:=h (i+1) (by omega);simpa using this);simp only[List.getElem_cons_succ,List.take_succ_cons,List.drop_succ_cons,List.cons_append];rw[List.erase_cons_tail (by simpa using h0),ih]
theorem abZ(N:List Nat)(j:Nat)(hj:j<N.length)(h:∀i (hi:i<j),¬N[i]=N[j]):gp (c3 N j) 3=(N[j] :: N.erase N[j]).map fun(k:Nat)=>(k:Int):=by
 have e:gp (c3 N j) 3=([]++c3 N j 0++c3 N j 1)++c3 N j 2:=rfl;rw[e,QX N j hj h];have e0:(N.drop j).take 1=[N[j]]:=by rw[List.drop_eq_getElem_cons hj];rfl
 simp[c3,e0]
theorem QY{O:List En}{L:List Re}{name:ByteArray}(h:∀x∈O,¬x.nm=name):iM O L name=-1:=by
 have:O.find? (fun e=>decide (e.nm=name))=none:=by rw[List.find?_eq_none];intro x hx;simpa using h x hx
 unfold iM;rw[this]
theorem QZ{O:List En}{L:List Re}{name:ByteArray}{j:Nat}(hj:j<O.length)(h:O[j].nm=name)(hp:∀i (hi:i<j),¬O[i].nm=name):iM O L name=gU name O[j].ve L 0:=by
 have:O.find? (fun e=>decide (e.nm=name))=some O[j]:=by
  rw[List.find?_eq_some_iff_getElem];exact⟨by simpa using h,j,hj,rfl,fun i hi=>by simpa using hp i hi⟩
 unfold iM;rw[this]
def Js(L:List Re)(O:List En)(name:ByteArray)(w:World)(e:Ending)(w':World):Prop:=∃(g c:Nat) (cs:List Nat),e=.returned (.slice (some ⟨g,0,none⟩) cs.length c)/\w.heap.size<=g/\g<w'.heap.size/\IS w' (.slice (some ⟨g,0,none⟩) cs.length c) (cs.map fun(k:Nat)=>(k:Int))/\IsCand L O name cs/\cs.length<=64/\(∀k∈cs,k<L.length/\aQ L k=name)/\w.grownBy w' none
theorem ab1(lo oo:Option Addr)(lc oc:Nat)(L:List Re)(O:List En)(name:ByteArray)(w:World)(h:ReS w (.slice lo L.length lc) L)(ho:EnS w (.slice oo O.length oc) O)(hL:L.length<=64)(hV:∀x∈L,x.ve.size<2 ^ 62)(hO:O.length<=1048576)(hOV:∀x∈O,x.ve.size<2 ^ 62) :
  Calls prog 33 #[.slice lo L.length lc,.slice oo O.length oc,.string name] w (Js L O name w):=by
 obtain⟨b,hb⟩:=zN (w.heap.size);obtain⟨W1,hW1⟩:=zN (w.alloc (.cells #[.string name] 9));have hg1:w.grownBy W1 none:=by rw[<-hW1];exact au (ak w none) _
 have hb1:W1.heap[b]?=some (.cells #[.string name] 9 (0,0)):=by rw[<-hW1,<-hb];exact heap_alloc_new w _
 have b0:W1.cell? ⟨b,0,none⟩=some (.string name):=by rw[ag hb1];rfl
 have hs1:W1.heap.size=b+1:=by rw[<-hW1,World.size_alloc,hb]
 have CO:Hd (Calls prog 55 #[.slice lo L.length lc,.string name] W1 fun e w'=>∃(B:Nat) (N:List Nat),e=.returned (.slice (some ⟨B,0,none⟩) N.length N.length)/\Hd (b<=B/\NxAt w' B N N.length/\W1.grownBy w' none/\(∀k∈N,k<L.length/\aQ L k=name)/\N.length<=L.length/\IsCand L O name (ku (iM O L name) N))):=(aba (.slice lo L.length lc) L name W1 (h.grow hg1) (by omega) hV).mono fun e w' ⟨B,E,h1,h2,h3,h4,h5,h6⟩=>by
  refine⟨B,E.map (·.k),by rw[List.length_map];exact h1,by omega,by rw[List.length_map];exact h3,h4,fun k hk=>?_,?_,E,h5,h6,rfl⟩
  ·obtain⟨x,hx,rfl⟩:=List.mem_map.1 hk;obtain⟨j,e1,e2,e3⟩:=BN name L 0 x (h5.subset hx);rw[Nat.zero_add]at e1;rw[e1,qF L j e2];exact⟨e2,e3⟩
  ·rw[List.length_map,h5.length_eq];have:=zx name L 0;omega
 have CI:Hd (∀w',W1.grownBy w' none->Calls prog 56 #[.slice oo O.length oc,.func (.func 57) #[] #[.pointer (some ⟨b,0,none⟩)]] w' fun e w''=>∃z:Int,e=.returned (.int .i64 z)/\Hd (w'.grownBy w'' none/\((z=-1/\iM O L name=-1)\/∃(j:Nat) (hj:j<O.length),z=(j:Int)/\iM O L name=gU name O[j].ve L 0))):=fun w' hg=>(aaw oo oc b O name w' (ho.grow (ah hg1 hg)) hO (hg.cell b0 (by simp))).mono fun e w'' ⟨h1,z,h0,h2⟩=>by
  rcases h2 with⟨h2,h3⟩|⟨j,h2,h3,h4,h5⟩
  ·exact⟨z,h0,h1,Or.inl ⟨h2,QY h3⟩⟩
  ·exact⟨z,h0,h1,Or.inr ⟨j,h2,h3,QZ h2 h4 h5⟩⟩
 have CF:=ae (fun w' v (hg:w.grownBy w' none) (hv:v.size<2 ^ 62)=>Qw (.slice lo L.length lc) L name v w' (h.grow hg) (by omega) hV hv);have wQ:=ae (fun w' (hg:w.grownBy w' none) i (hi:i<O.length)=>EC (ho.grow hg) hi);have Jt:=ae hOV;have HB:=ae hb;have bI:=ae hg1;have hmf:∀(fn:Fn) (first cap:Array Value) (w:World),(Instr.makeFunc fn first cap).run prog w=.ok (.func fn first cap) w:=fun _ _ _ _=>rfl
 clear h ho hV hOV hg1 hb1 hs1;go_enter func33,ntmps33;go_wp2_with (go_at_call 55;refine CO.o.mono ?_);rintro e w2 ⟨B,N,rfl,hof⟩;have wZ:=ae hof.o;have C2:=ae (CI.o w2 hof.o.2.2.1);have hNl:=Nat.le_trans hof.o.2.2.2.2.1 hL;have bK:=ae (abS hof.o.2.1);have HG2:=ae (ah bI.o hof.o.2.2.1);clear hof;go_wp2_with (go_at_call 56;refine C2.o.mono ?_);rintro e w3 ⟨z,rfl,hz⟩;have dJ:=ae (ah HG2.o hz.o.1);have b3:=hz.o.1.cell (wZ.o.2.2.1.cell b0 (by simp)) (by simp);have HIS:=ae (bK.o.grow hz.o.1);have Q4:Hd (ku (iM O L name) N=N->∀w',w3.grownBy w' none->Js L O name w (.returned (.slice (some ⟨B,0,none⟩) N.length N.length)) w'):=fun he w' hg=>by
  refine⟨B,N.length,N,rfl,by rw[HB.o];exact wZ.o.1,?_,HIS.o.grow hg,?_,hNl,wZ.o.2.2.2.1,ah dJ.o hg⟩
  ·have h1:=(aA wZ.o.2.1);have h2:=hz.o.1.size;have h3:=hg.size;omega
  ·have:=wZ.o.2.2.2.2.2;rw[he]at this;exact this
 rcases hz.o.2 with⟨rfl,hke⟩|⟨j,hj,rfl,hke⟩
 ·have HE:Hd (ku (iM O L name) N=N):=by
   show ku _ N=N;rw[hke];unfold ku;rw[if_neg (by omega)]
  clear hz b0 b3 hke;go_wp2;go_ret;exact Q4.o HE.o _ (ak _ _)
 ·obtain⟨a,rfl,hoc,hat⟩:=wQ.o w3 dJ.o j hj;obtain⟨-,e1,-⟩:=hat j hj;have tH:=Jt.o O[j] (List.getElem_mem _);obtain⟨ve,Q5⟩:=zN (O[j].ve);rw[Q5]at e1 tH hke;have hjc:j<oc:=by omega
  have HD:Hd (w3.grownBy w3.drew none):=⟨rfl,rfl,rfl,Nat.le_refl _,fun _ _ _=>rfl⟩;have C3:=ae (CF.o w3.drew ve (ah dJ.o HD.o) tH);obtain⟨fz,hfz⟩:=zN (gU name ve L 0);rw[hfz]at C3 hke;have EO:=ae hke;have C4:Hd (∀w4,w3.grownBy w4 none->Calls prog 58 #[.slice (some ⟨B,0,none⟩) N.length N.length,.int .i64 fz] w4 fun e w'=>w'=w4/\∃z:Int,e=.returned (.int .i64 z)/\((z=-1/\ku fz N=N)\/∃(j:Nat) (hj:j<N.length),z=(j:Int)/\ku fz N=N[j] :: N.erase N[j]/\∀i (hi:i<j),¬N[i]=N[j])):=fun w4 hg=>by
   have hlen:(N.map fun(k:Nat)=>(k:Int)).length=N.length:=by simp
   have:=aau (some ⟨B,0,none⟩) N.length (N.map fun(k:Nat)=>(k:Int)) fz w4 (by rw[hlen];exact HIS.o.grow hg) (by rw[hlen];omega);have harr:(#[Value.slice (some ⟨B,0,none⟩) N.length N.length,.int .i64 fz]:Array Value)=#[.slice (some ⟨B,0,none⟩) (N.map fun(k:Nat)=>(k:Int)).length N.length,.int .i64 fz]:=by rw[hlen]
   rw[harr];refine this.mono ?_;rintro e w' ⟨h1,z,h0,h2⟩
   rcases h2 with⟨h2,h3⟩|⟨j,hj,h2,h3,h4⟩
   ·refine⟨h1,z,h0,Or.inl ⟨h2,?_⟩⟩;unfold ku;rw[if_neg (fun hh=>h3 fz (List.mem_map.2 ⟨fz.toNat,hh.2,by omega⟩) rfl)]
   ·have hj':j<N.length:=by simpa using hj
    rw[List.getElem_map]at h3;refine⟨h1,z,h0,Or.inr ⟨j,hj',h2,?_,fun i hi e=>h4 i hi (by rw[List.getElem_map,e];exact h3)⟩⟩;unfold ku;have e5:fz.toNat=N[j]:=by omega
    rw[if_pos ⟨by omega,by rw[e5];exact List.getElem_mem _⟩,e5]
  clear hat tH Q5 hfz hz b0 C2 CO CI CF hke;go_wp2
  go_region_held3 (fun u=>u.cell? ⟨b,0,none⟩=some (.string name)/\u.cell? ⟨(a.add (j*4)).block,(a.add (j*4)).off+1,none⟩=some (.string ve)) ((first|exact abV (by assumption) (by assumption)|go_keep)) (first|(go_at_call 59;refine C3.o.mono ?_;rintro e w4 ⟨rfl,hg4⟩)|(go_at_call 58;refine(C4.o _ (ah HD.o hg4)).mono ?_;rintro e w5 ⟨rfl,z2,rfl,hz2⟩))
  have jQ:=ae (ah HD.o hg4);clear hg4 e1 b3
  rcases hz2 with⟨rfl,hfr⟩|⟨j2,hj2,rfl,hfr,hpre⟩
  ·have HE:Hd (ku (iM O L name) N=N):=by
    show ku _ N=N;rw[EO.o];exact hfr
   clear hfr;go_wp2;go_ret;exact Q4.o HE.o _ jQ.o
  ·have s1:=abT B N.length N.length j2 (by omega);have s2:=P6 (some ⟨B,0,none⟩) N.length N.length j2 (by omega);have s3:=abU B N.length N.length j2 (by omega) (Nat.le_refl _);obtain⟨o3,ho3⟩:=zN ((if N.length=j2+1 then 0 else j2+1));rw[ho3]at s3;have hgz:w3.grownBy (w5.drew.alloc (.cells #[.slice (some ⟨B,j2,none⟩) 1 (N.length-j2),.slice (some ⟨B,0,none⟩) j2 N.length,.slice (some ⟨B,o3,none⟩) (N.length-(j2+1)) (N.length-(j2+1))] 25)) none:=au (mG jQ.o) _;have CC:Hd (Calls prog 60 #[.slice (some ⟨w5.heap.size,0,none⟩) 3 3] (w5.drew.alloc (.cells #[.slice (some ⟨B,j2,none⟩) 1 (N.length-j2),.slice (some ⟨B,0,none⟩) j2 N.length,.slice (some ⟨B,o3,none⟩) (N.length-(j2+1)) (N.length-(j2+1))] 25)) fun e w'=>∃(g c:Nat),e=.returned (.slice (some ⟨g,0,none⟩) N.length c)/\Hd (Js L O name w (.returned (.slice (some ⟨g,0,none⟩) N.length c)) w')):=(abW N B j2 o3 w5.heap.size hj2 hNl ho3 _ (HIS.o.grow hgz) (heap_alloc_new w5.drew _)).mono fun e w' ⟨v,h1,h2,h3⟩=>by
    have k1:=(QV N j2 hj2).1;have k2:=abZ N j2 hj2 hpre;have hmem:∀k∈N[j2] :: N.erase N[j2],k∈N:=fun k hk=>by
     rcases List.mem_cons.1 hk with rfl|hk
     ·exact List.getElem_mem _
     ·exact List.mem_of_mem_erase hk
    have h5:=P8 h2;obtain⟨g,c,hv,h6,-⟩:=EH (i:=0) h2 (by omega);rw[hv]at h1 h2 h5;obtain⟨h7,h8⟩:=pM (b:=g) h2 rfl;have h9:=hgz.size;have h10:=dJ.o.size;have k3:(N[j2] :: N.erase N[j2]).length=N.length:=by rw[<-k1,k2,List.length_map]
    rw[k1]at h1 h5;rw[k2]at h5;refine⟨g,c,h1,g,c,N[j2] :: N.erase N[j2],by rw[k3],by omega,h8,by rw[k3];exact h5,?_,by omega,fun k hk=>wZ.o.2.2.2.1 k (hmem k hk),ah dJ.o (ah hgz h3)⟩;have:=wZ.o.2.2.2.2.2;rw[EO.o,hfr]at this;exact this
   have hwr:IntKind.i64.wrap ((j2:Int)+1)=(j2:Int)+1:=by rw[IntKind.wrap_i64];omega
   clear hgz ho3 hfr hpre;go_wp2
   go_region_held3 (fun _=>True) (trivial) (first|(go_at_call 60;refine CC.o.mono ?_;rintro e w6 ⟨g,c,rfl,hpost⟩))
   go_wp2;go_ret;exact hpost.o
open Go.RowKit Go.Maps Go.Joins Go.ChangeMaps Go.MapKept
theorem ab2{z:Int}{l:List Nat}{k:Nat}(h:k∈ku z l):k∈l:=by
 unfold ku at h;split at h
 ·rename_i hc
  rcases List.mem_cons.1 h with rfl|h
  ·exact hc.2
  ·exact List.mem_of_mem_erase h
 ·exact h
theorem ab3(z:Int)(l:List Nat):(ku z l).length=l.length:=by
 unfold ku;split
 ·rename_i hc;have:=List.length_pos_of_mem hc.2;rw[List.length_cons,List.length_erase_of_mem hc.2];omega
 ·rfl
theorem IsCand.nm{L:List Re}{O:List En}{x:ByteArray}{cs:List Nat}(h:IsCand L O x cs):∀k∈cs,k<L.length/\aQ L k=x:=by
 obtain⟨E,h1,-,rfl⟩:=h;intro k hk;obtain⟨it,hit,rfl⟩:=List.mem_map.1 (ab2 hk);obtain⟨j,e1,e2,e3⟩:=BN x L 0 it (h1.subset hit);rw[Nat.zero_add]at e1;rw[e1,qF L j e2];exact⟨e2,e3⟩
theorem IsCand.len{L:List Re}{O:List En}{x:ByteArray}{cs:List Nat}(h:IsCand L O x cs):cs.length<=L.length:=by
 obtain⟨E,h1,-,rfl⟩:=h;rw[ab3,List.length_map,h1.length_eq];exact zx x L 0
theorem ab4{L:List Re}{O:List En}{x:ByteArray}(h:∀k (hk:k<L.length),¬L[k].nm=x):IsCand L O x []:=by
 have h0:dw x L 0=[]:=by
  cases hi:dw x L 0 with
  | nil=>rfl
  | cons a r =>
   obtain⟨j,-,e2,e3⟩:=BN x L 0 a (by rw[hi];simp);exact absurd e3 (h j e2)
 refine⟨[],by rw[h0],List.Pairwise.nil,?_⟩;unfold ku;rw[if_neg (by simp)];rfl
structure NwX(L:List Re)(O:List En)(S M nb Mc:Nat)(pv:Value)(f:Int)(bar kn kh km:Nat)(w:World):Prop where
 sb:Sb w S pv (.slice (some ⟨nb,0,none⟩) L.length L.length) (.map (some Mc)) (.slice none 0 0) (.map (some M)) (.slice none 0 0) f 0 bar
 mm:w.heap[M]?=some (.map #[] 0)
 row:∃cur,w.heap[nb]?=some (.cells cur 49 (0,0))/\cur.size=L.length
 nm:∀k (hk:k<L.length),k<kn->∃ng nc,w.cell? ⟨nb,k,none⟩=some (.slice (some ⟨ng,0,none⟩) (eG L k).length nc)/\(eG L k).length<=nc/\ng<w.heap.size/\Far S M nb Mc ng/\∀t (ht:t<(eG L k).length),w.cell? ⟨ng,t,none⟩=some (.string (eG L k)[t])
 cd:∃D,w.ownsMap prog 9 ja Mc km D/\(∀x,∃v cs,ja v=some (D.atKey (kT x) sV,[])/\Gv S M nb Mc w v (cs.map fun(k:Nat)=>(k:Int))/\(Maps.has D (kT x)=true->IsCand L O x cs)/\(Maps.has D (kT x)=false->cs=[]))/\∀k (hk:k<L.length),k<kh->Maps.has D (kT L[k].nm)=true
section
variable {L:List Re} {O:List En} {S M nb Mc:Nat} {pv:Value} {f:Int} {bar kn kh km:Nat} {w w':World} {X:Nat->Prop}
theorem NwX.grow(h:NwX L O S M nb Mc pv f bar kn kh km w)(hg:w.grownBy w' none):NwX L O S M nb Mc pv f bar kn kh km w':=by
 have hf:Fx (fun _=>False) w w':=(Fx.refl _ w).gb hg (fun b e=>by cases e);obtain⟨cur,h1,h2⟩:=h.row;refine⟨h.sb.grow hg,(hf.block M (aA h.mm) (fun h=>h)).trans h.mm,⟨cur,(hf.block nb (aA h1) (fun h=>h)).trans h1,h2⟩,fun k hk hkn=>?_,?_⟩
 ·obtain⟨ng,nc,e1,e2,e3,e4,e5⟩:=h.nm k hk hkn;exact⟨ng,nc,hf.cell e1 (fun h=>h),e2,Nat.lt_of_lt_of_le e3 hf.size,e4,fun t ht=>hf.cell (e5 t ht) (fun h=>h)⟩
 ·obtain⟨D,d1,d2,d3⟩:=h.cd;refine⟨D,d1.kept hg (by simp),fun x=>?_,d3⟩;obtain⟨v,cs,e1,e2,e3⟩:=d2 x;exact⟨v,cs,e1,e2.fx hf (fun _ _ _ h=>h),e3⟩
theorem NwX.name(h:NwX L O S M nb Mc pv f bar kn kh km w)(hd:¬S=nb/\¬M=nb/\¬Mc=nb)(hk:kn<L.length){ng nc:Nat}(hnc:(eG L kn).length<=nc)(qO:ng<w.heap.size)(hF:Far S M nb Mc ng)(hc:∀t (ht:t<(eG L kn).length),w.cell? ⟨ng,t,none⟩=some (.string (eG L kn)[t])):NwX L O S M nb Mc pv f bar (kn+1) kh km (w.setCell ⟨nb,kn,none⟩ (.slice (some ⟨ng,0,none⟩) (eG L kn).length nc)):=by
 have hf:Fx (fun b=>b=nb) w (w.setCell ⟨nb,kn,none⟩ (.slice (some ⟨ng,0,none⟩) (eG L kn).length nc)):=(Fx.refl (fun b=>b=nb) w).set (Or.inl rfl) _ _;obtain⟨cur,h1,h2⟩:=h.row;have hb:=block_setCell (i:=kn) h1 (.slice (some ⟨ng,0,none⟩) (eG L kn).length nc);refine⟨h.sb.fx hf hd.1,(hf.block M (aA h.mm) hd.2.1).trans h.mm,⟨_,hb,by simpa using h2⟩,fun k hk hkn=>?_,?_⟩
 ·by_cases e:k=kn
  ·subst e;refine⟨ng,nc,?_,hnc,Nat.lt_of_lt_of_le qO hf.size,hF,fun t ht=>hf.cell (hc t ht) hF.2.2.1⟩;rw[ag hb,Array.getElem?_setIfInBounds_self,if_pos (by omega)]
  ·obtain⟨ng',nc',e1,e2,e3,e4,e5⟩:=h.nm k hk (by omega);refine⟨ng',nc',?_,e2,Nat.lt_of_lt_of_le e3 hf.size,e4,fun t ht=>hf.cell (e5 t ht) e4.2.2.1⟩;rw[ag h1]at e1;rw[ag hb,Array.getElem?_setIfInBounds_ne (fun h=>e h.symm)];exact e1
 ·obtain⟨D,⟨es,cl,m1,m2⟩,d2,d3⟩:=h.cd;refine⟨D,⟨es,cl,(hf.block Mc (aA m1) hd.2.2).trans m1,m2⟩,fun x=>?_,d3⟩;obtain⟨v,cs,e1,e2,e3⟩:=d2 x;exact⟨v,cs,e1,e2.fx hf (fun b _ hb=>hb.2.2.1),e3⟩
theorem NwX.cand{D:DataW Unit}{x:ByteArray}(h:NwX L O S M nb Mc pv f bar kn kh km w)(hd:¬S=Mc/\¬M=Mc/\¬nb=Mc)(hD:IsMap D)(d2:∀x,∃v cs,ja v=some (D.atKey (kT x) sV,[])/\Gv S M nb Mc w v (cs.map fun(k:Nat)=>(k:Int))/\(Maps.has D (kT x)=true->IsCand L O x cs)/\(Maps.has D (kT x)=false->cs=[]))(d3:∀k (hk:k<L.length),k<kh->Maps.has D (kT L[k].nm)=true)(hkh:kh<L.length)(hxk:L[kh].nm=x){v:Value}{cs:List Nat}{d:DataW Unit}(hv:ja v=some (d,[]))(hG:Gv S M nb Mc w v (cs.map fun(k:Nat)=>(k:Int)))(hcs:IsCand L O x cs)(hown:w'.ownsMap prog 9 ja Mc (km+1) (D.put (kT x) d))(hg:w.grownBy w' (some Mc)):NwX L O S M nb Mc pv f bar kn (kh+1) (km+1) w':=by
 have hf:Fx (fun b=>b=Mc) w w':=(Fx.refl _ w).gb hg (fun b e=>by cases e;exact Or.inl rfl);obtain⟨cur,h1,h2⟩:=h.row;refine⟨h.sb.fx hf hd.1,(hf.block M (aA h.mm) hd.2.1).trans h.mm,⟨cur,(hf.block nb (aA h1) hd.2.2).trans h1,h2⟩,fun k hk hkn=>?_,⟨_,hown,fun y=>?_,fun k hk hkh'=>?_⟩⟩
 ·obtain⟨ng,nc,e1,e2,e3,e4,e5⟩:=h.nm k hk hkn;exact⟨ng,nc,hf.cell e1 hd.2.2,e2,Nat.lt_of_lt_of_le e3 hf.size,e4,fun t ht=>hf.cell (e5 t ht) e4.2.2.2⟩
 ·by_cases e:y=x
  ·subst e;exact⟨v,cs,by rw[atKey_put_same hD (by trivial)];exact hv,hG.fx hf (fun b _ hb=>hb.2.2.2),fun _=>hcs,fun hh=>by rw[has_put_same hD (by trivial)]at hh;cases hh⟩
  ·obtain⟨v',cs',e1,e2,e3⟩:=d2 y;refine⟨v',cs',by rw[atKey_put_other (fun h=>e (yT h))];exact e1,e2.fx hf (fun b _ hb=>hb.2.2.2),?_⟩;rw[has_put_other (fun h=>e (yT h))];exact e3
 ·by_cases e:L[k].nm=x
  ·rw[e,has_put_same hD (by trivial)]
  ·rw[has_put_other (fun h=>e (yT h))];refine d3 k hk ?_
   by_cases e2:k=kh
   ·subst e2;exact absurd hxk e
   ·omega
theorem NwX.seen{D:DataW Unit}(h:NwX L O S M nb Mc pv f bar kn kh km w)(d1:w.ownsMap prog 9 ja Mc km D)(d2:∀x,∃v cs,ja v=some (D.atKey (kT x) sV,[])/\Gv S M nb Mc w v (cs.map fun(k:Nat)=>(k:Int))/\(Maps.has D (kT x)=true->IsCand L O x cs)/\(Maps.has D (kT x)=false->cs=[]))(d3:∀k (hk:k<L.length),k<kh->Maps.has D (kT L[k].nm)=true)(hkh:kh<L.length)(hh:Maps.has D (kT L[kh].nm)=true):NwX L O S M nb Mc pv f bar kn (kh+1) km w :=
 ⟨h.sb,h.mm,h.row,h.nm,D,d1,d2,fun k hk hlt=>by
  by_cases e2:k=kh
  ·subst e2;exact hh
  ·exact d3 k hk (by omega)⟩
theorem NwX.ro{B:Nat}{P:List Pl}(h:NwX L O S M nb Mc pv f bar L.length L.length km w)(hB:B=w.heap.size)(hd:¬nb=S/\¬nb=M/\¬Mc=S/\¬Mc=M)(hL:L.length<=64)(hp:PlS w' pv P)(hf:Fx (Xb B S M) w w'):IZ L.length P (eG L) (pR L O) B S M nb Mc pv w':=by
 have far:∀b,b<w.heap.size->¬b=S->¬b=M->¬Xb B S M b:=fun b h1 h2 h3 h4=>by
  rcases h4 with h|h|h
  ·exact h2 h
  ·exact h3 h
  ·omega
 obtain⟨cur,r1,r2⟩:=h.row;refine⟨hp,fun k hk=>?_,?_⟩
 ·obtain⟨ng,nc,e1,e2,e3,e4,e5⟩:=h.nm k hk hk;have hn:=far ng e3 e4.1 e4.2.1;exact⟨ng,nc,hf.cell e1 (far nb (aA r1) hd.1 hd.2.1),e2,hn,fun t ht=>hf.cell (e5 t ht) hn⟩
 ·obtain⟨D,⟨es,cl,m1,m2⟩,d2,d3⟩:=h.cd;refine⟨km,D,⟨es,cl,(hf.block Mc (aA m1) (far Mc (aA m1) hd.2.2.1 hd.2.2.2)).trans m1,m2⟩,fun x=>?_⟩;obtain⟨v,cs,e1,e2,e3,e4⟩:=d2 x;have hc:IsCand L O x cs:=by
   cases hh:Maps.has D (kT x) with
   | true=>exact e3 hh
   | false =>
    rw[e4 hh];refine ab4 (fun k hk e=>?_);have:=d3 k hk hk;rw[e,hh]at this
    cases this
  rw[QW hc];exact⟨v,e1,fun w'' hf'=>(e2.fx (hf.trans hf') (fun b h1 h2=>far b h1 h2.1 h2.2.1)).is,Nat.le_trans hc.len hL,fun k hk=>(hc.nm k hk).1⟩
theorem ab5(hS:Sb w S pv (.slice (some ⟨nb,0,none⟩) L.length L.length) (.map (some Mc)) (.slice none 0 0) (.map (some M)) (.slice none 0 0) f 0 bar)(hM:w.heap[M]?=some (.map #[] 0))(hMc:w.heap[Mc]?=some (.map #[] 0))(hnb:w.heap[nb]?=some (.cells (Array.replicate L.length (Value.slice none 0 0)) 49 (0,0))):NwX L O S M nb Mc pv f bar 0 0 0 w :=
 ⟨hS,hM,⟨_,hnb,by simp⟩,fun k hk h=>by omega,.map [],⟨#[],0,hMc,⟨by simp,stamped_empty 0,by simp⟩,Nat.le_refl _,rfl⟩,fun x=>⟨.slice none 0 0,[],rfl,Or.inl ⟨rfl,rfl⟩,fun h=>(by cases h),fun _=>rfl⟩,fun k hk h=>by omega⟩
def Q7(L:List Re)(O:List En)(fu:Int)(pv:Value)(bar G:Nat)(W:World)(v:Value)(w:World):Prop:=∃(S M nb Mc:Nat) (f:Int),v=.pointer (some ⟨S,0,none⟩)/\(G<=S/\G<=M/\G<=nb/\G<=Mc)/\(¬S=M/\¬S=nb/\¬S=Mc/\¬M=nb/\¬M=Mc/\¬nb=Mc)/\(0<=f/\f<9223372036854775808/\f=max fu 0)/\NwX L O S M nb Mc pv f bar 0 0 0 w/\W.grownBy w none
theorem ab6{W:World}{G:Nat}{a b c:Obj}(hG:W.heap.size=G)(h1:(nb=G/\a=.cells (Array.replicate L.length (Value.slice none 0 0)) 49 (0,0))\/(nb=G+1/\b=.cells (Array.replicate L.length (Value.slice none 0 0)) 49 (0,0))\/(nb=G+1+1/\c=.cells (Array.replicate L.length (Value.slice none 0 0)) 49 (0,0)))(h2:(Mc=G/\a=.map #[] 0)\/(Mc=G+1/\b=.map #[] 0)\/(Mc=G+1+1/\c=.map #[] 0))(h3:(M=G/\a=.map #[] 0)\/(M=G+1/\b=.map #[] 0)\/(M=G+1+1/\c=.map #[] 0))(hd:¬nb=Mc/\¬nb=M/\¬Mc=M){fu:Int}(hf:0<=f/\f<9223372036854775808/\f=max fu 0):Q7 L O fu pv bar G W (.pointer (some ⟨G+1+1+1,0,none⟩)) ((((W.alloc a).alloc b).alloc c).alloc (.cells #[pv,.slice (some ⟨nb,0,none⟩) L.length L.length,.map (some Mc),.int .i64 f,.slice none 0 0,.map (some M),.slice none 0 0,.int .u64 0,.int .u64 (bar:Int)] 82)).drew:=by
 obtain⟨k1,k2,k3,k4,k5⟩:=abY W a b c (.cells #[pv,.slice (some ⟨nb,0,none⟩) L.length L.length,.map (some Mc),.int .i64 f,.slice none 0 0,.map (some M),.slice none 0 0,.int .u64 0,.int .u64 (bar:Int)] 82);rw[hG]at k1 k2 k3 k4;have get:∀(n:Nat) (x:Obj),(n=G/\a=x)\/(n=G+1/\b=x)\/(n=G+1+1/\c=x)->((((W.alloc a).alloc b).alloc c).alloc (.cells #[pv,.slice (some ⟨nb,0,none⟩) L.length L.length,.map (some Mc),.int .i64 f,.slice none 0 0,.map (some M),.slice none 0 0,.int .u64 0,.int .u64 (bar:Int)] 82)).heap[n]?=some x:=fun n x h=>by
  rcases h with⟨rfl,rfl⟩|⟨rfl,rfl⟩|⟨rfl,rfl⟩
  ·exact k1
  ·exact k2
  ·exact k3
 exact⟨G+1+1+1,M,nb,Mc,f,rfl,⟨by omega,by omega,by omega,by omega⟩,⟨by omega,by omega,by omega,by omega,by omega,by omega⟩,hf,ab5 (w:=World.drew _) k4 (get M _ h3) (get Mc _ h2) (get nb _ h1),mG k5⟩
end
end Go.Proofs.YtapodndfpecglaaGreatDoor
