import Derived.Test.YteciokcdpadmpaaGreatDoorS05
import Derived.Test.YteciokcdpadmpaaGreatDoorS12
import Derived.Lib.SmallJoins
set_option linter.all false
set_option maxRecDepth 100000
set_option maxHeartbeats 0
open Go.Proofs.Tryz
namespace Go.Proofs.YteciokcdpadmpaaGreatDoor
open Go.RowKit
theorem Fb(v1 v2 v3:Int)(v4 v5:ByteArray)(w:World) :
  Calls prog 151 #[.agg #[.int .i64 v1,.int .i64 v2,.int .i64 v3,.string v4,.string v5]] w fun e w'=>e=.returned (.agg #[.int .i64 v1,.int .i64 v2,.int .i64 v3,.string v4,.string ⟨#[]⟩])/\w.grownBy w' none:=by
 go_enter func151,ntmps151;go_wp2;refine bodyPost_ret (results_cell_row rfl _ _ (w.heap.size+1) 98 #[.int .i64 v1,.int .i64 v2,.int .i64 v3,.string v4,.string ⟨#[]⟩] (0,0) _ rfl ?_ underlying98 rfl (by kernel_rfl)) rfl ⟨rfl,aj (aj (ak w none) _) _⟩;have:=heap_alloc_new (w.alloc (.cells #[.int .i64 v1,.int .i64 v2,.int .i64 v3,.string v4,.string v5] 98)) (.cells #[.int .i64 v1,.int .i64 v2,.int .i64 v3,.string v4,.string ⟨#[]⟩] 98);rw[show(w.alloc (.cells #[.int .i64 v1,.int .i64 v2,.int .i64 v3,.string v4,.string v5] 98)).heap.size=w.heap.size+1 by simp]at this;exact this
def VAt(w:World)(p:Addr)(t:V):Prop:=w.cell? p=some (.int .i64 t.major)/\w.cell? ⟨p.block,p.off+1,none⟩=some (.int .i64 t.minor)/\w.cell? ⟨p.block,p.off+2,none⟩=some (.int .i64 t.patch)/\w.cell? ⟨p.block,p.off+3,none⟩=some (.string ⟨t.pre.toArray⟩)/\w.cell? ⟨p.block,p.off+4,none⟩=some (.string ⟨#[]⟩)
theorem VAt.grow{w w':World}{p:Addr}{t:V}(h:VAt w p t)(hg:w.grownBy w' none):VAt w' p t :=
 ⟨hg.cell h.1 (by simp),hg.cell h.2.1 (by simp),hg.cell h.2.2.1 (by simp),hg.cell h.2.2.2.1 (by simp),hg.cell h.2.2.2.2 (by simp)⟩
def VsAt(w:World)(a:Addr)(l:List V):Prop:=∀i (hi:i<l.length),VAt w (a.add (i*5)) l[i]
theorem VsAt.grow{w w':World}{a:Addr}{l:List V}(h:VsAt w a l)(hg:w.grownBy w' none):VsAt w' a l:=fun i hi=>(h i hi).grow hg
open Go.RowKit Go.Maps
def IS(w:World)(v:Value)(C:List Int):Prop:=(v=.slice none 0 0/\C=[])\/∃a cap,v=.slice (some a) C.length cap/\C.length<=cap/\∀j (h:j<C.length),w.cell? (a.add j)=some (.int .i64 C[j])
theorem IS.grow{w w':World}{v:Value}{C:List Int}(h:IS w v C)(hg:w.grownBy w' none):IS w' v C:=by
 rcases h with h|⟨a,cap,h1,h2,h3⟩
 ·exact Or.inl h
 ·exact Or.inr ⟨a,cap,h1,h2,fun j hj=>hg.cell (h3 j hj) (by simp)⟩
theorem Ja{w:World}{v:Value}{C:List Int}(h:IS w v C):∃o c,v=.slice o C.length c:=by
 rcases h with⟨rfl,rfl⟩|⟨a,cap,rfl,-⟩
 ·exact⟨_,_,rfl⟩
 ·exact⟨_,_,rfl⟩
theorem uj{w:World}{o:Option Addr}{c:Nat}{C:List Int}(h:IS w (.slice o C.length c) C){i:Nat}(hi:i<C.length):∃a,o=some a/\C.length<=c/\∀j (hj:j<C.length),w.cell? (a.add j)=some (.int .i64 C[j]):=by
 rcases h with⟨h1,rfl⟩|⟨a,cap,h1,h2,h3⟩
 ·simp at hi
 ·injection h1 with e1 e2 e3
  subst e1 e3;exact⟨a,rfl,h2,h3⟩
theorem rG{w:World}{o:Option Addr}{c:Nat}{L:List Re}(h:ReS w (.slice o L.length c) L){i:Nat}(hi:i<L.length):∃a,o=some a/\L.length<=c/\∀j (hj:j<L.length),ReAt w (a.add (j*4)) L[j]:=by
 rcases h with⟨h1,rfl⟩|⟨a,cap,h1,h2,h3⟩
 ·simp at hi
 ·injection h1 with e1 e2 e3
  subst e1 e3;exact⟨a,rfl,h2,h3⟩
theorem BZ{w:World}{v:Value}{L:List Re}(h:ReS w v L):∃o c,v=.slice o L.length c:=by
 rcases h with⟨rfl,rfl⟩|⟨a,cap,rfl,-⟩
 ·exact⟨_,_,rfl⟩
 ·exact⟨_,_,rfl⟩
def aZ(L:List Re)(k:Nat):ByteArray:=match L[k]? with|some x=>x.nm|none=>⟨#[]⟩
theorem qp(L:List Re)(k:Nat)(h:k<L.length):aZ L k=L[k].nm:=by simp[aZ,List.getElem?_eq_getElem h]
def kX(L:List Re)(C:List Int)(i:Nat):Bool:=(C.take i).all fun c=>decide (0<=c/\c<(L.length:Int))
def jm(L:List Re)(C:List Int):List Nd:=C.map fun c=>⟨aZ L c.toNat,⟨#[]⟩⟩
theorem PG(L:List Re)(C:List Int)(i:Nat)(hi:i<C.length)(hi':i<(jm L C).length):(jm L C)[i].n=aZ L (C[i]).toNat:=by
 have e:(jm L C)[i]?=some ⟨aZ L (C[i]).toNat,⟨#[]⟩⟩:=by
  unfold jm;rw[List.getElem?_map,List.getElem?_eq_getElem hi];rfl
 rw[List.getElem?_eq_getElem hi']at e;rw[Option.some.inj e]
def kN(L:List Re)(C:List Int)(i:Nat):Bool:=kX L C i && !eY (jm L C) i
def dC(C:List Int):Nat->Nat
 | 0=>0
 | i+1=>dC C i ||| (match C[i]? with|some c=>2 ^ c.toNat|none=>0)
theorem Jb(C:List Int)(i:Nat)(h:i<C.length):dC C (i+1)=dC C i ||| 2 ^ (C[i]).toNat:=by simp[dC,List.getElem?_eq_getElem h]
theorem PH(C:List Int)(k:Nat):∀i,i<=C.length->(dC C i).testBit k=(C.take i).any fun c=>decide (c.toNat=k)
 | 0,_=>by simp[dC]
 | i+1,h=>by
  rw[Jb C i (by omega),BU,PH C k i (by omega),List.take_succ_eq_append_getElem (by omega:i<C.length),List.any_append];simp
theorem Jc(L:List Re)(C:List Int)(i:Nat)(h:i<C.length):kX L C (i+1)=(kX L C i && decide (0<=C[i]/\C[i]<(L.length:Int))):=by
 unfold kX;rw[List.take_succ_eq_append_getElem h,List.all_append];simp
theorem YR(L:List Re)(C:List Int)(i:Nat)(h:i<C.length)(hn:¬(0<=C[i]/\C[i]<(L.length:Int))):kX L C C.length=false:=by
 unfold kX;rw[List.take_length,List.all_eq_false];exact⟨C[i],List.getElem_mem _,by simpa using hn⟩
theorem Jd(L:List Re)(C:List Int)(hL:L.length<=64):∀i,i<=C.length->kX L C i=true->dC C i<18446744073709551616
 | 0,_,_=>by simp[dC]
 | i+1,h,hr=>by
  rw[Jc L C i (by omega),Bool.and_eq_true,decide_eq_true_eq]at hr;rw[Jb C i (by omega)];exact ug (Jd L C hL i (by omega) hr.1) (og (by omega))
theorem YS(o o':Option Addr)(c c':Nat)(L:List Re)(C:List Int)(w:World)(h:ReS w (.slice o L.length c) L)(h':IS w (.slice o' C.length c') C)(hL:L.length<=64)(hC:C.length<=1048576)(hV:∀x∈L,x.nm.size<2 ^ 60) :
  Calls prog 24 #[.slice o L.length c,.slice o' C.length c'] w fun e w'=>(kN L C C.length=true->e=.returned (.tuple #[.int .u64 (dC C C.length:Nat),.bool true]))/\(kN L C C.length=false->e=.returned (.tuple #[.int .u64 0,.bool false]))/\w.grownBy w' none:=by
 have HE:=ae (fun w' (hg:w.grownBy w' none) i (hi:i<L.length)=>rG (h.grow hg) hi);have HI:=ae (fun w' (hg:w.grownBy w' none) i (hi:i<C.length)=>uj (h'.grow hg) hi);have HV:=ae hV;obtain⟨D,hD⟩:=zN (jm L C);have vS:Hd (D.length=C.length):=by show _=_;rw[<-hD];unfold jm;simp
 have dQ:Hd (∀i (hi:i<C.length) (hi':i<D.length),D[i].n=aZ L (C[i]).toNat):=fun i hi hi'=>by
  subst hD;exact PG L C i hi hi'
 have Fe:Hd (kN L C C.length=(kX L C C.length && !eY D C.length)):=by show _=_;rw[<-hD];rfl
 obtain⟨B,hB⟩:=zN (w.heap.size);have HB:=ae hB;have hmm:=I8 (L.length:Int) w;have CO:=ae (fun k w (hk:k<64)=>Fa k hk w);obtain⟨ok,hok⟩:=zN (kN L C C.length);rw[hok]at Fe ⊢;clear h h' hV hD hok;go_enter func24,ntmps24;go_wp2
 try rw[hB]
 clear hB hmm;go_loopw [6,18] (fun vx vi wr=>∃i:Nat,vi=.int .i64 i/\vx=.int .u64 (dC C i:Nat)/\i<=C.length/\kX L C i=true/\eY D i=false/\wr.ownsMap prog 9 (unitElem (H:=Unit)) B i (setN D i)/\w.grownBy wr none) (fun _ vi _=>C.length-(intOf vi).toNat)
 case atStart=>exact⟨0,rfl,rfl,Nat.zero_le _,rfl,rfl,HB.o ▸ World.ownsMap_made _ _ _ _,aj (ak w none) _⟩
 case round =>
  obtain⟨i,rfl,rfl,hi,hr,ht,hown,hg⟩:=hrel;have HG:=ae hg;have HT:=ae ht;have HR:=ae hr
  by_cases hlt:i<C.length
  ·obtain⟨a',ho',Je,hat'⟩:=HI.o wr hg i hlt;have f0:=hat' i hlt;have hic:i<c':=by omega
   subst ho'
   by_cases hin:0<=C[i]/\C[i]<(L.length:Int)
   ·obtain⟨k,hk⟩:∃k:Nat,C[i]=(k:Int):=⟨(C[i]).toNat,by omega⟩;have hkl:k<L.length:=by omega
    have Cb:Hd (kX L C (i+1)=true):=by
     show _=_;rw[Jc L C i hlt,HR.o,decide_eq_true hin];rfl
    have bP:Hd (dC C (i+1)=dC C i ||| 2 ^ k):=by
     show _=_;rw[Jb C i hlt,hk];rfl
    have hsm:=Jd L C hL i hi hr;obtain⟨a,ho,hcp,hat⟩:=HE.o wr hg k hkl;obtain⟨e0,-⟩:=hat k hkl;obtain⟨x,hx⟩:=zN (L[k].nm);have hxz:x.size<=maxLen:=by
     have:=HV.o _ (List.getElem_mem hkl);rw[hx]at this;unfold maxLen;omega
    have Ff:i<D.length:=by rw[vS.o];exact hlt
    have hdn:D[i].n=x:=by rw[dQ.o i hlt Ff,hk,<-hx];exact qp L k hkl
    have HS:=ae (Px D i D[i]);have HN:=ae (Py D i Ff);have zF:Hd (oq (D.take i) D[i]=true->eY D C.length=true):=fun h=>by
     have:=Pq D i Ff h;rw[vS.o]at this;exact this
    have PI:=ae (fun(h:oq (D.take i) D[i]=false)=>Pv D i Ff h HT.o);have hkey:keyOf prog 9 (.string x)=some (ni D[i]):=by
     unfold ni;rw[hdn];exact Go.WideMaps.keyOf_string_mk underlying9 hxz
    obtain⟨kl,hkl'⟩:=zN (ni D[i]);rw[hkl']at HS HN hkey;obtain⟨sm,PK⟩:=zN (oq (D.take i) D[i]);rw[PK]at HS zF PI;have hq:=HS.o;rw[hx]at e0;rw[hk]at f0;have hkc:k<c:=by omega
    have hb:=bits_or_u64_nat (dC C i) (2 ^ k) hsm (og (by omega));have C1:=ae (fun w=>CO.o k w (by omega));obtain⟨X,hX⟩:=zN (dC C i);obtain⟨Y,hY⟩:∃Y:Nat,2 ^ k=Y:=⟨_,rfl⟩;rw[hX,hY]at hb bP;rw[hY]at C1;rw[hX];have YT:(k:Int)<(L.length:Int):=by omega
    subst ho;clear hat hat' hg hr ht hin hk hdn hcp Je hkl' PK hsm hX hY hx
    cases sm with
    | true =>
     have HF:Hd (ok=false):=by
      show ok=false;rw[Fe.o,zF.o rfl];simp
     go_wp2_with (first|(at_lookup;refine wpList_lookup_own_unit _ rfl _ _ 81 rfl 9 104 keyS underlying81 (zC _) B i _ rfl hown _ _ rfl hkey ?_;rw[hq])|go_in);refine bodyPost_ret (results_tmp2 (t:=4) (u:=5) rfl _ _ _) rfl ⟨fun h=>?_,fun _=>rfl,aj HG.o _⟩;rw[HF.o]at h;cases h
    | false =>
     go_wp2_with (first|(at_lookup;refine wpList_lookup_own_unit _ rfl _ _ 81 rfl 9 104 keyS underlying81 (zC _) B i _ rfl hown _ _ rfl hkey ?_;rw[hq])|(at_mapUpdate;refine wpList_mapUpdate_own _ rfl _ _ _ 81 rfl 9 104 keyS underlying81 (unitElem (H:=Unit)) B i _ rfl (hown.alloc _) (by unfold maxLen;omega) _ _ _ rfl rfl hkey _ [] unitElem_mk ?_;intro w1 hown1 hgrow1)|(go_at_call 48;refine(C1.o _).mono ?_;rintro e w' ⟨rfl,rfl⟩)|go_in);go_roundw
     case rel=>exact⟨i+1,by go_num,by rw[bP.o],by omega,Cb.o,PI.o (by trivial),by rw[<-HN.o];exact hown1,Pz (aj HG.o _) hgrow1 (Nat.le_of_eq HB.o)⟩
     case measure=>simp[intOf];omega
   ·have HF:Hd (ok=false):=by
     show ok=false;rw[Fe.o,YR L C i hlt hin];rfl
    obtain⟨z,hz⟩:=zN (C[i]);rw[hz]at f0 hin;have hfin:∀(e:Ending),e=.returned (.tuple #[.int .u64 0,.bool false])->(ok=true->e=.returned (.tuple #[.int .u64 (dC C C.length:Nat),.bool true]))/\(ok=false->e=.returned (.tuple #[.int .u64 0,.bool false])):=fun e he=>⟨fun h=>(by rw[HF.o]at h;cases h),fun _=>he⟩
    have mG:=ae hfin
    by_cases hz0:z<0
    ·clear hat' hg hr ht hown Je hz hin hfin;go_wp2;refine bodyPost_ret (results_tmp2 (t:=4) (u:=5) rfl _ _ _) rfl ?_;exact⟨(mG.o _ rfl).1,(mG.o _ rfl).2,HG.o⟩
    ·have hz1:z ≥ (L.length:Int):=by omega
     clear hat' hg hr ht hown Je hz hin hfin;go_wp2;refine bodyPost_ret (results_tmp2 (t:=4) (u:=5) rfl _ _ _) rfl ?_;exact⟨(mG.o _ rfl).1,(mG.o _ rfl).2,HG.o⟩
  ·have hil:i=C.length:=by omega
   have HT1:Hd (ok=true):=by
    show ok=true;rw[Fe.o,<-hil,hr,ht];rfl
   have HX:Hd (dC C i=dC C C.length):=by show _=_;rw[hil]
   obtain⟨X,hX⟩:=zN (dC C i);rw[hX]at HX ⊢;clear hg hr ht hown hil hi hX;go_wp2;refine bodyPost_ret (results_tmp2 (t:=4) (u:=5) rfl _ _ _) rfl ⟨fun _=>?_,fun h=>?_,HG.o⟩
   ·rw[<-HX.o];rfl
   ·rw[HT1.o]at h;cases h
open Go.RowKit Go.Maps Go.Joins
def ou(row:List ByteArray)(x:ByteArray):Bool:=row.any fun y=>decide (y=x)
theorem Cc{row:List ByteArray}{x:ByteArray}:ou row x=true↔x∈row:=by
 unfold ou;rw[List.any_eq_true];exact⟨fun⟨y,h1,h2⟩=>(of_decide_eq_true h2) ▸ h1,fun h=>⟨x,h,by simp⟩⟩
theorem YU{row:List ByteArray}{x:ByteArray}:ou row x=false↔¬x∈row:=by rw[<-Cc];simp
theorem YV{w:World}{o:Option Addr}{c:Nat}{L:List Nd}(h:NdS w (.slice o L.length c) L){i:Nat}(hi:i<L.length):∃a,o=some a/\L.length<=c/\∀j (hj:j<L.length),NdAt w (a.add (j*2)) L[j]:=by
 rcases h with⟨h1,h2⟩|⟨a,cap,h1,h2,h3⟩
 ·rw[h2]at hi;simp at hi
 ·cases h1
  exact⟨a,rfl,h2,h3⟩
theorem PL(z:Value)(n:Nat):madeCells #[z] n=(List.replicate n z).toArray:=by
 unfold madeCells;apply Array.ext';simp;apply List.ext_getElem?;intro i;simp
 by_cases h:i<n
 ·simp[h,Nat.mod_one]
 ·simp[h]
theorem PM:(prog.info? 9).map (fun i=>(i.zero,i.size,i.bytes))=some (some (.string ⟨#[]⟩),1,16):=by kernel_rfl
theorem YW(n:Nat)(hn:n<=1048576)(W:World):(Instr.makeSlice 53 (.int .i64 (n:Int)) (.int .i64 (n:Int))).run prog W=.ok (.slice (some ⟨W.heap.size,0,none⟩) n n) (W.alloc (.cells (List.replicate n (Value.string ⟨#[]⟩)).toArray 9)):=by
 obtain⟨i0,hi0,hii⟩:=Option.map_eq_some_iff.1 PM;simp only[Prod.mk.injEq]at hii;obtain⟨hz0,hz1,hzb⟩:=hii;have:=run_make W 53 9 i0 (.string ⟨#[]⟩) underlying53 hi0 hz0 .i64 .i64 (n:Int) (n:Int) (by omega) (Int.le_refl _) (by rw[hzb];omega) (by omega);rw[this,hz1];have e:((n:Int)).toNat=n:=by omega
 rw[e,Nat.mul_one];have e2:(Value.string ⟨#[]⟩).cells=#[.string ⟨#[]⟩]:=rfl;rw[e2,PL]
theorem YX{w W:World}{q:Nat}(h:w.grownBy W none)(hq:w.heap.size<=q)(o:Nat)(v:Value):w.grownBy (W.setCell ⟨q,o,none⟩ v) none :=
 ⟨h.os,h.tape,h.output,by simpa [World.setCell] using h.size,fun k hk hn=>(heap_setCell_other W _ k _ (by show ¬k=q;omega)).trans (h.block k hk hn)⟩
def Nms(w:World)(g n i:Nat)(M:List ByteArray):Prop:=∃cur:Array Value,w.heap[g]?=some (.cells cur 9 (0,0))/\cur.size=n/\∀j (hj:j<M.length),j<i->cur[j]?=some (.string M[j])
theorem Nms.set{w:World}{g n i:Nat}{M:List ByteArray}(h:Nms w g n i M)(hi:i<n)(hM:i<M.length):Nms (w.setCell ⟨g,i,none⟩ (.string M[i])) g n (i+1) M:=by
 obtain⟨cur,h1,h2,h3⟩:=h;refine⟨cur.setIfInBounds i (.string M[i]),block_setCell h1 _,by simpa using h2,fun j hj hji=>?_⟩
 by_cases e:i=j
 ·subst e;rw[Array.getElem?_setIfInBounds_self,if_pos (by omega)]
 ·rw[Array.getElem?_setIfInBounds_ne e];exact h3 j hj (by omega)
theorem Nms.grow{w w':World}{g n i:Nat}{M:List ByteArray}(h:Nms w g n i M)(hg:w.grownBy w' none):Nms w' g n i M:=by
 obtain⟨cur,h1,h2⟩:=h;exact⟨cur,(hg.block g (aB h1) (by simp)).trans h1,h2⟩
theorem Nms.cell{w:World}{g n i:Nat}{M:List ByteArray}(h:Nms w g n i M){j:Nat}(hj:j<n):(∃v,w.cell? ⟨g,j,none⟩=some v)/\w.frozen? ⟨g,j,none⟩=false:=by
 obtain⟨cur,h1,h2,h3⟩:=h;exact⟨⟨cur[j]'(by omega),by rw[ah h1];exact Array.getElem?_eq_getElem (by omega)⟩,Lib.frozen_of_heap h1 j⟩
theorem YY(o:Option Addr)(c:Nat)(N:List Nd)(w:World)(h:NdS w (.slice o N.length c) N)(hN:N.length<=1048576) :
  Calls prog 30 #[.slice o N.length c] w fun e w'=>∃g,e=.returned (.slice (some ⟨g,0,none⟩) N.length N.length)/\w.heap.size<=g/\Nms w' g N.length N.length (N.map (·.n))/\w.grownBy w' none:=by
 have xQ:=ae (fun w' (hg:w.grownBy w' none) i (hi:i<N.length)=>YV (h.grow hg) hi);obtain⟨G,hG⟩:=zN (w.heap.size);have hmk:=YW N.length hN w;rw[hG]at hmk;have HW0:Hd (Nms (w.alloc (.cells (List.replicate N.length (Value.string ⟨#[]⟩)).toArray 9)) G N.length 0 (N.map (·.n))/\w.grownBy (w.alloc (.cells (List.replicate N.length (Value.string ⟨#[]⟩)).toArray 9)) none):=by
  refine⟨⟨_,by rw[<-hG];exact heap_alloc_new w _,by simp,fun j hj hji=>by omega⟩,aj (ak w none) _⟩
 generalize w.alloc (.cells (List.replicate N.length (Value.string ⟨#[]⟩)).toArray 9)=W0 at hmk HW0;have HG:=ae hG;clear h hG;go_enter func30,ntmps30;go_wp2;go_loopw [11] (fun vi wr=>∃i:Nat,vi=.int .i64 i/\i<=N.length/\Nms wr G N.length i (N.map (·.n))/\w.grownBy wr none) (fun vi _=>N.length-(intOf vi).toNat)
 case atStart=>exact⟨0,rfl,Nat.zero_le _,HW0.o.1,HW0.o.2⟩
 case round =>
  obtain⟨i,rfl,hi,hn,hg⟩:=hrel;obtain⟨wo,hwo⟩:∃wo,wo=wr:=⟨_,rfl⟩;subst hwo;have HN:=ae hn;have bT:=ae hg
  by_cases hlt:i<N.length
  ·obtain⟨a,rfl,hcap,hat⟩:=xQ.o wo hg i hlt;obtain⟨e0,e1⟩:=hat i hlt;have HY:Hd ((N.map (·.n))[i]'(by simpa using hlt)=N[i].n):=List.getElem_map _;obtain⟨⟨x,r⟩,hy⟩:∃y,N[i]=y:=⟨_,rfl⟩;rw[hy]at e0 e1 HY;simp only[]at e0 e1 HY;have HB:=ae (heap_alloc_new wo (.cells #[.string x,.string r] 50));have hic:i<c:=by omega
   obtain⟨Y,hY⟩:=zN (wo.heap.size);rw[hY]at HB;have jQ:=ae (hn.grow (aj (ak wo none) (.cells #[.string x,.string r] 50)));obtain⟨⟨v1,f1⟩,f2⟩:=jQ.o.cell hlt;have b0:(wo.alloc (.cells #[.string x,.string r] 50)).cell? ⟨Y,0,none⟩=some (.string x):=by rw[ah HB.o];rfl
   clear hat hn hg hy;go_wp2;have hs:=jQ.o.set hlt (by simpa using hlt);rw[HY.o]at hs;exact⟨⟨i+1,by go_num,by omega,hs,YX (ag bT.o (aj (ak wo none) _)) (by rw[HG.o];exact Nat.le_refl _) _ _⟩,by simp[intOf];omega⟩
  ·have hil:i=N.length:=by omega
   subst hil;clear hn hg;go_wp2;go_ret;exact⟨G,rfl,by rw[HG.o];exact Nat.le_refl _,HN.o,bT.o⟩
def ed(row:List ByteArray):List ByteArray->List ByteArray
 | []=>row
 | n :: r=>ed (if ou row n=true then row else row++[n]) r
theorem Fg:∀(ns row:List ByteArray),∃t,ed row ns=row++t
 | [],row=>⟨[],by simp[ed]⟩
 | n :: r,row=>by
  unfold ed;split
  ·exact Fg r row
  ·obtain⟨t,h⟩:=Fg r (row++[n]);exact⟨[n]++t,by rw[h];simp⟩
theorem Ce:∀(ns row:List ByteArray),row.Nodup->(ed row ns).Nodup
 | [],row,h=>h
 | n :: r,row,h=>by
  unfold ed;split
  ·exact Ce r row h
  ·rename_i hn;rw[Cc]at hn;refine Ce r _ ?_;rw[List.nodup_append];exact⟨h,by simp,fun a ha b hb e=>by rw[List.mem_singleton.1 hb]at e;exact hn (e ▸ ha)⟩
theorem qw{x:ByteArray}:∀(ns row:List ByteArray),x∈ed row ns↔x∈row\/x∈ns
 | [],row=>by simp[ed]
 | n :: r,row=>by
  unfold ed;split
  ·rename_i hn;rw[Cc]at hn;rw[qw r row,List.mem_cons];constructor
   ·rintro(h|h)
    ·exact Or.inl h
    ·exact Or.inr (Or.inr h)
   ·rintro(h|h|h)
    ·exact Or.inl h
    ·exact Or.inl (h ▸ hn)
    ·exact Or.inr h
  ·rw[qw r _,List.mem_append,List.mem_singleton,List.mem_cons,or_assoc]
theorem PN(x:ByteArray):∀(l row:List ByteArray),ed row (l++[x])=if ou (ed row l) x=true then ed row l else ed row l++[x]
 | [],row=>rfl
 | n :: r,row=>PN x r _
theorem Fh:∀(l row:List ByteArray),(ed row l).length<=row.length+l.length
 | [],row=>by simp[ed]
 | n :: r,row=>by
  unfold ed;have:=Fh r (if ou row n=true then row else row++[n]);rw[List.length_cons];split at this
  ·rename_i h;rw[if_pos h];omega
  ·rename_i h;rw[if_neg h];simp only[List.length_append,List.length_cons,List.length_nil]at this ⊢;omega
open Go.RowKit Go.Maps
def SnS(w:World)(v:Value)(M:List Nat):Prop:=(v=.slice none 0 0/\M=[])\/∃a cap,v=.slice (some a) M.length cap/\M.length<=cap/\∀j (h:j<M.length),w.cell? (a.add j)=some (.int .u64 (M[j]:Nat))
theorem SnS.grow{w w':World}{v:Value}{M:List Nat}(h:SnS w v M)(hg:w.grownBy w' none):SnS w' v M:=by
 rcases h with h|⟨a,cap,h1,h2,h3⟩
 ·exact Or.inl h
 ·exact Or.inr ⟨a,cap,h1,h2,fun j hj=>hg.cell (h3 j hj) (by simp)⟩
theorem Cf{w:World}{v:Value}{M:List Nat}(h:SnS w v M):∃o c,v=.slice o M.length c:=by
 rcases h with⟨rfl,rfl⟩|⟨a,cap,rfl,-⟩
 ·exact⟨_,_,rfl⟩
 ·exact⟨_,_,rfl⟩
theorem YZ{w:World}{o:Option Addr}{c:Nat}{M:List Nat}(h:SnS w (.slice o M.length c) M){i:Nat}(hi:i<M.length):∃a,o=some a/\M.length<=c/\∀j (hj:j<M.length),w.cell? (a.add j)=some (.int .u64 (M[j]:Nat)):=by
 rcases h with⟨h1,rfl⟩|⟨a,cap,h1,h2,h3⟩
 ·simp at hi
 ·injection h1 with e1 e2 e3
  subst e1 e3;exact⟨a,rfl,h2,h3⟩
structure Pl where
 nam:Nat
 bar:Nat
 mt:List Nat
structure Fj(x:Pl):Prop where
 nam:x.nam<18446744073709551616
 bar:x.bar<18446744073709551616
 mt:∀m∈x.mt,m<18446744073709551616
 ln:x.mt.length<=1048576
def PlAt(w:World)(p:Addr)(x:Pl):Prop:=w.cell? p=some (.int .u64 (x.nam:Nat))/\w.cell? ⟨p.block,p.off+1,none⟩=some (.int .u64 (x.bar:Nat))/\∃v,w.cell? ⟨p.block,p.off+2,none⟩=some v/\SnS w v x.mt
theorem PlAt.grow{w w':World}{p:Addr}{x:Pl}(h:PlAt w p x)(hg:w.grownBy w' none):PlAt w' p x:=by
 obtain⟨h0,h1,v,h2,h3⟩:=h;exact⟨hg.cell h0 (by simp),hg.cell h1 (by simp),v,hg.cell h2 (by simp),h3.grow hg⟩
def PlS(w:World)(v:Value)(P:List Pl):Prop:=(v=.slice none 0 0/\P=[])\/∃a cap,v=.slice (some a) P.length cap/\P.length<=cap/\∀i (hi:i<P.length),PlAt w (a.add (i*3)) P[i]
theorem PlS.grow{w w':World}{v:Value}{P:List Pl}(h:PlS w v P)(hg:w.grownBy w' none):PlS w' v P:=by
 rcases h with h|⟨a,cap,h1,h2,h3⟩
 ·exact Or.inl h
 ·exact Or.inr ⟨a,cap,h1,h2,fun i hi=>(h3 i hi).grow hg⟩
theorem Fp{w:World}{v:Value}{P:List Pl}(h:PlS w v P):∃o c,v=.slice o P.length c:=by
 rcases h with⟨rfl,rfl⟩|⟨a,cap,rfl,-⟩
 ·exact⟨_,_,rfl⟩
 ·exact⟨_,_,rfl⟩
theorem Fq{w:World}{o:Option Addr}{c:Nat}{P:List Pl}(h:PlS w (.slice o P.length c) P){i:Nat}(hi:i<P.length):∃a,o=some a/\P.length<=c/\∀j (hj:j<P.length),PlAt w (a.add (j*3)) P[j]:=by
 rcases h with⟨h1,rfl⟩|⟨a,cap,h1,h2,h3⟩
 ·simp at hi
 ·injection h1 with e1 e2 e3
  subst e1 e3;exact⟨a,rfl,h2,h3⟩
def gY(M:List Nat)(A:Nat):Bool:=M.all fun m=>decide (¬m &&& A=0)
theorem Y1(M:List Nat)(A i:Nat)(hi:i<M.length)(h:M[i] &&& A=0):gY M A=false:=by
 unfold gY;rw[List.all_eq_false];exact⟨M[i],List.getElem_mem _,by simpa using h⟩
theorem Y2(M:List Nat)(A i:Nat)(hi:i<M.length)(h:¬M[i] &&& A=0)(h0:gY (M.take i) A=true):gY (M.take (i+1)) A=true:=by
 unfold gY at *;rw[List.take_succ_eq_append_getElem hi,List.all_append,h0];simpa using h
theorem Y3(nam bar A:Nat)(mv:Value)(M:List Nat)(w:World)(h:SnS w mv M)(hA:A<18446744073709551616)(hM:∀m∈M,m<18446744073709551616)(hl:M.length<=1048576) :
  Calls prog 52 #[.agg #[.int .u64 (nam:Nat),.int .u64 (bar:Nat),mv],.int .u64 (A:Nat)] w fun e w'=>e=.returned (.bool (gY M A))/\w.grownBy w' none:=by
 obtain⟨o,c,rfl⟩:=Cf h;have HE:=ae (fun w' (hg:w.grownBy w' none) i (hi:i<M.length)=>YZ (h.grow hg) hi);have HM:=ae hM;obtain⟨R,hR⟩:=zN (gY M A);have HR:=ae hR;rw[hR];clear h hM hR;have jk:Hd (w.grownBy (w.alloc (.cells #[.int .u64 (nam:Nat),.int .u64 (bar:Nat),.slice o M.length c] 69)) none):=aj (ak w none) _;go_enter func52,ntmps52;go_wp2;go_loopw [10] (fun vi wr=>∃i:Nat,vi=.int .i64 i/\i<=M.length/\gY (M.take i) A=true/\w.grownBy wr none) (fun vi _=>M.length-(intOf vi).toNat)
 case atStart=>exact⟨0,rfl,Nat.zero_le _,rfl,jk.o⟩
 case round =>
  obtain⟨i,rfl,hi,hm,hg⟩:=hrel;have HG:=ae hg;have Fv:=ae hm
  by_cases hlt:i<M.length
  ·obtain⟨a,ho,hcp,hat⟩:=HE.o wr hg i hlt;have e0:=hat i hlt;have hsz:=HM.o _ (List.getElem_mem hlt);have hb:=bits_and_u64_nat M[i] A hsz hA;have vT:=ae (fun(h:M[i] &&& A=0)=>HR.o.symm.trans (Y1 M A i hlt h));have HST:Hd (¬M[i] &&& A=0->gY (M.take (i+1)) A=true):=fun h=>Y2 M A i hlt h Fv.o
   obtain⟨X,hX⟩:=zN (M[i]);obtain⟨Y,hY⟩:=zN (X &&& A);rw[hX]at e0 hb vT HST;rw[hY]at hb vT HST;have hic:i<c:=by omega
   subst ho;clear hat hg hm hX hY hcp hsz
   by_cases hz:Y=0
   ·subst hz;have HF:=ae (vT.o rfl);go_wp2;refine bodyPost_ret (results_tmp (t:=4) rfl _ _ _) rfl ⟨aJ HF.o.symm,HG.o⟩
   ·have HS2:=ae (HST.o hz);have hz1:(((Y:Nat):Int) == 0)=false:=by
     rw[beq_eq_false_iff_ne];omega
    clear hz;go_wp2;go_roundw
    case rel=>exact⟨i+1,by go_num,by omega,HS2.o,HG.o⟩
    case measure=>simp[intOf];omega
  ·have hil:i=M.length:=by omega
   have HT:Hd (R=true):=by
    show R=true;rw[<-HR.o,<-List.take_length (l:=M),<-hil];exact hm
   clear hg hm hil hi;go_wp2;refine bodyPost_ret (results_tmp (t:=4) rfl _ _ _) rfl ⟨aJ HT.o.symm,HG.o⟩
def ja(P:List Pl)(A:Nat):Nat->Bool
 | 0=>true
 | i+1=>ja P A i && (match P[i]? with|some x=>!A.testBit i || gY x.mt A|none=>true)
theorem Jf(P:List Pl)(A i:Nat)(hi:i<P.length):ja P A (i+1)=(ja P A i && (!A.testBit i || gY P[i].mt A)):=by simp[ja,List.getElem?_eq_getElem hi]
theorem Y4(P:List Pl)(A i k:Nat)(h:ja P A i=false):ja P A (i+k)=false:=by
 induction k with
 | zero=>exact h
 | succ k ih=>rw[<-Nat.add_assoc,ja,ih];rfl
theorem Y5(P:List Pl)(A i:Nat)(hi:i<P.length)(h:(!A.testBit i || gY P[i].mt A)=false):ja P A P.length=false:=by
 have h1:ja P A (i+1)=false:=by rw[Jf P A i hi,h];simp
 have:=Y4 P A (i+1) (P.length-(i+1)) h1
 rwa [show i+1+(P.length-(i+1))=P.length by omega]at this
theorem Y6(nam bar A:Nat)(mv pv:Value)(M:List Nat)(P:List Pl)(w:World)(h:SnS w mv M)(hp:PlS w pv P)(hA:A<18446744073709551616)(hM:∀m∈M,m<18446744073709551616)(hl:M.length<=1048576)(hP:∀x∈P,Fj x)(hPl:P.length<=64) :
  Calls prog 26 #[.agg #[.int .u64 (nam:Nat),.int .u64 (bar:Nat),mv,pv],.int .u64 (A:Nat)] w fun e w'=>e=.returned (.bool (ja P A P.length && gY M A))/\w.grownBy w' none:=by
 obtain⟨o,c,rfl⟩:=Fp hp;have HE:=ae (fun w' (hg:w.grownBy w' none) i (hi:i<P.length)=>Fq (hp.grow hg) hi);have CB:=ae (fun nam bar mv M w (h1:SnS w mv M) (h2:(∀m∈M,m<18446744073709551616)) (h3:M.length<=1048576)=>Y3 nam bar A mv M w h1 hA h2 h3);have CH:=ae (fun k w (hk:k<64)=>I5 A k hA hk w);have dF:=ae hP;have kK:=ae (fun w' (hg:w.grownBy w' none)=>h.grow hg);have PO:Hd ((∀m∈M,m<18446744073709551616)/\M.length<=1048576):=⟨hM,hl⟩;have HST:=ae (Jf P A);have vT:=ae (Y5 P A);obtain⟨o2,c2,rfl⟩:=Cf h;clear h hp hM hl hP;obtain⟨B0,hB0⟩:=zN w.heap.size;obtain⟨W0,hW0⟩:=zN (w.alloc (.cells #[.int .u64 (nam:Nat),.int .u64 (bar:Nat),.slice o2 M.length c2,.slice o P.length c] 72));have jk:Hd (w.grownBy W0 none):=by rw[<-hW0];exact aj (ak w none) _
 have xR:Hd (W0.heap[B0]?=some (.cells #[.int .u64 (nam:Nat),.int .u64 (bar:Nat),.slice o2 M.length c2,.slice o P.length c] 72 (0,0))):=by rw[<-hW0,<-hB0];exact heap_alloc_new w _
 have hc3:W0.cell? ⟨B0,3,none⟩=some (.slice o P.length c):=by rw[ah xR.o];rfl
 go_enter func26,ntmps26;go_wp2
 try rw[hW0]
 try rw[hB0]
 clear hW0 hB0 hc3;go_loopw [10] (fun vi wr=>∃i:Nat,vi=.int .i64 i/\i<=P.length/\ja P A i=true/\W0.grownBy wr none) (fun vi _=>P.length-(intOf vi).toNat)
 case atStart=>exact⟨0,rfl,Nat.zero_le _,rfl,ak _ _⟩
 case round =>
  obtain⟨i,rfl,hi,hm,hg⟩:=hrel;have pq:=ae hg;have HG:=ae (ag jk.o hg);have Fv:=ae hm
  by_cases hlt:i<P.length
  ·obtain⟨a,ho,hcp,hat⟩:=HE.o wr HG.o i hlt;obtain⟨e0,e1,v,e2,e3⟩:=hat i hlt;have hok:=dF.o _ (List.getElem_mem hlt);have hst:=HST.o i hlt;have xU:=vT.o i hlt;obtain⟨x,hx⟩:=zN (P[i]);rw[hx]at e0 e1 e3 hok hst xU;obtain⟨o3,c3,rfl⟩:=Cf e3;have g1:wr.grownBy (wr.alloc (.cells #[.int .u64 (x.nam:Nat),.int .u64 (x.bar:Nat),.slice o3 x.mt.length c3] 69)) none:=aj (ak wr none) _;have bJ:=ae (ag pq.o g1);have C1:Hd (Calls prog 52 #[.agg #[.int .u64 (x.nam:Nat),.int .u64 (x.bar:Nat),.slice o3 x.mt.length c3],.int .u64 (A:Nat)] (wr.alloc (.cells #[.int .u64 (x.nam:Nat),.int .u64 (x.bar:Nat),.slice o3 x.mt.length c3] 69)) fun e w'=>e=.returned (.bool (gY x.mt A))/\(wr.alloc (.cells #[.int .u64 (x.nam:Nat),.int .u64 (x.bar:Nat),.slice o3 x.mt.length c3] 69)).grownBy w' none):=CB.o _ _ _ _ _ (e3.grow g1) hok.mt hok.ln;have C2:=ae (fun w=>CH.o i w (by omega))
   have HS2:=ae hst;have rH:=ae xU;obtain⟨b,hb⟩:=zN (A.testBit i);obtain⟨m,hm2⟩:=zN (gY x.mt A);rw[hb]at C2 HS2 rH;rw[hm2]at C1 HS2 rH;have hic:i<c:=by omega
   subst ho;clear hat hg hm hx hb hm2 hcp hst xU hok e3 g1
   cases b with
   | false =>
    have HN:Hd (ja P A (i+1)=true):=by show _=_;rw[HS2.o,Fv.o];rfl
    go_wp2_with (go_at_call 51;refine(C2.o _).mono ?_;rintro e w' ⟨rfl,rfl⟩);go_roundw
    case rel=>exact⟨i+1,by go_num,by omega,HN.o,bJ.o⟩
    case measure=>simp[intOf];omega
   | true =>
    cases m with
    | true =>
     have HN:Hd (ja P A (i+1)=true):=by show _=_;rw[HS2.o,Fv.o];rfl
     go_wp2_with (first|(go_at_call 51;refine(C2.o _).mono ?_;rintro e w' ⟨rfl,rfl⟩)|(go_at_call 52;refine C1.o.mono ?_;rintro e w5 ⟨rfl,hg5⟩));go_roundw
     case rel=>exact⟨i+1,by go_num,by omega,HN.o,ag bJ.o hg5⟩
     case measure=>simp[intOf];omega
    | false =>
     have HN:=ae (rH.o rfl);go_wp2_with (first|(go_at_call 51;refine(C2.o _).mono ?_;rintro e w' ⟨rfl,rfl⟩)|(go_at_call 52;refine C1.o.mono ?_;rintro e w5 ⟨rfl,hg5⟩));refine bodyPost_ret (results_tmp (t:=4) rfl _ _ _) rfl ⟨aJ ?_,ag jk.o (ag bJ.o hg5)⟩;rw[HN.o];rfl
  ·have hil:i=P.length:=by omega
   have HT:Hd (ja P A P.length=true):=by rw[hil]at hm;exact hm
   have hbl:=(hg.block B0 (aB xR.o) (by simp)).trans xR.o;obtain⟨c0,c1,c2'⟩:wr.cell? ⟨B0,0,none⟩=some (.int .u64 (nam:Nat))/\wr.cell? ⟨B0,1,none⟩=some (.int .u64 (bar:Nat))/\wr.cell? ⟨B0,2,none⟩=some (.slice o2 M.length c2):=⟨by rw[ah hbl];rfl,by rw[ah hbl];rfl,by rw[ah hbl];rfl⟩;have C1:Hd (Calls prog 52 #[.agg #[.int .u64 (nam:Nat),.int .u64 (bar:Nat),.slice o2 M.length c2],.int .u64 (A:Nat)] wr fun e w'=>e=.returned (.bool (gY M A))/\wr.grownBy w' none):=CB.o _ _ _ _ _ (kK.o wr HG.o) PO.o.1 PO.o.2;obtain⟨m,hm2⟩:=zN (gY M A);have Y7:=ae hm2;rw[hm2]at C1;clear hg hm hil hi hbl hm2;go_wp2_with (go_at_call 52;refine C1.o.mono ?_;rintro e w5 ⟨rfl,hg5⟩);refine bodyPost_ret (results_tmp (t:=4) rfl _ _ _) rfl ⟨aJ ?_,ag HG.o hg5⟩;rw[HT.o,Y7.o];rfl
end Go.Proofs.YteciokcdpadmpaaGreatDoor
