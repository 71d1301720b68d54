import Derived.Test.YtapodndfpecglaaGreatDoorK13
import Derived.Lib.SmallJoins
import Derived.Maps.Views
import Derived.Deep.RegionWith
import Derived.Deep.Cut
set_option linter.all false
set_option maxRecDepth 100000
set_option maxHeartbeats 0
open Go.Proofs.Tryz
namespace Go.Proofs.YtapodndfpecglaaGreatDoor
open Go.RowKit Go.Maps
def IS(w:World)(v:Value)(C:List Int):Prop:=(v=.slice none 0 0/\C=[])\/∃a cap,v=.slice (some a) C.length cap/\C.length<=cap/\∀j (h:j<C.length),w.cell? (a.add j)=some (.int .i64 C[j])
theorem IS.grow{w w':World}{v:Value}{C:List Int}(h:IS w v C)(hg:w.grownBy w' none):IS w' v C:=by
 rcases h with h|⟨a,cap,h1,h2,h3⟩
 ·exact Or.inl h
 ·exact Or.inr ⟨a,cap,h1,h2,fun j hj=>hg.cell (h3 j hj) (by simp)⟩
theorem H7{w:World}{v:Value}{C:List Int}(h:IS w v C):∃o c,v=.slice o C.length c:=by
 rcases h with⟨rfl,rfl⟩|⟨a,cap,rfl,-⟩
 ·exact⟨_,_,rfl⟩
 ·exact⟨_,_,rfl⟩
theorem qE{w:World}{o:Option Addr}{c:Nat}{C:List Int}(h:IS w (.slice o C.length c) C){i:Nat}(hi:i<C.length):∃a,o=some a/\C.length<=c/\∀j (hj:j<C.length),w.cell? (a.add j)=some (.int .i64 C[j]):=by
 rcases h with⟨h1,rfl⟩|⟨a,cap,h1,h2,h3⟩
 ·simp at hi
 ·injection h1 with e1 e2 e3
  subst e1 e3;exact⟨a,rfl,h2,h3⟩
theorem sG{w:World}{o:Option Addr}{c:Nat}{L:List Re}(h:ReS w (.slice o L.length c) L){i:Nat}(hi:i<L.length):∃a,o=some a/\L.length<=c/\∀j (hj:j<L.length),ReAt w (a.add (j*4)) L[j]:=by
 rcases h with⟨h1,rfl⟩|⟨a,cap,h1,h2,h3⟩
 ·simp at hi
 ·injection h1 with e1 e2 e3
  subst e1 e3;exact⟨a,rfl,h2,h3⟩
theorem Eg{w:World}{v:Value}{L:List Re}(h:ReS w v L):∃o c,v=.slice o L.length c:=by
 rcases h with⟨rfl,rfl⟩|⟨a,cap,rfl,-⟩
 ·exact⟨_,_,rfl⟩
 ·exact⟨_,_,rfl⟩
def aQ(L:List Re)(k:Nat):ByteArray:=match L[k]? with|some x=>x.nm|none=>⟨#[]⟩
theorem qF(L:List Re)(k:Nat)(h:k<L.length):aQ L k=L[k].nm:=by simp[aQ,List.getElem?_eq_getElem h]
def nz(L:List Re)(C:List Int)(i:Nat):Bool:=(C.take i).all fun c=>decide (0<=c/\c<(L.length:Int))
def jv(L:List Re)(C:List Int):List Nd:=C.map fun c=>⟨aQ L c.toNat,⟨#[]⟩⟩
theorem YQ(L:List Re)(C:List Int)(i:Nat)(hi:i<C.length)(hi':i<(jv L C).length):(jv L C)[i].n=aQ L (C[i]).toNat:=by
 have e:(jv L C)[i]?=some ⟨aQ L (C[i]).toNat,⟨#[]⟩⟩:=by
  unfold jv;rw[List.getElem?_map,List.getElem?_eq_getElem hi];rfl
 rw[List.getElem?_eq_getElem hi']at e;rw[Option.some.inj e]
def sH(L:List Re)(C:List Int)(i:Nat):Bool:=nz L C i && !fE (jv L C) i
theorem YR(L:List Re)(C:List Int)(i:Nat)(h:i<C.length):nz L C (i+1)=(nz L C i && decide (0<=C[i]/\C[i]<(L.length:Int))):=by
 unfold nz;rw[List.take_succ_eq_append_getElem h,List.all_append];simp
open Go.RowKit Go.Maps
def SnS(w:World)(v:Value)(M:List Nat):Prop:=(v=.slice none 0 0/\M=[])\/∃a cap,v=.slice (some a) M.length cap/\M.length<=cap/\∀j (h:j<M.length),w.cell? (a.add j)=some (.int .u64 (M[j]:Nat))
theorem SnS.grow{w w':World}{v:Value}{M:List Nat}(h:SnS w v M)(hg:w.grownBy w' none):SnS w' v M:=by
 rcases h with h|⟨a,cap,h1,h2,h3⟩
 ·exact Or.inl h
 ·exact Or.inr ⟨a,cap,h1,h2,fun j hj=>hg.cell (h3 j hj) (by simp)⟩
structure Pl where
 nam:Nat
 bar:Nat
 mt:List Nat
structure YS(x:Pl):Prop where
 nam:x.nam<18446744073709551616
 bar:x.bar<18446744073709551616
 mt:∀m∈x.mt,m<18446744073709551616
 ln:x.mt.length<=1048576
def PlAt(w:World)(p:Addr)(x:Pl):Prop:=w.cell? p=some (.int .u64 (x.nam:Nat))/\w.cell? ⟨p.block,p.off+1,none⟩=some (.int .u64 (x.bar:Nat))/\∃v,w.cell? ⟨p.block,p.off+2,none⟩=some v/\SnS w v x.mt
theorem PlAt.grow{w w':World}{p:Addr}{x:Pl}(h:PlAt w p x)(hg:w.grownBy w' none):PlAt w' p x:=by
 obtain⟨h0,h1,v,h2,h3⟩:=h;exact⟨hg.cell h0 (by simp),hg.cell h1 (by simp),v,hg.cell h2 (by simp),h3.grow hg⟩
def PlS(w:World)(v:Value)(P:List Pl):Prop:=(v=.slice none 0 0/\P=[])\/∃a cap,v=.slice (some a) P.length cap/\P.length<=cap/\∀i (hi:i<P.length),PlAt w (a.add (i*3)) P[i]
theorem PlS.grow{w w':World}{v:Value}{P:List Pl}(h:PlS w v P)(hg:w.grownBy w' none):PlS w' v P:=by
 rcases h with h|⟨a,cap,h1,h2,h3⟩
 ·exact Or.inl h
 ·exact Or.inr ⟨a,cap,h1,h2,fun i hi=>(h3 i hi).grow hg⟩
theorem YT{w:World}{v:Value}{P:List Pl}(h:PlS w v P):∃o c,v=.slice o P.length c:=by
 rcases h with⟨rfl,rfl⟩|⟨a,cap,rfl,-⟩
 ·exact⟨_,_,rfl⟩
 ·exact⟨_,_,rfl⟩
theorem OG{w:World}{o:Option Addr}{c:Nat}{P:List Pl}(h:PlS w (.slice o P.length c) P){i:Nat}(hi:i<P.length):∃a,o=some a/\P.length<=c/\∀j (hj:j<P.length),PlAt w (a.add (j*3)) P[j]:=by
 rcases h with⟨h1,rfl⟩|⟨a,cap,h1,h2,h3⟩
 ·simp at hi
 ·injection h1 with e1 e2 e3
  subst e1 e3;exact⟨a,rfl,h2,h3⟩
open Go.RowKit Go.Maps Go.Joins
def nG(row:List ByteArray)(x:ByteArray):Bool:=row.any fun y=>decide (y=x)
theorem Bh{row:List ByteArray}{x:ByteArray}:nG row x=true↔x∈row:=by
 unfold nG;rw[List.any_eq_true];exact⟨fun⟨y,h1,h2⟩=>(of_decide_eq_true h2) ▸ h1,fun h=>⟨x,h,by simp⟩⟩
theorem YU{row:List ByteArray}{x:ByteArray}:nG row x=false↔¬x∈row:=by rw[<-Bh];simp
theorem YV{w:World}{o:Option Addr}{c:Nat}{L:List Nd}(h:NdS w (.slice o L.length c) L){i:Nat}(hi:i<L.length):∃a,o=some a/\L.length<=c/\∀j (hj:j<L.length),NdAt w (a.add (j*2)) L[j]:=by
 rcases h with⟨h1,h2⟩|⟨a,cap,h1,h2,h3⟩
 ·rw[h2]at hi;simp at hi
 ·cases h1
  exact⟨a,rfl,h2,h3⟩
theorem OH(z:Value)(n:Nat):madeCells #[z] n=(List.replicate n z).toArray:=by
 unfold madeCells;apply Array.ext';simp;apply List.ext_getElem?;intro i;simp
 by_cases h:i<n
 ·simp[h,Nat.mod_one]
 ·simp[h]
theorem OI:(prog.info? 9).map (fun i=>(i.zero,i.size,i.bytes))=some (some (.string ⟨#[]⟩),1,16):=by kernel_rfl
theorem YW(n:Nat)(hn:n<=1048576)(W:World):(Instr.makeSlice 49 (.int .i64 (n:Int)) (.int .i64 (n:Int))).run prog W=.ok (.slice (some ⟨W.heap.size,0,none⟩) n n) (W.alloc (.cells (List.replicate n (Value.string ⟨#[]⟩)).toArray 9)):=by
 obtain⟨i0,hi0,hii⟩:=Option.map_eq_some_iff.1 OI;simp only[Prod.mk.injEq]at hii;obtain⟨hz0,hz1,hzb⟩:=hii;have:=run_make W 49 9 i0 (.string ⟨#[]⟩) underlying49 hi0 hz0 .i64 .i64 (n:Int) (n:Int) (by omega) (Int.le_refl _) (by rw[hzb];omega) (by omega);rw[this,hz1];have e:((n:Int)).toNat=n:=by omega
 rw[e,Nat.mul_one];have e2:(Value.string ⟨#[]⟩).cells=#[.string ⟨#[]⟩]:=rfl;rw[e2,OH]
theorem YX{w W:World}{q:Nat}(h:w.grownBy W none)(hq:w.heap.size<=q)(o:Nat)(v:Value):w.grownBy (W.setCell ⟨q,o,none⟩ v) none :=
 ⟨h.os,h.tape,h.output,by simpa [World.setCell] using h.size,fun k hk hn=>(heap_setCell_other W _ k _ (by show ¬k=q;omega)).trans (h.block k hk hn)⟩
def Nms(w:World)(g n i:Nat)(M:List ByteArray):Prop:=∃cur:Array Value,w.heap[g]?=some (.cells cur 9 (0,0))/\cur.size=n/\∀j (hj:j<M.length),j<i->cur[j]?=some (.string M[j])
theorem Nms.set{w:World}{g n i:Nat}{M:List ByteArray}(h:Nms w g n i M)(hi:i<n)(hM:i<M.length):Nms (w.setCell ⟨g,i,none⟩ (.string M[i])) g n (i+1) M:=by
 obtain⟨cur,h1,h2,h3⟩:=h;refine⟨cur.setIfInBounds i (.string M[i]),block_setCell h1 _,by simpa using h2,fun j hj hji=>?_⟩
 by_cases e:i=j
 ·subst e;rw[Array.getElem?_setIfInBounds_self,if_pos (by omega)]
 ·rw[Array.getElem?_setIfInBounds_ne e];exact h3 j hj (by omega)
theorem Nms.grow{w w':World}{g n i:Nat}{M:List ByteArray}(h:Nms w g n i M)(hg:w.grownBy w' none):Nms w' g n i M:=by
 obtain⟨cur,h1,h2⟩:=h;exact⟨cur,(hg.block g (aA h1) (by simp)).trans h1,h2⟩
theorem Nms.cell{w:World}{g n i:Nat}{M:List ByteArray}(h:Nms w g n i M){j:Nat}(hj:j<n):(∃v,w.cell? ⟨g,j,none⟩=some v)/\w.frozen? ⟨g,j,none⟩=false:=by
 obtain⟨cur,h1,h2,h3⟩:=h;exact⟨⟨cur[j]'(by omega),by rw[ag h1];exact Array.getElem?_eq_getElem (by omega)⟩,Lib.frozen_of_heap h1 j⟩
theorem YY(o:Option Addr)(c:Nat)(N:List Nd)(w:World)(h:NdS w (.slice o N.length c) N)(hN:N.length<=1048576) :
  Calls prog 32 #[.slice o N.length c] w fun e w'=>∃g,e=.returned (.slice (some ⟨g,0,none⟩) N.length N.length)/\w.heap.size<=g/\Nms w' g N.length N.length (N.map (·.n))/\w.grownBy w' none:=by
 have wQ:=ae (fun w' (hg:w.grownBy w' none) i (hi:i<N.length)=>YV (h.grow hg) hi);obtain⟨G,hG⟩:=zN (w.heap.size);have hmk:=YW N.length hN w;rw[hG]at hmk;have HW0:Hd (Nms (w.alloc (.cells (List.replicate N.length (Value.string ⟨#[]⟩)).toArray 9)) G N.length 0 (N.map (·.n))/\w.grownBy (w.alloc (.cells (List.replicate N.length (Value.string ⟨#[]⟩)).toArray 9)) none):=by
  refine⟨⟨_,by rw[<-hG];exact heap_alloc_new w _,by simp,fun j hj hji=>by omega⟩,au (ak w none) _⟩
 generalize w.alloc (.cells (List.replicate N.length (Value.string ⟨#[]⟩)).toArray 9)=W0 at hmk HW0;have HG:=ae hG;clear h hG;go_enter func32,ntmps32;go_wp2;go_loopw [11] (fun vi wr=>∃i:Nat,vi=.int .i64 i/\i<=N.length/\Nms wr G N.length i (N.map (·.n))/\w.grownBy wr none) (fun vi _=>N.length-(intOf vi).toNat)
 case atStart=>exact⟨0,rfl,Nat.zero_le _,HW0.o.1,HW0.o.2⟩
 case round =>
  obtain⟨i,rfl,hi,hn,hg⟩:=hrel;obtain⟨wo,hwo⟩:∃wo,wo=wr:=⟨_,rfl⟩;subst hwo;have HN:=ae hn;have bM:=ae hg
  by_cases hlt:i<N.length
  ·obtain⟨a,rfl,hcap,hat⟩:=wQ.o wo hg i hlt;obtain⟨e0,e1⟩:=hat i hlt;have HY:Hd ((N.map (·.n))[i]'(by simpa using hlt)=N[i].n):=List.getElem_map _;obtain⟨⟨x,r⟩,hy⟩:∃y,N[i]=y:=⟨_,rfl⟩;rw[hy]at e0 e1 HY;simp only[]at e0 e1 HY;have HB:=ae (heap_alloc_new wo (.cells #[.string x,.string r] 59));have hic:i<c:=by omega
   obtain⟨Y,hY⟩:=zN (wo.heap.size);rw[hY]at HB;have jw:=ae (hn.grow (au (ak wo none) (.cells #[.string x,.string r] 59)));obtain⟨⟨v1,f1⟩,f2⟩:=jw.o.cell hlt;have b0:(wo.alloc (.cells #[.string x,.string r] 59)).cell? ⟨Y,0,none⟩=some (.string x):=by rw[ag HB.o];rfl
   clear hat hn hg hy;go_wp2;have hs:=jw.o.set hlt (by simpa using hlt);rw[HY.o]at hs;exact⟨⟨i+1,by go_num,by omega,hs,YX (ah bM.o (au (ak wo none) _)) (by rw[HG.o];exact Nat.le_refl _) _ _⟩,by simp[intOf];omega⟩
  ·have hil:i=N.length:=by omega
   subst hil;clear hn hg;go_wp2;go_ret;exact⟨G,rfl,by rw[HG.o];exact Nat.le_refl _,HN.o,bM.o⟩
open Go.RowKit Go.Maps Go.Joins
def Sb(w:World)(S:Nat)(pv nv cm rv im cv:Value)(f:Int)(A D:Nat):Prop:=w.heap[S]?=some (.cells #[pv,nv,cm,.int .i64 f,rv,im,cv,.int .u64 (A:Int),.int .u64 (D:Int)] 82 (0,0))
section
variable {w w':World} {S:Nat} {pv nv cm rv im cv:Value} {f:Int} {A D:Nat}
theorem Sb.cells(h:Sb w S pv nv cm rv im cv f A D):(w.cell? ⟨S,0,none⟩=some pv/\w.cell? ⟨S,1,none⟩=some nv/\w.cell? ⟨S,2,none⟩=some cm/\w.cell? ⟨S,3,none⟩=some (.int .i64 f))/\(w.cell? ⟨S,4,none⟩=some rv/\w.cell? ⟨S,5,none⟩=some im/\w.cell? ⟨S,6,none⟩=some cv)/\w.cell? ⟨S,7,none⟩=some (.int .u64 (A:Int))/\w.cell? ⟨S,8,none⟩=some (.int .u64 (D:Int)):=by
 refine⟨⟨?_,?_,?_,?_⟩,⟨?_,?_,?_⟩,?_,?_⟩<;>(rw[ag h];rfl)
theorem Sb.fz(h:Sb w S pv nv cm rv im cv f A D)(k:Nat):w.frozen? ⟨S,k,none⟩=false:=Lib.frozen_of_heap h k
theorem Sb.grow(h:Sb w S pv nv cm rv im cv f A D)(hg:w.grownBy w' none):Sb w' S pv nv cm rv im cv f A D:=(hg.block S (aA h) (by simp)).trans h
theorem Sb.setF(h:Sb w S pv nv cm rv im cv f A D)(f':Int):Sb (w.setCell ⟨S,3,none⟩ (.int .i64 f')) S pv nv cm rv im cv f' A D:=block_setCell (i:=3) h _
theorem Sb.setR(h:Sb w S pv nv cm rv im cv f A D)(v:Value):Sb (w.setCell ⟨S,4,none⟩ v) S pv nv cm v im cv f A D:=block_setCell (i:=4) h _
theorem Sb.setC(h:Sb w S pv nv cm rv im cv f A D)(v:Value):Sb (w.setCell ⟨S,6,none⟩ v) S pv nv cm rv im v f A D:=block_setCell (i:=6) h _
theorem Sb.setA(h:Sb w S pv nv cm rv im cv f A D)(x:Nat):Sb (w.setCell ⟨S,7,none⟩ (.int .u64 (x:Int))) S pv nv cm rv im cv f x D:=block_setCell (i:=7) h _
theorem Sb.setD(h:Sb w S pv nv cm rv im cv f A D)(x:Nat):Sb (w.setCell ⟨S,8,none⟩ (.int .u64 (x:Int))) S pv nv cm rv im cv f A x:=block_setCell (i:=8) h _
end
def Bi:Ending:=.panicked [{ v:=.iface 28 (.int .i64 10),recovered:=false }]
theorem YZ(S:Nat)(pv nv cm rv im cv:Value)(f:Int)(A D:Nat)(w:World)(h:Sb w S pv nv cm rv im cv f A D)(hf:0<=f)(hf2:f<9223372036854775808) :
  Calls prog 35 #[.pointer (some ⟨S,0,none⟩)] w fun e w'=>(f=0/\e=Bi/\w'=w)\/(0<f/\e=.returned (.tuple #[])/\w'=w.setCell ⟨S,3,none⟩ (.int .i64 (f-1))):=by
 obtain⟨⟨-,-,-,c3⟩,-⟩:=h.cells;have z3:=h.fz 3
 by_cases h0:f=0
 ·subst h0;clear h;go_enter func35,ntmps35;go_wp2;exact⟨rfl,Or.inl ⟨trivial,rfl,rfl⟩⟩
 ·have hb:(f == 0)=false:=by simpa using h0
  clear h;go_enter func35,ntmps35;go_wp2;exact bodyPost_end (results_none rfl _ _ _) rfl (Or.inr ⟨by omega,rfl,rfl⟩)
theorem fits_any(S k:Nat)(po:Option Addr)(pc:Nat)(nv cm rv im cv:Value)(f:Int)(A D:Nat)(P:List Pl)(w:World)(h:Sb w S (.slice po P.length pc) nv cm rv im cv f A D)(hp:PlS w (.slice po P.length pc) P)(hk:k<P.length)(hP:P.length<=64)(hA:A<18446744073709551616)(hD:D<18446744073709551616)(hb:P[k].bar<18446744073709551616) :
  Calls prog 36 #[.pointer (some ⟨S,0,none⟩),.int .i64 k] w fun e w'=>e=.returned (.bool (!(D ||| P[k].bar).testBit k && decide (P[k].bar &&& A=0)))/\w.grownBy w' none:=by
 obtain⟨⟨c0,-⟩,-,c7,c8⟩:=h.cells;obtain⟨a,rfl,hcap,hat⟩:=OG hp hk;obtain⟨e0,e1,-⟩:=hat k hk;obtain⟨b,hb'⟩:=zN (P[k].bar);rw[hb']at e1 hb ⊢;have CH:=ae (fun w=>Yn (D ||| b) k (wM hD hb) (by omega) w);have hor:=bits_or_u64_nat D b hD hb;have Y1:=bits_and_u64_nat b A hb hA;have hz:(((b &&& A:Nat):Int) == 0)=decide (b &&& A=0):=by
  by_cases e:b &&& A=0
  ·rw[e];rfl
  ·rw[decide_eq_false e,beq_eq_false_iff_ne];omega
 obtain⟨X,hX⟩:∃X:Int,((D ||| b:Nat):Int)=X:=⟨_,rfl⟩;obtain⟨Y,hY⟩:∃Y:Int,((b &&& A:Nat):Int)=Y:=⟨_,rfl⟩;obtain⟨q,hq⟩:=zN ((D ||| b).testBit k);obtain⟨r,hr⟩:=zN (decide (b &&& A=0));rw[hX]at hor CH;rw[hY]at Y1 hz;rw[hq]at CH ⊢;rw[hr]at hz ⊢;have hkc:k<pc:=by omega
 clear h hp hat hX hY hq hr hA hD
 cases q with
 | true =>
  go_enter func36,ntmps36;go_wp2_with (go_at_call 62;refine(CH.o _).mono ?_;rintro e w' ⟨rfl,rfl⟩);go_ret;exact⟨rfl,ak _ _⟩
 | false =>
  go_enter func36,ntmps36;go_wp2_with (go_at_call 62;refine(CH.o _).mono ?_;rintro e w' ⟨rfl,rfl⟩);go_ret;exact⟨rfl,ak _ _⟩
def di(row:List ByteArray):List ByteArray->List ByteArray
 | []=>row
 | n :: r=>di (if nG row n=true then row else row++[n]) r
theorem Eh:∀(ns row:List ByteArray),∃t,di row ns=row++t
 | [],row=>⟨[],by simp[di]⟩
 | n :: r,row=>by
  unfold di;split
  ·exact Eh r row
  ·obtain⟨t,h⟩:=Eh r (row++[n]);exact⟨[n]++t,by rw[h];simp⟩
theorem Bj:∀(ns row:List ByteArray),row.Nodup->(di row ns).Nodup
 | [],row,h=>h
 | n :: r,row,h=>by
  unfold di;split
  ·exact Bj r row h
  ·rename_i hn;rw[Bh]at hn;refine Bj r _ ?_;rw[List.nodup_append];exact⟨h,by simp,fun a ha b hb e=>by rw[List.mem_singleton.1 hb]at e;exact hn (e ▸ ha)⟩
theorem o7{x:ByteArray}:∀(ns row:List ByteArray),x∈di row ns↔x∈row\/x∈ns
 | [],row=>by simp[di]
 | n :: r,row=>by
  unfold di;split
  ·rename_i hn;rw[Bh]at hn;rw[o7 r row,List.mem_cons];constructor
   ·rintro(h|h)
    ·exact Or.inl h
    ·exact Or.inr (Or.inr h)
   ·rintro(h|h|h)
    ·exact Or.inl h
    ·exact Or.inl (h ▸ hn)
    ·exact Or.inr h
  ·rw[o7 r _,List.mem_append,List.mem_singleton,List.mem_cons,or_assoc]
theorem OJ(x:ByteArray):∀(l row:List ByteArray),di row (l++[x])=if nG (di row l) x=true then di row l else di row l++[x]
 | [],row=>rfl
 | n :: r,row=>OJ x r _
theorem Ei:∀(l row:List ByteArray),(di row l).length<=row.length+l.length
 | [],row=>by simp[di]
 | n :: r,row=>by
  unfold di;have:=Ei r (if nG row n=true then row else row++[n]);rw[List.length_cons];split at this
  ·rename_i h;rw[if_pos h];omega
  ·rename_i h;rw[if_neg h];simp only[List.length_append,List.length_cons,List.length_nil]at this ⊢;omega
open Go.RowKit Go.Maps Go.Joins
def kT(n:ByteArray):Lit:=.string n.data.toList
theorem yT{a b:ByteArray}(h:kT a=kT b):a=b:=by
 unfold kT at h;injection h with h
 exact ByteArray.ext (Array.ext' h)
theorem Ej{x:ByteArray}(h:x.size<=maxLen):keyOf prog 9 (.string x)=some (kT x):=Go.WideMaps.keyOf_string_mk underlying9 h
structure Fx(X:Nat->Prop)(w w':World):Prop where
 os:w'.os=w.os
 tape:w'.tape=w.tape
 output:w'.output=w.output
 size:w.heap.size<=w'.heap.size
 block:∀k,k<w.heap.size->¬X k->w'.heap[k]?=w.heap[k]?
section
variable {X:Nat->Prop} {w w' w'':World}
theorem Fx.refl(X:Nat->Prop)(w:World):Fx X w w:=⟨rfl,rfl,rfl,Nat.le_refl _,fun _ _ _=>rfl⟩
theorem Fx.trans(h:Fx X w w')(h':Fx X w' w''):Fx X w w'':=⟨h'.os.trans h.os,h'.tape.trans h.tape,h'.output.trans h.output,Nat.le_trans h.size h'.size,fun k hk hn=>(h'.block k (Nat.lt_of_lt_of_le hk h.size) hn).trans (h.block k hk hn)⟩
theorem Fx.gb(h:Fx X w w'){r:Option Nat}(hg:w'.grownBy w'' r)(hr:∀b,r=some b->X b\/w.heap.size<=b):Fx X w w'' :=
 ⟨hg.os.trans h.os,hg.tape.trans h.tape,hg.output.trans h.output,Nat.le_trans h.size hg.size,fun k hk hn=>(hg.block k (Nat.lt_of_lt_of_le hk h.size) (fun e=>by
  rcases hr k e.symm with h1|h1
  ·exact hn h1
  ·omega)).trans (h.block k hk hn)⟩
theorem Fx.set(h:Fx X w w'){b:Nat}(hb:X b\/w.heap.size<=b)(o:Nat)(v:Value):Fx X w (w'.setCell ⟨b,o,none⟩ v) :=
 ⟨h.os,h.tape,h.output,by simpa [World.setCell] using h.size,fun k hk hn=>(heap_setCell_other w' _ k _ (by
  show ¬k=b;rintro rfl
  rcases hb with h1|h1
  ·exact hn h1
  ·omega)).trans (h.block k hk hn)⟩
theorem Fx.cell(h:Fx X w w'){b o:Nat}{v:Value}(hc:w.cell? ⟨b,o,none⟩=some v)(hX:¬X b):w'.cell? ⟨b,o,none⟩=some v:=by
 have hb:b<w.heap.size:=by
  apply Classical.byContradiction;intro hn;unfold World.cell? at hc;rw[Array.getElem?_eq_none (show w.heap.size<=b by omega)]at hc
  cases hc
 have:=h.block b hb hX;unfold World.cell? at hc ⊢;rw[this];exact hc
end
theorem qG{w:World}{B:Nat}{e:TypeId}{s:Nat}{v:Value}{n:Nat}{xs:List Value}(h:w.ownsRow B e s v n xs):∃o c,v=.slice o n c:=by
 rcases h.2 with⟨rfl,rfl⟩|⟨g,cap,cur,rfl,-⟩
 ·exact⟨_,_,rfl⟩
 ·exact⟨_,_,rfl⟩
def InR(w:World)(M:Nat)(row:List ByteArray):Prop:=∃D,w.ownsMap prog 9 (unitElem (H:=Unit)) M row.length D/\∀x,Maps.has D (kT x)=nG row x
theorem Y2{w:World}{M n m:Nat}{D:DataW Unit}(h:w.ownsMap prog 9 (unitElem (H:=Unit)) M n D)(hm:Maps.size D<=m):w.ownsMap prog 9 (unitElem (H:=Unit)) M m D:=by
 obtain⟨es,clock,hb,F,hs,rfl⟩:=h;exact⟨es,clock,hb,F,by simpa [Maps.size,length_sorted] using hm,rfl⟩
theorem InR.put{w':World}{M:Nat}{row:List ByteArray}{D:DataW Unit}{x:ByteArray}{n:Nat}(hn:n=row.length)(hM:IsMap D)(hD:∀y,Maps.has D (kT y)=nG row y)(h:w'.ownsMap prog 9 (unitElem (H:=Unit)) M (n+1) (D.put (kT x) (.agg []))):InR w' M (row++[x]):=by
 refine⟨_,by rw[List.length_append,<-hn];exact h,fun y=>?_⟩
 by_cases e:y=x
 ·subst e;rw[has_put_same hM (by trivial)];exact(Bh.2 (by simp)).symm
 ·rw[has_put_other (fun h=>e (yT h)),hD];unfold nG;rw[List.any_append];simp[Ne.symm e]
theorem InR.del{w':World}{M:Nat}{p q:List ByteArray}{D:DataW Unit}{x:ByteArray}{n:Nat}(hnd:(p++x :: q).Nodup)(hn:n=(p++x :: q).length)(hT:Tidy D)(hsz:Maps.size D<=n)(hD:∀y,Maps.has D (kT y)=nG (p++x :: q) y)(h:w'.ownsMap prog 9 (unitElem (H:=Unit)) M n (D.del (kT x))):InR w' M (p++q):=by
 have hx:¬x∈p++q:=by
  rw[List.nodup_append,List.nodup_cons]at hnd;intro hm
  rcases List.mem_append.1 hm with h1|h1
  ·exact hnd.2.2 x h1 x (by simp) rfl
  ·exact hnd.2.1.1 h1
 have hs:=size_del (k:=kT x) hT;rw[hD x,Bh.2 (by simp),if_pos rfl]at hs;refine⟨_,Y2 h (by simp only[List.length_append,List.length_cons]at hn ⊢;omega),fun y=>?_⟩
 by_cases e:y=x
 ·subst e;rw[has_del_same];exact(YU.2 hx).symm
 ·rw[has_del_other (fun h=>e (yT h)),hD];unfold nG;rw[List.any_append,List.any_append,List.any_cons,decide_eq_false (fun h=>e h.symm),Bool.false_or]
theorem OM{w:World}{B g n c m:Nat}{e:TypeId}{xs:List Value}(h:w.ownsRow B e 1 (.slice (some ⟨g,0,none⟩) n c) n xs)(hm:m<=n):w.ownsRow B e 1 (.slice (some ⟨g,0,none⟩) m c) m (xs.take m):=by
 obtain⟨h1,h2⟩:=h
 rcases h2 with⟨h2,-⟩|⟨g',cap,cur,e1,h3,h4,h5,h6,h7,h8⟩
 ·cases h2
 ·cases e1
  refine⟨by rw[List.length_take];omega,Or.inr ⟨g,c,cur,rfl,h3,h4,by omega,h6,h7,?_⟩⟩;rw[<-h8,List.take_take];congr 1;omega
theorem iY{X:Nat->Prop}{w w':World}{B n:Nat}{e:TypeId}{v:Value}{xs:List Value}(h:w.ownsRow B e 1 v n xs)(hf:Fx X w w')(hX:∀g,v.ownBlock=some g->¬X g):w'.ownsRow B e 1 v n xs:=by
 obtain⟨h1,h2⟩:=h;refine⟨h1,h2.imp id ?_⟩;rintro⟨g,cap,cur,rfl,h3,h4,r⟩;exact⟨g,cap,cur,rfl,h3,(hf.block g (aA h4) (hX g rfl)).trans h4,r⟩
theorem Sb.fx{X:Nat->Prop}{w w':World}{S:Nat}{pv nv cm rv im cv:Value}{f:Int}{A D:Nat}(h:Sb w S pv nv cm rv im cv f A D)(hf:Fx X w w')(hX:¬X S):Sb w' S pv nv cm rv im cv f A D:=(hf.block S (aA h) hX).trans h
theorem Y3(o:Option Addr)(n c len:Nat)(h:len<=n)(wx:World):(Instr.slice 49 (.slice o n c) (some (.int .i64 (len:Int))) none none).run prog wx=.ok (.slice (if c=len then o else o.map (·.add len)) (n-len) (c-len)) wx:=by
 have ht:prog.underlying 49=some (.slice (prog.elem 49)):=by kernel_rfl
 have hsz:∀w,(sizeOf (prog.elem 49)).run prog w=.ok 1 w:=fun w=>by kernel_rfl
 rw[run_slice_l wx _ o n c ht .i64 (len:Int) (by omega) (by omega),hsz];simp[Result.andThen,sliced]
theorem Y4(o:Option Addr)(n c len:Nat)(h:len<=c)(wx:World):(Instr.slice 49 (.slice o n c) none (some (.int .i64 (len:Int))) none).run prog wx=.ok (.slice o len c) wx:=by
 have ht:prog.underlying 49=some (.slice (prog.elem 49)):=by kernel_rfl
 have hsz:∀w,(sizeOf (prog.elem 49)).run prog w=.ok 1 w:=fun w=>by kernel_rfl
 rw[run_slice_h wx _ o n c ht .i64 (len:Int) (by omega) (by omega),hsz]
 cases o with
 | none=>simp[Result.andThen,sliced]
 | some a=>simp[Result.andThen,sliced,Addr.add]
theorem InR.fx{X:Nat->Prop}{w w':World}{M:Nat}{row:List ByteArray}(h:InR w M row)(hf:Fx X w w')(hX:¬X M):InR w' M row:=by
 obtain⟨D,⟨es,cl,h1,r⟩,h2⟩:=h;exact⟨D,⟨es,cl,(hf.block M (aA h1) hX).trans h1,r⟩,h2⟩
theorem Fx.drew{X:Nat->Prop}{w w':World}(h:Fx X w w'):Fx X w w'.drew:=⟨h.os,h.tape,h.output,h.size,h.block⟩
theorem OO(b n:Nat):(⟨b,0,none⟩:Addr).add n=⟨b,n,none⟩:=by
 unfold Addr.add;split
 ·rename_i h0;rw[h0]
 ·simp
theorem Fx.mono{X Y:Nat->Prop}{w w':World}(h:Fx X w w')(hXY:∀b,X b->Y b):Fx Y w w':=⟨h.os,h.tape,h.output,h.size,fun k hk hn=>h.block k hk (fun hx=>hn (hXY k hx))⟩
theorem Y5(B S M bs bl len:Nat)(pv nv cm rv cv:Value)(f:Int)(A D:Nat)(row:List ByteArray)(w:World)(h:Sb w S pv nv cm rv (.map (some M)) cv f A D)(hr:w.ownsRow B 9 1 rv row.length (row.map .string))(hin:InR w M row)(hnd:row.Nodup)(hs:w.cell? ⟨bs,0,none⟩=some (.pointer (some ⟨S,0,none⟩)))(hl:w.cell? ⟨bl,0,none⟩=some (.int .i64 (len:Int)))(hle:len<=row.length)(hb:¬bs=M/\¬bl=M/\¬S=M)(hz:∀x∈row,x.size<=maxLen)(hR:row.length<=1048576) :
  Calls prog 61 #[.pointer (some ⟨bs,0,none⟩),.pointer (some ⟨bl,0,none⟩)] w fun e w'=>e=.returned (.tuple #[])/\∃rv',Sb w' S pv nv cm rv' (.map (some M)) cv f A D/\w'.ownsRow B 9 1 rv' len ((row.take len).map .string)/\InR w' M (row.take len)/\Fx (fun b=>b=S\/b=M) w w'/\rv'.ownBlock=rv.ownBlock:=by
 obtain⟨-,⟨c4,c5,-⟩,-⟩:=h.cells;have H:=ae h;have HR:=ae hr;have iJ:=ae hin;have uO:=ae hnd;have HZ:=ae hz;have HB:=ae hb;have bW:∀g,rv.ownBlock=some g->¬g=M/\¬g=S:=fun g hg=>by
  rcases hr.2 with⟨rfl,-⟩|⟨g',c,cur,rfl,-,hgb,-⟩
  ·cases hg
  ·obtain rfl:g'=g:=Option.some.inj hg;refine⟨fun e=>?_,fun e=>?_⟩
   ·obtain⟨D',⟨es,cl,h1,-⟩,-⟩:=hin;rw[e,h1]at hgb
    cases hgb
   ·have h1:w.heap[S]?=_:=h;rw[e,h1]at hgb;injection hgb with hgb
    injection hgb with _ hgb
    exact absurd hgb (by decide)
 have lu:=ae bW;have hcp:∃o c,rv=.slice o row.length c/\row.length<=c/\∀i (hi:i<row.length),∃g,o=some ⟨g,0,none⟩/\w.cell? ⟨g,i,none⟩=some (.string row[i]):=by
  rcases hr.2 with⟨rfl,hn0⟩|⟨g,c,cur,rfl,hgB,hgb,hnc,hcm,hcs,hct⟩
  ·exact⟨none,0,by rw[hn0],by omega,fun i hi=>by omega⟩
  ·refine⟨_,c,rfl,hnc,fun i hi=>⟨g,rfl,?_⟩⟩;rw[ag hgb];have:(cur.toList.take (row.length*1))[i]?=some (.string row[i]):=by rw[hct];simp[List.getElem?_eq_getElem hi]
   rw[List.getElem?_take,if_pos (by omega),Array.getElem?_toList]at this;exact this
 obtain⟨o,c,rfl,hnc,hget⟩:=hcp;have HG:=ae hget;have hlo:=Y3 o row.length c len hle;have hhi:=Y4 o row.length c len (by omega);obtain⟨o1,ho1⟩:=zN ((if c=len then o else o.map (·.add len)));rw[ho1]at hlo;have dC:=ae ho1;have yE:Hd ((Value.slice o len c).ownBlock=(Value.slice o row.length c).ownBlock):=by cases o<;>rfl
 have Y6:Hd (∀w',Fx (fun b=>b=M) w w'->Sb (w'.setCell ⟨S,4,none⟩ (.slice o len c)) S pv nv cm (.slice o len c) (.map (some M)) cv f A D/\(w'.setCell ⟨S,4,none⟩ (.slice o len c)).ownsRow B 9 1 (.slice o len c) len ((row.take len).map .string)/\Fx (fun b=>b=S) w' (w'.setCell ⟨S,4,none⟩ (.slice o len c))/\Fx (fun b=>b=S\/b=M) w (w'.setCell ⟨S,4,none⟩ (.slice o len c))):=fun w' hf=>by
  have f1:Fx (fun b=>b=S) w' (w'.setCell ⟨S,4,none⟩ (.slice o len c)):=(Fx.refl (fun b=>b=S) w').set (Or.inl rfl) _ _;refine⟨(H.o.fx hf HB.o.2.2).setR _,?_,f1,(Fx.mono (Y:=fun b=>b=S\/b=M) hf fun b hb=>Or.inr hb).set (Or.inl (Or.inl rfl)) _ _⟩;have h1:=iY (iY HR.o hf fun g hg=>(lu.o g hg).1) f1 fun g hg=>(lu.o g hg).2
  rcases h1.2 with⟨h2,h3⟩|⟨g,c',cur,h2,-⟩
  ·injection h2 with a1 _ a3
   have:len=0:=by omega
   subst this;rw[a1,a3];exact⟨by simp,Or.inl ⟨rfl,rfl⟩⟩
  ·injection h2 with a1 _ _
   subst a1;have:=OM h1 hle
   rwa [<-List.map_take]at this
 clear h hr hin hnd hz hb hget ho1 bW;go_enter func61,ntmps61;go_wp2;go_quiet (fail);go_wp2;go_loopw [11] (fun vi wr=>∃i:Nat,vi=.int .i64 i/\i<=row.length-len/\InR wr M (row.take len++row.drop (len+i))/\Fx (fun b=>b=M) w wr) (fun vi _=>row.length-len-(intOf vi).toNat)
 case atStart =>
  refine⟨0,rfl,Nat.zero_le _,?_,⟨rfl,rfl,rfl,Nat.le_refl _,fun _ _ _=>rfl⟩⟩;rw[Nat.add_zero,List.take_append_drop];exact iJ.o
 case round =>
  obtain⟨i,rfl,hi,hin,hf⟩:=hrel;have d0:=hf.cell hs HB.o.1;have d1:=hf.cell hl HB.o.2.1;have d4:=hf.cell c4 HB.o.2.2;have d5:=hf.cell c5 HB.o.2.2;have HF:=ae hf
  by_cases hlt:i<row.length-len
  ·have hix:len+i<row.length:=by omega
   obtain⟨g,rfl,e0⟩:=HG.o (len+i) hix;replace e0:=hf.cell e0 (lu.o g rfl).1;obtain rfl:o1=some ⟨g,len,none⟩:=by
    rw[<-dC.o,if_neg (by omega)];exact congrArg some (OO g len)
   obtain⟨D',hD',hh'⟩:=hin;have hsp:row.take len++row.drop (len+i)=row.take len++row[len+i] :: row.drop (len+i+1):=by rw[List.drop_eq_getElem_cons hix]
   have hkey:=Ej (HZ.o row[len+i] (List.getElem_mem _));have OQ:Hd ((row.take len++row[len+i] :: row.drop (len+i+1)).Nodup):=by
    rw[<-hsp];exact List.Nodup.sublist (by
     have:(row.take len++row.drop (len+i)).Sublist (row.take len++row.drop len):=List.Sublist.append (List.Sublist.refl _) (by rw[<-List.drop_drop];exact List.drop_sublist _ _)
     rwa [List.take_append_drop]at this) uO.o
   rw[hsp]at hD' hh';obtain⟨x,hx⟩:=zN (row[len+i]);rw[hx]at e0 hD' hh' hkey OQ;have Em:=ae (show(∀y,Maps.has D' (kT y)=nG (row.take len++x :: row.drop (len+i+1)) y)/\Tidy D'/\Maps.size D'<=(row.take len++x :: row.drop (len+i+1)).length from⟨hh',hD'.tidy keyS,hD'.size_le⟩);obtain⟨n,hn⟩:=zN ((row.take len++x :: row.drop (len+i+1)).length);rw[hn]at hD' Em;have HN:=ae hn;obtain⟨w1,hdel,hown1,ht1⟩:=hD'.drop keyS underlying80 hkey 0;have lh:Hd (Fx (fun b=>b=M) w w1):=HF.o.gb ht1.grown (fun b e=>by cases e;exact Or.inl rfl);have dh:=ae hown1;clear hh' hsp hx hn hown1 ht1 hf hD';go_wp2;refine⟨⟨i+1,by go_num,by omega,?_,lh.o⟩,by simp[intOf];omega⟩;exact InR.del OQ.o HN.o.symm Em.o.2.1 Em.o.2.2 Em.o.1 dh.o
  ·have hil:i=row.length-len:=by omega
   subst hil;obtain⟨k1,k2,k3,k4⟩:=Y6.o wr hf;rw[show len+(row.length-len)=row.length by omega,List.drop_length,List.append_nil]at hin;have HE:=ae (And.intro k1 (And.intro k2 (And.intro (hin.fx k3 (fun e=>HB.o.2.2 e.symm)) k4)));have z4':wr.frozen? ⟨S,4,none⟩=false:=(H.o.fx hf HB.o.2.2).fz 4;clear hin hf k1 k2 k3 k4;go_wp2;go_region_with (fail)
   all_goals (go_wp2;exact bodyPost_end (results_none rfl _ _ _) rfl ⟨rfl,_,HE.o.1,HE.o.2.1,HE.o.2.2.1,HE.o.2.2.2.drew,yE.o⟩)
open Go.RowKit Go.Maps Go.Joins
def Lx(S M:Nat)(rv:Value)(b:Nat):Prop:=b=S\/b=M\/rv.ownBlock=some b
def LUp(B S M R0 n0:Nat)(pv nv cm cv:Value)(f:Int)(A D:Nat)(o:Option Addr)(rv:Value)(w:World)(r:List ByteArray)(ro:Option Addr)(rc:Nat)(wr:World):Prop :=
 Sb wr S pv nv cm (.slice ro r.length rc) (.map (some M)) cv f A D/\wr.ownsRow B 9 1 (.slice ro r.length rc) r.length (r.map .string)/\InR wr M r/\Fx (Lx S M rv) w wr/\wr.cell? ⟨R0,0,none⟩=some (.pointer (some ⟨S,0,none⟩))/\wr.cell? ⟨R0+1,0,none⟩=some (.int .i64 (n0:Int))/\R0+2<=wr.heap.size/\∀g,ro.map (·.block)=some g->o.map (·.block)=some g\/R0+2<=g
theorem LUp.alloc{B S M R0 n0:Nat}{pv nv cm cv:Value}{f:Int}{A D:Nat}{o:Option Addr}{rv:Value}{w:World}{r:List ByteArray}{ro:Option Addr}{rc:Nat}{wr:World}(h:LUp B S M R0 n0 pv nv cm cv f A D o rv w r ro rc wr)(x:Obj):LUp B S M R0 n0 pv nv cm cv f A D o rv w r ro rc (wr.alloc x):=by
 obtain⟨k1,k2,k3,k4,k5,k6,k7,k8⟩:=h;have hg:wr.grownBy (wr.alloc x) none:=au (ak wr none) x;have hfx:Fx (fun _=>False) wr (wr.alloc x):=(Fx.refl _ wr).gb hg (fun b e=>by cases e);exact⟨k1.grow hg,iY k2 hfx (fun _ _ h=>h),k3.fx hfx (fun h=>h),k4.gb hg (fun b e=>by cases e),hg.cell k5 (by simp),hg.cell k6 (by simp),by rw[World.size_alloc];omega,k8⟩
theorem LUp.app{B S M R0 n0:Nat}{pv nv cm cv:Value}{f:Int}{A D:Nat}{o:Option Addr}{rv:Value}{w:World}{r:List ByteArray}{ro:Option Addr}{rc g cap:Nat}{WA w1 w3:World}{x:ByteArray}{X:Obj}(h:LUp B S M R0 n0 pv nv cm cv f A D o rv w r ro rc WA)(hw:w.heap.size=R0)(hM:M<R0)(hSR:S<R0)(hSM:¬S=M)(hrv:rv.ownBlock=o.map (·.block))(hlo:∀g,o.map (·.block)=some g->g<R0)(h1:WA.grownBy w1 (some M))(hin:InR w1 M (r++[x]))(ho:w3.ownsRow B 9 1 (.slice (some ⟨g,0,none⟩) (r.length+1) cap) (r.length+1) (r.map .string++[.string x]))(hg:(w1.drew.alloc X).grownBy w3 (Value.slice ro r.length rc).ownBlock)(hat:(Value.slice ro r.length rc).ownBlock=some g\/g=(w1.drew.alloc X).heap.size) :
  LUp B S M R0 n0 pv nv cm cv f A D o rv w (r++[x]) (some ⟨g,0,none⟩) cap (w3.setCell ⟨S,4,none⟩ (.slice (some ⟨g,0,none⟩) (r.length+1) cap)):=by
 obtain⟨k1,k2,k3,k4,k5,k6,k7,k8⟩:=h;have hob:(Value.slice ro r.length rc).ownBlock=ro.map (·.block):=by cases ro<;>rfl
 rw[hob]at hg hat;have hge:∀b,ro.map (·.block)=some b->Lx S M rv b\/R0+2<=b:=fun b hb=>by
  rcases k8 b hb with h|h
  ·exact Or.inl (Or.inr (Or.inr (hrv.trans h)))
  ·exact Or.inr h
 have f1:Fx (fun b=>b=M\/ro.map (·.block)=some b) WA w3:=(((Fx.refl _ WA).gb h1 (fun b e=>by cases e;exact Or.inl (Or.inl rfl))).drew.gb (au (ak w1.drew none) X) (fun b e=>by cases e)).gb hg (fun b e=>Or.inl (Or.inr e));have hro:∀b,ro.map (·.block)=some b->∃cur,WA.heap[b]?=some (.cells cur 9 (0,0)):=fun b hb=>by
  rcases k2.2 with⟨e,-⟩|⟨g',c',cur,e,-,h2,-⟩
  ·injection e with e _ _
   rw[e]at hb
   cases hb
  ·injection e with e _ _
   rw[e]at hb
   cases hb
   exact⟨cur,h2⟩
 have hS:¬(S=M\/ro.map (·.block)=some S):=by
  rintro(h|h)
  ·exact hSM h
  ·obtain⟨cur,h2⟩:=hro S h;have h3:WA.heap[S]?=_:=k1;rw[h3]at h2;injection h2 with h2
   injection h2 with _ h2
   exact absurd h2 (by decide)
 have hMr:¬ro.map (·.block)=some M:=fun h=>by
  obtain⟨cur,h2⟩:=hro M h;obtain⟨D',⟨es,cl,h3,-⟩,-⟩:=k3;rw[h3]at h2
  cases h2
 have hR:∀k,k<2->¬(R0+k=M\/ro.map (·.block)=some (R0+k)):=fun k hk=>by
  rintro(h|h)
  ·omega
  ·rcases k8 _ h with h|h
   ·have:=hlo _ h;omega
   ·omega
 have s3:Sb w3 S pv nv cm (.slice ro r.length rc) (.map (some M)) cv f A D:=k1.fx f1 hS;have f2:Fx (fun b=>b=S) w3 (w3.setCell ⟨S,4,none⟩ (.slice (some ⟨g,0,none⟩) (r.length+1) cap)):=(Fx.refl (fun b=>b=S) w3).set (Or.inl rfl) _ _;have Y7:InR w3 M (r++[x]):=hin.fx (X:=fun b=>ro.map (·.block)=some b) (((Fx.refl _ w1).drew.gb (au (ak w1.drew none) X) (fun b e=>by cases e)).gb hg (fun b e=>Or.inl e)) hMr;have sJ:¬g=S:=by
  rintro rfl
  rcases ho.2 with⟨e,-⟩|⟨g',c',cur,e,-,h2,-⟩
  ·cases e
  ·cases e
   have h3:w3.heap[g]?=_:=s3;rw[h3]at h2;injection h2 with h2
   injection h2 with _ h2
   exact absurd h2 (by decide)
 have hsz:WA.heap.size<=w3.heap.size:=f1.size;refine⟨?_,?_,Y7.fx f2 (fun e=>hSM e.symm),?_,?_,?_,?_,?_⟩
 ·rw[List.length_append];exact s3.setR _
 ·rw[List.length_append,List.map_append];exact iY ho f2 (fun g' e=>by cases e;exact sJ)
 ·refine(((k4.gb h1 (fun b e=>by cases e;exact Or.inl (Or.inr (Or.inl rfl)))).drew.gb (au (ak w1.drew none) X) (fun b e=>by cases e)).gb hg (fun b e=>?_)).set (Or.inl (Or.inl rfl)) _ _
  rcases hge b e with h|h
  ·exact Or.inl h
  ·exact Or.inr (by omega)
 ·exact f2.cell (f1.cell k5 (hR 0 (by omega))) (by omega)
 ·exact f2.cell (f1.cell k6 (hR 1 (by omega))) (by omega)
 ·have:(w3.setCell ⟨S,4,none⟩ (.slice (some ⟨g,0,none⟩) (r.length+1) cap)).heap.size=w3.heap.size:=by simp[World.setCell]
  omega
 ·intro g' e;obtain rfl:g=g':=Option.some.inj e
  rcases hat with h|h
  ·exact k8 g h
  ·right;have h1':=h1.size;have:(w1.drew.alloc X).heap.size=w1.heap.size+1:=World.size_alloc _ _;omega
theorem OU(B S M ng nc:Nat)(pv nv cm rv cv:Value)(f:Int)(A D:Nat)(row ns:List ByteArray)(w:World)(h:Sb w S pv nv cm rv (.map (some M)) cv f A D)(hr:w.ownsRow B 9 1 rv row.length (row.map .string))(hin:InR w M row)(hSM:¬S=M)(hB:B<=w.heap.size)(hns:∀i (hi:i<ns.length),w.cell? ⟨ng,i,none⟩=some (.string ns[i]))(Bl:¬Lx S M rv ng)(hnc:ns.length<=nc)(hz:∀x∈ns,x.size<=maxLen)(hR:row.length+ns.length<=1048576) :
  Calls prog 34 #[.pointer (some ⟨S,0,none⟩),.slice (some ⟨ng,0,none⟩) ns.length nc] w fun e w'=>∃bs bl rv',e=.returned (.func (.func 61) #[] #[.pointer (some ⟨bs,0,none⟩),.pointer (some ⟨bl,0,none⟩)])/\(w.heap.size<=bs/\w.heap.size<=bl/\w'.cell? ⟨bs,0,none⟩=some (.pointer (some ⟨S,0,none⟩))/\w'.cell? ⟨bl,0,none⟩=some (.int .i64 (row.length:Int))/\rv'.ownBlock≠some bs/\rv'.ownBlock≠some bl)/\Sb w' S pv nv cm rv' (.map (some M)) cv f A D/\w'.ownsRow B 9 1 rv' (di row ns).length ((di row ns).map .string)/\InR w' M (di row ns)/\Fx (Lx S M rv) w w'/\(∀g,rv'.ownBlock=some g->rv.ownBlock=some g\/w.heap.size<=g):=by
 obtain⟨-,⟨c4,c5,-⟩,-⟩:=h.cells;have H:=ae h;have HR:=ae hr;have iJ:=ae hin;obtain⟨o,c,rfl⟩:=qG hr;obtain⟨R0,hR0⟩:=zN w.heap.size;have HR0:=ae hR0;obtain⟨W1,hW1⟩:=zN (w.alloc (.cells #[.pointer (some ⟨S,0,none⟩)] 53));have hg1:w.grownBy W1 none:=by rw[<-hW1];exact au (ak w none) _
 have hs1:W1.heap.size=R0+1:=by rw[<-hW1,World.size_alloc,hR0]
 have hb1:W1.heap[R0]?=some (.cells #[.pointer (some ⟨S,0,none⟩)] 53 (0,0)):=by rw[<-hW1,<-hR0];exact heap_alloc_new w _
 have b0:W1.cell? ⟨R0,0,none⟩=some (.pointer (some ⟨S,0,none⟩)):=by rw[ag hb1];rfl
 have b4:=hg1.cell c4 (by simp);have HW1:=ae (And.intro hg1 (And.intro hs1 hb1));have H8:M<R0:=by
  obtain⟨D',hD',-⟩:=hin;have:=hD'.lt;omega
 have hMR:¬R0=M:=by omega
 have wB:Hd ((∀g,o.map (·.block)=some g->g<R0)/\S<R0/\M<R0):=by
  refine⟨fun g hg=>?_,by rw[<-hR0];exact(aA h),H8⟩
  rcases hr.2 with⟨e,-⟩|⟨g',c',cur,e,-,h2,-⟩
  ·injection e with e _ _
   rw[e]at hg
   cases hg
  ·injection e with e _ _
   rw[e]at hg
   cases hg
   rw[<-hR0];exact(aA h2)
 have Y8:=ae hMR;clear h hr hin hg1 hb1 hMR H8;have yU:=ae hns;have bK:=ae Bl;have HZ:=ae hz;have HC5:=ae c5;have DX:Hd (Sb (W1.alloc (.cells #[.int .i64 (row.length:Int)] 3)) S pv nv cm (.slice o row.length c) (.map (some M)) cv f A D/\(W1.alloc (.cells #[.int .i64 (row.length:Int)] 3)).ownsRow B 9 1 (.slice o row.length c) row.length (row.map .string)/\InR (W1.alloc (.cells #[.int .i64 (row.length:Int)] 3)) M row/\Fx (Lx S M (.slice o row.length c)) w (W1.alloc (.cells #[.int .i64 (row.length:Int)] 3))/\(W1.alloc (.cells #[.int .i64 (row.length:Int)] 3)).cell? ⟨R0,0,none⟩=some (.pointer (some ⟨S,0,none⟩))/\(W1.alloc (.cells #[.int .i64 (row.length:Int)] 3)).cell? ⟨R0+1,0,none⟩=some (.int .i64 (row.length:Int))/\R0+2<=(W1.alloc (.cells #[.int .i64 (row.length:Int)] 3)).heap.size):=by
  obtain⟨hg1,hs1,hb1⟩:=HW1.o;have hg2:w.grownBy (W1.alloc (.cells #[.int .i64 (row.length:Int)] 3)) none:=ah hg1 (au (ak W1 none) _);have hfx:Fx (fun _=>False) w (W1.alloc (.cells #[.int .i64 (row.length:Int)] 3)):=(Fx.refl _ w).gb hg2 (fun b e=>by cases e);have hbl:=heap_alloc_new W1 (.cells #[.int .i64 (row.length:Int)] 3);rw[hs1]at hbl;refine⟨H.o.grow hg2,iY HR.o hfx (fun _ _ h=>h),iJ.o.fx hfx (fun h=>h),hfx.mono (fun _ h=>h.elim),(au (ak W1 none) _).cell b0 (by simp),by rw[ag hbl];rfl,by rw[World.size_alloc,hs1];omega⟩
 clear hns Bl hz c5;go_enter func34,ntmps34;go_wp2;go_loopw [17] (fun vi wr=>∃(i:Nat) (ro:Option Addr) (rc:Nat),vi=.int .i64 i/\i<=ns.length/\LUp B S M R0 row.length pv nv cm cv f A D o (.slice o row.length c) w (di row (ns.take i)) ro rc wr) (fun vi _=>ns.length-(intOf vi).toNat)
 case atStart =>
  obtain⟨k1,k2,k3,k4,k5,k6,k7⟩:=DX.o;exact⟨0,o,c,rfl,Nat.zero_le _,k1,k2,k3,k4,k5,k6,k7,fun g h=>Or.inl h⟩
 case round =>
  obtain⟨i,ro,rc,rfl,hi,H9⟩:=hrel;obtain⟨wo,hwo⟩:∃wo,wo=wr:=⟨_,rfl⟩;subst hwo;have Bo:=ae H9;obtain⟨hS,hrow,hin,hf,hb0,hb1,hsz,hfr⟩:=H9
  by_cases hlt:i<ns.length
  ·have e0:=hf.cell (yU.o i hlt) bK.o;obtain⟨-,⟨d4,d5,-⟩,-⟩:=hS.cells;obtain⟨D',hD',hh'⟩:=hin;have hkey:=Ej (HZ.o ns[i] (List.getElem_mem _));have fO:Hd (di row (ns.take (i+1))=if nG (di row (ns.take i)) ns[i]=true then di row (ns.take i) else di row (ns.take i)++[ns[i]]):=by
    show _=_;rw[List.take_succ_eq_append_getElem hlt,OJ]
   have hh:=hh' ns[i];obtain⟨x,hx⟩:=zN (ns[i]);rw[hx]at e0 hkey fO hh;have HLEN:=ae (Ei (ns.take i) row);have OV:=ae hh';obtain⟨r,hr⟩:=zN (di row (ns.take i));rw[hr]at d4 hD' fO hh Bo HLEN OV;obtain⟨q,hq⟩:=zN (Maps.has D' (kT x));rw[hq]at hh;rw[<-hh]at fO;have ae3:i<nc:=by omega
   clear hS hrow hf hb1 hfr hh' hh hx hr
   cases q with
   | true =>
    go_wp2_with (first|(at_lookup;refine wpList_lookup_own_unit _ rfl _ _ 80 rfl 9 119 keyS underlying80 (Ec _) M r.length _ rfl hD' _ _ rfl hkey ?_;rw[hq])|go_in);exact⟨⟨i+1,ro,rc,by go_num,by omega,by rw[fO.o,if_pos rfl];exact Bo.o.alloc _⟩,by simp[intOf];omega⟩
   | false =>
    have hrl:r.length<=1048576:=by
     have:=HLEN.o;rw[List.length_take]at this;omega
    obtain⟨WA,Y9⟩:=zN (wo.alloc (.cells #[] 119));have kH:=ae (Bo.o.alloc (.cells #[] 119));have Ia:=hD'.alloc (.cells #[] 119);rw[Y9]at kH Ia;have a0:=kH.o.2.2.2.2.1;obtain⟨-,⟨a4,a5,-⟩,-⟩:=kH.o.1.cells;have sK:=ae (Ia.isMap);go_wp2_with (first|(at_lookup;refine wpList_lookup_own_unit _ rfl _ _ 80 rfl 9 119 keyS underlying80 (Ec _) M r.length _ rfl hD' _ _ rfl hkey ?_;rw[hq])|(at_mapUpdate;refine wpList_mapUpdate_own _ rfl _ _ _ 80 rfl 9 119 keyS underlying80 (unitElem (H:=Unit)) M r.length _ rfl Ia (by unfold maxLen;omega) _ _ _ rfl rfl hkey _ [] unitElem_mk ?_;intro w1 hown1 hgrow1;have f0:=hgrow1.cell a0 (by simpa using Y8.o);have f4:=hgrow1.cell a4 (by simpa using hSM))|go_in);obtain⟨i0,hi0,hii⟩:=Option.map_eq_some_iff.1 OI;simp only[Prod.mk.injEq]at hii;obtain⟨hz0,hz1,hzb⟩:=hii;have Ic:∀b,(Value.slice ro r.length rc).ownBlock=some b->¬b=M/\¬b=S:=fun b hb=>by
     rcases kH.o.2.1.2 with⟨e,-⟩|⟨g',c',cur,e,-,h2,-⟩
     ·rw[e]at hb;cases hb
     ·rw[e]at hb;obtain rfl:g'=b:=Option.some.inj hb;refine⟨fun e=>?_,fun e=>?_⟩
      ·obtain⟨D2,⟨es,cl,h3,-⟩,-⟩:=kH.o.2.2.1;rw[e,h3]at h2
       cases h2
      ·have h3:WA.heap[S]?=_:=kH.o.1;rw[e,h3]at h2;injection h2 with h2
       injection h2 with _ h2
       exact absurd h2 (by decide)
    have Ie:Fx (fun b=>b=M) WA w1:=(Fx.refl _ WA).gb hgrow1 (fun b e=>by cases e;exact Or.inl rfl);have hrow1:=iY kH.o.2.1 Ie (fun b hb=>(Ic b hb).1);have Za:Hd (InR w1 M (r++[x])):=InR.put rfl sK.o OV.o hown1;have bI:=ae hgrow1;have OW:w1.heap[S]?=_:=kH.o.1.fx Ie hSM;have uP:=ae OW;have yV:Hd (some S≠(Value.slice ro r.length rc).ownBlock):=fun e=>(Ic S e.symm).2 rfl
    have Ig:Hd (some R0≠(Value.slice ro r.length rc).ownBlock):=fun e=>by
     have hob:(Value.slice ro r.length rc).ownBlock=ro.map (·.block):=by cases ro<;>rfl
     rw[hob]at e
     rcases kH.o.2.2.2.2.2.2.2 R0 e.symm with h|h
     ·have:=wB.o.1 R0 h;omega
     ·omega
    obtain⟨K,hK⟩:=zN (w1.heap.size);have Ih:Hd ((w1.drew.alloc (.cells #[.string x] 9)).heap[K]?=some (.cells #[.string x] 9 (0,0))):=by
     have:=heap_alloc_new w1.drew (.cells #[.string x] 9);rw[show w1.drew.heap.size=K from hK]at this;exact this
    have Zb:B<=K:=by
     have h1:=bI.o.size;have h2:=kH.o.2.2.2.2.2.2.1;have h3:=HR0.o;omega
    have hone:∀u∈([.string x]:List Value),u.oneCell'=true:=by simp[Value.oneCell']
    have f4A:=(World.grownBy_alloc w1 (.cells #[.string x] 9) none).cell f4 (by simp);have f0A:=(World.grownBy_alloc w1 (.cells #[.string x] 9) none).cell f0 (by simp);obtain⟨ys,hys⟩:∃ys:List Value,r.map .string=ys:=⟨_,rfl⟩;have Ii:=ae hys;rw[hys]at hrow1;clear hys hown1 hgrow1 Ic Ie OW
    go_region_law (refine step_append_lies _ (by rfl) _ _ _ (by rfl) B 9 i0 _ 1 16 underlying49 hi0 hz0 hz1 hzb (by rfl) (by decide) (.slice ro r.length rc) r.length ys (by rfl) (hrow1.drew.alloc _) ⟨K,0,none⟩ 1 1 [.string x] (by rfl) (by rfl) (World.news_of_block Ih.o) hone (by omega) (by unfold maxLen;omega) (by omega) (by simp;omega) _ rfl ?_;intro g cap w3 hown3 hgrow hat hlt3;have hc3:=hgrow.cell f4A yV.o;have hc0:=hgrow.cell f0A Ig.o;have Zc:w3.frozen? ⟨S,4,none⟩=false:=Lib.frozen_of_heap ((hgrow.block S (Nat.lt_of_lt_of_le (aA uP.o) (World.grownBy_alloc w1 (.cells #[.string x] 9) none).size) yV.o).trans (((World.grownBy_alloc w1 (.cells #[.string x] 9) none).block S (aA uP.o) (by simp)).trans uP.o)) 4)
    all_goals (go_wp2;exact⟨⟨i+1,some ⟨g,0,none⟩,cap,by go_num,by omega,by rw[fO.o,if_neg (by simp)];exact kH.o.app HR0.o wB.o.2.2 wB.o.2.1 hSM (by cases o<;>rfl) wB.o.1 bI.o Za.o (by rw[Ii.o];exact hown3) hgrow hat⟩,by simp[intOf];omega⟩)
  ·obtain rfl:i=ns.length:=by omega
   rw[List.take_length]at Bo;have hmf:∀(fn:Fn) (first cap:Array Value) (w:World),(Instr.makeFunc fn first cap).run prog w=.ok (.func fn first cap) w:=fun _ _ _ _=>rfl
   clear hS hrow hin hf hb0 hb1 hfr;go_wp2;go_ret;obtain⟨k1,k2,k3,k4,k5,k6,k7,k8⟩:=Bo.o;have hob:(Value.slice ro (di row ns).length rc).ownBlock=ro.map (·.block):=by cases ro<;>rfl
   have hoc:(Value.slice o row.length c).ownBlock=o.map (·.block):=by cases o<;>rfl
   have bW:∀k,k<2->(Value.slice ro (di row ns).length rc).ownBlock≠some (R0+k):=fun k hk e=>by
    rw[hob]at e
    rcases k8 _ e with h|h
    ·have:=wB.o.1 _ h;omega
    ·omega
   refine⟨R0,R0+1,_,rfl,⟨by rw[HR0.o];exact Nat.le_refl _,by rw[HR0.o];omega,k5,k6,bW 0 (by omega),bW 1 (by omega)⟩,k1,k2,k3,k4,fun g hg=>?_⟩;rw[hob]at hg;rw[hoc]
   rcases k8 g hg with h|h
   ·exact Or.inl h
   ·exact Or.inr (by rw[HR0.o];omega)
end Go.Proofs.YtapodndfpecglaaGreatDoor
