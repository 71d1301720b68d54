import Derived.Test.YtiinliaoojfjaaaGreatDoorF10
import Derived.Lib.SmallJoins
import Derived.Maps.Views
import Derived.Deep.RegionWith
import Derived.Deep.Cut
import Derived.RangeFuncKeeps
import Derived.Shelf.SlIter.Collect
set_option linter.all false
set_option maxRecDepth 100000
set_option maxHeartbeats 0
open Go.Proofs.Tryz
namespace Go.Proofs.YtiinliaoojfjaaaGreatDoor
open Go.RowKit Go.Maps
def IS(w:World)(v:Value)(C:List Int):Prop:=(v=.slice none 0 0/\C=[])\/∃a cap,v=.slice (some a) C.length cap/\C.length<=cap/\∀j (h:j<C.length),w.cell? (a.add j)=some (.int .i64 C[j])
theorem IS.grow{w w':World}{v:Value}{C:List Int}(h:IS w v C)(hg:w.grownBy w' none):IS w' v C:=by
 rcases h with h|⟨a,cap,h1,h2,h3⟩
 ·exact Or.inl h
 ·exact Or.inr ⟨a,cap,h1,h2,fun j hj=>hg.cell (h3 j hj) (by simp)⟩
theorem H6{w:World}{v:Value}{C:List Int}(h:IS w v C):∃o c,v=.slice o C.length c:=by
 rcases h with⟨rfl,rfl⟩|⟨a,cap,rfl,-⟩
 ·exact⟨_,_,rfl⟩
 ·exact⟨_,_,rfl⟩
theorem rU{w:World}{o:Option Addr}{c:Nat}{C:List Int}(h:IS w (.slice o C.length c) C){i:Nat}(hi:i<C.length):∃a,o=some a/\C.length<=c/\∀j (hj:j<C.length),w.cell? (a.add j)=some (.int .i64 C[j]):=by
 rcases h with⟨h1,rfl⟩|⟨a,cap,h1,h2,h3⟩
 ·simp at hi
 ·injection h1 with e1 e2 e3
  subst e1 e3;exact⟨a,rfl,h2,h3⟩
theorem lq{w:World}{o:Option Addr}{c:Nat}{L:List Re}(h:ReS w (.slice o L.length c) L){i:Nat}(hi:i<L.length):∃a,o=some a/\L.length<=c/\∀j (hj:j<L.length),ReAt w (a.add (j*4)) L[j]:=by
 rcases h with⟨h1,rfl⟩|⟨a,cap,h1,h2,h3⟩
 ·simp at hi
 ·injection h1 with e1 e2 e3
  subst e1 e3;exact⟨a,rfl,h2,h3⟩
theorem qj{w:World}{v:Value}{L:List Re}(h:ReS w v L):∃o c,v=.slice o L.length c:=by
 rcases h with⟨rfl,rfl⟩|⟨a,cap,rfl,-⟩
 ·exact⟨_,_,rfl⟩
 ·exact⟨_,_,rfl⟩
def aF(L:List Re)(k:Nat):ByteArray:=match L[k]? with|some x=>x.nm|none=>⟨#[]⟩
theorem mX(L:List Re)(k:Nat)(h:k<L.length):aF L k=L[k].nm:=by simp[aF,List.getElem?_eq_getElem h]
def qo(L:List Re)(C:List Int)(i:Nat):Bool:=(C.take i).all fun c=>decide (0<=c/\c<(L.length:Int))
def jV(L:List Re)(C:List Int):List Nd:=C.map fun c=>⟨aF L c.toNat,⟨#[]⟩⟩
theorem acr(L:List Re)(C:List Int)(i:Nat)(hi:i<C.length)(hi':i<(jV L C).length):(jV L C)[i].n=aF L (C[i]).toNat:=by
 have e:(jV L C)[i]?=some ⟨aF L (C[i]).toNat,⟨#[]⟩⟩:=by
  unfold jV;rw[List.getElem?_map,List.getElem?_eq_getElem hi];rfl
 rw[List.getElem?_eq_getElem hi']at e;rw[Option.some.inj e]
def vO(L:List Re)(C:List Int)(i:Nat):Bool:=qo L C i && !fU (jV L C) i
theorem acs(L:List Re)(C:List Int)(i:Nat)(h:i<C.length):qo L C (i+1)=(qo L C i && decide (0<=C[i]/\C[i]<(L.length:Int))):=by
 unfold qo;rw[List.take_succ_eq_append_getElem h,List.all_append];simp
open Go.RowKit Go.Maps
def SnS(w:World)(v:Value)(M:List Nat):Prop:=(v=.slice none 0 0/\M=[])\/∃a cap,v=.slice (some a) M.length cap/\M.length<=cap/\∀j (h:j<M.length),w.cell? (a.add j)=some (.int .u64 (M[j]:Nat))
theorem SnS.grow{w w':World}{v:Value}{M:List Nat}(h:SnS w v M)(hg:w.grownBy w' none):SnS w' v M:=by
 rcases h with h|⟨a,cap,h1,h2,h3⟩
 ·exact Or.inl h
 ·exact Or.inr ⟨a,cap,h1,h2,fun j hj=>hg.cell (h3 j hj) (by simp)⟩
structure Pl where
 nam:Nat
 bar:Nat
 mt:List Nat
structure acu(x:Pl):Prop where
 nam:x.nam<18446744073709551616
 bar:x.bar<18446744073709551616
 mt:∀m∈x.mt,m<18446744073709551616
 ln:x.mt.length<=1048576
def PlAt(w:World)(p:Addr)(x:Pl):Prop:=w.cell? p=some (.int .u64 (x.nam:Nat))/\w.cell? ⟨p.block,p.off+1,none⟩=some (.int .u64 (x.bar:Nat))/\∃v,w.cell? ⟨p.block,p.off+2,none⟩=some v/\SnS w v x.mt
theorem PlAt.grow{w w':World}{p:Addr}{x:Pl}(h:PlAt w p x)(hg:w.grownBy w' none):PlAt w' p x:=by
 obtain⟨h0,h1,v,h2,h3⟩:=h;exact⟨hg.cell h0 (by simp),hg.cell h1 (by simp),v,hg.cell h2 (by simp),h3.grow hg⟩
def PlS(w:World)(v:Value)(P:List Pl):Prop:=(v=.slice none 0 0/\P=[])\/∃a cap,v=.slice (some a) P.length cap/\P.length<=cap/\∀i (hi:i<P.length),PlAt w (a.add (i*3)) P[i]
theorem PlS.grow{w w':World}{v:Value}{P:List Pl}(h:PlS w v P)(hg:w.grownBy w' none):PlS w' v P:=by
 rcases h with h|⟨a,cap,h1,h2,h3⟩
 ·exact Or.inl h
 ·exact Or.inr ⟨a,cap,h1,h2,fun i hi=>(h3 i hi).grow hg⟩
theorem acv{w:World}{v:Value}{P:List Pl}(h:PlS w v P):∃o c,v=.slice o P.length c:=by
 rcases h with⟨rfl,rfl⟩|⟨a,cap,rfl,-⟩
 ·exact⟨_,_,rfl⟩
 ·exact⟨_,_,rfl⟩
theorem Tv{w:World}{o:Option Addr}{c:Nat}{P:List Pl}(h:PlS w (.slice o P.length c) P){i:Nat}(hi:i<P.length):∃a,o=some a/\P.length<=c/\∀j (hj:j<P.length),PlAt w (a.add (j*3)) P[j]:=by
 rcases h with⟨h1,rfl⟩|⟨a,cap,h1,h2,h3⟩
 ·simp at hi
 ·injection h1 with e1 e2 e3
  subst e1 e3;exact⟨a,rfl,h2,h3⟩
open Go.RowKit Go.Maps Go.Joins
def iq(row:List ByteArray)(x:ByteArray):Bool:=row.any fun y=>decide (y=x)
theorem Bi{row:List ByteArray}{x:ByteArray}:iq row x=true↔x∈row:=by
 unfold iq;rw[List.any_eq_true];exact⟨fun⟨y,h1,h2⟩=>(of_decide_eq_true h2) ▸ h1,fun h=>⟨x,h,by simp⟩⟩
theorem acw{row:List ByteArray}{x:ByteArray}:iq row x=false↔¬x∈row:=by rw[<-Bi];simp
theorem acx{w:World}{o:Option Addr}{c:Nat}{L:List Nd}(h:NdS w (.slice o L.length c) L){i:Nat}(hi:i<L.length):∃a,o=some a/\L.length<=c/\∀j (hj:j<L.length),NdAt w (a.add (j*2)) L[j]:=by
 rcases h with⟨h1,h2⟩|⟨a,cap,h1,h2,h3⟩
 ·rw[h2]at hi;simp at hi
 ·cases h1
  exact⟨a,rfl,h2,h3⟩
theorem Tz(z:Value)(n:Nat):madeCells #[z] n=(List.replicate n z).toArray:=by
 unfold madeCells;apply Array.ext';simp;apply List.ext_getElem?;intro i;simp
 by_cases h:i<n
 ·simp[h,Nat.mod_one]
 ·simp[h]
theorem H7:(prog.info? 9).map (fun i=>(i.zero,i.size,i.bytes))=some (some (.string ⟨#[]⟩),1,16):=by kernel_rfl
theorem acy(n:Nat)(hn:n<=1048576)(W:World):(Instr.makeSlice 67 (.int .i64 (n:Int)) (.int .i64 (n:Int))).run prog W=.ok (.slice (some ⟨W.heap.size,0,none⟩) n n) (W.alloc (.cells (List.replicate n (Value.string ⟨#[]⟩)).toArray 9)):=by
 obtain⟨i0,hi0,hii⟩:=Option.map_eq_some_iff.1 H7;simp only[Prod.mk.injEq]at hii;obtain⟨hz0,hz1,hzb⟩:=hii;have:=run_make W 67 9 i0 (.string ⟨#[]⟩) underlying67 hi0 hz0 .i64 .i64 (n:Int) (n:Int) (by omega) (Int.le_refl _) (by rw[hzb];omega) (by omega);rw[this,hz1];have e:((n:Int)).toNat=n:=by omega
 rw[e,Nat.mul_one];have e2:(Value.string ⟨#[]⟩).cells=#[.string ⟨#[]⟩]:=rfl;rw[e2,Tz]
theorem TA{w W:World}{q:Nat}(h:w.grownBy W none)(hq:w.heap.size<=q)(o:Nat)(v:Value):w.grownBy (W.setCell ⟨q,o,none⟩ v) none :=
 ⟨h.os,h.tape,h.output,by simpa [World.setCell] using h.size,fun k hk hn=>(heap_setCell_other W _ k _ (by show ¬k=q;omega)).trans (h.block k hk hn)⟩
def Nms(w:World)(g n i:Nat)(M:List ByteArray):Prop:=∃cur:Array Value,w.heap[g]?=some (.cells cur 9 (0,0))/\cur.size=n/\∀j (hj:j<M.length),j<i->cur[j]?=some (.string M[j])
theorem Nms.set{w:World}{g n i:Nat}{M:List ByteArray}(h:Nms w g n i M)(hi:i<n)(hM:i<M.length):Nms (w.setCell ⟨g,i,none⟩ (.string M[i])) g n (i+1) M:=by
 obtain⟨cur,h1,h2,h3⟩:=h;refine⟨cur.setIfInBounds i (.string M[i]),block_setCell h1 _,by simpa using h2,fun j hj hji=>?_⟩
 by_cases e:i=j
 ·subst e;rw[Array.getElem?_setIfInBounds_self,if_pos (by omega)]
 ·rw[Array.getElem?_setIfInBounds_ne e];exact h3 j hj (by omega)
theorem Nms.grow{w w':World}{g n i:Nat}{M:List ByteArray}(h:Nms w g n i M)(hg:w.grownBy w' none):Nms w' g n i M:=by
 obtain⟨cur,h1,h2⟩:=h;exact⟨cur,(hg.block g (aC h1) (by simp)).trans h1,h2⟩
theorem Nms.cell{w:World}{g n i:Nat}{M:List ByteArray}(h:Nms w g n i M){j:Nat}(hj:j<n):(∃v,w.cell? ⟨g,j,none⟩=some v)/\w.frozen? ⟨g,j,none⟩=false:=by
 obtain⟨cur,h1,h2,h3⟩:=h;exact⟨⟨cur[j]'(by omega),by rw[ah h1];exact Array.getElem?_eq_getElem (by omega)⟩,Lib.frozen_of_heap h1 j⟩
theorem acz(o:Option Addr)(c:Nat)(N:List Nd)(w:World)(h:NdS w (.slice o N.length c) N)(hN:N.length<=1048576) :
  Calls prog 55 #[.slice o N.length c] w fun e w'=>∃g,e=.returned (.slice (some ⟨g,0,none⟩) N.length N.length)/\w.heap.size<=g/\Nms w' g N.length N.length (N.map (·.n))/\w.grownBy w' none:=by
 have zl:=ae (fun w' (hg:w.grownBy w' none) i (hi:i<N.length)=>acx (h.grow hg) hi);obtain⟨G,hG⟩:=zN (w.heap.size);have hmk:=acy N.length hN w;rw[hG]at hmk;have HW0:Hd (Nms (w.alloc (.cells (List.replicate N.length (Value.string ⟨#[]⟩)).toArray 9)) G N.length 0 (N.map (·.n))/\w.grownBy (w.alloc (.cells (List.replicate N.length (Value.string ⟨#[]⟩)).toArray 9)) none):=by
  refine⟨⟨_,by rw[<-hG];exact heap_alloc_new w _,by simp,fun j hj hji=>by omega⟩,ak (ai w none) _⟩
 generalize w.alloc (.cells (List.replicate N.length (Value.string ⟨#[]⟩)).toArray 9)=W0 at hmk HW0;have HG:=ae hG;clear h hG;go_enter func55,ntmps55;go_wp2;go_loopw [11] (fun vi wr=>∃i:Nat,vi=.int .i64 i/\i<=N.length/\Nms wr G N.length i (N.map (·.n))/\w.grownBy wr none) (fun vi _=>N.length-(intOf vi).toNat)
 case atStart=>exact⟨0,rfl,Nat.zero_le _,HW0.o.1,HW0.o.2⟩
 case round =>
  obtain⟨i,rfl,hi,hn,hg⟩:=hrel;obtain⟨wo,hwo⟩:∃wo,wo=wr:=⟨_,rfl⟩;subst hwo;have HN:=ae hn;have bD:=ae hg
  by_cases hlt:i<N.length
  ·obtain⟨a,rfl,hcap,hat⟩:=zl.o wo hg i hlt;obtain⟨e0,e1⟩:=hat i hlt;have HY:Hd ((N.map (·.n))[i]'(by simpa using hlt)=N[i].n):=List.getElem_map _;obtain⟨⟨x,r⟩,hy⟩:∃y,N[i]=y:=⟨_,rfl⟩;rw[hy]at e0 e1 HY;simp only[]at e0 e1 HY;have HB:=ae (heap_alloc_new wo (.cells #[.string x,.string r] 36));have hic:i<c:=by omega
   obtain⟨Y,hY⟩:=zN (wo.heap.size);rw[hY]at HB;have dw:=ae (hn.grow (ak (ai wo none) (.cells #[.string x,.string r] 36)));obtain⟨⟨v1,f1⟩,f2⟩:=dw.o.cell hlt;have b0:(wo.alloc (.cells #[.string x,.string r] 36)).cell? ⟨Y,0,none⟩=some (.string x):=by rw[ah HB.o];rfl
   clear hat hn hg hy;go_wp2;have hs:=dw.o.set hlt (by simpa using hlt);rw[HY.o]at hs;exact⟨⟨i+1,by go_num,by omega,hs,TA (ag bD.o (ak (ai wo none) _)) (by rw[HG.o];exact Nat.le_refl _) _ _⟩,by simp[intOf];omega⟩
  ·have hil:i=N.length:=by omega
   subst hil;clear hn hg;go_wp2;go_ret;exact⟨G,rfl,by rw[HG.o];exact Nat.le_refl _,HN.o,bD.o⟩
open Go.RowKit Go.Maps Go.Joins
def Sb(w:World)(S:Nat)(pv nv cm rv im cv:Value)(f:Int)(A D:Nat):Prop:=w.heap[S]?=some (.cells #[pv,nv,cm,.int .i64 f,rv,im,cv,.int .u64 (A:Int),.int .u64 (D:Int)] 126 (0,0))
section
variable {w w':World} {S:Nat} {pv nv cm rv im cv:Value} {f:Int} {A D:Nat}
theorem Sb.cells(h:Sb w S pv nv cm rv im cv f A D):(w.cell? ⟨S,0,none⟩=some pv/\w.cell? ⟨S,1,none⟩=some nv/\w.cell? ⟨S,2,none⟩=some cm/\w.cell? ⟨S,3,none⟩=some (.int .i64 f))/\(w.cell? ⟨S,4,none⟩=some rv/\w.cell? ⟨S,5,none⟩=some im/\w.cell? ⟨S,6,none⟩=some cv)/\w.cell? ⟨S,7,none⟩=some (.int .u64 (A:Int))/\w.cell? ⟨S,8,none⟩=some (.int .u64 (D:Int)):=by
 refine⟨⟨?_,?_,?_,?_⟩,⟨?_,?_,?_⟩,?_,?_⟩<;>(rw[ah h];rfl)
theorem Sb.fz(h:Sb w S pv nv cm rv im cv f A D)(k:Nat):w.frozen? ⟨S,k,none⟩=false:=Lib.frozen_of_heap h k
theorem Sb.grow(h:Sb w S pv nv cm rv im cv f A D)(hg:w.grownBy w' none):Sb w' S pv nv cm rv im cv f A D:=(hg.block S (aC h) (by simp)).trans h
theorem Sb.setF(h:Sb w S pv nv cm rv im cv f A D)(f':Int):Sb (w.setCell ⟨S,3,none⟩ (.int .i64 f')) S pv nv cm rv im cv f' A D:=block_setCell (i:=3) h _
theorem Sb.setR(h:Sb w S pv nv cm rv im cv f A D)(v:Value):Sb (w.setCell ⟨S,4,none⟩ v) S pv nv cm v im cv f A D:=block_setCell (i:=4) h _
theorem Sb.setC(h:Sb w S pv nv cm rv im cv f A D)(v:Value):Sb (w.setCell ⟨S,6,none⟩ v) S pv nv cm rv im v f A D:=block_setCell (i:=6) h _
theorem Sb.setA(h:Sb w S pv nv cm rv im cv f A D)(x:Nat):Sb (w.setCell ⟨S,7,none⟩ (.int .u64 (x:Int))) S pv nv cm rv im cv f x D:=block_setCell (i:=7) h _
theorem Sb.setD(h:Sb w S pv nv cm rv im cv f A D)(x:Nat):Sb (w.setCell ⟨S,8,none⟩ (.int .u64 (x:Int))) S pv nv cm rv im cv f A x:=block_setCell (i:=8) h _
end
def EK:Ending:=.panicked [{ v:=.iface 32 (.int .i64 10),recovered:=false }]
theorem acA(S:Nat)(pv nv cm rv im cv:Value)(f:Int)(A D:Nat)(w:World)(h:Sb w S pv nv cm rv im cv f A D)(hf:0<=f)(hf2:f<9223372036854775808) :
  Calls prog 58 #[.pointer (some ⟨S,0,none⟩)] w fun e w'=>(f=0/\e=EK/\w'=w)\/(0<f/\e=.returned (.tuple #[])/\w'=w.setCell ⟨S,3,none⟩ (.int .i64 (f-1))):=by
 obtain⟨⟨-,-,-,c3⟩,-⟩:=h.cells;have z3:=h.fz 3
 by_cases h0:f=0
 ·subst h0;clear h;go_enter func58,ntmps58;go_wp2;exact⟨rfl,Or.inl ⟨trivial,rfl,rfl⟩⟩
 ·have hb:(f == 0)=false:=by simpa using h0
  clear h;go_enter func58,ntmps58;go_wp2;exact bodyPost_end (results_none rfl _ _ _) rfl (Or.inr ⟨by omega,rfl,rfl⟩)
theorem fits_any(S k:Nat)(po:Option Addr)(pc:Nat)(nv cm rv im cv:Value)(f:Int)(A D:Nat)(P:List Pl)(w:World)(h:Sb w S (.slice po P.length pc) nv cm rv im cv f A D)(hp:PlS w (.slice po P.length pc) P)(hk:k<P.length)(hP:P.length<=64)(hA:A<18446744073709551616)(hD:D<18446744073709551616)(hb:P[k].bar<18446744073709551616) :
  Calls prog 59 #[.pointer (some ⟨S,0,none⟩),.int .i64 k] w fun e w'=>e=.returned (.bool (!(D ||| P[k].bar).testBit k && decide (P[k].bar &&& A=0)))/\w.grownBy w' none:=by
 obtain⟨⟨c0,-⟩,-,c7,c8⟩:=h.cells;obtain⟨a,rfl,hcap,hat⟩:=Tv hp hk;obtain⟨e0,e1,-⟩:=hat k hk;obtain⟨b,hb'⟩:=zN (P[k].bar);rw[hb']at e1 hb ⊢;have CH:=ae (fun w=>abb (D ||| b) k (yT hD hb) (by omega) w);have hor:=bits_or_u64_nat D b hD hb;have han:=bits_and_u64_nat b A hb hA;have hz:(((b &&& A:Nat):Int) == 0)=decide (b &&& A=0):=by
  by_cases e:b &&& A=0
  ·rw[e];rfl
  ·rw[decide_eq_false e,beq_eq_false_iff_ne];omega
 obtain⟨X,hX⟩:∃X:Int,((D ||| b:Nat):Int)=X:=⟨_,rfl⟩;obtain⟨Y,hY⟩:∃Y:Int,((b &&& A:Nat):Int)=Y:=⟨_,rfl⟩;obtain⟨q,hq⟩:=zN ((D ||| b).testBit k);obtain⟨r,hr⟩:=zN (decide (b &&& A=0));rw[hX]at hor CH;rw[hY]at han hz;rw[hq]at CH ⊢;rw[hr]at hz ⊢;have hkc:k<pc:=by omega
 clear h hp hat hX hY hq hr hA hD
 cases q with
 | true =>
  go_enter func59,ntmps59;go_wp2_with (go_at_call 97;refine(CH.o _).mono ?_;rintro e w' ⟨rfl,rfl⟩);go_ret;exact⟨rfl,ai _ _⟩
 | false =>
  go_enter func59,ntmps59;go_wp2_with (go_at_call 97;refine(CH.o _).mono ?_;rintro e w' ⟨rfl,rfl⟩);go_ret;exact⟨rfl,ai _ _⟩
def aU(row:List ByteArray):List ByteArray->List ByteArray
 | []=>row
 | n :: r=>aU (if iq row n=true then row else row++[n]) r
theorem H8:∀(ns row:List ByteArray),∃t,aU row ns=row++t
 | [],row=>⟨[],by simp[aU]⟩
 | n :: r,row=>by
  unfold aU;split
  ·exact H8 r row
  ·obtain⟨t,h⟩:=H8 r (row++[n]);exact⟨[n]++t,by rw[h];simp⟩
theorem Bj:∀(ns row:List ByteArray),row.Nodup->(aU row ns).Nodup
 | [],row,h=>h
 | n :: r,row,h=>by
  unfold aU;split
  ·exact Bj r row h
  ·rename_i hn;rw[Bi]at hn;refine Bj r _ ?_;rw[List.nodup_append];exact⟨h,by simp,fun a ha b hb e=>by rw[List.mem_singleton.1 hb]at e;exact hn (e ▸ ha)⟩
theorem qp{x:ByteArray}:∀(ns row:List ByteArray),x∈aU row ns↔x∈row\/x∈ns
 | [],row=>by simp[aU]
 | n :: r,row=>by
  unfold aU;split
  ·rename_i hn;rw[Bi]at hn;rw[qp r row,List.mem_cons];constructor
   ·rintro(h|h)
    ·exact Or.inl h
    ·exact Or.inr (Or.inr h)
   ·rintro(h|h|h)
    ·exact Or.inl h
    ·exact Or.inl (h ▸ hn)
    ·exact Or.inr h
  ·rw[qp r _,List.mem_append,List.mem_singleton,List.mem_cons,or_assoc]
theorem H9(x:ByteArray):∀(l row:List ByteArray),aU row (l++[x])=if iq (aU row l) x=true then aU row l else aU row l++[x]
 | [],row=>rfl
 | n :: r,row=>H9 x r _
theorem xP:∀(l row:List ByteArray),(aU row l).length<=row.length+l.length
 | [],row=>by simp[aU]
 | n :: r,row=>by
  unfold aU;have:=xP r (if iq row n=true then row else row++[n]);rw[List.length_cons];split at this
  ·rename_i h;rw[if_pos h];omega
  ·rename_i h;rw[if_neg h];simp only[List.length_append,List.length_cons,List.length_nil]at this ⊢;omega
open Go.RowKit Go.Maps Go.Joins
def kT(n:ByteArray):Lit:=.string n.data.toList
theorem Bl{a b:ByteArray}(h:kT a=kT b):a=b:=by
 unfold kT at h;injection h with h
 exact ByteArray.ext (Array.ext' h)
theorem Ia{x:ByteArray}(h:x.size<=maxLen):keyOf prog 9 (.string x)=some (kT x):=Go.WideMaps.keyOf_string_mk underlying9 h
structure Fx(X:Nat->Prop)(w w':World):Prop where
 os:w'.os=w.os
 tape:w'.tape=w.tape
 output:w'.output=w.output
 size:w.heap.size<=w'.heap.size
 block:∀k,k<w.heap.size->¬X k->w'.heap[k]?=w.heap[k]?
section
variable {X:Nat->Prop} {w w' w'':World}
theorem Fx.refl(X:Nat->Prop)(w:World):Fx X w w:=⟨rfl,rfl,rfl,Nat.le_refl _,fun _ _ _=>rfl⟩
theorem Fx.trans(h:Fx X w w')(h':Fx X w' w''):Fx X w w'':=⟨h'.os.trans h.os,h'.tape.trans h.tape,h'.output.trans h.output,Nat.le_trans h.size h'.size,fun k hk hn=>(h'.block k (Nat.lt_of_lt_of_le hk h.size) hn).trans (h.block k hk hn)⟩
theorem Fx.gb(h:Fx X w w'){r:Option Nat}(hg:w'.grownBy w'' r)(hr:∀b,r=some b->X b\/w.heap.size<=b):Fx X w w'' :=
 ⟨hg.os.trans h.os,hg.tape.trans h.tape,hg.output.trans h.output,Nat.le_trans h.size hg.size,fun k hk hn=>(hg.block k (Nat.lt_of_lt_of_le hk h.size) (fun e=>by
  rcases hr k e.symm with h1|h1
  ·exact hn h1
  ·omega)).trans (h.block k hk hn)⟩
theorem Fx.set(h:Fx X w w'){b:Nat}(hb:X b\/w.heap.size<=b)(o:Nat)(v:Value):Fx X w (w'.setCell ⟨b,o,none⟩ v) :=
 ⟨h.os,h.tape,h.output,by simpa [World.setCell] using h.size,fun k hk hn=>(heap_setCell_other w' _ k _ (by
  show ¬k=b;rintro rfl
  rcases hb with h1|h1
  ·exact hn h1
  ·omega)).trans (h.block k hk hn)⟩
theorem Fx.cell(h:Fx X w w'){b o:Nat}{v:Value}(hc:w.cell? ⟨b,o,none⟩=some v)(hX:¬X b):w'.cell? ⟨b,o,none⟩=some v:=by
 have hb:b<w.heap.size:=by
  apply Classical.byContradiction;intro hn;unfold World.cell? at hc;rw[Array.getElem?_eq_none (show w.heap.size<=b by omega)]at hc
  cases hc
 have:=h.block b hb hX;unfold World.cell? at hc ⊢;rw[this];exact hc
end
theorem mY{w:World}{B:Nat}{e:TypeId}{s:Nat}{v:Value}{n:Nat}{xs:List Value}(h:w.ownsRow B e s v n xs):∃o c,v=.slice o n c:=by
 rcases h.2 with⟨rfl,rfl⟩|⟨g,cap,cur,rfl,-⟩
 ·exact⟨_,_,rfl⟩
 ·exact⟨_,_,rfl⟩
def InR(w:World)(M:Nat)(row:List ByteArray):Prop:=∃D,w.ownsMap prog 9 (unitElem (H:=Unit)) M row.length D/\∀x,Maps.has D (kT x)=iq row x
theorem acB{w:World}{M n m:Nat}{D:DataW Unit}(h:w.ownsMap prog 9 (unitElem (H:=Unit)) M n D)(hm:Maps.size D<=m):w.ownsMap prog 9 (unitElem (H:=Unit)) M m D:=by
 obtain⟨es,clock,hb,F,hs,rfl⟩:=h;exact⟨es,clock,hb,F,by simpa [Maps.size,length_sorted] using hm,rfl⟩
theorem InR.put{w':World}{M:Nat}{row:List ByteArray}{D:DataW Unit}{x:ByteArray}{n:Nat}(hn:n=row.length)(hM:IsMap D)(hD:∀y,Maps.has D (kT y)=iq row y)(h:w'.ownsMap prog 9 (unitElem (H:=Unit)) M (n+1) (D.put (kT x) (.agg []))):InR w' M (row++[x]):=by
 refine⟨_,by rw[List.length_append,<-hn];exact h,fun y=>?_⟩
 by_cases e:y=x
 ·subst e;rw[has_put_same hM (by trivial)];exact(Bi.2 (by simp)).symm
 ·rw[has_put_other (fun h=>e (Bl h)),hD];unfold iq;rw[List.any_append];simp[Ne.symm e]
theorem InR.del{w':World}{M:Nat}{p q:List ByteArray}{D:DataW Unit}{x:ByteArray}{n:Nat}(hnd:(p++x :: q).Nodup)(hn:n=(p++x :: q).length)(hT:Tidy D)(hsz:Maps.size D<=n)(hD:∀y,Maps.has D (kT y)=iq (p++x :: q) y)(h:w'.ownsMap prog 9 (unitElem (H:=Unit)) M n (D.del (kT x))):InR w' M (p++q):=by
 have hx:¬x∈p++q:=by
  rw[List.nodup_append,List.nodup_cons]at hnd;intro hm
  rcases List.mem_append.1 hm with h1|h1
  ·exact hnd.2.2 x h1 x (by simp) rfl
  ·exact hnd.2.1.1 h1
 have hs:=size_del (k:=kT x) hT;rw[hD x,Bi.2 (by simp),if_pos rfl]at hs;refine⟨_,acB h (by simp only[List.length_append,List.length_cons]at hn ⊢;omega),fun y=>?_⟩
 by_cases e:y=x
 ·subst e;rw[has_del_same];exact(acw.2 hx).symm
 ·rw[has_del_other (fun h=>e (Bl h)),hD];unfold iq;rw[List.any_append,List.any_append,List.any_cons,decide_eq_false (fun h=>e h.symm),Bool.false_or]
theorem TD{w:World}{B g n c m:Nat}{e:TypeId}{xs:List Value}(h:w.ownsRow B e 1 (.slice (some ⟨g,0,none⟩) n c) n xs)(hm:m<=n):w.ownsRow B e 1 (.slice (some ⟨g,0,none⟩) m c) m (xs.take m):=by
 obtain⟨h1,h2⟩:=h
 rcases h2 with⟨h2,-⟩|⟨g',cap,cur,e1,h3,h4,h5,h6,h7,h8⟩
 ·cases h2
 ·cases e1
  refine⟨by rw[List.length_take];omega,Or.inr ⟨g,c,cur,rfl,h3,h4,by omega,h6,h7,?_⟩⟩;rw[<-h8,List.take_take];congr 1;omega
theorem jm{X:Nat->Prop}{w w':World}{B n:Nat}{e:TypeId}{v:Value}{xs:List Value}(h:w.ownsRow B e 1 v n xs)(hf:Fx X w w')(hX:∀g,v.ownBlock=some g->¬X g):w'.ownsRow B e 1 v n xs:=by
 obtain⟨h1,h2⟩:=h;refine⟨h1,h2.imp id ?_⟩;rintro⟨g,cap,cur,rfl,h3,h4,r⟩;exact⟨g,cap,cur,rfl,h3,(hf.block g (aC h4) (hX g rfl)).trans h4,r⟩
theorem Sb.fx{X:Nat->Prop}{w w':World}{S:Nat}{pv nv cm rv im cv:Value}{f:Int}{A D:Nat}(h:Sb w S pv nv cm rv im cv f A D)(hf:Fx X w w')(hX:¬X S):Sb w' S pv nv cm rv im cv f A D:=(hf.block S (aC h) hX).trans h
theorem acC(o:Option Addr)(n c len:Nat)(h:len<=n)(wx:World):(Instr.slice 67 (.slice o n c) (some (.int .i64 (len:Int))) none none).run prog wx=.ok (.slice (if c=len then o else o.map (·.add len)) (n-len) (c-len)) wx:=by
 have ht:prog.underlying 67=some (.slice (prog.elem 67)):=by kernel_rfl
 have hsz:∀w,(sizeOf (prog.elem 67)).run prog w=.ok 1 w:=fun w=>by kernel_rfl
 rw[run_slice_l wx _ o n c ht .i64 (len:Int) (by omega) (by omega),hsz];simp[Result.andThen,sliced]
theorem acD(o:Option Addr)(n c len:Nat)(h:len<=c)(wx:World):(Instr.slice 67 (.slice o n c) none (some (.int .i64 (len:Int))) none).run prog wx=.ok (.slice o len c) wx:=by
 have ht:prog.underlying 67=some (.slice (prog.elem 67)):=by kernel_rfl
 have hsz:∀w,(sizeOf (prog.elem 67)).run prog w=.ok 1 w:=fun w=>by kernel_rfl
 rw[run_slice_h wx _ o n c ht .i64 (len:Int) (by omega) (by omega),hsz]
 cases o with
 | none=>simp[Result.andThen,sliced]
 | some a=>simp[Result.andThen,sliced,Addr.add]
theorem InR.fx{X:Nat->Prop}{w w':World}{M:Nat}{row:List ByteArray}(h:InR w M row)(hf:Fx X w w')(hX:¬X M):InR w' M row:=by
 obtain⟨D,⟨es,cl,h1,r⟩,h2⟩:=h;exact⟨D,⟨es,cl,(hf.block M (aC h1) hX).trans h1,r⟩,h2⟩
theorem Fx.drew{X:Nat->Prop}{w w':World}(h:Fx X w w'):Fx X w w'.drew:=⟨h.os,h.tape,h.output,h.size,h.block⟩
theorem uo(b n:Nat):(⟨b,0,none⟩:Addr).add n=⟨b,n,none⟩:=by
 unfold Addr.add;split
 ·rename_i h0;rw[h0]
 ·simp
theorem Fx.mono{X Y:Nat->Prop}{w w':World}(h:Fx X w w')(hXY:∀b,X b->Y b):Fx Y w w':=⟨h.os,h.tape,h.output,h.size,fun k hk hn=>h.block k hk (fun hx=>hn (hXY k hx))⟩
theorem acE(B S M bs bl len:Nat)(pv nv cm rv cv:Value)(f:Int)(A D:Nat)(row:List ByteArray)(w:World)(h:Sb w S pv nv cm rv (.map (some M)) cv f A D)(hr:w.ownsRow B 9 1 rv row.length (row.map .string))(hin:InR w M row)(hnd:row.Nodup)(hs:w.cell? ⟨bs,0,none⟩=some (.pointer (some ⟨S,0,none⟩)))(hl:w.cell? ⟨bl,0,none⟩=some (.int .i64 (len:Int)))(hle:len<=row.length)(hb:¬bs=M/\¬bl=M/\¬S=M)(hz:∀x∈row,x.size<=maxLen)(hR:row.length<=1048576) :
  Calls prog 96 #[.pointer (some ⟨bs,0,none⟩),.pointer (some ⟨bl,0,none⟩)] w fun e w'=>e=.returned (.tuple #[])/\∃rv',Sb w' S pv nv cm rv' (.map (some M)) cv f A D/\w'.ownsRow B 9 1 rv' len ((row.take len).map .string)/\InR w' M (row.take len)/\Fx (fun b=>b=S\/b=M) w w'/\rv'.ownBlock=rv.ownBlock:=by
 obtain⟨-,⟨c4,c5,-⟩,-⟩:=h.cells;have H:=ae h;have HR:=ae hr;have jT:=ae hin;have jW:=ae hnd;have HZ:=ae hz;have HB:=ae hb;have bP:∀g,rv.ownBlock=some g->¬g=M/\¬g=S:=fun g hg=>by
  rcases hr.2 with⟨rfl,-⟩|⟨g',c,cur,rfl,-,hgb,-⟩
  ·cases hg
  ·obtain rfl:g'=g:=Option.some.inj hg;refine⟨fun e=>?_,fun e=>?_⟩
   ·obtain⟨D',⟨es,cl,h1,-⟩,-⟩:=hin;rw[e,h1]at hgb
    cases hgb
   ·have h1:w.heap[S]?=_:=h;rw[e,h1]at hgb;injection hgb with hgb
    injection hgb with _ hgb
    exact absurd hgb (by decide)
 have jS:=ae bP;have hcp:∃o c,rv=.slice o row.length c/\row.length<=c/\∀i (hi:i<row.length),∃g,o=some ⟨g,0,none⟩/\w.cell? ⟨g,i,none⟩=some (.string row[i]):=by
  rcases hr.2 with⟨rfl,hn0⟩|⟨g,c,cur,rfl,hgB,hgb,hnc,hcm,hcs,hct⟩
  ·exact⟨none,0,by rw[hn0],by omega,fun i hi=>by omega⟩
  ·refine⟨_,c,rfl,hnc,fun i hi=>⟨g,rfl,?_⟩⟩;rw[ah hgb];have:(cur.toList.take (row.length*1))[i]?=some (.string row[i]):=by rw[hct];simp[List.getElem?_eq_getElem hi]
   rw[List.getElem?_take,if_pos (by omega),Array.getElem?_toList]at this;exact this
 obtain⟨o,c,rfl,hnc,hget⟩:=hcp;have HG:=ae hget;have hlo:=acC o row.length c len hle;have hhi:=acD o row.length c len (by omega);obtain⟨o1,ho1⟩:=zN ((if c=len then o else o.map (·.add len)));rw[ho1]at hlo;have dB:=ae ho1;have Ba:Hd ((Value.slice o len c).ownBlock=(Value.slice o row.length c).ownBlock):=by cases o<;>rfl
 have acF:Hd (∀w',Fx (fun b=>b=M) w w'->Sb (w'.setCell ⟨S,4,none⟩ (.slice o len c)) S pv nv cm (.slice o len c) (.map (some M)) cv f A D/\(w'.setCell ⟨S,4,none⟩ (.slice o len c)).ownsRow B 9 1 (.slice o len c) len ((row.take len).map .string)/\Fx (fun b=>b=S) w' (w'.setCell ⟨S,4,none⟩ (.slice o len c))/\Fx (fun b=>b=S\/b=M) w (w'.setCell ⟨S,4,none⟩ (.slice o len c))):=fun w' hf=>by
  have f1:Fx (fun b=>b=S) w' (w'.setCell ⟨S,4,none⟩ (.slice o len c)):=(Fx.refl (fun b=>b=S) w').set (Or.inl rfl) _ _;refine⟨(H.o.fx hf HB.o.2.2).setR _,?_,f1,(Fx.mono (Y:=fun b=>b=S\/b=M) hf fun b hb=>Or.inr hb).set (Or.inl (Or.inl rfl)) _ _⟩;have h1:=jm (jm HR.o hf fun g hg=>(jS.o g hg).1) f1 fun g hg=>(jS.o g hg).2
  rcases h1.2 with⟨h2,h3⟩|⟨g,c',cur,h2,-⟩
  ·injection h2 with a1 _ a3
   have:len=0:=by omega
   subst this;rw[a1,a3];exact⟨by simp,Or.inl ⟨rfl,rfl⟩⟩
  ·injection h2 with a1 _ _
   subst a1;have:=TD h1 hle
   rwa [<-List.map_take]at this
 clear h hr hin hnd hz hb hget ho1 bP;go_enter func96,ntmps96;go_wp2;go_quiet (fail);go_wp2;go_loopw [11] (fun vi wr=>∃i:Nat,vi=.int .i64 i/\i<=row.length-len/\InR wr M (row.take len++row.drop (len+i))/\Fx (fun b=>b=M) w wr) (fun vi _=>row.length-len-(intOf vi).toNat)
 case atStart =>
  refine⟨0,rfl,Nat.zero_le _,?_,⟨rfl,rfl,rfl,Nat.le_refl _,fun _ _ _=>rfl⟩⟩;rw[Nat.add_zero,List.take_append_drop];exact jT.o
 case round =>
  obtain⟨i,rfl,hi,hin,hf⟩:=hrel;have d0:=hf.cell hs HB.o.1;have d1:=hf.cell hl HB.o.2.1;have d4:=hf.cell c4 HB.o.2.2;have d5:=hf.cell c5 HB.o.2.2;have HF:=ae hf
  by_cases hlt:i<row.length-len
  ·have hix:len+i<row.length:=by omega
   obtain⟨g,rfl,e0⟩:=HG.o (len+i) hix;replace e0:=hf.cell e0 (jS.o g rfl).1;obtain rfl:o1=some ⟨g,len,none⟩:=by
    rw[<-dB.o,if_neg (by omega)];exact congrArg some (uo g len)
   obtain⟨D',hD',hh'⟩:=hin;have hsp:row.take len++row.drop (len+i)=row.take len++row[len+i] :: row.drop (len+i+1):=by rw[List.drop_eq_getElem_cons hix]
   have hkey:=Ia (HZ.o row[len+i] (List.getElem_mem _));have TE:Hd ((row.take len++row[len+i] :: row.drop (len+i+1)).Nodup):=by
    rw[<-hsp];exact List.Nodup.sublist (by
     have:(row.take len++row.drop (len+i)).Sublist (row.take len++row.drop len):=List.Sublist.append (List.Sublist.refl _) (by rw[<-List.drop_drop];exact List.drop_sublist _ _)
     rwa [List.take_append_drop]at this) jW.o
   rw[hsp]at hD' hh';obtain⟨x,hx⟩:=zN (row[len+i]);rw[hx]at e0 hD' hh' hkey TE;have Ic:=ae (show(∀y,Maps.has D' (kT y)=iq (row.take len++x :: row.drop (len+i+1)) y)/\Tidy D'/\Maps.size D'<=(row.take len++x :: row.drop (len+i+1)).length from⟨hh',hD'.tidy keyS,hD'.size_le⟩);obtain⟨n,hn⟩:=zN ((row.take len++x :: row.drop (len+i+1)).length);rw[hn]at hD' Ic;have HN:=ae hn;obtain⟨w1,hdel,hown1,ht1⟩:=hD'.drop keyS underlying124 hkey 0;have lu:Hd (Fx (fun b=>b=M) w w1):=HF.o.gb ht1.grown (fun b e=>by cases e;exact Or.inl rfl);have cZ:=ae hown1;clear hh' hsp hx hn hown1 ht1 hf hD';go_wp2;refine⟨⟨i+1,by go_num,by omega,?_,lu.o⟩,by simp[intOf];omega⟩;exact InR.del TE.o HN.o.symm Ic.o.2.1 Ic.o.2.2 Ic.o.1 cZ.o
  ·have hil:i=row.length-len:=by omega
   subst hil;obtain⟨k1,k2,k3,k4⟩:=acF.o wr hf;rw[show len+(row.length-len)=row.length by omega,List.drop_length,List.append_nil]at hin;have HE:=ae (And.intro k1 (And.intro k2 (And.intro (hin.fx k3 (fun e=>HB.o.2.2 e.symm)) k4)));have z4':wr.frozen? ⟨S,4,none⟩=false:=(H.o.fx hf HB.o.2.2).fz 4;clear hin hf k1 k2 k3 k4;go_wp2;go_region_with (fail)
   all_goals (go_wp2;exact bodyPost_end (results_none rfl _ _ _) rfl ⟨rfl,_,HE.o.1,HE.o.2.1,HE.o.2.2.1,HE.o.2.2.2.drew,Ba.o⟩)
open Go.RowKit Go.Maps Go.Joins
def Lx(S M:Nat)(rv:Value)(b:Nat):Prop:=b=S\/b=M\/rv.ownBlock=some b
def LUp(B S M R0 n0:Nat)(pv nv cm cv:Value)(f:Int)(A D:Nat)(o:Option Addr)(rv:Value)(w:World)(r:List ByteArray)(ro:Option Addr)(rc:Nat)(wr:World):Prop :=
 Sb wr S pv nv cm (.slice ro r.length rc) (.map (some M)) cv f A D/\wr.ownsRow B 9 1 (.slice ro r.length rc) r.length (r.map .string)/\InR wr M r/\Fx (Lx S M rv) w wr/\wr.cell? ⟨R0,0,none⟩=some (.pointer (some ⟨S,0,none⟩))/\wr.cell? ⟨R0+1,0,none⟩=some (.int .i64 (n0:Int))/\R0+2<=wr.heap.size/\∀g,ro.map (·.block)=some g->o.map (·.block)=some g\/R0+2<=g
theorem LUp.alloc{B S M R0 n0:Nat}{pv nv cm cv:Value}{f:Int}{A D:Nat}{o:Option Addr}{rv:Value}{w:World}{r:List ByteArray}{ro:Option Addr}{rc:Nat}{wr:World}(h:LUp B S M R0 n0 pv nv cm cv f A D o rv w r ro rc wr)(x:Obj):LUp B S M R0 n0 pv nv cm cv f A D o rv w r ro rc (wr.alloc x):=by
 obtain⟨k1,k2,k3,k4,k5,k6,k7,k8⟩:=h;have hg:wr.grownBy (wr.alloc x) none:=ak (ai wr none) x;have hfx:Fx (fun _=>False) wr (wr.alloc x):=(Fx.refl _ wr).gb hg (fun b e=>by cases e);exact⟨k1.grow hg,jm k2 hfx (fun _ _ h=>h),k3.fx hfx (fun h=>h),k4.gb hg (fun b e=>by cases e),hg.cell k5 (by simp),hg.cell k6 (by simp),by rw[World.size_alloc];omega,k8⟩
theorem LUp.app{B S M R0 n0:Nat}{pv nv cm cv:Value}{f:Int}{A D:Nat}{o:Option Addr}{rv:Value}{w:World}{r:List ByteArray}{ro:Option Addr}{rc g cap:Nat}{WA w1 w3:World}{x:ByteArray}{X:Obj}(h:LUp B S M R0 n0 pv nv cm cv f A D o rv w r ro rc WA)(hw:w.heap.size=R0)(hM:M<R0)(hSR:S<R0)(hSM:¬S=M)(hrv:rv.ownBlock=o.map (·.block))(hlo:∀g,o.map (·.block)=some g->g<R0)(h1:WA.grownBy w1 (some M))(hin:InR w1 M (r++[x]))(ho:w3.ownsRow B 9 1 (.slice (some ⟨g,0,none⟩) (r.length+1) cap) (r.length+1) (r.map .string++[.string x]))(hg:(w1.drew.alloc X).grownBy w3 (Value.slice ro r.length rc).ownBlock)(hat:(Value.slice ro r.length rc).ownBlock=some g\/g=(w1.drew.alloc X).heap.size) :
  LUp B S M R0 n0 pv nv cm cv f A D o rv w (r++[x]) (some ⟨g,0,none⟩) cap (w3.setCell ⟨S,4,none⟩ (.slice (some ⟨g,0,none⟩) (r.length+1) cap)):=by
 obtain⟨k1,k2,k3,k4,k5,k6,k7,k8⟩:=h;have hob:(Value.slice ro r.length rc).ownBlock=ro.map (·.block):=by cases ro<;>rfl
 rw[hob]at hg hat;have hge:∀b,ro.map (·.block)=some b->Lx S M rv b\/R0+2<=b:=fun b hb=>by
  rcases k8 b hb with h|h
  ·exact Or.inl (Or.inr (Or.inr (hrv.trans h)))
  ·exact Or.inr h
 have f1:Fx (fun b=>b=M\/ro.map (·.block)=some b) WA w3:=(((Fx.refl _ WA).gb h1 (fun b e=>by cases e;exact Or.inl (Or.inl rfl))).drew.gb (ak (ai w1.drew none) X) (fun b e=>by cases e)).gb hg (fun b e=>Or.inl (Or.inr e));have hro:∀b,ro.map (·.block)=some b->∃cur,WA.heap[b]?=some (.cells cur 9 (0,0)):=fun b hb=>by
  rcases k2.2 with⟨e,-⟩|⟨g',c',cur,e,-,h2,-⟩
  ·injection e with e _ _
   rw[e]at hb
   cases hb
  ·injection e with e _ _
   rw[e]at hb
   cases hb
   exact⟨cur,h2⟩
 have hS:¬(S=M\/ro.map (·.block)=some S):=by
  rintro(h|h)
  ·exact hSM h
  ·obtain⟨cur,h2⟩:=hro S h;have h3:WA.heap[S]?=_:=k1;rw[h3]at h2;injection h2 with h2
   injection h2 with _ h2
   exact absurd h2 (by decide)
 have hMr:¬ro.map (·.block)=some M:=fun h=>by
  obtain⟨cur,h2⟩:=hro M h;obtain⟨D',⟨es,cl,h3,-⟩,-⟩:=k3;rw[h3]at h2
  cases h2
 have hR:∀k,k<2->¬(R0+k=M\/ro.map (·.block)=some (R0+k)):=fun k hk=>by
  rintro(h|h)
  ·omega
  ·rcases k8 _ h with h|h
   ·have:=hlo _ h;omega
   ·omega
 have s3:Sb w3 S pv nv cm (.slice ro r.length rc) (.map (some M)) cv f A D:=k1.fx f1 hS;have f2:Fx (fun b=>b=S) w3 (w3.setCell ⟨S,4,none⟩ (.slice (some ⟨g,0,none⟩) (r.length+1) cap)):=(Fx.refl (fun b=>b=S) w3).set (Or.inl rfl) _ _;have acG:InR w3 M (r++[x]):=hin.fx (X:=fun b=>ro.map (·.block)=some b) (((Fx.refl _ w1).drew.gb (ak (ai w1.drew none) X) (fun b e=>by cases e)).gb hg (fun b e=>Or.inl e)) hMr;have vP:¬g=S:=by
  rintro rfl
  rcases ho.2 with⟨e,-⟩|⟨g',c',cur,e,-,h2,-⟩
  ·cases e
  ·cases e
   have h3:w3.heap[g]?=_:=s3;rw[h3]at h2;injection h2 with h2
   injection h2 with _ h2
   exact absurd h2 (by decide)
 have hsz:WA.heap.size<=w3.heap.size:=f1.size;refine⟨?_,?_,acG.fx f2 (fun e=>hSM e.symm),?_,?_,?_,?_,?_⟩
 ·rw[List.length_append];exact s3.setR _
 ·rw[List.length_append,List.map_append];exact jm ho f2 (fun g' e=>by cases e;exact vP)
 ·refine(((k4.gb h1 (fun b e=>by cases e;exact Or.inl (Or.inr (Or.inl rfl)))).drew.gb (ak (ai w1.drew none) X) (fun b e=>by cases e)).gb hg (fun b e=>?_)).set (Or.inl (Or.inl rfl)) _ _
  rcases hge b e with h|h
  ·exact Or.inl h
  ·exact Or.inr (by omega)
 ·exact f2.cell (f1.cell k5 (hR 0 (by omega))) (by omega)
 ·exact f2.cell (f1.cell k6 (hR 1 (by omega))) (by omega)
 ·have:(w3.setCell ⟨S,4,none⟩ (.slice (some ⟨g,0,none⟩) (r.length+1) cap)).heap.size=w3.heap.size:=by simp[World.setCell]
  omega
 ·intro g' e;obtain rfl:g=g':=Option.some.inj e
  rcases hat with h|h
  ·exact k8 g h
  ·right;have h1':=h1.size;have:(w1.drew.alloc X).heap.size=w1.heap.size+1:=World.size_alloc _ _;omega
theorem TF(B S M ng nc:Nat)(pv nv cm rv cv:Value)(f:Int)(A D:Nat)(row ns:List ByteArray)(w:World)(h:Sb w S pv nv cm rv (.map (some M)) cv f A D)(hr:w.ownsRow B 9 1 rv row.length (row.map .string))(hin:InR w M row)(hSM:¬S=M)(hB:B<=w.heap.size)(hns:∀i (hi:i<ns.length),w.cell? ⟨ng,i,none⟩=some (.string ns[i]))(EL:¬Lx S M rv ng)(hnc:ns.length<=nc)(hz:∀x∈ns,x.size<=maxLen)(hR:row.length+ns.length<=1048576) :
  Calls prog 57 #[.pointer (some ⟨S,0,none⟩),.slice (some ⟨ng,0,none⟩) ns.length nc] w fun e w'=>∃bs bl rv',e=.returned (.func (.func 96) #[] #[.pointer (some ⟨bs,0,none⟩),.pointer (some ⟨bl,0,none⟩)])/\(w.heap.size<=bs/\w.heap.size<=bl/\w'.cell? ⟨bs,0,none⟩=some (.pointer (some ⟨S,0,none⟩))/\w'.cell? ⟨bl,0,none⟩=some (.int .i64 (row.length:Int))/\rv'.ownBlock≠some bs/\rv'.ownBlock≠some bl)/\Sb w' S pv nv cm rv' (.map (some M)) cv f A D/\w'.ownsRow B 9 1 rv' (aU row ns).length ((aU row ns).map .string)/\InR w' M (aU row ns)/\Fx (Lx S M rv) w w'/\(∀g,rv'.ownBlock=some g->rv.ownBlock=some g\/w.heap.size<=g):=by
 obtain⟨-,⟨c4,c5,-⟩,-⟩:=h.cells;have H:=ae h;have HR:=ae hr;have jT:=ae hin;obtain⟨o,c,rfl⟩:=mY hr;obtain⟨R0,hR0⟩:=zN w.heap.size;have HR0:=ae hR0;obtain⟨W1,hW1⟩:=zN (w.alloc (.cells #[.pointer (some ⟨S,0,none⟩)] 72));have hg1:w.grownBy W1 none:=by rw[<-hW1];exact ak (ai w none) _
 have hs1:W1.heap.size=R0+1:=by rw[<-hW1,World.size_alloc,hR0]
 have hb1:W1.heap[R0]?=some (.cells #[.pointer (some ⟨S,0,none⟩)] 72 (0,0)):=by rw[<-hW1,<-hR0];exact heap_alloc_new w _
 have b0:W1.cell? ⟨R0,0,none⟩=some (.pointer (some ⟨S,0,none⟩)):=by rw[ah hb1];rfl
 have b4:=hg1.cell c4 (by simp);have HW1:=ae (And.intro hg1 (And.intro hs1 hb1));have lT:M<R0:=by
  obtain⟨D',hD',-⟩:=hin;have:=hD'.lt;omega
 have hMR:¬R0=M:=by omega
 have yX:Hd ((∀g,o.map (·.block)=some g->g<R0)/\S<R0/\M<R0):=by
  refine⟨fun g hg=>?_,by rw[<-hR0];exact(aC h),lT⟩
  rcases hr.2 with⟨e,-⟩|⟨g',c',cur,e,-,h2,-⟩
  ·injection e with e _ _
   rw[e]at hg
   cases hg
  ·injection e with e _ _
   rw[e]at hg
   cases hg
   rw[<-hR0];exact(aC h2)
 have HMR:=ae hMR;clear h hr hin hg1 hb1 hMR lT;have xQ:=ae hns;have bC:=ae EL;have HZ:=ae hz;have HC5:=ae c5;have Ht:Hd (Sb (W1.alloc (.cells #[.int .i64 (row.length:Int)] 3)) S pv nv cm (.slice o row.length c) (.map (some M)) cv f A D/\(W1.alloc (.cells #[.int .i64 (row.length:Int)] 3)).ownsRow B 9 1 (.slice o row.length c) row.length (row.map .string)/\InR (W1.alloc (.cells #[.int .i64 (row.length:Int)] 3)) M row/\Fx (Lx S M (.slice o row.length c)) w (W1.alloc (.cells #[.int .i64 (row.length:Int)] 3))/\(W1.alloc (.cells #[.int .i64 (row.length:Int)] 3)).cell? ⟨R0,0,none⟩=some (.pointer (some ⟨S,0,none⟩))/\(W1.alloc (.cells #[.int .i64 (row.length:Int)] 3)).cell? ⟨R0+1,0,none⟩=some (.int .i64 (row.length:Int))/\R0+2<=(W1.alloc (.cells #[.int .i64 (row.length:Int)] 3)).heap.size):=by
  obtain⟨hg1,hs1,hb1⟩:=HW1.o;have hg2:w.grownBy (W1.alloc (.cells #[.int .i64 (row.length:Int)] 3)) none:=ag hg1 (ak (ai W1 none) _);have hfx:Fx (fun _=>False) w (W1.alloc (.cells #[.int .i64 (row.length:Int)] 3)):=(Fx.refl _ w).gb hg2 (fun b e=>by cases e);have hbl:=heap_alloc_new W1 (.cells #[.int .i64 (row.length:Int)] 3);rw[hs1]at hbl;refine⟨H.o.grow hg2,jm HR.o hfx (fun _ _ h=>h),jT.o.fx hfx (fun h=>h),hfx.mono (fun _ h=>h.elim),(ak (ai W1 none) _).cell b0 (by simp),by rw[ah hbl];rfl,by rw[World.size_alloc,hs1];omega⟩
 clear hns EL hz c5;go_enter func57,ntmps57;go_wp2;go_loopw [17] (fun vi wr=>∃(i:Nat) (ro:Option Addr) (rc:Nat),vi=.int .i64 i/\i<=ns.length/\LUp B S M R0 row.length pv nv cm cv f A D o (.slice o row.length c) w (aU row (ns.take i)) ro rc wr) (fun vi _=>ns.length-(intOf vi).toNat)
 case atStart =>
  obtain⟨k1,k2,k3,k4,k5,k6,k7⟩:=Ht.o;exact⟨0,o,c,rfl,Nat.zero_le _,k1,k2,k3,k4,k5,k6,k7,fun g h=>Or.inl h⟩
 case round =>
  obtain⟨i,ro,rc,rfl,hi,Ll⟩:=hrel;obtain⟨wo,hwo⟩:∃wo,wo=wr:=⟨_,rfl⟩;subst hwo;have EM:=ae Ll;obtain⟨hS,hrow,hin,hf,hb0,hb1,hsz,hfr⟩:=Ll
  by_cases hlt:i<ns.length
  ·have e0:=hf.cell (xQ.o i hlt) bC.o;obtain⟨-,⟨d4,d5,-⟩,-⟩:=hS.cells;obtain⟨D',hD',hh'⟩:=hin;have hkey:=Ia (HZ.o ns[i] (List.getElem_mem _));have eP:Hd (aU row (ns.take (i+1))=if iq (aU row (ns.take i)) ns[i]=true then aU row (ns.take i) else aU row (ns.take i)++[ns[i]]):=by
    show _=_;rw[List.take_succ_eq_append_getElem hlt,H9]
   have hh:=hh' ns[i];obtain⟨x,hx⟩:=zN (ns[i]);rw[hx]at e0 hkey eP hh;have HLEN:=ae (xP (ns.take i) row);have TG:=ae hh';obtain⟨r,hr⟩:=zN (aU row (ns.take i));rw[hr]at d4 hD' eP hh EM HLEN TG;obtain⟨q,hq⟩:=zN (Maps.has D' (kT x));rw[hq]at hh;rw[<-hh]at eP;have ajT:i<nc:=by omega
   clear hS hrow hf hb1 hfr hh' hh hx hr
   cases q with
   | true =>
    go_wp2_with (first|(at_lookup;refine wpList_lookup_own_unit _ rfl _ _ 124 rfl 9 160 keyS underlying124 (Hl _) M r.length _ rfl hD' _ _ rfl hkey ?_;rw[hq])|go_in);exact⟨⟨i+1,ro,rc,by go_num,by omega,by rw[eP.o,if_pos rfl];exact EM.o.alloc _⟩,by simp[intOf];omega⟩
   | false =>
    have hrl:r.length<=1048576:=by
     have:=HLEN.o;rw[List.length_take]at this;omega
    obtain⟨WA,hWA⟩:=zN (wo.alloc (.cells #[] 160));have lU:=ae (EM.o.alloc (.cells #[] 160));have Lm:=hD'.alloc (.cells #[] 160);rw[hWA]at lU Lm;have a0:=lU.o.2.2.2.2.1;obtain⟨-,⟨a4,a5,-⟩,-⟩:=lU.o.1.cells;have vS:=ae (Lm.isMap);go_wp2_with (first|(at_lookup;refine wpList_lookup_own_unit _ rfl _ _ 124 rfl 9 160 keyS underlying124 (Hl _) M r.length _ rfl hD' _ _ rfl hkey ?_;rw[hq])|(at_mapUpdate;refine wpList_mapUpdate_own _ rfl _ _ _ 124 rfl 9 160 keyS underlying124 (unitElem (H:=Unit)) M r.length _ rfl Lm (by unfold maxLen;omega) _ _ _ rfl rfl hkey _ [] unitElem_mk ?_;intro w1 hown1 hgrow1;have f0:=hgrow1.cell a0 (by simpa using HMR.o);have f4:=hgrow1.cell a4 (by simpa using hSM))|go_in);obtain⟨i0,hi0,hii⟩:=Option.map_eq_some_iff.1 H7;simp only[Prod.mk.injEq]at hii;obtain⟨hz0,hz1,hzb⟩:=hii;have Lp:∀b,(Value.slice ro r.length rc).ownBlock=some b->¬b=M/\¬b=S:=fun b hb=>by
     rcases lU.o.2.1.2 with⟨e,-⟩|⟨g',c',cur,e,-,h2,-⟩
     ·rw[e]at hb;cases hb
     ·rw[e]at hb;obtain rfl:g'=b:=Option.some.inj hb;refine⟨fun e=>?_,fun e=>?_⟩
      ·obtain⟨D2,⟨es,cl,h3,-⟩,-⟩:=lU.o.2.2.1;rw[e,h3]at h2
       cases h2
      ·have h3:WA.heap[S]?=_:=lU.o.1;rw[e,h3]at h2;injection h2 with h2
       injection h2 with _ h2
       exact absurd h2 (by decide)
    have Lr:Fx (fun b=>b=M) WA w1:=(Fx.refl _ WA).gb hgrow1 (fun b e=>by cases e;exact Or.inl rfl);have hrow1:=jm lU.o.2.1 Lr (fun b hb=>(Lp b hb).1);have acH:Hd (InR w1 M (r++[x])):=InR.put rfl vS.o TG.o hown1;have bg:=ae hgrow1;have TI:w1.heap[S]?=_:=lU.o.1.fx Lr hSM;have xR:=ae TI;have Bo:Hd (some S≠(Value.slice ro r.length rc).ownBlock):=fun e=>(Lp S e.symm).2 rfl
    have zn:Hd (some R0≠(Value.slice ro r.length rc).ownBlock):=fun e=>by
     have hob:(Value.slice ro r.length rc).ownBlock=ro.map (·.block):=by cases ro<;>rfl
     rw[hob]at e
     rcases lU.o.2.2.2.2.2.2.2 R0 e.symm with h|h
     ·have:=yX.o.1 R0 h;omega
     ·omega
    obtain⟨K,hK⟩:=zN (w1.heap.size);have Lt:Hd ((w1.drew.alloc (.cells #[.string x] 9)).heap[K]?=some (.cells #[.string x] 9 (0,0))):=by
     have:=heap_alloc_new w1.drew (.cells #[.string x] 9);rw[show w1.drew.heap.size=K from hK]at this;exact this
    have hBK:B<=K:=by
     have h1:=bg.o.size;have h2:=lU.o.2.2.2.2.2.2.1;have h3:=HR0.o;omega
    have hone:∀u∈([.string x]:List Value),u.oneCell'=true:=by simp[Value.oneCell']
    have f4A:=(World.grownBy_alloc w1 (.cells #[.string x] 9) none).cell f4 (by simp);have f0A:=(World.grownBy_alloc w1 (.cells #[.string x] 9) none).cell f0 (by simp);obtain⟨ys,hys⟩:∃ys:List Value,r.map .string=ys:=⟨_,rfl⟩;have Lu:=ae hys;rw[hys]at hrow1;clear hys hown1 hgrow1 Lp Lr TI
    go_region_law (refine step_append_lies _ (by rfl) _ _ _ (by rfl) B 9 i0 _ 1 16 underlying67 hi0 hz0 hz1 hzb (by rfl) (by decide) (.slice ro r.length rc) r.length ys (by rfl) (hrow1.drew.alloc _) ⟨K,0,none⟩ 1 1 [.string x] (by rfl) (by rfl) (World.news_of_block Lt.o) hone (by omega) (by unfold maxLen;omega) (by omega) (by simp;omega) _ rfl ?_;intro g cap w3 hown3 hgrow hat hlt3;have hc3:=hgrow.cell f4A Bo.o;have hc0:=hgrow.cell f0A zn.o;have acI:w3.frozen? ⟨S,4,none⟩=false:=Lib.frozen_of_heap ((hgrow.block S (Nat.lt_of_lt_of_le (aC xR.o) (World.grownBy_alloc w1 (.cells #[.string x] 9) none).size) Bo.o).trans (((World.grownBy_alloc w1 (.cells #[.string x] 9) none).block S (aC xR.o) (by simp)).trans xR.o)) 4)
    all_goals (go_wp2;exact⟨⟨i+1,some ⟨g,0,none⟩,cap,by go_num,by omega,by rw[eP.o,if_neg (by simp)];exact lU.o.app HR0.o yX.o.2.2 yX.o.2.1 hSM (by cases o<;>rfl) yX.o.1 bg.o acH.o (by rw[Lu.o];exact hown3) hgrow hat⟩,by simp[intOf];omega⟩)
  ·obtain rfl:i=ns.length:=by omega
   rw[List.take_length]at EM;have hmf:∀(fn:Fn) (first cap:Array Value) (w:World),(Instr.makeFunc fn first cap).run prog w=.ok (.func fn first cap) w:=fun _ _ _ _=>rfl
   clear hS hrow hin hf hb0 hb1 hfr;go_wp2;go_ret;obtain⟨k1,k2,k3,k4,k5,k6,k7,k8⟩:=EM.o;have hob:(Value.slice ro (aU row ns).length rc).ownBlock=ro.map (·.block):=by cases ro<;>rfl
   have hoc:(Value.slice o row.length c).ownBlock=o.map (·.block):=by cases o<;>rfl
   have bP:∀k,k<2->(Value.slice ro (aU row ns).length rc).ownBlock≠some (R0+k):=fun k hk e=>by
    rw[hob]at e
    rcases k8 _ e with h|h
    ·have:=yX.o.1 _ h;omega
    ·omega
   refine⟨R0,R0+1,_,rfl,⟨by rw[HR0.o];exact Nat.le_refl _,by rw[HR0.o];omega,k5,k6,bP 0 (by omega),bP 1 (by omega)⟩,k1,k2,k3,k4,fun g hg=>?_⟩;rw[hob]at hg;rw[hoc]
   rcases k8 g hg with h|h
   ·exact Or.inl h
   ·exact Or.inr (by rw[HR0.o];omega)
open Go.RowKit Go.Maps Go.Joins
theorem Ie:(prog.info? 3).map (fun i=>(i.zero,i.size,i.bytes))=some (some (.int .i64 0),1,8):=by kernel_rfl
theorem oW{w w':World}(h:w.grownBy w' none):w.grownBy w'.drew none:=⟨h.os,h.tape,h.output,h.size,h.block⟩
theorem TJ(W:World){R:Nat}(h:W.heap.size=R)(x y:Value)(t:TypeId):((W.alloc (.cells #[x] t)).alloc (.cells #[y] t)).cell? ⟨R,0,none⟩=some x/\((W.alloc (.cells #[x] t)).alloc (.cells #[y] t)).cell? ⟨R+1,0,none⟩=some y/\W.grownBy ((W.alloc (.cells #[x] t)).alloc (.cells #[y] t)) none/\((W.alloc (.cells #[x] t)).alloc (.cells #[y] t)).heap.size=R+2:=by
 have s1:(W.alloc (.cells #[x] t)).heap.size=R+1:=by rw[World.size_alloc,h]
 have h1:=heap_alloc_new W (.cells #[x] t);have h2:=heap_alloc_new (W.alloc (.cells #[x] t)) (.cells #[y] t);rw[h]at h1;rw[s1]at h2;refine⟨(ak (ai _ none) _).cell (by rw[ah h1];rfl) (by simp),by rw[ah h2];rfl,ak (ak (ai W none) _) _,by rw[World.size_alloc,s1]⟩
def Cs(B S M R0 p q k:Nat)(pv nv cm rv:Value)(f:Int)(A D A1 D1:Nat)(cv:Value)(w:World)(ch:List Nat)(wx:World):Prop:=∃g cap,Sb wx S pv nv cm rv (.map (some M)) (.slice (some ⟨g,0,none⟩) (ch.length+1) cap) f A1 D1/\wx.ownsRow B 3 1 (.slice (some ⟨g,0,none⟩) (ch.length+1) cap) (ch.length+1) ((ch++[k]).map fun(j:Nat)=>Value.int .i64 (j:Int))/\Fx (fun b=>b=S\/cv.ownBlock=some b) w wx/\wx.cell? ⟨R0,0,none⟩=some (.pointer (some ⟨S,0,none⟩))/\wx.cell? ⟨p,0,none⟩=some (.int .u64 (A:Int))/\wx.cell? ⟨q,0,none⟩=some (.int .u64 (D:Int))/\R0+3<=wx.heap.size/\(cv.ownBlock=some g\/R0+3<=g)
theorem acJ{B S M R0 p q k g cap:Nat}{pv nv cm rv cv:Value}{f:Int}{A D A1 D1:Nat}{ch:List Nat}{w wc w3:World}{X:Obj}(hw:w.heap.size=R0)(h:Sb wc S pv nv cm rv (.map (some M)) cv f A1 D1)(hg:w.grownBy wc none)(x0:wc.cell? ⟨R0,0,none⟩=some (.pointer (some ⟨S,0,none⟩)))(m1:wc.cell? ⟨p,0,none⟩=some (.int .u64 (A:Int)))(m2:wc.cell? ⟨q,0,none⟩=some (.int .u64 (D:Int)))(hp:R0+1<=p)(hq:R0+1<=q)(hs:R0+3<=wc.heap.size)(hSR:S<R0)(bP:∀b,cv.ownBlock=some b->¬b=S/\b<R0)(ho:w3.ownsRow B 3 1 (.slice (some ⟨g,0,none⟩) (ch.length+1) cap) (ch.length+1) ((ch.map fun(j:Nat)=>Value.int .i64 (j:Int))++[.int .i64 (k:Int)]))(hgr:(wc.drew.alloc X).grownBy w3 cv.ownBlock)(hat:cv.ownBlock=some g\/g=(wc.drew.alloc X).heap.size) :
  Cs B S M R0 p q k pv nv cm rv f A D A1 D1 cv w ch (w3.setCell ⟨S,6,none⟩ (.slice (some ⟨g,0,none⟩) (ch.length+1) cap)):=by
 have f1:Fx (fun b=>cv.ownBlock=some b) wc w3:=((Fx.refl _ wc).drew.gb (ak (ai wc.drew none) X) (fun b e=>by cases e)).gb hgr (fun b e=>Or.inl e);have f2:Fx (fun b=>b=S) w3 (w3.setCell ⟨S,6,none⟩ (.slice (some ⟨g,0,none⟩) (ch.length+1) cap)):=(Fx.refl (fun b=>b=S) w3).set (Or.inl rfl) _ _;have f0:Fx (fun b=>b=S\/cv.ownBlock=some b) w wc:=(Fx.refl _ w).gb hg (fun b e=>by cases e);have s3:=h.fx f1 (fun e=>(bP S e).1 rfl);have keep:∀{b:Nat} {v:Value},R0<=b->wc.cell? ⟨b,0,none⟩=some v->(w3.setCell ⟨S,6,none⟩ (.slice (some ⟨g,0,none⟩) (ch.length+1) cap)).cell? ⟨b,0,none⟩=some v:=fun hb hv=>f2.cell (f1.cell hv (fun e=>by have:=(bP _ e).2;omega)) (by omega)
 have vP:¬g=S:=by
  rintro rfl
  rcases ho.2 with⟨e,-⟩|⟨g',c',cur,e,-,h2,-⟩
  ·cases e
  ·cases e
   have h3:w3.heap[g]?=_:=s3;rw[h3]at h2;injection h2 with h2
   injection h2 with _ h2
   exact absurd h2 (by decide)
 have sz:=f1.size;refine⟨g,cap,s3.setC _,?_,(f0.trans ((f1.mono fun b hb=>Or.inr hb).trans (f2.mono fun b hb=>Or.inl hb))),keep (Nat.le_refl _) x0,keep (by omega) m1,keep (by omega) m2,?_,?_⟩
 ·rw[List.map_append];exact jm ho f2 (fun g' e=>by cases e;exact vP)
 ·have:(w3.setCell ⟨S,6,none⟩ (.slice (some ⟨g,0,none⟩) (ch.length+1) cap)).heap.size=w3.heap.size:=by simp[World.setCell]
  omega
 ·rcases hat with h|h
  ·exact Or.inl h
  ·right;have:(wc.drew.alloc X).heap.size=wc.heap.size+1:=World.size_alloc _ _;omega
open Go.RowKit Go.Maps
def nZ(n:Nat):DataW Unit:=.lit (.int .i64 (n:Int))
theorem Bq{a b:Nat}(h:nZ a=nZ b):a=b:=by
 unfold nZ at h;injection h with h
 injection h with _ h
 omega
def jo(v:Value):Option (DataW Unit × List MemPlace) :=
 match v with
 | .slice none n c=>some (.agg [nZ n,nZ c],[])
 | .slice (some ⟨b,o,none⟩) n c=>some (.agg [nZ n,nZ c,nZ b,nZ o],[])
 | _=>none
theorem TK{v v':Value}{d:DataW Unit}{ps ps':List MemPlace}(h:jo v=some (d,ps))(h':jo v'=some (d,ps')):v=v':=by
 unfold jo at h h';split at h
 ·injection h with h
  injection h with h _
  split at h'
  ·injection h' with h'
   injection h' with h' _
   rw[<-h]at h';injection h' with h'
   injection h' with h1 h2
   injection h2 with h2 _
   rw[Bq h1,Bq h2]
  ·injection h' with h'
   injection h' with h' _
   rw[<-h]at h';injection h' with h'
   injection h' with _ h'
   injection h' with _ h'
   cases h'
  ·cases h'
 ·injection h with h
  injection h with h _
  split at h'
  ·injection h' with h'
   injection h' with h' _
   rw[<-h]at h';injection h' with h'
   injection h' with _ h'
   injection h' with _ h'
   cases h'
  ·injection h' with h'
   injection h' with h' _
   rw[<-h]at h';injection h' with h'
   injection h' with h1 h2
   injection h2 with h2 h3
   injection h3 with h3 h4
   injection h4 with h4 _
   rw[Bq h1,Bq h2,Bq h3,Bq h4]
  ·cases h'
 ·cases h
def vT:DataW Unit:=.agg [nZ 0,nZ 0]
open Go.RowKit Go.Maps Go.Sort Go.Shelf
attribute [local go_sem] Oper.semAt_some
theorem acK{P:Program}{n:Nat}{g:Operand}{ps:Array Tmp}{assign body:Code}{Q:Exit->Act->World->Prop}{a:Act}{w:World}{gf:Nat}{lb:Array Value}
  (hg:a.eval g=.func (.func gf) #[] lb) (eg:∀args w,(callFunc gf args).run P w=.ok (.enter gf args) w)
  (h:∀(r:Loop) (W4:World),r.state=.ready->r.pending=none->r.params=ps->r.assign=assign->r.body=body->r.tmps=a.tmps->(w.alloc (.deferred (some []))).alloc (.loop r)=W4 →
   CallsIn Fence.wide (n-1) P gf (#[.func (.yield (w.heap.size+1)) #[] #[]]++lb) W4 (rangePost Fence.wide n P (w.heap.size+1) Q { a with defers:=[{ target:=.collected w.heap.size,args:=#[] }]++a.defers })) :
  (Code.rangeFunc g ps assign body).wpIn Fence.wide n P Q a w:=by
 refine wpIn_rangeFunc ?_;intro fn hfn;obtain⟨r,hr⟩:∃r:Loop,r={ state:=.ready,pending:=none,fn:=fn,tmps:=a.tmps,params:=ps,assign:=assign,body:=body,defers:=w.heap.size }:=⟨_,rfl⟩;obtain⟨W1,hW1⟩:=zN ((w.alloc (.deferred (some []))).alloc (.loop r));have hc:=h r W1 (by rw[hr]) (by rw[hr]) (by rw[hr]) (by rw[hr]) (by rw[hr]) (by rw[hr]) hW1;have e1:(Instr.enterLoop fn a.tmps ps assign body Fence.wide.round).run P w=.ok (w.heap.size+1,[{ target:=.collected w.heap.size,args:=#[] }]) W1:=by
  rw[<-hW1,hr,show Fence.wide.round=none from rfl];exact run_enterLoop_outer _ _ _ _ _
 have e2:(resolve a.eval (rangeCall g (w.heap.size+1)) 0).run P W1=.ok { target:=.fn (.func gf) lb,args:=#[.func (.yield (w.heap.size+1)) #[] #[]] } W1:=by
  simp only[resolve,hg];simp[go_sem]
 have e3:(invoke (.fn (.func gf) lb) #[.func (.yield (w.heap.size+1)) #[] #[]]).run P W1=.ok (.enter gf (#[.func (.yield (w.heap.size+1)) #[] #[]]++lb)) W1:=by
  simp[invoke,go_sem,eg]
 have e4:Fence.wide.depth.isSome=true->1<=n:=by
  intro hd;simp[Fence.wide]at hd
 clear h hr;refine⟨w.heap.size+1,[{ target:=.collected w.heap.size,args:=#[] }],W1,{ target:=.fn (.func gf) lb,args:=#[.func (.yield (w.heap.size+1)) #[] #[]] },W1,gf,#[.func (.yield (w.heap.size+1)) #[] #[]]++lb,W1,e1,?_⟩;refine⟨e2,?_⟩;refine⟨fun _ _=>trivial,?_⟩;refine⟨e3,?_⟩;refine⟨e4,?_⟩;exact hc
theorem acL(r:Loop)(h1:r.state=.ready)(h2:r.pending=none):({ ({ r with state:=.busy }:Loop) with state:=if(none:Option Code).isNone then .ready else .done,pending:=none }:Loop)=r:=by
 cases r
 simp at h1 h2;simp[h1,h2]
theorem acM{P:Program}{n l:Nat}{r:Loop}{args:Array Value}{W1:World}{R:Ending->World->Prop}(hl:W1.heap[l]?=some (.loop r))(hps:args.size=r.params.size)
  (h:r.assign.wpIn (Fence.wide.inRound l) n P (Exit.then (fun a₁ w₁=>∃w₂,(Instr.beginRound l).run P w₁=.ok () w₂/\r.body.wpIn (Fence.wide.inRound l) n P (roundPost P l R) a₁ w₂) (fun _ _ _=>False))
   { tmps:=(r.params.zip args).foldl (fun tmps (t,a)=>tmps.setIfInBounds t a) r.tmps,defers:=[] } W1) :
  YieldAt Fence.wide n P l args W1 R:=⟨_,_,_,_,run_yield hl hps,roundIn_of_wpIn trivial h⟩
theorem acN(o:Option Addr)(n c:Nat)(w:World):Calls prog 62 #[.slice o n c] w fun e w'=>e=.returned (.func (.func 102) #[] #[.pointer (some ⟨w.heap.size,0,none⟩)])/\w'=w.alloc (.cells #[.slice o n c] 31):=by
 go_enter func62,ntmps62;go_wp2;go_ret;exact⟨rfl,rfl⟩
theorem acO(n l bm:Nat)(hn:1<=n)(o:Option Addr)(c:Nat)(L:List Int)(hL:L.length<=1048576)(J:List Int->World->Prop)
  (hc:∀pre W,J pre W->W.cell? ⟨bm,0,none⟩=some (.slice o L.length c)/\IS W (.slice o L.length c) L)
  (hY:∀pre x W,J pre W->pre.length<L.length->YieldAt Fence.wide (n-1) prog l #[.int .i64 x] W fun e W'=>e=.returned (.bool true)/\J (pre++[x]) W') (W:World) (h0:J [] W) :
  CallsIn Fence.wide n prog 102 #[.func (.yield l) #[] #[],.pointer (some ⟨bm,0,none⟩)] W fun e W'=>(∃v,e=.returned v)/\J L W':=by
 refine callsIn_of_wp func102 rfl trivial ?_ rfl;simp only[ntmps102,List.size_toArray,List.length_cons,List.length_nil,Nat.reduceAdd,Nat.reduceSub,Array.replicate_succ,Array.replicate_zero,List.push_toArray,List.append_toArray,List.nil_append,List.cons_append];obtain⟨m0,-⟩:=hc [] W h0
 gi_wp2
 clear m0
 gi_loopw [7] (fun vi wr=>∃i:Nat,vi=.int .i64 i/\i<=L.length/\J (L.take i) wr) (fun vi _=>L.length-(intOf vi).toNat)
 case atStart=>exact⟨0,rfl,Nat.zero_le _,h0⟩
 case round =>
  obtain⟨i,rfl,hi,hJ⟩:=hrel;have HJ:=ae hJ
  by_cases hlt:i<L.length
  ·obtain⟨m1,m2⟩:=hc _ _ hJ;obtain⟨a,rfl,hcv,hat⟩:=rU m2 hlt;have e0:=hat i hlt;obtain⟨x,hx⟩:=zN (L[i]);rw[hx]at e0;obtain⟨fn,tmps,assign,body,hy,hR⟩:=hY (L.take i) x wr hJ (by simp;omega);have iU:Hd (L.take i++[x]=L.take (i+1)):=by
    show _=_;rw[List.take_succ_eq_append_getElem hlt,hx]
   clear m1 m2 hat hx hJ
   gi_wp2
   refine hR.mono ?_;rintro e W3 ⟨rfl,hJ3⟩;have uq:Hd (J (L.take (i+1)) W3):=by show J _ _;rw[<-iU.o];exact hJ3
   clear hJ3
   gi_wp2
   exact⟨⟨i+1,by go_num,by omega,uq.o⟩,by simp[intOf];omega⟩
  ·have hil:i=L.length:=by omega
   have uq:Hd (J L wr):=by
    rw[hil,List.take_length]at hJ;exact hJ
   clear hJ hil hi
   gi_wp2
   go_end0
   exact⟨⟨_,rfl⟩,uq.o⟩
theorem Bv(W:World)(l:Nat)(o:Obj):W.grownBy (W.putObj l o) (some l) :=
 ⟨rfl,rfl,rfl,by simp,fun k _ hk=>World.putObj_heap_other (fun e=>hk (by rw[e]))⟩
theorem acP(bm:Nat)(o:Option Addr)(c:Nat)(L:List Int)(hL:L.length<=1048576)(w:World)(hbm:w.heap[bm]?=some (.cells #[.slice o L.length c] 31 (0,0)))(htx:IS w (.slice o L.length c) L) :
  CallsIn Fence.wide 4 prog 125 #[.slice none 0 0,.func (.func 102) #[] #[.pointer (some ⟨bm,0,none⟩)]] w fun e w'=>∃v,e=.returned v/\w'.ownsRow w.heap.size 3 1 v L.length (L.map (Value.int .i64))/\Below w.heap.size w w':=by
 have rV:=Ie;obtain⟨j0,hj0,hjj⟩:=Option.map_eq_some_iff.1 rV;simp only[Prod.mk.injEq]at hjj;obtain⟨hy0,hy1,hyb⟩:=hjj;clear rV;have TL:Hd (w.heap[bm]?=some (.cells #[.slice o L.length c] 31 (0,0))/\IS w (.slice o L.length c) L):=⟨hbm,htx⟩;have hbl:=(aC hbm);clear hbm htx;refine callsIn_of_wp_marks func125 rfl trivial ?_ rfl;simp only[ntmps125,List.size_toArray,List.length_cons,List.length_nil,Nat.reduceAdd,Nat.reduceSub,Array.replicate_succ,Array.replicate_zero,List.push_toArray,List.append_toArray,List.nil_append,List.cons_append]
 gi_wp2
 refine acK (gf:=102) (lb:=#[.pointer (some ⟨bm,0,none⟩)]) rfl (enters_of func102 (by kernel_rfl) rfl) ?_;intro r W4 hr1 hr2 hr3 hr4 ja hr6 iO;obtain⟨B,hB⟩:=zN (w.heap.size);have hs1:(w.alloc (.cells #[.slice none 0 0] 31)).heap.size=B+1:=by rw[World.size_alloc,hB]
 rw[hs1];have q0:W4.heap[B]?=some (.cells #[.slice none 0 0] 31 (0,0)):=by
  rw[<-iO,Below.heap_alloc _ _ _ (by simp;omega),Below.heap_alloc _ _ _ (by simp;omega),<-hB];exact heap_alloc_new w _
 have qd:W4.heap[B+1]?=some (.deferred (some [])):=by
  rw[<-iO,Below.heap_alloc _ _ _ (by simp;omega),<-hs1];exact heap_alloc_new _ _
 have ql:W4.heap[B+2]?=some (.loop r):=by
  rw[<-iO];have:=heap_alloc_new ((w.alloc (.cells #[.slice none 0 0] 31)).alloc (.deferred (some []))) (.loop r);rw[World.size_alloc,hs1]at this;exact this
 have b4:Below w.heap.size w W4:=by
  rw[<-iO];exact(((Below.refl _ _).alloc (Nat.le_refl _) _).alloc (by simp) _).alloc (by simp;omega) _
 have HB:=ae hB;clear iO hs1;have hbB:bm<B:=by omega
 have hcl:∀W,Below w.heap.size w W->W.cell? ⟨bm,0,none⟩=some (.slice o L.length c)/\IS W (.slice o L.length c) L:=fun W hb=>by
  refine⟨?_,TL.o.2.grow (gz hb)⟩;rw[ah ((hb.block bm hbl).trans TL.o.1)];rfl
 refine(acO 3 (B+2) bm (by omega) o c L hL (fun pre W=>(∃v,W.heap[B]?=some (.cells #[v] 31 (0,0))/\W.ownsRow w.heap.size 3 1 v pre.length (pre.map (Value.int .i64)))/\W.heap[B+2]?=some (.loop r)/\W.heap[B+1]?=some (.deferred (some []))/\Below w.heap.size w W)
  (fun pre W h=>hcl W h.2.2.2) ?yl W4 ⟨⟨_,q0,World.ownsRow_nil _ _ _ _⟩,ql,qd,b4⟩).mono ?fin
 case fin =>
  rintro e W5 ⟨⟨v,rfl⟩,⟨v5,qv,qr⟩,q2,q3,q4⟩;obtain⟨W6,mZ⟩:=zN (W5.putObj (B+2) (Obj.loop { r with state:=.exhausted }));have hel:=run_endLoop (P:=prog) q2 (by rw[hr1];simp);rw[mZ,hr2]at hel;refine⟨none,W6,hel,?_⟩;clear hel;have p1:W6.heap[B]?=some (.cells #[v5] 31 (0,0)):=by rw[<-mZ];exact(World.putObj_heap_other (by omega)).trans qv
  have p3:W6.heap[B+1]?=some (.deferred (some [])):=by rw[<-mZ];exact(World.putObj_heap_other (by omega)).trans q3
  have pg:W5.grownBy W6 (some (B+2)):=by rw[<-mZ];exact Bv _ _ _
  have pr:=qr.kept pg (ownsRow_ne_a qr q2 (fun cur e=>by cases e));have p4:=q4.grown pg q4.size (fun k e=>by cases e;omega);obtain⟨pc,pf⟩:=cell_of_box_a p1;have ut:=ae pr;have hpb:=HB.o;clear mZ qv qr q2 q3 q4 hr4 ja hr6 q0 qd ql b4 pg pr
  try rw[hpb]
  simp only[List.cons_append,List.nil_append]
  gi_wp2
  refine⟨by simp,.inl ⟨_,_,rfl,run_takeDeferred p3,?_⟩⟩;refine⟨_,results_tmp rfl _ _ _,?_⟩;exact⟨v5,rfl,ut.o.kept (Bv _ _ _) (ownsRow_ne_a ut.o p3 (fun cur e=>by cases e)),p4.grown (Bv _ _ _) p4.size (fun k e=>by cases e;omega)⟩
 case yl =>
  rintro pre x W5 ⟨⟨v5,qv,qr⟩,q2,q3,q4⟩ hlen;refine acM q2 (by rw[hr3];rfl) ?_;rw[hr3,hr4,ja,hr6];obtain⟨W6,mZ⟩:=zN (W5.putObj (B+2) (Obj.loop { r with state:=.busy }));have hbr:=run_beginRound (P:=prog) q2 hr1;rw[mZ]at hbr;have l2:=(aC q2);have pg:W5.grownBy W6 (some (B+2)):=by rw[<-mZ];exact Bv _ _ _
  have p1:W6.heap[B]?=some (.cells #[v5] 31 (0,0)):=by rw[<-mZ];exact(World.putObj_heap_other (by omega)).trans qv
  have p2:W6.heap[B+2]?=some (.loop { r with state:=.busy }):=by rw[<-mZ];exact World.putObj_heap_same l2
  have p3:W6.heap[B+1]?=some (.deferred (some [])):=by rw[<-mZ];exact(World.putObj_heap_other (by omega)).trans q3
  have pr:=qr.kept pg (ownsRow_ne_a qr q2 (fun cur e=>by cases e));have p4:=q4.grown pg q4.size (fun k e=>by cases e;omega);obtain⟨pc,pf⟩:=cell_of_box_a p1;have hz6:=p4.size;have hB6:=(aC p1);have hD6:=(aC p3);have hl6:=(aC p2);have ne_of:∀{j:Nat} {ob:Obj},W6.heap[j]?=some ob->(∀cur,ob≠.cells cur 3 (0,0))->some j≠v5.ownBlock:=fun hj hno=>by
   rcases ownsRow_ne_a pr hj hno with e|e
   ·rw[e];simp
   ·exact fun e'=>e e'.symm
  have nB:=ne_of p1 (fun cur e=>by simp at e);have nl:=ne_of p2 (fun cur e=>by cases e);have nD:=ne_of p3 (fun cur e=>by cases e);have hpb:=HB.o;rw[hpb]at hr6;clear mZ qv qr q3 q4 q0 qd ql b4 pg;rw[hpb];clear q2
  gi_wp2_with (first
   | (gi_at_builtin;refine wpListIn_append_own _ rfl _ _ 31 rfl w.heap.size 3 j0 (.int .i64 0) 1 8 underlying31 hj0 hy0 hy1 hyb rfl (by decide) _ _ _ rfl (pr.alloc _) ⟨W6.heap.size,0,none⟩ 1 1 [.int .i64 x] rfl rfl (cell_one_new _ _ _) (by simp[Value.oneCell']) (by unfold maxLen;omega) (by omega) (by simp;omega) ?_;intro v' w3 hown' hg3 hnil3
      have hv3:=(hg3.block B (by simp;omega) nB).trans ((Below.heap_alloc _ _ B hB6).trans p1);obtain⟨hc3,hf3⟩:=cell_of_box_a hv3;obtain⟨g',cap',cur',rfl,hbase',hgb',hr1',hr2',ajU,ajV⟩:∃g' cap' cur',v'=.slice (some ⟨g',0,none⟩) (pre.length+1) cap'/\w.heap.size<=g'/\w3.heap[g']?=some (.cells cur' 3 (0,0))/\pre.length+1<=cap'/\cap'<=maxLen/\cur'.size=cap'*1/\cur'.toList.take ((pre.length+1)*1)=pre.map (Value.int .i64)++[.int .i64 x]:=by
       rcases hown'.2 with⟨_,h0⟩|h'
       ·exact absurd h0 (by omega)
       ·exact h'
      go_frame)
   | gi_in)
  have hg3':(W6.alloc (.cells #[.int .i64 x] 3)).grownBy w3 v5.ownBlock:=hg3;have hL3:=(hg3'.block (B+2) (by simp;omega) nl).trans ((Below.heap_alloc _ _ _ hl6).trans p2);have hK3:=(hg3'.block (B+1) (by simp;omega) nD).trans ((Below.heap_alloc _ _ _ hD6).trans p3);obtain⟨w4,hw4⟩:=zN (w3.setCell ⟨B,0,none⟩ (.slice (some ⟨g',0,none⟩) (pre.length+1) cap'));rw[hw4];have hg4:w3.grownBy w4 (some B):=by rw[<-hw4];exact grownBy_setCell0_a _ _ _
  have hv4:w4.heap[B]?=some (.cells #[.slice (some ⟨g',0,none⟩) (pre.length+1) cap'] 31 (0,0)):=by rw[<-hw4];exact heap_setCell_box_a _ hv3
  have hL4:=(hg4.block (B+2) (aC hL3) (by simp)).trans hL3;have hK4:=(hg4.block (B+1) (aC hK3) (by simp)).trans hK3;have hrow4:=hown'.kept hg4 (ownsRow_ne_a hown' hv3 (fun cur e=>by simp at e));have hl4:=(aC hL4);have hb3:=(p4.alloc p4.size _).grown hg3' (by simp;omega) (fun k e=>(pr.lt k e).1);have hb4:=hb3.grown hg4 hb3.size (fun k e=>by cases e;omega);clear hw4;have ajW:=hb4.size;rw[hpb]at hb4 hrow4;refine⟨_,_,run_endRound none hL4,rfl,⟨_,(World.putObj_heap_other (by omega)).trans hv4,?_⟩,by rw[World.putObj_heap_same hl4,acL r hr1 hr2],(World.putObj_heap_other (by omega)).trans hK4,hb4.grown (Bv _ _ _) (by omega) (fun k e=>by cases e;omega)⟩;have:=hrow4.kept (Bv w4 (B+2) (.loop { { r with state:=.busy } with state:=if(none:Option Code).isNone then .ready else .done,pending:=none })) (ownsRow_ne_a hrow4 hL4 (fun cur e=>by cases e))
  simpa using this
open Go.RowKit Go.Maps Go.Joins
theorem TM(o:Option Addr)(n c len:Nat)(h:len<=c)(wx:World):(Instr.slice 31 (.slice o n c) none (some (.int .i64 (len:Int))) none).run prog wx=.ok (.slice o len c) wx:=by
 have ht:prog.underlying 31=some (.slice (prog.elem 31)):=by kernel_rfl
 have hsz:∀w,(sizeOf (prog.elem 31)).run prog w=.ok 1 w:=fun w=>by kernel_rfl
 rw[run_slice_h wx _ o n c ht .i64 (len:Int) (by omega) (by omega),hsz]
 cases o with
 | none=>simp[Result.andThen,sliced]
 | some a=>simp[Result.andThen,sliced,Addr.add]
theorem acQ(B S M b0 b1 b2 b3 bs bl len m:Nat)(pv nv cm rv:Value)(co:Option Addr)(cc:Nat)(f:Int)(A D A0 D0:Nat)(row:List ByteArray)(ch:List Nat)(w:World)(h:Sb w S pv nv cm rv (.map (some M)) (.slice co (m+1) cc) f A D)(hr:w.ownsRow B 9 1 rv row.length (row.map .string))(hin:InR w M row)(hnd:row.Nodup)(hle:len<=row.length)(hz:∀x∈row,x.size<=maxLen)(hR:row.length<=1048576)(hm:m+1<=cc)(hmm:m<=1048576)
  (e0:w.cell? ⟨b0,0,none⟩=some (.func (.func 96) #[] #[.pointer (some ⟨bs,0,none⟩),.pointer (some ⟨bl,0,none⟩)])) (e1:w.cell? ⟨b1,0,none⟩=some (.pointer (some ⟨S,0,none⟩))) (e2:w.cell? ⟨b2,0,none⟩=some (.int .u64 (A0:Int))) (e3:w.cell? ⟨b3,0,none⟩=some (.int .u64 (D0:Int))) (hs:w.cell? ⟨bs,0,none⟩=some (.pointer (some ⟨S,0,none⟩))) (hl:w.cell? ⟨bl,0,none⟩=some (.int .i64 (len:Int)))
  (hb:∀b,b=b0\/b=b1\/b=b2\/b=b3\/b=bs\/b=bl->¬b=S/\¬b=M) (hSM:¬S=M) :
  Calls prog 99 #[.pointer (some ⟨b0,0,none⟩),.pointer (some ⟨b1,0,none⟩),.pointer (some ⟨b2,0,none⟩),.pointer (some ⟨b3,0,none⟩)] w fun e w'=>e=.returned (.tuple #[])/\∃rv',Sb w' S pv nv cm rv' (.map (some M)) (.slice co m cc) f A0 D0/\w'.ownsRow B 9 1 rv' len ((row.take len).map .string)/\InR w' M (row.take len)/\Fx (fun b=>b=S\/b=M) w w'/\rv'.ownBlock=rv.ownBlock:=by
 have C1:Hd (Calls prog 96 #[.pointer (some ⟨bs,0,none⟩),.pointer (some ⟨bl,0,none⟩)] w fun e w'=>e=.returned (.tuple #[])/\Hd (∃rv',Sb w' S pv nv cm rv' (.map (some M)) (.slice co (m+1) cc) f A D/\w'.ownsRow B 9 1 rv' len ((row.take len).map .string)/\InR w' M (row.take len)/\Fx (fun b=>b=S\/b=M) w w'/\rv'.ownBlock=rv.ownBlock)):=acE B S M bs bl len pv nv cm rv (.slice co (m+1) cc) f A D row w h hr hin hnd hs hl hle ⟨(hb bs (by simp)).2,(hb bl (by simp)).2,hSM⟩ hz hR;have HB:=ae hb;clear h hr hin hnd hz hs hl hb;go_enter func99,ntmps99;go_wp2_with (first|(go_at_call 96;refine C1.o.mono ?_));rintro e w1 ⟨rfl,h1⟩;obtain⟨rv',k1,k2,k3,k4,k5⟩:=h1.o;have Ba:=ae k5;have HK:=ae (And.intro k1 (And.intro k2 (And.intro k3 k4)));have nX:∀b,b=b0\/b=b1\/b=b2\/b=b3\/b=bs\/b=bl->¬(b=S\/b=M):=fun b hb hh=>hh.elim (HB.o b hb).1 (HB.o b hb).2
 have g1:=k4.cell e1 (nX b1 (by simp));have g2:=k4.cell e2 (nX b2 (by simp));have g3:=k4.cell e3 (nX b3 (by simp));have c6:=k1.cells.2.1.2.2;have z6:=k1.fz 6;have hhi:=TM co (m+1) cc m (by omega);have hwr:IntKind.i64.wrap (m:Int)=(m:Int):=by rw[IntKind.wrap_i64];omega
 have acR:Hd (∀w2,w2.heap=(w1.setCell ⟨S,6,none⟩ (.slice co m cc)).heap->w2.os=w1.os->w2.tape=w1.tape->w2.output=w1.output->Sb w2 S pv nv cm rv' (.map (some M)) (.slice co m cc) f A D/\w2.ownsRow B 9 1 rv' len ((row.take len).map .string)/\InR w2 M (row.take len)/\Fx (fun b=>b=S\/b=M) w w2):=fun w2 e1 e2 e3 e4=>by
  obtain⟨q1,q2,q3,q4⟩:=HK.o;have fx:Fx (fun b=>b=S) w1 w2:=⟨e2,e3,e4,by rw[e1];simp[World.setCell],fun k hk hn=>by rw[e1];exact heap_setCell_other w1 _ k _ hn⟩;have hs:Sb w2 S pv nv cm rv' (.map (some M)) (.slice co m cc) f A D:=by unfold Sb;rw[e1];exact q1.setC (.slice co m cc)
  refine⟨hs,jm q2 fx (fun g hg e=>?_),q3.fx fx (fun e=>hSM e.symm),q4.trans (fx.mono fun b hb=>Or.inl hb)⟩
  rcases q2.2 with⟨h1,-⟩|⟨g',c',cur,h1,-,h2,-⟩
  ·rw[h1]at hg;cases hg
  ·rw[h1]at hg;obtain rfl:g'=g:=Option.some.inj hg;have h3:w1.heap[S]?=_:=q1;rw[e,h3]at h2;injection h2 with h2
   injection h2 with _ h2
   exact absurd h2 (by decide)
 clear h1 k1 k2 k3 k4 k5 e0 e1 e2 e3 nX C1;have fS:Fx (fun b=>b=S) w1 (w1.setCell ⟨S,6,none⟩ (.slice co m cc)):=(Fx.refl (fun b=>b=S) w1).set (Or.inl rfl) _ _;have HC:=ae (And.intro (fS.cell g1 (HB.o b1 (by simp)).1) (And.intro (fS.cell g2 (HB.o b2 (by simp)).1) (fS.cell g3 (HB.o b3 (by simp)).1)));clear fS;go_wp2
 go_cut [] from 6 (fun wx=>(wx.heap=(w1.setCell ⟨S,6,none⟩ (.slice co m cc)).heap/\wx.os=w1.os/\wx.tape=w1.tape/\wx.output=w1.output)/\wx.cell? ⟨b1,0,none⟩=some (.pointer (some ⟨S,0,none⟩))/\wx.cell? ⟨b2,0,none⟩=some (.int .u64 (A0:Int))/\wx.cell? ⟨b3,0,none⟩=some (.int .u64 (D0:Int)))
 case first =>
  go_region_law (fail)
  all_goals (go_wp2_with fail;go_meet;exact⟨⟨rfl,rfl,rfl,rfl⟩,HC.o⟩)
 case rest =>
  obtain⟨⟨m1,m2,m3,m4⟩,n1,n2,n3⟩:=hcut;obtain⟨q1,q2,q3,q4⟩:=acR.o wc m1 m2 m3 m4;have z7:=q1.fz 7;obtain⟨-,-,n7,n8⟩:=q1.cells;have z8:=q1.fz 8;have f7:Fx (fun b=>b=S) wc ((wc.setCell ⟨S,7,none⟩ (.int .u64 (A0:Int))).setCell ⟨S,8,none⟩ (.int .u64 (D0:Int))):=((Fx.refl (fun b=>b=S) wc).set (Or.inl rfl) _ _).set (Or.inl rfl) _ _;have vP:∀g,rv'.ownBlock=some g->¬g=S:=fun g hg e=>by
   rcases q2.2 with⟨h1,-⟩|⟨g',c',cur,h1,-,h2,-⟩
   ·rw[h1]at hg;cases hg
   ·rw[h1]at hg;obtain rfl:g'=g:=Option.some.inj hg;have h3:wc.heap[S]?=_:=q1;rw[e,h3]at h2;injection h2 with h2
    injection h2 with _ h2
    exact absurd h2 (by decide)
  have HE:=ae (And.intro ((q1.setA A0).setD D0) (And.intro (jm q2 f7 vP) (And.intro (q3.fx f7 (fun e=>hSM e.symm)) (q4.trans (f7.mono fun b hb=>Or.inl hb)))));clear vP f7;clear q1 q2 q3 q4 m1 m2 m3 m4 c6 z6 hhi hwr g1 g2 g3;go_wp2
  go_region_law (fail)
  all_goals (go_wp2;exact bodyPost_end (results_none rfl _ _ _) rfl ⟨rfl,_,HE.o.1,HE.o.2.1,HE.o.2.2.1,HE.o.2.2.2.drew,Ba.o⟩)
end Go.Proofs.YtiinliaoojfjaaaGreatDoor
