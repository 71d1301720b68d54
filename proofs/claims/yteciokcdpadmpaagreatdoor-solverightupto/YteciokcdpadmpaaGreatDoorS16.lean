import Derived.Test.YteciokcdpadmpaaGreatDoorS13
import Derived.Maps.Views
import Derived.Deep.RegionWith
import Derived.Shelf.SlSortCmp.NoneTotal
import Derived.Deep.Cut
import Derived.RangeFuncKeeps
import Derived.Shelf.SlIter.Collect
set_option linter.all false
set_option maxRecDepth 100000
set_option maxHeartbeats 0
open Go.Proofs.Tryz
namespace Go.Proofs.YteciokcdpadmpaaGreatDoor
open Go.RowKit Go.Maps Go.Joins
def Sb(w:World)(S:Nat)(pv nv cm rv im cv:Value)(f:Int)(A D:Nat):Prop:=w.heap[S]?=some (.cells #[pv,nv,cm,.int .i64 f,rv,im,cv,.int .u64 (A:Int),.int .u64 (D:Int)] 83 (0,0))
section
variable {w w':World} {S:Nat} {pv nv cm rv im cv:Value} {f:Int} {A D:Nat}
theorem Sb.cells(h:Sb w S pv nv cm rv im cv f A D):(w.cell? ⟨S,0,none⟩=some pv/\w.cell? ⟨S,1,none⟩=some nv/\w.cell? ⟨S,2,none⟩=some cm/\w.cell? ⟨S,3,none⟩=some (.int .i64 f))/\(w.cell? ⟨S,4,none⟩=some rv/\w.cell? ⟨S,5,none⟩=some im/\w.cell? ⟨S,6,none⟩=some cv)/\w.cell? ⟨S,7,none⟩=some (.int .u64 (A:Int))/\w.cell? ⟨S,8,none⟩=some (.int .u64 (D:Int)):=by
 refine⟨⟨?_,?_,?_,?_⟩,⟨?_,?_,?_⟩,?_,?_⟩<;>(rw[ah h];rfl)
theorem Sb.fz(h:Sb w S pv nv cm rv im cv f A D)(k:Nat):w.frozen? ⟨S,k,none⟩=false:=Lib.frozen_of_heap h k
theorem Sb.grow(h:Sb w S pv nv cm rv im cv f A D)(hg:w.grownBy w' none):Sb w' S pv nv cm rv im cv f A D:=(hg.block S (aB h) (by simp)).trans h
theorem Sb.setF(h:Sb w S pv nv cm rv im cv f A D)(f':Int):Sb (w.setCell ⟨S,3,none⟩ (.int .i64 f')) S pv nv cm rv im cv f' A D:=block_setCell (i:=3) h _
theorem Sb.setR(h:Sb w S pv nv cm rv im cv f A D)(v:Value):Sb (w.setCell ⟨S,4,none⟩ v) S pv nv cm v im cv f A D:=block_setCell (i:=4) h _
theorem Sb.setC(h:Sb w S pv nv cm rv im cv f A D)(v:Value):Sb (w.setCell ⟨S,6,none⟩ v) S pv nv cm rv im v f A D:=block_setCell (i:=6) h _
theorem Sb.setA(h:Sb w S pv nv cm rv im cv f A D)(x:Nat):Sb (w.setCell ⟨S,7,none⟩ (.int .u64 (x:Int))) S pv nv cm rv im cv f x D:=block_setCell (i:=7) h _
theorem Sb.setD(h:Sb w S pv nv cm rv im cv f A D)(x:Nat):Sb (w.setCell ⟨S,8,none⟩ (.int .u64 (x:Int))) S pv nv cm rv im cv f A x:=block_setCell (i:=8) h _
end
def JG:Ending:=.panicked [{ v:=.iface 26 (.int .i64 10),recovered:=false }]
theorem ZL(S:Nat)(pv nv cm rv im cv:Value)(f:Int)(A D:Nat)(w:World)(h:Sb w S pv nv cm rv im cv f A D)(hf:0<=f)(hf2:f<9223372036854775808) :
  Calls prog 33 #[.pointer (some ⟨S,0,none⟩)] w fun e w'=>(f=0/\e=JG/\w'=w)\/(0<f/\e=.returned (.tuple #[])/\w'=w.setCell ⟨S,3,none⟩ (.int .i64 (f-1))):=by
 obtain⟨⟨-,-,-,c3⟩,-⟩:=h.cells;have z3:=h.fz 3
 by_cases h0:f=0
 ·subst h0;clear h;go_enter func33,ntmps33;go_wp2;exact⟨rfl,Or.inl ⟨trivial,rfl,rfl⟩⟩
 ·have hb:(f == 0)=false:=by simpa using h0
  clear h;go_enter func33,ntmps33;go_wp2;exact bodyPost_end (results_none rfl _ _ _) rfl (Or.inr ⟨by omega,rfl,rfl⟩)
theorem fits_any(S k:Nat)(po:Option Addr)(pc:Nat)(nv cm rv im cv:Value)(f:Int)(A D:Nat)(P:List Pl)(w:World)(h:Sb w S (.slice po P.length pc) nv cm rv im cv f A D)(hp:PlS w (.slice po P.length pc) P)(hk:k<P.length)(hP:P.length<=64)(hA:A<18446744073709551616)(hD:D<18446744073709551616)(hb:P[k].bar<18446744073709551616) :
  Calls prog 34 #[.pointer (some ⟨S,0,none⟩),.int .i64 k] w fun e w'=>e=.returned (.bool (!(D ||| P[k].bar).testBit k && decide (P[k].bar &&& A=0)))/\w.grownBy w' none:=by
 obtain⟨⟨c0,-⟩,-,c7,c8⟩:=h.cells;obtain⟨a,rfl,hcap,hat⟩:=Fq hp hk;obtain⟨e0,e1,-⟩:=hat k hk;obtain⟨b,hb'⟩:=zN (P[k].bar);rw[hb']at e1 hb ⊢;have CH:=ae (fun w=>I5 (D ||| b) k (ug hD hb) (by omega) w);have hor:=bits_or_u64_nat D b hD hb;have ZM:=bits_and_u64_nat b A hb hA;have hz:(((b &&& A:Nat):Int) == 0)=decide (b &&& A=0):=by
  by_cases e:b &&& A=0
  ·rw[e];rfl
  ·rw[decide_eq_false e,beq_eq_false_iff_ne];omega
 obtain⟨X,hX⟩:∃X:Int,((D ||| b:Nat):Int)=X:=⟨_,rfl⟩;obtain⟨Y,hY⟩:∃Y:Int,((b &&& A:Nat):Int)=Y:=⟨_,rfl⟩;obtain⟨q,hq⟩:=zN ((D ||| b).testBit k);obtain⟨r,hr⟩:=zN (decide (b &&& A=0));rw[hX]at hor CH;rw[hY]at ZM hz;rw[hq]at CH ⊢;rw[hr]at hz ⊢;have hkc:k<pc:=by omega
 clear h hp hat hX hY hq hr hA hD
 cases q with
 | true =>
  go_enter func34,ntmps34;go_wp2_with (go_at_call 51;refine(CH.o _).mono ?_;rintro e w' ⟨rfl,rfl⟩);go_ret;exact⟨rfl,ak _ _⟩
 | false =>
  go_enter func34,ntmps34;go_wp2_with (go_at_call 51;refine(CH.o _).mono ?_;rintro e w' ⟨rfl,rfl⟩);go_ret;exact⟨rfl,ak _ _⟩
open Go.RowKit Go.Maps Go.Joins
def kT(n:ByteArray):Lit:=.string n.data.toList
theorem JH{a b:ByteArray}(h:kT a=kT b):a=b:=by
 unfold kT at h;injection h with h
 exact ByteArray.ext (Array.ext' h)
theorem FN{x:ByteArray}(h:x.size<=maxLen):keyOf prog 9 (.string x)=some (kT x):=Go.WideMaps.keyOf_string_mk underlying9 h
structure Fx(X:Nat->Prop)(w w':World):Prop where
 os:w'.os=w.os
 tape:w'.tape=w.tape
 output:w'.output=w.output
 size:w.heap.size<=w'.heap.size
 block:∀k,k<w.heap.size->¬X k->w'.heap[k]?=w.heap[k]?
section
variable {X:Nat->Prop} {w w' w'':World}
theorem Fx.refl(X:Nat->Prop)(w:World):Fx X w w:=⟨rfl,rfl,rfl,Nat.le_refl _,fun _ _ _=>rfl⟩
theorem Fx.trans(h:Fx X w w')(h':Fx X w' w''):Fx X w w'':=⟨h'.os.trans h.os,h'.tape.trans h.tape,h'.output.trans h.output,Nat.le_trans h.size h'.size,fun k hk hn=>(h'.block k (Nat.lt_of_lt_of_le hk h.size) hn).trans (h.block k hk hn)⟩
theorem Fx.gb(h:Fx X w w'){r:Option Nat}(hg:w'.grownBy w'' r)(hr:∀b,r=some b->X b\/w.heap.size<=b):Fx X w w'' :=
 ⟨hg.os.trans h.os,hg.tape.trans h.tape,hg.output.trans h.output,Nat.le_trans h.size hg.size,fun k hk hn=>(hg.block k (Nat.lt_of_lt_of_le hk h.size) (fun e=>by
  rcases hr k e.symm with h1|h1
  ·exact hn h1
  ·omega)).trans (h.block k hk hn)⟩
theorem Fx.set(h:Fx X w w'){b:Nat}(hb:X b\/w.heap.size<=b)(o:Nat)(v:Value):Fx X w (w'.setCell ⟨b,o,none⟩ v) :=
 ⟨h.os,h.tape,h.output,by simpa [World.setCell] using h.size,fun k hk hn=>(heap_setCell_other w' _ k _ (by
  show ¬k=b;rintro rfl
  rcases hb with h1|h1
  ·exact hn h1
  ·omega)).trans (h.block k hk hn)⟩
theorem Fx.cell(h:Fx X w w'){b o:Nat}{v:Value}(hc:w.cell? ⟨b,o,none⟩=some v)(hX:¬X b):w'.cell? ⟨b,o,none⟩=some v:=by
 have hb:b<w.heap.size:=by
  apply Classical.byContradiction;intro hn;unfold World.cell? at hc;rw[Array.getElem?_eq_none (show w.heap.size<=b by omega)]at hc
  cases hc
 have:=h.block b hb hX;unfold World.cell? at hc ⊢;rw[this];exact hc
end
theorem rU{w:World}{B:Nat}{e:TypeId}{s:Nat}{v:Value}{n:Nat}{xs:List Value}(h:w.ownsRow B e s v n xs):∃o c,v=.slice o n c:=by
 rcases h.2 with⟨rfl,rfl⟩|⟨g,cap,cur,rfl,-⟩
 ·exact⟨_,_,rfl⟩
 ·exact⟨_,_,rfl⟩
def InR(w:World)(M:Nat)(row:List ByteArray):Prop:=∃D,w.ownsMap prog 9 (unitElem (H:=Unit)) M row.length D/\∀x,Maps.has D (kT x)=ou row x
theorem ZN{w:World}{M n m:Nat}{D:DataW Unit}(h:w.ownsMap prog 9 (unitElem (H:=Unit)) M n D)(hm:Maps.size D<=m):w.ownsMap prog 9 (unitElem (H:=Unit)) M m D:=by
 obtain⟨es,clock,hb,F,hs,rfl⟩:=h;exact⟨es,clock,hb,F,by simpa [Maps.size,length_sorted] using hm,rfl⟩
theorem InR.put{w':World}{M:Nat}{row:List ByteArray}{D:DataW Unit}{x:ByteArray}{n:Nat}(hn:n=row.length)(hM:IsMap D)(hD:∀y,Maps.has D (kT y)=ou row y)(h:w'.ownsMap prog 9 (unitElem (H:=Unit)) M (n+1) (D.put (kT x) (.agg []))):InR w' M (row++[x]):=by
 refine⟨_,by rw[List.length_append,<-hn];exact h,fun y=>?_⟩
 by_cases e:y=x
 ·subst e;rw[has_put_same hM (by trivial)];exact(Cc.2 (by simp)).symm
 ·rw[has_put_other (fun h=>e (JH h)),hD];unfold ou;rw[List.any_append];simp[Ne.symm e]
theorem InR.del{w':World}{M:Nat}{p q:List ByteArray}{D:DataW Unit}{x:ByteArray}{n:Nat}(hnd:(p++x :: q).Nodup)(hn:n=(p++x :: q).length)(hT:Tidy D)(hsz:Maps.size D<=n)(hD:∀y,Maps.has D (kT y)=ou (p++x :: q) y)(h:w'.ownsMap prog 9 (unitElem (H:=Unit)) M n (D.del (kT x))):InR w' M (p++q):=by
 have hx:¬x∈p++q:=by
  rw[List.nodup_append,List.nodup_cons]at hnd;intro hm
  rcases List.mem_append.1 hm with h1|h1
  ·exact hnd.2.2 x h1 x (by simp) rfl
  ·exact hnd.2.1.1 h1
 have hs:=size_del (k:=kT x) hT;rw[hD x,Cc.2 (by simp),if_pos rfl]at hs;refine⟨_,ZN h (by simp only[List.length_append,List.length_cons]at hn ⊢;omega),fun y=>?_⟩
 by_cases e:y=x
 ·subst e;rw[has_del_same];exact(YU.2 hx).symm
 ·rw[has_del_other (fun h=>e (JH h)),hD];unfold ou;rw[List.any_append,List.any_append,List.any_cons,decide_eq_false (fun h=>e h.symm),Bool.false_or]
theorem Qu{w:World}{B g n c m:Nat}{e:TypeId}{xs:List Value}(h:w.ownsRow B e 1 (.slice (some ⟨g,0,none⟩) n c) n xs)(hm:m<=n):w.ownsRow B e 1 (.slice (some ⟨g,0,none⟩) m c) m (xs.take m):=by
 obtain⟨h1,h2⟩:=h
 rcases h2 with⟨h2,-⟩|⟨g',cap,cur,e1,h3,h4,h5,h6,h7,h8⟩
 ·cases h2
 ·cases e1
  refine⟨by rw[List.length_take];omega,Or.inr ⟨g,c,cur,rfl,h3,h4,by omega,h6,h7,?_⟩⟩;rw[<-h8,List.take_take];congr 1;omega
theorem jo{X:Nat->Prop}{w w':World}{B n:Nat}{e:TypeId}{v:Value}{xs:List Value}(h:w.ownsRow B e 1 v n xs)(hf:Fx X w w')(hX:∀g,v.ownBlock=some g->¬X g):w'.ownsRow B e 1 v n xs:=by
 obtain⟨h1,h2⟩:=h;refine⟨h1,h2.imp id ?_⟩;rintro⟨g,cap,cur,rfl,h3,h4,r⟩;exact⟨g,cap,cur,rfl,h3,(hf.block g (aB h4) (hX g rfl)).trans h4,r⟩
theorem Sb.fx{X:Nat->Prop}{w w':World}{S:Nat}{pv nv cm rv im cv:Value}{f:Int}{A D:Nat}(h:Sb w S pv nv cm rv im cv f A D)(hf:Fx X w w')(hX:¬X S):Sb w' S pv nv cm rv im cv f A D:=(hf.block S (aB h) hX).trans h
theorem ZO(o:Option Addr)(n c len:Nat)(h:len<=n)(wx:World):(Instr.slice 53 (.slice o n c) (some (.int .i64 (len:Int))) none none).run prog wx=.ok (.slice (if c=len then o else o.map (·.add len)) (n-len) (c-len)) wx:=by
 have ht:prog.underlying 53=some (.slice (prog.elem 53)):=by kernel_rfl
 have hsz:∀w,(sizeOf (prog.elem 53)).run prog w=.ok 1 w:=fun w=>by kernel_rfl
 rw[run_slice_l wx _ o n c ht .i64 (len:Int) (by omega) (by omega),hsz];simp[Result.andThen,sliced]
theorem ZP(o:Option Addr)(n c len:Nat)(h:len<=c)(wx:World):(Instr.slice 53 (.slice o n c) none (some (.int .i64 (len:Int))) none).run prog wx=.ok (.slice o len c) wx:=by
 have ht:prog.underlying 53=some (.slice (prog.elem 53)):=by kernel_rfl
 have hsz:∀w,(sizeOf (prog.elem 53)).run prog w=.ok 1 w:=fun w=>by kernel_rfl
 rw[run_slice_h wx _ o n c ht .i64 (len:Int) (by omega) (by omega),hsz]
 cases o with
 | none=>simp[Result.andThen,sliced]
 | some a=>simp[Result.andThen,sliced,Addr.add]
theorem InR.fx{X:Nat->Prop}{w w':World}{M:Nat}{row:List ByteArray}(h:InR w M row)(hf:Fx X w w')(hX:¬X M):InR w' M row:=by
 obtain⟨D,⟨es,cl,h1,r⟩,h2⟩:=h;exact⟨D,⟨es,cl,(hf.block M (aB h1) hX).trans h1,r⟩,h2⟩
theorem Fx.drew{X:Nat->Prop}{w w':World}(h:Fx X w w'):Fx X w w'.drew:=⟨h.os,h.tape,h.output,h.size,h.block⟩
theorem Qv(b n:Nat):(⟨b,0,none⟩:Addr).add n=⟨b,n,none⟩:=by
 unfold Addr.add;split
 ·rename_i h0;rw[h0]
 ·simp
theorem Fx.mono{X Y:Nat->Prop}{w w':World}(h:Fx X w w')(hXY:∀b,X b->Y b):Fx Y w w':=⟨h.os,h.tape,h.output,h.size,fun k hk hn=>h.block k hk (fun hx=>hn (hXY k hx))⟩
theorem ZQ(B S M bs bl len:Nat)(pv nv cm rv cv:Value)(f:Int)(A D:Nat)(row:List ByteArray)(w:World)(h:Sb w S pv nv cm rv (.map (some M)) cv f A D)(hr:w.ownsRow B 9 1 rv row.length (row.map .string))(hin:InR w M row)(hnd:row.Nodup)(hs:w.cell? ⟨bs,0,none⟩=some (.pointer (some ⟨S,0,none⟩)))(hl:w.cell? ⟨bl,0,none⟩=some (.int .i64 (len:Int)))(hle:len<=row.length)(hb:¬bs=M/\¬bl=M/\¬S=M)(hz:∀x∈row,x.size<=maxLen)(hR:row.length<=1048576) :
  Calls prog 63 #[.pointer (some ⟨bs,0,none⟩),.pointer (some ⟨bl,0,none⟩)] w fun e w'=>e=.returned (.tuple #[])/\∃rv',Sb w' S pv nv cm rv' (.map (some M)) cv f A D/\w'.ownsRow B 9 1 rv' len ((row.take len).map .string)/\InR w' M (row.take len)/\Fx (fun b=>b=S\/b=M) w w'/\rv'.ownBlock=rv.ownBlock:=by
 obtain⟨-,⟨c4,c5,-⟩,-⟩:=h.cells;have H:=ae h;have HR:=ae hr;have kW:=ae hin;have vZ:=ae hnd;have HZ:=ae hz;have HB:=ae hb;have di:∀g,rv.ownBlock=some g->¬g=M/\¬g=S:=fun g hg=>by
  rcases hr.2 with⟨rfl,-⟩|⟨g',c,cur,rfl,-,hgb,-⟩
  ·cases hg
  ·obtain rfl:g'=g:=Option.some.inj hg;refine⟨fun e=>?_,fun e=>?_⟩
   ·obtain⟨D',⟨es,cl,h1,-⟩,-⟩:=hin;rw[e,h1]at hgb
    cases hgb
   ·have h1:w.heap[S]?=_:=h;rw[e,h1]at hgb;injection hgb with hgb
    injection hgb with _ hgb
    exact absurd hgb (by decide)
 have lW:=ae di;have hcp:∃o c,rv=.slice o row.length c/\row.length<=c/\∀i (hi:i<row.length),∃g,o=some ⟨g,0,none⟩/\w.cell? ⟨g,i,none⟩=some (.string row[i]):=by
  rcases hr.2 with⟨rfl,hn0⟩|⟨g,c,cur,rfl,hgB,hgb,hnc,hcm,hcs,hct⟩
  ·exact⟨none,0,by rw[hn0],by omega,fun i hi=>by omega⟩
  ·refine⟨_,c,rfl,hnc,fun i hi=>⟨g,rfl,?_⟩⟩;rw[ah hgb];have:(cur.toList.take (row.length*1))[i]?=some (.string row[i]):=by rw[hct];simp[List.getElem?_eq_getElem hi]
   rw[List.getElem?_take,if_pos (by omega),Array.getElem?_toList]at this;exact this
 obtain⟨o,c,rfl,hnc,hget⟩:=hcp;have HG:=ae hget;have hlo:=ZO o row.length c len hle;have hhi:=ZP o row.length c len (by omega);obtain⟨o1,ho1⟩:=zN ((if c=len then o else o.map (·.add len)));rw[ho1]at hlo;have dK:=ae ho1;have zq:Hd ((Value.slice o len c).ownBlock=(Value.slice o row.length c).ownBlock):=by cases o<;>rfl
 have ZR:Hd (∀w',Fx (fun b=>b=M) w w'->Sb (w'.setCell ⟨S,4,none⟩ (.slice o len c)) S pv nv cm (.slice o len c) (.map (some M)) cv f A D/\(w'.setCell ⟨S,4,none⟩ (.slice o len c)).ownsRow B 9 1 (.slice o len c) len ((row.take len).map .string)/\Fx (fun b=>b=S) w' (w'.setCell ⟨S,4,none⟩ (.slice o len c))/\Fx (fun b=>b=S\/b=M) w (w'.setCell ⟨S,4,none⟩ (.slice o len c))):=fun w' hf=>by
  have f1:Fx (fun b=>b=S) w' (w'.setCell ⟨S,4,none⟩ (.slice o len c)):=(Fx.refl (fun b=>b=S) w').set (Or.inl rfl) _ _;refine⟨(H.o.fx hf HB.o.2.2).setR _,?_,f1,(Fx.mono (Y:=fun b=>b=S\/b=M) hf fun b hb=>Or.inr hb).set (Or.inl (Or.inl rfl)) _ _⟩;have h1:=jo (jo HR.o hf fun g hg=>(lW.o g hg).1) f1 fun g hg=>(lW.o g hg).2
  rcases h1.2 with⟨h2,h3⟩|⟨g,c',cur,h2,-⟩
  ·injection h2 with a1 _ a3
   have:len=0:=by omega
   subst this;rw[a1,a3];exact⟨by simp,Or.inl ⟨rfl,rfl⟩⟩
  ·injection h2 with a1 _ _
   subst a1;have:=Qu h1 hle
   rwa [<-List.map_take]at this
 clear h hr hin hnd hz hb hget ho1 di;go_enter func63,ntmps63;go_wp2;go_quiet (fail);go_wp2;go_loopw [11] (fun vi wr=>∃i:Nat,vi=.int .i64 i/\i<=row.length-len/\InR wr M (row.take len++row.drop (len+i))/\Fx (fun b=>b=M) w wr) (fun vi _=>row.length-len-(intOf vi).toNat)
 case atStart =>
  refine⟨0,rfl,Nat.zero_le _,?_,⟨rfl,rfl,rfl,Nat.le_refl _,fun _ _ _=>rfl⟩⟩;rw[Nat.add_zero,List.take_append_drop];exact kW.o
 case round =>
  obtain⟨i,rfl,hi,hin,hf⟩:=hrel;have d0:=hf.cell hs HB.o.1;have d1:=hf.cell hl HB.o.2.1;have d4:=hf.cell c4 HB.o.2.2;have d5:=hf.cell c5 HB.o.2.2;have HF:=ae hf
  by_cases hlt:i<row.length-len
  ·have hix:len+i<row.length:=by omega
   obtain⟨g,rfl,e0⟩:=HG.o (len+i) hix;replace e0:=hf.cell e0 (lW.o g rfl).1;obtain rfl:o1=some ⟨g,len,none⟩:=by
    rw[<-dK.o,if_neg (by omega)];exact congrArg some (Qv g len)
   obtain⟨D',hD',hh'⟩:=hin;have hsp:row.take len++row.drop (len+i)=row.take len++row[len+i] :: row.drop (len+i+1):=by rw[List.drop_eq_getElem_cons hix]
   have hkey:=FN (HZ.o row[len+i] (List.getElem_mem _));have Qw:Hd ((row.take len++row[len+i] :: row.drop (len+i+1)).Nodup):=by
    rw[<-hsp];exact List.Nodup.sublist (by
     have:(row.take len++row.drop (len+i)).Sublist (row.take len++row.drop len):=List.Sublist.append (List.Sublist.refl _) (by rw[<-List.drop_drop];exact List.drop_sublist _ _)
     rwa [List.take_append_drop]at this) vZ.o
   rw[hsp]at hD' hh';obtain⟨x,hx⟩:=zN (row[len+i]);rw[hx]at e0 hD' hh' hkey Qw;have FO:=ae (show(∀y,Maps.has D' (kT y)=ou (row.take len++x :: row.drop (len+i+1)) y)/\Tidy D'/\Maps.size D'<=(row.take len++x :: row.drop (len+i+1)).length from⟨hh',hD'.tidy keyS,hD'.size_le⟩);obtain⟨n,hn⟩:=zN ((row.take len++x :: row.drop (len+i+1)).length);rw[hn]at hD' FO;have HN:=ae hn;obtain⟨w1,hdel,hown1,ht1⟩:=hD'.drop keyS underlying81 hkey 0;have jl:Hd (Fx (fun b=>b=M) w w1):=HF.o.gb ht1.grown (fun b e=>by cases e;exact Or.inl rfl);have dA:=ae hown1;clear hh' hsp hx hn hown1 ht1 hf hD';go_wp2;refine⟨⟨i+1,by go_num,by omega,?_,jl.o⟩,by simp[intOf];omega⟩;exact InR.del Qw.o HN.o.symm FO.o.2.1 FO.o.2.2 FO.o.1 dA.o
  ·have hil:i=row.length-len:=by omega
   subst hil;obtain⟨k1,k2,k3,k4⟩:=ZR.o wr hf;rw[show len+(row.length-len)=row.length by omega,List.drop_length,List.append_nil]at hin;have HE:=ae (And.intro k1 (And.intro k2 (And.intro (hin.fx k3 (fun e=>HB.o.2.2 e.symm)) k4)));have z4':wr.frozen? ⟨S,4,none⟩=false:=(H.o.fx hf HB.o.2.2).fz 4;clear hin hf k1 k2 k3 k4;go_wp2;go_region_with (fail)
   all_goals (go_wp2;exact bodyPost_end (results_none rfl _ _ _) rfl ⟨rfl,_,HE.o.1,HE.o.2.1,HE.o.2.2.1,HE.o.2.2.2.drew,zq.o⟩)
open Go.RowKit Go.Maps
def jF(P:List Pl)(A F:Nat):Nat->Nat
 | 0=>F
 | i+1=>match P[i]? with
  | some x=>if F.testBit i=true then jF P A F i ||| (x.nam &&& A) else jF P A F i
  | none=>jF P A F i
theorem FP(P:List Pl)(A F i:Nat)(hi:i<P.length)(h:F.testBit i=true):jF P A F (i+1)=jF P A F i ||| (P[i].nam &&& A):=by simp[jF,List.getElem?_eq_getElem hi,h]
theorem FQ(P:List Pl)(A F i:Nat)(h:F.testBit i=false):jF P A F (i+1)=jF P A F i:=by
 rw[jF]
 cases P[i]? with
 | none=>rfl
 | some x=>simp[h]
theorem Qx(P:List Pl)(A F:Nat):∀i,F<=jF P A F i
 | 0=>Nat.le_refl _
 | i+1=>by
  have ih:=Qx P A F i
  cases h:F.testBit i with
  | false=>rw[FQ P A F i h];exact ih
  | true =>
   by_cases hi:i<P.length
   ·rw[FP P A F i hi h];exact Nat.le_trans ih Nat.left_le_or
   ·have:P[i]?=none:=List.getElem?_eq_none (by omega);simp only[jF,this];exact ih
theorem JI(P:List Pl)(A F:Nat)(hA:A<18446744073709551616)(hF:F<18446744073709551616):∀i,jF P A F i<18446744073709551616
 | 0=>hF
 | i+1=>by
  have ih:=JI P A F hA hF i
  cases h:F.testBit i with
  | false=>rw[FQ P A F i h];exact ih
  | true =>
   by_cases hi:i<P.length
   ·rw[FP P A F i hi h];exact ug ih (Nat.lt_of_le_of_lt Nat.and_le_right hA)
   ·have:P[i]?=none:=List.getElem?_eq_none (by omega);simp only[jF,this];exact ih
def wN(P:List Pl)(n0 A:Nat):Nat->Nat
 | 0=>n0 &&& A
 | n+1=>jF P A (wN P n0 A n) P.length
theorem Qy(P:List Pl)(n0 A:Nat)(hA:A<18446744073709551616):∀n,wN P n0 A n<18446744073709551616
 | 0=>Nat.lt_of_le_of_lt Nat.and_le_right hA
 | n+1=>JI P A _ hA (Qy P n0 A hA n) _
theorem ZT(nam bar A:Nat)(mv pv:Value)(P:List Pl)(w:World)(hmv:∃o n c,mv=.slice o n c)(hp:PlS w pv P)(hA:A<18446744073709551616)(hn:nam<18446744073709551616)(hP:∀x∈P,Fj x)(hPl:P.length<=64) :
  Calls prog 27 #[.agg #[.int .u64 (nam:Nat),.int .u64 (bar:Nat),mv,pv],.int .u64 (A:Nat)] w fun e w'=>(∃n,e=.returned (.int .u64 (wN P nam A n:Nat))/\wN P nam A (n+1)=wN P nam A n)/\w.grownBy w' none:=by
 obtain⟨o2,n2,c2,rfl⟩:=hmv;obtain⟨o,c,rfl⟩:=Fp hp;have HE:=ae (fun w' (hg:w.grownBy w' none) i (hi:i<P.length)=>Fq (hp.grow hg) hi);have CH:=ae (fun F k w (hF:F<18446744073709551616) (hk:k<64)=>I5 F k hF hk w);have dF:=ae hP;have ZU:=ae (Qy P nam A hA);have FT:Hd (∀n,wN P nam A (n+1)=jF P A (wN P nam A n) P.length):=fun n=>rfl
 have hb0:=bits_and_u64_nat nam A hn hA;have HW0:Hd (wN P nam A 0=nam &&& A):=rfl;obtain⟨N0,hN0⟩:=zN (nam &&& A);rw[hN0]at hb0 HW0;clear hp hP hN0 hn;obtain⟨B0,hB0⟩:=zN w.heap.size;obtain⟨W0,hW0⟩:=zN (w.alloc (.cells #[.int .u64 (nam:Nat),.int .u64 (bar:Nat),.slice o2 n2 c2,.slice o P.length c] 72));have jk:Hd (w.grownBy W0 none):=by rw[<-hW0];exact aj (ak w none) _
 have xR:Hd (W0.heap[B0]?=some (.cells #[.int .u64 (nam:Nat),.int .u64 (bar:Nat),.slice o2 n2 c2,.slice o P.length c] 72 (0,0))):=by rw[<-hW0,<-hB0];exact heap_alloc_new w _
 have hc0:W0.cell? ⟨B0,0,none⟩=some (.int .u64 (nam:Nat)):=by rw[ah xR.o];rfl
 go_enter func27,ntmps27;go_wp2
 try rw[hW0]
 try rw[hB0]
 clear hW0 hB0 hc0 hb0;go_loopw [5] (fun vf wr=>∃n:Nat,vf=.int .u64 (wN P nam A n:Nat)/\W0.grownBy wr none) (fun vf _=>18446744073709551616-(intOf vf).toNat)
 case atStart=>exact⟨0,by rw[HW0.o],ak _ _⟩
 case round =>
  obtain⟨n,rfl,hg⟩:=hrel;have HG:=ae hg;have hF:=ZU.o n;have HN:=ae (FT.o n);obtain⟨F,qE⟩:=zN (wN P nam A n);have Qz:=ae qE;rw[qE]at hF HN;rw[qE];have hbl:=(hg.block B0 (aB xR.o) (by simp)).trans xR.o;have hc3:wr.cell? ⟨B0,3,none⟩=some (.slice o P.length c):=by rw[ah hbl];rfl
  have zi:=ae (Qx P A F);have QA:=ae (JI P A F hA hF);obtain⟨wo,hwo⟩:∃wo,wo=wr:=⟨_,rfl⟩;subst hwo;clear hg qE hbl;go_wp2;clear hc3;go_loopw [6,18] (fun vm vi wr=>∃i:Nat,vi=.int .i64 i/\vm=.int .u64 (jF P A F i:Nat)/\i<=P.length/\W0.grownBy wr none) (fun _ vi _=>P.length-(intOf vi).toNat)
  case atStart=>exact⟨0,rfl,rfl,Nat.zero_le _,HG.o⟩
  case round =>
   obtain⟨i,rfl,rfl,hi,hg⟩:=hrel;have pq:=ae hg
   by_cases hlt:i<P.length
   ·obtain⟨a,ho,hcp,hat⟩:=HE.o wr (ag jk.o hg) i hlt;obtain⟨e0,e1,v,e2,e3⟩:=hat i hlt;have hok:=dF.o _ (List.getElem_mem hlt);have HY:=ae (FP P A F i hlt);have aU:=ae (FQ P A F i);obtain⟨x,hx⟩:=zN (P[i]);rw[hx]at e0 e1 e3 hok HY;obtain⟨o3,c3,rfl⟩:=Cf e3;have g1:wr.grownBy (wr.alloc (.cells #[.int .u64 (x.nam:Nat),.int .u64 (x.bar:Nat),.slice o3 x.mt.length c3] 69)) none:=aj (ak wr none) _;have bJ:=ae (ag pq.o g1);have C2:=ae (fun w=>CH.o F i w hF (by omega));have hms:=QA.o i;have hb1:=bits_and_u64_nat x.nam A hok.nam hA;have hb2:=bits_or_u64_nat (jF P A F i) (x.nam &&& A) hms (Nat.lt_of_le_of_lt Nat.and_le_right hA);obtain⟨b,hb⟩:=zN (F.testBit i);rw[hb]at C2 HY aU;obtain⟨Z,hZ⟩:=zN (x.nam &&& A);obtain⟨m,hm⟩:=zN (jF P A F i);rw[hZ]at hb1;rw[hZ,hm]at hb2 HY;rw[hm]at aU;rw[hm]
    have hic:i<c:=by omega
    subst ho;clear hat hg hx hb hcp hok e3 g1 hZ hm hms
    cases b with
    | false =>
     go_wp2_with (go_at_call 51;refine(C2.o _).mono ?_;rintro e w' ⟨rfl,rfl⟩);go_roundw
     case rel=>exact⟨i+1,by go_num,by rw[aU.o (by trivial)],by omega,bJ.o⟩
     case measure=>simp[intOf];omega
    | true =>
     go_wp2_with (go_at_call 51;refine(C2.o _).mono ?_;rintro e w' ⟨rfl,rfl⟩);go_roundw
     case rel=>exact⟨i+1,by go_num,by rw[HY.o (by trivial)],by omega,bJ.o⟩
     case measure=>simp[intOf];omega
   ·have hil:i=P.length:=by omega
    have HM:Hd (jF P A F i=wN P nam A (n+1)):=by show _=_;rw[HN.o,hil]
    have hle:=zi.o i;have hms:=QA.o i;obtain⟨m,hm⟩:=zN (jF P A F i);rw[hm]at HM hle hms;rw[hm];clear hg hil hi hm
    by_cases he:m=F
    ·subst he;have JJ:(((m:Nat):Int) == ((m:Nat):Int))=true:=by simp
     go_wp2;refine bodyPost_ret (results_tmp (t:=4) rfl _ _ _) rfl ⟨⟨n,?_,?_⟩,ag jk.o pq.o⟩
     ·rw[Qz.o];rfl
     ·rw[<-HM.o,Qz.o]
    ·have JJ:(((m:Nat):Int) == ((F:Nat):Int))=false:=by
      rw[beq_eq_false_iff_ne];omega
     have ji:Hd (F<m):=by show F<m;omega
     have ZV:=ae hms;clear he hle hms;go_wp2;go_roundw
     case rel=>exact⟨n+1,by rw[<-HM.o],pq.o⟩
     case measure =>
      have h1:=ji.o;have h2:=ZV.o;simp[intOf];omega
end Go.Proofs.YteciokcdpadmpaaGreatDoor
namespace Go.Proofs
open Go.Shelf
def Tryz.laysSortI_ren:Go.Shelf.Ren:=⟨fun|6=>66|14=>90|15=>91|20=>107|21=>108|22=>109|23=>110|24=>111|25=>112|26=>113|27=>114|28=>115|29=>116|46=>145|47=>146|48=>147|49=>148|50=>149|57=>173|n=>n,fun|22=>25|23=>121|24=>3|25=>95|27=>25|28=>121|29=>95|37=>154|38=>155|39=>156|40=>88|41=>154|42=>88|44=>181|45=>182|46=>183|47=>184|48=>185|49=>186|50=>187|51=>188|52=>189|53=>190|54=>191|55=>63|56=>181|57=>184|58=>185|59=>186|60=>188|66=>218|67=>219|68=>220|69=>221|70=>197|71=>222|72=>221|73=>222|76=>254|77=>35|78=>255|79=>255|81=>301|82=>302|83=>303|84=>304|85=>305|86=>306|87=>125|88=>307|89=>308|90=>309|91=>272|92=>310|93=>311|94=>312|95=>313|96=>320|n=>n,fun n=>n⟩
theorem Tryz.laysSortI:Go.Proofs.SlLaysF.n6 prog Tryz.laysSortI_ren:={
 mixed:=by kernel_rfl
 f6:=⟨ "slices.SortFunc[[]int,int]",by decide,func66.trans (congrArg some (by kernel_rfl))⟩
 f14:=⟨ "slices.pdqsortCmpFunc[int]",by decide,func90.trans (congrArg some (by kernel_rfl))⟩
 f15:=func91.trans (congrArg some (by kernel_rfl))
 f20:=⟨ "slices.insertionSortCmpFunc[int]",by decide,func107.trans (congrArg some (by kernel_rfl))⟩
 f21:=⟨ "slices.heapSortCmpFunc[int]",by decide,func108.trans (congrArg some (by kernel_rfl))⟩
 f22:=⟨ "slices.breakPatternsCmpFunc[int]",by decide,func109.trans (congrArg some (by kernel_rfl))⟩
 f23:=⟨ "slices.choosePivotCmpFunc[int]",by decide,func110.trans (congrArg some (by kernel_rfl))⟩
 f24:=⟨ "slices.reverseRangeCmpFunc[int]",by decide,func111.trans (congrArg some (by kernel_rfl))⟩
 f25:=⟨ "slices.partialInsertionSortCmpFunc[int]",by decide,func112.trans (congrArg some (by kernel_rfl))⟩
 f26:=⟨ "slices.partitionEqualCmpFunc[int]",by decide,func113.trans (congrArg some (by kernel_rfl))⟩
 f27:=⟨ "slices.partitionCmpFunc[int]",by decide,func114.trans (congrArg some (by kernel_rfl))⟩
 f28:=func115.trans (congrArg some (by kernel_rfl))
 f29:=func116.trans (congrArg some (by kernel_rfl))
 f46:=⟨ "slices.siftDownCmpFunc[int]",by decide,func145.trans (congrArg some (by kernel_rfl))⟩
 f47:=func146.trans (congrArg some (by kernel_rfl))
 f48:=func147.trans (congrArg some (by kernel_rfl))
 f49:=⟨ "slices.medianAdjacentCmpFunc[int]",by decide,func148.trans (congrArg some (by kernel_rfl))⟩
 f50:=⟨ "slices.medianCmpFunc[int]",by decide,func149.trans (congrArg some (by kernel_rfl))⟩
 f57:=⟨ "slices.order2CmpFunc[int]",by decide,func173.trans (congrArg some (by kernel_rfl))⟩
 t0:=underlying0
 a0:=isAgg0
 z0:=sizeOf0
 v0:=zeroValue0
 t3:=underlying3
 a3:=isAgg3
 z3:=sizeOf3
 v3:=zeroValue3
 t4:=underlying4
 a4:=isAgg4
 z4:=sizeOf4
 v4:=zeroValue4
 t5:=underlying5
 a5:=isAgg5
 z5:=sizeOf5
 v5:=zeroValue5
 t9:=underlying9
 a9:=isAgg9
 z9:=sizeOf9
 v9:=zeroValue9
 t22:=underlying25
 a22:=isAgg25
 z22:=sizeOf25
 v22:=zeroValue25
 a24:=isAgg3
 z24:=sizeOf3
 t25:=underlying95
 a25:=isAgg95
 z25:=sizeOf95
 v25:=zeroValue95
 t39:=underlying156
 a39:=isAgg156
 z39:=sizeOf156
 v39:=zeroValue156
 t45:=underlying182
 a45:=isAgg182
 z45:=sizeOf182
 v45:=zeroValue182
 t46:=underlying183
 a46:=isAgg183
 z46:=sizeOf183
 v46:=zeroValue183
 t50:=underlying187
 a50:=isAgg187
 z50:=sizeOf187
 v50:=zeroValue187
 t53:=underlying190
 a53:=isAgg190
 z53:=sizeOf190
 v53:=zeroValue190
 t55:=underlying63
 a55:=isAgg63
 z55:=sizeOf63
 v55:=zeroValue63
 t66:=underlying218
 a66:=isAgg218
 z66:=sizeOf218
 v66:=zeroValue218
 t70:=underlying197
 a70:=isAgg197
 z70:=sizeOf197
 v70:=zeroValue197
 t76:=underlying254
 a76:=isAgg254
 z76:=sizeOf254
 v76:=zeroValue254
 t77:=underlying35
 a77:=isAgg35
 z77:=sizeOf35
 v77:=zeroValue35 }
end Go.Proofs
namespace Go.Proofs.YteciokcdpadmpaaGreatDoor
open Go.RowKit Go.Maps Go.Joins
def Lx(S M:Nat)(rv:Value)(b:Nat):Prop:=b=S\/b=M\/rv.ownBlock=some b
def LUp(B S M R0 n0:Nat)(pv nv cm cv:Value)(f:Int)(A D:Nat)(o:Option Addr)(rv:Value)(w:World)(r:List ByteArray)(ro:Option Addr)(rc:Nat)(wr:World):Prop :=
 Sb wr S pv nv cm (.slice ro r.length rc) (.map (some M)) cv f A D/\wr.ownsRow B 9 1 (.slice ro r.length rc) r.length (r.map .string)/\InR wr M r/\Fx (Lx S M rv) w wr/\wr.cell? ⟨R0,0,none⟩=some (.pointer (some ⟨S,0,none⟩))/\wr.cell? ⟨R0+1,0,none⟩=some (.int .i64 (n0:Int))/\R0+2<=wr.heap.size/\∀g,ro.map (·.block)=some g->o.map (·.block)=some g\/R0+2<=g
theorem LUp.alloc{B S M R0 n0:Nat}{pv nv cm cv:Value}{f:Int}{A D:Nat}{o:Option Addr}{rv:Value}{w:World}{r:List ByteArray}{ro:Option Addr}{rc:Nat}{wr:World}(h:LUp B S M R0 n0 pv nv cm cv f A D o rv w r ro rc wr)(x:Obj):LUp B S M R0 n0 pv nv cm cv f A D o rv w r ro rc (wr.alloc x):=by
 obtain⟨k1,k2,k3,k4,k5,k6,k7,k8⟩:=h;have hg:wr.grownBy (wr.alloc x) none:=aj (ak wr none) x;have hfx:Fx (fun _=>False) wr (wr.alloc x):=(Fx.refl _ wr).gb hg (fun b e=>by cases e);exact⟨k1.grow hg,jo k2 hfx (fun _ _ h=>h),k3.fx hfx (fun h=>h),k4.gb hg (fun b e=>by cases e),hg.cell k5 (by simp),hg.cell k6 (by simp),by rw[World.size_alloc];omega,k8⟩
theorem LUp.app{B S M R0 n0:Nat}{pv nv cm cv:Value}{f:Int}{A D:Nat}{o:Option Addr}{rv:Value}{w:World}{r:List ByteArray}{ro:Option Addr}{rc g cap:Nat}{WA w1 w3:World}{x:ByteArray}{X:Obj}(h:LUp B S M R0 n0 pv nv cm cv f A D o rv w r ro rc WA)(hw:w.heap.size=R0)(hM:M<R0)(hSR:S<R0)(hSM:¬S=M)(hrv:rv.ownBlock=o.map (·.block))(hlo:∀g,o.map (·.block)=some g->g<R0)(h1:WA.grownBy w1 (some M))(hin:InR w1 M (r++[x]))(ho:w3.ownsRow B 9 1 (.slice (some ⟨g,0,none⟩) (r.length+1) cap) (r.length+1) (r.map .string++[.string x]))(hg:(w1.drew.alloc X).grownBy w3 (Value.slice ro r.length rc).ownBlock)(hat:(Value.slice ro r.length rc).ownBlock=some g\/g=(w1.drew.alloc X).heap.size) :
  LUp B S M R0 n0 pv nv cm cv f A D o rv w (r++[x]) (some ⟨g,0,none⟩) cap (w3.setCell ⟨S,4,none⟩ (.slice (some ⟨g,0,none⟩) (r.length+1) cap)):=by
 obtain⟨k1,k2,k3,k4,k5,k6,k7,k8⟩:=h;have hob:(Value.slice ro r.length rc).ownBlock=ro.map (·.block):=by cases ro<;>rfl
 rw[hob]at hg hat;have hge:∀b,ro.map (·.block)=some b->Lx S M rv b\/R0+2<=b:=fun b hb=>by
  rcases k8 b hb with h|h
  ·exact Or.inl (Or.inr (Or.inr (hrv.trans h)))
  ·exact Or.inr h
 have f1:Fx (fun b=>b=M\/ro.map (·.block)=some b) WA w3:=(((Fx.refl _ WA).gb h1 (fun b e=>by cases e;exact Or.inl (Or.inl rfl))).drew.gb (aj (ak w1.drew none) X) (fun b e=>by cases e)).gb hg (fun b e=>Or.inl (Or.inr e));have hro:∀b,ro.map (·.block)=some b->∃cur,WA.heap[b]?=some (.cells cur 9 (0,0)):=fun b hb=>by
  rcases k2.2 with⟨e,-⟩|⟨g',c',cur,e,-,h2,-⟩
  ·injection e with e _ _
   rw[e]at hb
   cases hb
  ·injection e with e _ _
   rw[e]at hb
   cases hb
   exact⟨cur,h2⟩
 have hS:¬(S=M\/ro.map (·.block)=some S):=by
  rintro(h|h)
  ·exact hSM h
  ·obtain⟨cur,h2⟩:=hro S h;have h3:WA.heap[S]?=_:=k1;rw[h3]at h2;injection h2 with h2
   injection h2 with _ h2
   exact absurd h2 (by decide)
 have hMr:¬ro.map (·.block)=some M:=fun h=>by
  obtain⟨cur,h2⟩:=hro M h;obtain⟨D',⟨es,cl,h3,-⟩,-⟩:=k3;rw[h3]at h2
  cases h2
 have hR:∀k,k<2->¬(R0+k=M\/ro.map (·.block)=some (R0+k)):=fun k hk=>by
  rintro(h|h)
  ·omega
  ·rcases k8 _ h with h|h
   ·have:=hlo _ h;omega
   ·omega
 have s3:Sb w3 S pv nv cm (.slice ro r.length rc) (.map (some M)) cv f A D:=k1.fx f1 hS;have f2:Fx (fun b=>b=S) w3 (w3.setCell ⟨S,4,none⟩ (.slice (some ⟨g,0,none⟩) (r.length+1) cap)):=(Fx.refl (fun b=>b=S) w3).set (Or.inl rfl) _ _;have ZW:InR w3 M (r++[x]):=hin.fx (X:=fun b=>ro.map (·.block)=some b) (((Fx.refl _ w1).drew.gb (aj (ak w1.drew none) X) (fun b e=>by cases e)).gb hg (fun b e=>Or.inl e)) hMr;have uw:¬g=S:=by
  rintro rfl
  rcases ho.2 with⟨e,-⟩|⟨g',c',cur,e,-,h2,-⟩
  ·cases e
  ·cases e
   have h3:w3.heap[g]?=_:=s3;rw[h3]at h2;injection h2 with h2
   injection h2 with _ h2
   exact absurd h2 (by decide)
 have hsz:WA.heap.size<=w3.heap.size:=f1.size;refine⟨?_,?_,ZW.fx f2 (fun e=>hSM e.symm),?_,?_,?_,?_,?_⟩
 ·rw[List.length_append];exact s3.setR _
 ·rw[List.length_append,List.map_append];exact jo ho f2 (fun g' e=>by cases e;exact uw)
 ·refine(((k4.gb h1 (fun b e=>by cases e;exact Or.inl (Or.inr (Or.inl rfl)))).drew.gb (aj (ak w1.drew none) X) (fun b e=>by cases e)).gb hg (fun b e=>?_)).set (Or.inl (Or.inl rfl)) _ _
  rcases hge b e with h|h
  ·exact Or.inl h
  ·exact Or.inr (by omega)
 ·exact f2.cell (f1.cell k5 (hR 0 (by omega))) (by omega)
 ·exact f2.cell (f1.cell k6 (hR 1 (by omega))) (by omega)
 ·have:(w3.setCell ⟨S,4,none⟩ (.slice (some ⟨g,0,none⟩) (r.length+1) cap)).heap.size=w3.heap.size:=by simp[World.setCell]
  omega
 ·intro g' e;obtain rfl:g=g':=Option.some.inj e
  rcases hat with h|h
  ·exact k8 g h
  ·right;have h1':=h1.size;have:(w1.drew.alloc X).heap.size=w1.heap.size+1:=World.size_alloc _ _;omega
theorem QB(B S M ng nc:Nat)(pv nv cm rv cv:Value)(f:Int)(A D:Nat)(row ns:List ByteArray)(w:World)(h:Sb w S pv nv cm rv (.map (some M)) cv f A D)(hr:w.ownsRow B 9 1 rv row.length (row.map .string))(hin:InR w M row)(hSM:¬S=M)(hB:B<=w.heap.size)(hns:∀i (hi:i<ns.length),w.cell? ⟨ng,i,none⟩=some (.string ns[i]))(Dj:¬Lx S M rv ng)(hnc:ns.length<=nc)(hz:∀x∈ns,x.size<=maxLen)(hR:row.length+ns.length<=1048576) :
  Calls prog 32 #[.pointer (some ⟨S,0,none⟩),.slice (some ⟨ng,0,none⟩) ns.length nc] w fun e w'=>∃bs bl rv',e=.returned (.func (.func 63) #[] #[.pointer (some ⟨bs,0,none⟩),.pointer (some ⟨bl,0,none⟩)])/\(w.heap.size<=bs/\w.heap.size<=bl/\w'.cell? ⟨bs,0,none⟩=some (.pointer (some ⟨S,0,none⟩))/\w'.cell? ⟨bl,0,none⟩=some (.int .i64 (row.length:Int))/\rv'.ownBlock≠some bs/\rv'.ownBlock≠some bl)/\Sb w' S pv nv cm rv' (.map (some M)) cv f A D/\w'.ownsRow B 9 1 rv' (ed row ns).length ((ed row ns).map .string)/\InR w' M (ed row ns)/\Fx (Lx S M rv) w w'/\(∀g,rv'.ownBlock=some g->rv.ownBlock=some g\/w.heap.size<=g):=by
 obtain⟨-,⟨c4,c5,-⟩,-⟩:=h.cells;have H:=ae h;have HR:=ae hr;have kW:=ae hin;obtain⟨o,c,rfl⟩:=rU hr;obtain⟨R0,hR0⟩:=zN w.heap.size;have HR0:=ae hR0;obtain⟨W1,hW1⟩:=zN (w.alloc (.cells #[.pointer (some ⟨S,0,none⟩)] 44));have hg1:w.grownBy W1 none:=by rw[<-hW1];exact aj (ak w none) _
 have hs1:W1.heap.size=R0+1:=by rw[<-hW1,World.size_alloc,hR0]
 have hb1:W1.heap[R0]?=some (.cells #[.pointer (some ⟨S,0,none⟩)] 44 (0,0)):=by rw[<-hW1,<-hR0];exact heap_alloc_new w _
 have b0:W1.cell? ⟨R0,0,none⟩=some (.pointer (some ⟨S,0,none⟩)):=by rw[ah hb1];rfl
 have b4:=hg1.cell c4 (by simp);have HW1:=ae (And.intro hg1 (And.intro hs1 hb1));have JK:M<R0:=by
  obtain⟨D',hD',-⟩:=hin;have:=hD'.lt;omega
 have hMR:¬R0=M:=by omega
 have xg:Hd ((∀g,o.map (·.block)=some g->g<R0)/\S<R0/\M<R0):=by
  refine⟨fun g hg=>?_,by rw[<-hR0];exact(aB h),JK⟩
  rcases hr.2 with⟨e,-⟩|⟨g',c',cur,e,-,h2,-⟩
  ·injection e with e _ _
   rw[e]at hg
   cases hg
  ·injection e with e _ _
   rw[e]at hg
   cases hg
   rw[<-hR0];exact(aB h2)
 have ZX:=ae hMR;clear h hr hin hg1 hb1 hMR JK;have zQ:=ae hns;have bD:=ae Dj;have HZ:=ae hz;have HC5:=ae c5;have EP:Hd (Sb (W1.alloc (.cells #[.int .i64 (row.length:Int)] 3)) S pv nv cm (.slice o row.length c) (.map (some M)) cv f A D/\(W1.alloc (.cells #[.int .i64 (row.length:Int)] 3)).ownsRow B 9 1 (.slice o row.length c) row.length (row.map .string)/\InR (W1.alloc (.cells #[.int .i64 (row.length:Int)] 3)) M row/\Fx (Lx S M (.slice o row.length c)) w (W1.alloc (.cells #[.int .i64 (row.length:Int)] 3))/\(W1.alloc (.cells #[.int .i64 (row.length:Int)] 3)).cell? ⟨R0,0,none⟩=some (.pointer (some ⟨S,0,none⟩))/\(W1.alloc (.cells #[.int .i64 (row.length:Int)] 3)).cell? ⟨R0+1,0,none⟩=some (.int .i64 (row.length:Int))/\R0+2<=(W1.alloc (.cells #[.int .i64 (row.length:Int)] 3)).heap.size):=by
  obtain⟨hg1,hs1,hb1⟩:=HW1.o;have hg2:w.grownBy (W1.alloc (.cells #[.int .i64 (row.length:Int)] 3)) none:=ag hg1 (aj (ak W1 none) _);have hfx:Fx (fun _=>False) w (W1.alloc (.cells #[.int .i64 (row.length:Int)] 3)):=(Fx.refl _ w).gb hg2 (fun b e=>by cases e);have hbl:=heap_alloc_new W1 (.cells #[.int .i64 (row.length:Int)] 3);rw[hs1]at hbl;refine⟨H.o.grow hg2,jo HR.o hfx (fun _ _ h=>h),kW.o.fx hfx (fun h=>h),hfx.mono (fun _ h=>h.elim),(aj (ak W1 none) _).cell b0 (by simp),by rw[ah hbl];rfl,by rw[World.size_alloc,hs1];omega⟩
 clear hns Dj hz c5;go_enter func32,ntmps32;go_wp2;go_loopw [17] (fun vi wr=>∃(i:Nat) (ro:Option Addr) (rc:Nat),vi=.int .i64 i/\i<=ns.length/\LUp B S M R0 row.length pv nv cm cv f A D o (.slice o row.length c) w (ed row (ns.take i)) ro rc wr) (fun vi _=>ns.length-(intOf vi).toNat)
 case atStart =>
  obtain⟨k1,k2,k3,k4,k5,k6,k7⟩:=EP.o;exact⟨0,o,c,rfl,Nat.zero_le _,k1,k2,k3,k4,k5,k6,k7,fun g h=>Or.inl h⟩
 case round =>
  obtain⟨i,ro,rc,rfl,hi,JL⟩:=hrel;obtain⟨wo,hwo⟩:∃wo,wo=wr:=⟨_,rfl⟩;subst hwo;have Dk:=ae JL;obtain⟨hS,hrow,hin,hf,hb0,hb1,hsz,hfr⟩:=JL
  by_cases hlt:i<ns.length
  ·have e0:=hf.cell (zQ.o i hlt) bD.o;obtain⟨-,⟨d4,d5,-⟩,-⟩:=hS.cells;obtain⟨D',hD',hh'⟩:=hin;have hkey:=FN (HZ.o ns[i] (List.getElem_mem _));have gy:Hd (ed row (ns.take (i+1))=if ou (ed row (ns.take i)) ns[i]=true then ed row (ns.take i) else ed row (ns.take i)++[ns[i]]):=by
    show _=_;rw[List.take_succ_eq_append_getElem hlt,PN]
   have hh:=hh' ns[i];obtain⟨x,hx⟩:=zN (ns[i]);rw[hx]at e0 hkey gy hh;have HLEN:=ae (Fh (ns.take i) row);have QC:=ae hh';obtain⟨r,hr⟩:=zN (ed row (ns.take i));rw[hr]at d4 hD' gy hh Dk HLEN QC;obtain⟨q,hq⟩:=zN (Maps.has D' (kT x));rw[hq]at hh;rw[<-hh]at gy;have afc:i<nc:=by omega
   clear hS hrow hf hb1 hfr hh' hh hx hr
   cases q with
   | true =>
    go_wp2_with (first|(at_lookup;refine wpList_lookup_own_unit _ rfl _ _ 81 rfl 9 104 keyS underlying81 (zC _) M r.length _ rfl hD' _ _ rfl hkey ?_;rw[hq])|go_in);exact⟨⟨i+1,ro,rc,by go_num,by omega,by rw[gy.o,if_pos rfl];exact Dk.o.alloc _⟩,by simp[intOf];omega⟩
   | false =>
    have hrl:r.length<=1048576:=by
     have:=HLEN.o;rw[List.length_take]at this;omega
    obtain⟨WA,ZY⟩:=zN (wo.alloc (.cells #[] 104));have lu:=ae (Dk.o.alloc (.cells #[] 104));have JM:=hD'.alloc (.cells #[] 104);rw[ZY]at lu JM;have a0:=lu.o.2.2.2.2.1;obtain⟨-,⟨a4,a5,-⟩,-⟩:=lu.o.1.cells;have uy:=ae (JM.isMap);go_wp2_with (first|(at_lookup;refine wpList_lookup_own_unit _ rfl _ _ 81 rfl 9 104 keyS underlying81 (zC _) M r.length _ rfl hD' _ _ rfl hkey ?_;rw[hq])|(at_mapUpdate;refine wpList_mapUpdate_own _ rfl _ _ _ 81 rfl 9 104 keyS underlying81 (unitElem (H:=Unit)) M r.length _ rfl JM (by unfold maxLen;omega) _ _ _ rfl rfl hkey _ [] unitElem_mk ?_;intro w1 hown1 hgrow1;have f0:=hgrow1.cell a0 (by simpa using ZX.o);have f4:=hgrow1.cell a4 (by simpa using hSM))|go_in);obtain⟨i0,hi0,hii⟩:=Option.map_eq_some_iff.1 PM;simp only[Prod.mk.injEq]at hii;obtain⟨hz0,hz1,hzb⟩:=hii;have JO:∀b,(Value.slice ro r.length rc).ownBlock=some b->¬b=M/\¬b=S:=fun b hb=>by
     rcases lu.o.2.1.2 with⟨e,-⟩|⟨g',c',cur,e,-,h2,-⟩
     ·rw[e]at hb;cases hb
     ·rw[e]at hb;obtain rfl:g'=b:=Option.some.inj hb;refine⟨fun e=>?_,fun e=>?_⟩
      ·obtain⟨D2,⟨es,cl,h3,-⟩,-⟩:=lu.o.2.2.1;rw[e,h3]at h2
       cases h2
      ·have h3:WA.heap[S]?=_:=lu.o.1;rw[e,h3]at h2;injection h2 with h2
       injection h2 with _ h2
       exact absurd h2 (by decide)
    have JP:Fx (fun b=>b=M) WA w1:=(Fx.refl _ WA).gb hgrow1 (fun b e=>by cases e;exact Or.inl rfl);have hrow1:=jo lu.o.2.1 JP (fun b hb=>(JO b hb).1);have ZZ:Hd (InR w1 M (r++[x])):=InR.put rfl uy.o QC.o hown1;have bJ:=ae hgrow1;have QE:w1.heap[S]?=_:=lu.o.1.fx JP hSM;have wu:=ae QE;have zS:Hd (some S≠(Value.slice ro r.length rc).ownBlock):=fun e=>(JO S e.symm).2 rfl
    have JQ:Hd (some R0≠(Value.slice ro r.length rc).ownBlock):=fun e=>by
     have hob:(Value.slice ro r.length rc).ownBlock=ro.map (·.block):=by cases ro<;>rfl
     rw[hob]at e
     rcases lu.o.2.2.2.2.2.2.2 R0 e.symm with h|h
     ·have:=xg.o.1 R0 h;omega
     ·omega
    obtain⟨K,hK⟩:=zN (w1.heap.size);have JR:Hd ((w1.drew.alloc (.cells #[.string x] 9)).heap[K]?=some (.cells #[.string x] 9 (0,0))):=by
     have:=heap_alloc_new w1.drew (.cells #[.string x] 9);rw[show w1.drew.heap.size=K from hK]at this;exact this
    have Z4:B<=K:=by
     have h1:=bJ.o.size;have h2:=lu.o.2.2.2.2.2.2.1;have h3:=HR0.o;omega
    have hone:∀u∈([.string x]:List Value),u.oneCell'=true:=by simp[Value.oneCell']
    have f4A:=(World.grownBy_alloc w1 (.cells #[.string x] 9) none).cell f4 (by simp);have f0A:=(World.grownBy_alloc w1 (.cells #[.string x] 9) none).cell f0 (by simp);obtain⟨ys,hys⟩:∃ys:List Value,r.map .string=ys:=⟨_,rfl⟩;have JS:=ae hys;rw[hys]at hrow1;clear hys hown1 hgrow1 JO JP QE
    go_region_law (refine step_append_lies _ (by rfl) _ _ _ (by rfl) B 9 i0 _ 1 16 underlying53 hi0 hz0 hz1 hzb (by rfl) (by decide) (.slice ro r.length rc) r.length ys (by rfl) (hrow1.drew.alloc _) ⟨K,0,none⟩ 1 1 [.string x] (by rfl) (by rfl) (World.news_of_block JR.o) hone (by omega) (by unfold maxLen;omega) (by omega) (by simp;omega) _ rfl ?_;intro g cap w3 hown3 hgrow hat hlt3;have hc3:=hgrow.cell f4A zS.o;have hc0:=hgrow.cell f0A JQ.o;have Z5:w3.frozen? ⟨S,4,none⟩=false:=Lib.frozen_of_heap ((hgrow.block S (Nat.lt_of_lt_of_le (aB wu.o) (World.grownBy_alloc w1 (.cells #[.string x] 9) none).size) zS.o).trans (((World.grownBy_alloc w1 (.cells #[.string x] 9) none).block S (aB wu.o) (by simp)).trans wu.o)) 4)
    all_goals (go_wp2;exact⟨⟨i+1,some ⟨g,0,none⟩,cap,by go_num,by omega,by rw[gy.o,if_neg (by simp)];exact lu.o.app HR0.o xg.o.2.2 xg.o.2.1 hSM (by cases o<;>rfl) xg.o.1 bJ.o ZZ.o (by rw[JS.o];exact hown3) hgrow hat⟩,by simp[intOf];omega⟩)
  ·obtain rfl:i=ns.length:=by omega
   rw[List.take_length]at Dk;have hmf:∀(fn:Fn) (first cap:Array Value) (w:World),(Instr.makeFunc fn first cap).run prog w=.ok (.func fn first cap) w:=fun _ _ _ _=>rfl
   clear hS hrow hin hf hb0 hb1 hfr;go_wp2;go_ret;obtain⟨k1,k2,k3,k4,k5,k6,k7,k8⟩:=Dk.o;have hob:(Value.slice ro (ed row ns).length rc).ownBlock=ro.map (·.block):=by cases ro<;>rfl
   have hoc:(Value.slice o row.length c).ownBlock=o.map (·.block):=by cases o<;>rfl
   have di:∀k,k<2->(Value.slice ro (ed row ns).length rc).ownBlock≠some (R0+k):=fun k hk e=>by
    rw[hob]at e
    rcases k8 _ e with h|h
    ·have:=xg.o.1 _ h;omega
    ·omega
   refine⟨R0,R0+1,_,rfl,⟨by rw[HR0.o];exact Nat.le_refl _,by rw[HR0.o];omega,k5,k6,di 0 (by omega),di 1 (by omega)⟩,k1,k2,k3,k4,fun g hg=>?_⟩;rw[hob]at hg;rw[hoc]
   rcases k8 g hg with h|h
   ·exact Or.inl h
   ·exact Or.inr (by rw[HR0.o];omega)
open Go.RowKit Go.Maps Go.Joins
theorem FU:(prog.info? 3).map (fun i=>(i.zero,i.size,i.bytes))=some (some (.int .i64 0),1,8):=by kernel_rfl
theorem nz{w w':World}(h:w.grownBy w' none):w.grownBy w'.drew none:=⟨h.os,h.tape,h.output,h.size,h.block⟩
theorem QF(W:World){R:Nat}(h:W.heap.size=R)(x y:Value)(t:TypeId):((W.alloc (.cells #[x] t)).alloc (.cells #[y] t)).cell? ⟨R,0,none⟩=some x/\((W.alloc (.cells #[x] t)).alloc (.cells #[y] t)).cell? ⟨R+1,0,none⟩=some y/\W.grownBy ((W.alloc (.cells #[x] t)).alloc (.cells #[y] t)) none/\((W.alloc (.cells #[x] t)).alloc (.cells #[y] t)).heap.size=R+2:=by
 have s1:(W.alloc (.cells #[x] t)).heap.size=R+1:=by rw[World.size_alloc,h]
 have h1:=heap_alloc_new W (.cells #[x] t);have h2:=heap_alloc_new (W.alloc (.cells #[x] t)) (.cells #[y] t);rw[h]at h1;rw[s1]at h2;refine⟨(aj (ak _ none) _).cell (by rw[ah h1];rfl) (by simp),by rw[ah h2];rfl,aj (aj (ak W none) _) _,by rw[World.size_alloc,s1]⟩
def Cs(B S M R0 p q k:Nat)(pv nv cm rv:Value)(f:Int)(A D A1 D1:Nat)(cv:Value)(w:World)(ch:List Nat)(wx:World):Prop:=∃g cap,Sb wx S pv nv cm rv (.map (some M)) (.slice (some ⟨g,0,none⟩) (ch.length+1) cap) f A1 D1/\wx.ownsRow B 3 1 (.slice (some ⟨g,0,none⟩) (ch.length+1) cap) (ch.length+1) ((ch++[k]).map fun(j:Nat)=>Value.int .i64 (j:Int))/\Fx (fun b=>b=S\/cv.ownBlock=some b) w wx/\wx.cell? ⟨R0,0,none⟩=some (.pointer (some ⟨S,0,none⟩))/\wx.cell? ⟨p,0,none⟩=some (.int .u64 (A:Int))/\wx.cell? ⟨q,0,none⟩=some (.int .u64 (D:Int))/\R0+3<=wx.heap.size/\(cv.ownBlock=some g\/R0+3<=g)
theorem Z7{B S M R0 p q k g cap:Nat}{pv nv cm rv cv:Value}{f:Int}{A D A1 D1:Nat}{ch:List Nat}{w wc w3:World}{X:Obj}(hw:w.heap.size=R0)(h:Sb wc S pv nv cm rv (.map (some M)) cv f A1 D1)(hg:w.grownBy wc none)(x0:wc.cell? ⟨R0,0,none⟩=some (.pointer (some ⟨S,0,none⟩)))(m1:wc.cell? ⟨p,0,none⟩=some (.int .u64 (A:Int)))(m2:wc.cell? ⟨q,0,none⟩=some (.int .u64 (D:Int)))(hp:R0+1<=p)(hq:R0+1<=q)(hs:R0+3<=wc.heap.size)(hSR:S<R0)(di:∀b,cv.ownBlock=some b->¬b=S/\b<R0)(ho:w3.ownsRow B 3 1 (.slice (some ⟨g,0,none⟩) (ch.length+1) cap) (ch.length+1) ((ch.map fun(j:Nat)=>Value.int .i64 (j:Int))++[.int .i64 (k:Int)]))(hgr:(wc.drew.alloc X).grownBy w3 cv.ownBlock)(hat:cv.ownBlock=some g\/g=(wc.drew.alloc X).heap.size) :
  Cs B S M R0 p q k pv nv cm rv f A D A1 D1 cv w ch (w3.setCell ⟨S,6,none⟩ (.slice (some ⟨g,0,none⟩) (ch.length+1) cap)):=by
 have f1:Fx (fun b=>cv.ownBlock=some b) wc w3:=((Fx.refl _ wc).drew.gb (aj (ak wc.drew none) X) (fun b e=>by cases e)).gb hgr (fun b e=>Or.inl e);have f2:Fx (fun b=>b=S) w3 (w3.setCell ⟨S,6,none⟩ (.slice (some ⟨g,0,none⟩) (ch.length+1) cap)):=(Fx.refl (fun b=>b=S) w3).set (Or.inl rfl) _ _;have f0:Fx (fun b=>b=S\/cv.ownBlock=some b) w wc:=(Fx.refl _ w).gb hg (fun b e=>by cases e);have s3:=h.fx f1 (fun e=>(di S e).1 rfl);have keep:∀{b:Nat} {v:Value},R0<=b->wc.cell? ⟨b,0,none⟩=some v->(w3.setCell ⟨S,6,none⟩ (.slice (some ⟨g,0,none⟩) (ch.length+1) cap)).cell? ⟨b,0,none⟩=some v:=fun hb hv=>f2.cell (f1.cell hv (fun e=>by have:=(di _ e).2;omega)) (by omega)
 have uw:¬g=S:=by
  rintro rfl
  rcases ho.2 with⟨e,-⟩|⟨g',c',cur,e,-,h2,-⟩
  ·cases e
  ·cases e
   have h3:w3.heap[g]?=_:=s3;rw[h3]at h2;injection h2 with h2
   injection h2 with _ h2
   exact absurd h2 (by decide)
 have sz:=f1.size;refine⟨g,cap,s3.setC _,?_,(f0.trans ((f1.mono fun b hb=>Or.inr hb).trans (f2.mono fun b hb=>Or.inl hb))),keep (Nat.le_refl _) x0,keep (by omega) m1,keep (by omega) m2,?_,?_⟩
 ·rw[List.map_append];exact jo ho f2 (fun g' e=>by cases e;exact uw)
 ·have:(w3.setCell ⟨S,6,none⟩ (.slice (some ⟨g,0,none⟩) (ch.length+1) cap)).heap.size=w3.heap.size:=by simp[World.setCell]
  omega
 ·rcases hat with h|h
  ·exact Or.inl h
  ·right;have:(wc.drew.alloc X).heap.size=wc.heap.size+1:=World.size_alloc _ _;omega
open Go.RowKit Go.Maps
def mM(n:Nat):DataW Unit:=.lit (.int .i64 (n:Int))
theorem zT{a b:Nat}(h:mM a=mM b):a=b:=by
 unfold mM at h;injection h with h
 injection h with _ h
 omega
def oD(v:Value):Option (DataW Unit × List MemPlace) :=
 match v with
 | .slice none n c=>some (.agg [mM n,mM c],[])
 | .slice (some ⟨b,o,none⟩) n c=>some (.agg [mM n,mM c,mM b,mM o],[])
 | _=>none
theorem QG{v v':Value}{d:DataW Unit}{ps ps':List MemPlace}(h:oD v=some (d,ps))(h':oD v'=some (d,ps')):v=v':=by
 unfold oD at h h';split at h
 ·injection h with h
  injection h with h _
  split at h'
  ·injection h' with h'
   injection h' with h' _
   rw[<-h]at h';injection h' with h'
   injection h' with h1 h2
   injection h2 with h2 _
   rw[zT h1,zT h2]
  ·injection h' with h'
   injection h' with h' _
   rw[<-h]at h';injection h' with h'
   injection h' with _ h'
   injection h' with _ h'
   cases h'
  ·cases h'
 ·injection h with h
  injection h with h _
  split at h'
  ·injection h' with h'
   injection h' with h' _
   rw[<-h]at h';injection h' with h'
   injection h' with _ h'
   injection h' with _ h'
   cases h'
  ·injection h' with h'
   injection h' with h' _
   rw[<-h]at h';injection h' with h'
   injection h' with h1 h2
   injection h2 with h2 h3
   injection h3 with h3 h4
   injection h4 with h4 _
   rw[zT h1,zT h2,zT h3,zT h4]
  ·cases h'
 ·cases h
def Dl:DataW Unit:=.agg [mM 0,mM 0]
open Go.RowKit Go.Maps Go.Sort Go.Shelf
attribute [local go_sem] Oper.semAt_some
theorem Z8{P:Program}{n:Nat}{g:Operand}{ps:Array Tmp}{assign body:Code}{Q:Exit->Act->World->Prop}{a:Act}{w:World}{gf:Nat}{lb:Array Value}
  (hg:a.eval g=.func (.func gf) #[] lb) (eg:∀args w,(callFunc gf args).run P w=.ok (.enter gf args) w)
  (h:∀(r:Loop) (W4:World),r.state=.ready->r.pending=none->r.params=ps->r.assign=assign->r.body=body->r.tmps=a.tmps->(w.alloc (.deferred (some []))).alloc (.loop r)=W4 →
   CallsIn Fence.wide (n-1) P gf (#[.func (.yield (w.heap.size+1)) #[] #[]]++lb) W4 (rangePost Fence.wide n P (w.heap.size+1) Q { a with defers:=[{ target:=.collected w.heap.size,args:=#[] }]++a.defers })) :
  (Code.rangeFunc g ps assign body).wpIn Fence.wide n P Q a w:=by
 refine wpIn_rangeFunc ?_;intro fn hfn;obtain⟨r,hr⟩:∃r:Loop,r={ state:=.ready,pending:=none,fn:=fn,tmps:=a.tmps,params:=ps,assign:=assign,body:=body,defers:=w.heap.size }:=⟨_,rfl⟩;obtain⟨W1,hW1⟩:=zN ((w.alloc (.deferred (some []))).alloc (.loop r));have hc:=h r W1 (by rw[hr]) (by rw[hr]) (by rw[hr]) (by rw[hr]) (by rw[hr]) (by rw[hr]) hW1;have e1:(Instr.enterLoop fn a.tmps ps assign body Fence.wide.round).run P w=.ok (w.heap.size+1,[{ target:=.collected w.heap.size,args:=#[] }]) W1:=by
  rw[<-hW1,hr,show Fence.wide.round=none from rfl];exact run_enterLoop_outer _ _ _ _ _
 have e2:(resolve a.eval (rangeCall g (w.heap.size+1)) 0).run P W1=.ok { target:=.fn (.func gf) lb,args:=#[.func (.yield (w.heap.size+1)) #[] #[]] } W1:=by
  simp only[resolve,hg];simp[go_sem]
 have e3:(invoke (.fn (.func gf) lb) #[.func (.yield (w.heap.size+1)) #[] #[]]).run P W1=.ok (.enter gf (#[.func (.yield (w.heap.size+1)) #[] #[]]++lb)) W1:=by
  simp[invoke,go_sem,eg]
 have e4:Fence.wide.depth.isSome=true->1<=n:=by
  intro hd;simp[Fence.wide]at hd
 clear h hr;refine⟨w.heap.size+1,[{ target:=.collected w.heap.size,args:=#[] }],W1,{ target:=.fn (.func gf) lb,args:=#[.func (.yield (w.heap.size+1)) #[] #[]] },W1,gf,#[.func (.yield (w.heap.size+1)) #[] #[]]++lb,W1,e1,?_⟩;refine⟨e2,?_⟩;refine⟨fun _ _=>trivial,?_⟩;refine⟨e3,?_⟩;refine⟨e4,?_⟩;exact hc
theorem Z9(r:Loop)(h1:r.state=.ready)(h2:r.pending=none):({ ({ r with state:=.busy }:Loop) with state:=if(none:Option Code).isNone then .ready else .done,pending:=none }:Loop)=r:=by
 cases r
 simp at h1 h2;simp[h1,h2]
theorem aab{P:Program}{n l:Nat}{r:Loop}{args:Array Value}{W1:World}{R:Ending->World->Prop}(hl:W1.heap[l]?=some (.loop r))(hps:args.size=r.params.size)
  (h:r.assign.wpIn (Fence.wide.inRound l) n P (Exit.then (fun a₁ w₁=>∃w₂,(Instr.beginRound l).run P w₁=.ok () w₂/\r.body.wpIn (Fence.wide.inRound l) n P (roundPost P l R) a₁ w₂) (fun _ _ _=>False))
   { tmps:=(r.params.zip args).foldl (fun tmps (t,a)=>tmps.setIfInBounds t a) r.tmps,defers:=[] } W1) :
  YieldAt Fence.wide n P l args W1 R:=⟨_,_,_,_,run_yield hl hps,roundIn_of_wpIn trivial h⟩
theorem aac(o:Option Addr)(n c:Nat)(w:World):Calls prog 37 #[.slice o n c] w fun e w'=>e=.returned (.func (.func 67) #[] #[.pointer (some ⟨w.heap.size,0,none⟩)])/\w'=w.alloc (.cells #[.slice o n c] 25):=by
 go_enter func37,ntmps37;go_wp2;go_ret;exact⟨rfl,rfl⟩
theorem aad(n l bm:Nat)(hn:1<=n)(o:Option Addr)(c:Nat)(L:List Int)(hL:L.length<=1048576)(J:List Int->World->Prop)
  (hc:∀pre W,J pre W->W.cell? ⟨bm,0,none⟩=some (.slice o L.length c)/\IS W (.slice o L.length c) L)
  (hY:∀pre x W,J pre W->pre.length<L.length->YieldAt Fence.wide (n-1) prog l #[.int .i64 x] W fun e W'=>e=.returned (.bool true)/\J (pre++[x]) W') (W:World) (h0:J [] W) :
  CallsIn Fence.wide n prog 67 #[.func (.yield l) #[] #[],.pointer (some ⟨bm,0,none⟩)] W fun e W'=>(∃v,e=.returned v)/\J L W':=by
 refine callsIn_of_wp func67 rfl trivial ?_ rfl;simp only[ntmps67,List.size_toArray,List.length_cons,List.length_nil,Nat.reduceAdd,Nat.reduceSub,Array.replicate_succ,Array.replicate_zero,List.push_toArray,List.append_toArray,List.nil_append,List.cons_append];obtain⟨m0,-⟩:=hc [] W h0
 gi_wp2
 clear m0
 gi_loopw [7] (fun vi wr=>∃i:Nat,vi=.int .i64 i/\i<=L.length/\J (L.take i) wr) (fun vi _=>L.length-(intOf vi).toNat)
 case atStart=>exact⟨0,rfl,Nat.zero_le _,h0⟩
 case round =>
  obtain⟨i,rfl,hi,hJ⟩:=hrel;have HJ:=ae hJ
  by_cases hlt:i<L.length
  ·obtain⟨m1,m2⟩:=hc _ _ hJ;obtain⟨a,rfl,hcv,hat⟩:=uj m2 hlt;have e0:=hat i hlt;obtain⟨x,hx⟩:=zN (L[i]);rw[hx]at e0;obtain⟨fn,tmps,assign,body,hy,hR⟩:=hY (L.take i) x wr hJ (by simp;omega);have jO:Hd (L.take i++[x]=L.take (i+1)):=by
    show _=_;rw[List.take_succ_eq_append_getElem hlt,hx]
   clear m1 m2 hat hx hJ
   gi_wp2
   refine hR.mono ?_;rintro e W3 ⟨rfl,hJ3⟩;have rP:Hd (J (L.take (i+1)) W3):=by show J _ _;rw[<-jO.o];exact hJ3
   clear hJ3
   gi_wp2
   exact⟨⟨i+1,by go_num,by omega,rP.o⟩,by simp[intOf];omega⟩
  ·have hil:i=L.length:=by omega
   have rP:Hd (J L wr):=by
    rw[hil,List.take_length]at hJ;exact hJ
   clear hJ hil hi
   gi_wp2
   go_end0
   exact⟨⟨_,rfl⟩,rP.o⟩
theorem zU(W:World)(l:Nat)(o:Obj):W.grownBy (W.putObj l o) (some l) :=
 ⟨rfl,rfl,rfl,by simp,fun k _ hk=>World.putObj_heap_other (fun e=>hk (by rw[e]))⟩
theorem aae(bm:Nat)(o:Option Addr)(c:Nat)(L:List Int)(hL:L.length<=1048576)(w:World)(hbm:w.heap[bm]?=some (.cells #[.slice o L.length c] 25 (0,0)))(htx:IS w (.slice o L.length c) L) :
  CallsIn Fence.wide 4 prog 89 #[.slice none 0 0,.func (.func 67) #[] #[.pointer (some ⟨bm,0,none⟩)]] w fun e w'=>∃v,e=.returned v/\w'.ownsRow w.heap.size 3 1 v L.length (L.map (Value.int .i64))/\Below w.heap.size w w':=by
 have Dn:=FU;obtain⟨j0,hj0,hjj⟩:=Option.map_eq_some_iff.1 Dn;simp only[Prod.mk.injEq]at hjj;obtain⟨hy0,hy1,hyb⟩:=hjj;clear Dn;have QH:Hd (w.heap[bm]?=some (.cells #[.slice o L.length c] 25 (0,0))/\IS w (.slice o L.length c) L):=⟨hbm,htx⟩;have hbl:=(aB hbm);clear hbm htx;refine callsIn_of_wp_marks func89 rfl trivial ?_ rfl;simp only[ntmps89,List.size_toArray,List.length_cons,List.length_nil,Nat.reduceAdd,Nat.reduceSub,Array.replicate_succ,Array.replicate_zero,List.push_toArray,List.append_toArray,List.nil_append,List.cons_append]
 gi_wp2
 refine Z8 (gf:=67) (lb:=#[.pointer (some ⟨bm,0,none⟩)]) rfl (enters_of func67 (by kernel_rfl) rfl) ?_;intro r W4 hr1 hr2 hr3 hr4 iV hr6 gp;obtain⟨B,hB⟩:=zN (w.heap.size);have hs1:(w.alloc (.cells #[.slice none 0 0] 25)).heap.size=B+1:=by rw[World.size_alloc,hB]
 rw[hs1];have q0:W4.heap[B]?=some (.cells #[.slice none 0 0] 25 (0,0)):=by
  rw[<-gp,Below.heap_alloc _ _ _ (by simp;omega),Below.heap_alloc _ _ _ (by simp;omega),<-hB];exact heap_alloc_new w _
 have qd:W4.heap[B+1]?=some (.deferred (some [])):=by
  rw[<-gp,Below.heap_alloc _ _ _ (by simp;omega),<-hs1];exact heap_alloc_new _ _
 have ql:W4.heap[B+2]?=some (.loop r):=by
  rw[<-gp];have:=heap_alloc_new ((w.alloc (.cells #[.slice none 0 0] 25)).alloc (.deferred (some []))) (.loop r);rw[World.size_alloc,hs1]at this;exact this
 have b4:Below w.heap.size w W4:=by
  rw[<-gp];exact(((Below.refl _ _).alloc (Nat.le_refl _) _).alloc (by simp) _).alloc (by simp;omega) _
 have HB:=ae hB;clear gp hs1;have hbB:bm<B:=by omega
 have hcl:∀W,Below w.heap.size w W->W.cell? ⟨bm,0,none⟩=some (.slice o L.length c)/\IS W (.slice o L.length c) L:=fun W hb=>by
  refine⟨?_,QH.o.2.grow (oh hb)⟩;rw[ah ((hb.block bm hbl).trans QH.o.1)];rfl
 refine(aad 3 (B+2) bm (by omega) o c L hL (fun pre W=>(∃v,W.heap[B]?=some (.cells #[v] 25 (0,0))/\W.ownsRow w.heap.size 3 1 v pre.length (pre.map (Value.int .i64)))/\W.heap[B+2]?=some (.loop r)/\W.heap[B+1]?=some (.deferred (some []))/\Below w.heap.size w W)
  (fun pre W h=>hcl W h.2.2.2) ?yl W4 ⟨⟨_,q0,World.ownsRow_nil _ _ _ _⟩,ql,qd,b4⟩).mono ?fin
 case fin =>
  rintro e W5 ⟨⟨v,rfl⟩,⟨v5,qv,qr⟩,q2,q3,q4⟩;obtain⟨W6,lX⟩:=zN (W5.putObj (B+2) (Obj.loop { r with state:=.exhausted }));have hel:=run_endLoop (P:=prog) q2 (by rw[hr1];simp);rw[lX,hr2]at hel;refine⟨none,W6,hel,?_⟩;clear hel;have p1:W6.heap[B]?=some (.cells #[v5] 25 (0,0)):=by rw[<-lX];exact(World.putObj_heap_other (by omega)).trans qv
  have p3:W6.heap[B+1]?=some (.deferred (some [])):=by rw[<-lX];exact(World.putObj_heap_other (by omega)).trans q3
  have pg:W5.grownBy W6 (some (B+2)):=by rw[<-lX];exact zU _ _ _
  have pr:=qr.kept pg (ownsRow_ne_a qr q2 (fun cur e=>by cases e));have p4:=q4.grown pg q4.size (fun k e=>by cases e;omega);obtain⟨pc,pf⟩:=cell_of_box_a p1;have rV:=ae pr;have hpb:=HB.o;clear lX qv qr q2 q3 q4 hr4 iV hr6 q0 qd ql b4 pg pr
  try rw[hpb]
  simp only[List.cons_append,List.nil_append]
  gi_wp2
  refine⟨by simp,.inl ⟨_,_,rfl,run_takeDeferred p3,?_⟩⟩;refine⟨_,results_tmp rfl _ _ _,?_⟩;exact⟨v5,rfl,rV.o.kept (zU _ _ _) (ownsRow_ne_a rV.o p3 (fun cur e=>by cases e)),p4.grown (zU _ _ _) p4.size (fun k e=>by cases e;omega)⟩
 case yl =>
  rintro pre x W5 ⟨⟨v5,qv,qr⟩,q2,q3,q4⟩ hlen;refine aab q2 (by rw[hr3];rfl) ?_;rw[hr3,hr4,iV,hr6];obtain⟨W6,lX⟩:=zN (W5.putObj (B+2) (Obj.loop { r with state:=.busy }));have hbr:=run_beginRound (P:=prog) q2 hr1;rw[lX]at hbr;have l2:=(aB q2);have pg:W5.grownBy W6 (some (B+2)):=by rw[<-lX];exact zU _ _ _
  have p1:W6.heap[B]?=some (.cells #[v5] 25 (0,0)):=by rw[<-lX];exact(World.putObj_heap_other (by omega)).trans qv
  have p2:W6.heap[B+2]?=some (.loop { r with state:=.busy }):=by rw[<-lX];exact World.putObj_heap_same l2
  have p3:W6.heap[B+1]?=some (.deferred (some [])):=by rw[<-lX];exact(World.putObj_heap_other (by omega)).trans q3
  have pr:=qr.kept pg (ownsRow_ne_a qr q2 (fun cur e=>by cases e));have p4:=q4.grown pg q4.size (fun k e=>by cases e;omega);obtain⟨pc,pf⟩:=cell_of_box_a p1;have hz6:=p4.size;have hB6:=(aB p1);have hD6:=(aB p3);have hl6:=(aB p2);have ne_of:∀{j:Nat} {ob:Obj},W6.heap[j]?=some ob->(∀cur,ob≠.cells cur 3 (0,0))->some j≠v5.ownBlock:=fun hj hno=>by
   rcases ownsRow_ne_a pr hj hno with e|e
   ·rw[e];simp
   ·exact fun e'=>e e'.symm
  have nB:=ne_of p1 (fun cur e=>by simp at e);have nl:=ne_of p2 (fun cur e=>by cases e);have nD:=ne_of p3 (fun cur e=>by cases e);have hpb:=HB.o;rw[hpb]at hr6;clear lX qv qr q3 q4 q0 qd ql b4 pg;rw[hpb];clear q2
  gi_wp2_with (first
   | (gi_at_builtin;refine wpListIn_append_own _ rfl _ _ 25 rfl w.heap.size 3 j0 (.int .i64 0) 1 8 underlying25 hj0 hy0 hy1 hyb rfl (by decide) _ _ _ rfl (pr.alloc _) ⟨W6.heap.size,0,none⟩ 1 1 [.int .i64 x] rfl rfl (cell_one_new _ _ _) (by simp[Value.oneCell']) (by unfold maxLen;omega) (by omega) (by simp;omega) ?_;intro v' w3 hown' hg3 hnil3
      have hv3:=(hg3.block B (by simp;omega) nB).trans ((Below.heap_alloc _ _ B hB6).trans p1);obtain⟨hc3,hf3⟩:=cell_of_box_a hv3;obtain⟨g',cap',cur',rfl,hbase',hgb',hr1',hr2',afd,afe⟩:∃g' cap' cur',v'=.slice (some ⟨g',0,none⟩) (pre.length+1) cap'/\w.heap.size<=g'/\w3.heap[g']?=some (.cells cur' 3 (0,0))/\pre.length+1<=cap'/\cap'<=maxLen/\cur'.size=cap'*1/\cur'.toList.take ((pre.length+1)*1)=pre.map (Value.int .i64)++[.int .i64 x]:=by
       rcases hown'.2 with⟨_,h0⟩|h'
       ·exact absurd h0 (by omega)
       ·exact h'
      go_frame)
   | gi_in)
  have hg3':(W6.alloc (.cells #[.int .i64 x] 3)).grownBy w3 v5.ownBlock:=hg3;have hL3:=(hg3'.block (B+2) (by simp;omega) nl).trans ((Below.heap_alloc _ _ _ hl6).trans p2);have hK3:=(hg3'.block (B+1) (by simp;omega) nD).trans ((Below.heap_alloc _ _ _ hD6).trans p3);obtain⟨w4,hw4⟩:=zN (w3.setCell ⟨B,0,none⟩ (.slice (some ⟨g',0,none⟩) (pre.length+1) cap'));rw[hw4];have hg4:w3.grownBy w4 (some B):=by rw[<-hw4];exact grownBy_setCell0_a _ _ _
  have hv4:w4.heap[B]?=some (.cells #[.slice (some ⟨g',0,none⟩) (pre.length+1) cap'] 25 (0,0)):=by rw[<-hw4];exact heap_setCell_box_a _ hv3
  have hL4:=(hg4.block (B+2) (aB hL3) (by simp)).trans hL3;have hK4:=(hg4.block (B+1) (aB hK3) (by simp)).trans hK3;have hrow4:=hown'.kept hg4 (ownsRow_ne_a hown' hv3 (fun cur e=>by simp at e));have hl4:=(aB hL4);have hb3:=(p4.alloc p4.size _).grown hg3' (by simp;omega) (fun k e=>(pr.lt k e).1);have hb4:=hb3.grown hg4 hb3.size (fun k e=>by cases e;omega);clear hw4;have aff:=hb4.size;rw[hpb]at hb4 hrow4;refine⟨_,_,run_endRound none hL4,rfl,⟨_,(World.putObj_heap_other (by omega)).trans hv4,?_⟩,by rw[World.putObj_heap_same hl4,Z9 r hr1 hr2],(World.putObj_heap_other (by omega)).trans hK4,hb4.grown (zU _ _ _) (by omega) (fun k e=>by cases e;omega)⟩;have:=hrow4.kept (zU w4 (B+2) (.loop { { r with state:=.busy } with state:=if(none:Option Code).isNone then .ready else .done,pending:=none })) (ownsRow_ne_a hrow4 hL4 (fun cur e=>by cases e))
  simpa using this
end Go.Proofs.YteciokcdpadmpaaGreatDoor
