import Derived.Shelf.SlSortCmp.NoneTotal
import Derived.Test.YteciokcdpadmpaaGreatDoorS12
import Derived.Deep.AppendSrc
set_option linter.all false
set_option maxRecDepth 100000
set_option maxHeartbeats 0
open Go.Proofs.Tryz
namespace Go.Proofs
open Go.Shelf
def Tryz.laysSortT_ren:Go.Shelf.Ren:=⟨fun|6=>83|14=>104|15=>91|20=>135|21=>136|22=>137|23=>138|24=>139|25=>140|26=>141|27=>142|28=>115|29=>116|46=>167|47=>146|48=>147|49=>168|50=>169|57=>184|n=>n,fun|22=>143|23=>145|24=>147|25=>150|27=>25|28=>121|29=>95|37=>180|38=>155|39=>156|41=>154|42=>88|44=>207|45=>182|46=>183|47=>208|48=>209|49=>210|50=>187|51=>211|52=>189|53=>190|54=>191|55=>63|56=>181|57=>184|58=>185|59=>186|60=>188|66=>218|67=>219|68=>220|69=>249|70=>197|71=>250|72=>221|73=>222|76=>254|77=>35|78=>264|79=>255|81=>301|82=>302|83=>303|84=>304|85=>305|86=>306|87=>125|88=>307|89=>308|90=>309|91=>272|92=>310|93=>311|94=>312|95=>313|96=>320|n=>n,fun n=>n⟩
theorem Tryz.laysSortT:Go.Proofs.SlLaysF0.n6 prog Tryz.laysSortT_ren:={
 mixed:=by kernel_rfl
 f6:=⟨ "slices.SortFunc[[]pantry/shelf.item,pantry/shelf.item]",by decide,func83.trans (congrArg some (by kernel_rfl))⟩
 f14:=⟨ "slices.pdqsortCmpFunc[pantry/shelf.item]",by decide,func104.trans (congrArg some (by kernel_rfl))⟩
 f15:=func91.trans (congrArg some (by kernel_rfl))
 f20:=⟨ "slices.insertionSortCmpFunc[pantry/shelf.item]",by decide,func135.trans (congrArg some (by kernel_rfl))⟩
 f21:=⟨ "slices.heapSortCmpFunc[pantry/shelf.item]",by decide,func136.trans (congrArg some (by kernel_rfl))⟩
 f22:=⟨ "slices.breakPatternsCmpFunc[pantry/shelf.item]",by decide,func137.trans (congrArg some (by kernel_rfl))⟩
 f23:=⟨ "slices.choosePivotCmpFunc[pantry/shelf.item]",by decide,func138.trans (congrArg some (by kernel_rfl))⟩
 f24:=⟨ "slices.reverseRangeCmpFunc[pantry/shelf.item]",by decide,func139.trans (congrArg some (by kernel_rfl))⟩
 f25:=⟨ "slices.partialInsertionSortCmpFunc[pantry/shelf.item]",by decide,func140.trans (congrArg some (by kernel_rfl))⟩
 f26:=⟨ "slices.partitionEqualCmpFunc[pantry/shelf.item]",by decide,func141.trans (congrArg some (by kernel_rfl))⟩
 f27:=⟨ "slices.partitionCmpFunc[pantry/shelf.item]",by decide,func142.trans (congrArg some (by kernel_rfl))⟩
 f28:=func115.trans (congrArg some (by kernel_rfl))
 f29:=func116.trans (congrArg some (by kernel_rfl))
 f46:=⟨ "slices.siftDownCmpFunc[pantry/shelf.item]",by decide,func167.trans (congrArg some (by kernel_rfl))⟩
 f47:=func146.trans (congrArg some (by kernel_rfl))
 f48:=func147.trans (congrArg some (by kernel_rfl))
 f49:=⟨ "slices.medianAdjacentCmpFunc[pantry/shelf.item]",by decide,func168.trans (congrArg some (by kernel_rfl))⟩
 f50:=⟨ "slices.medianCmpFunc[pantry/shelf.item]",by decide,func169.trans (congrArg some (by kernel_rfl))⟩
 f57:=⟨ "slices.order2CmpFunc[pantry/shelf.item]",by decide,func184.trans (congrArg some (by kernel_rfl))⟩
 t0:=underlying0
 a0:=isAgg0
 z0:=sizeOf0
 v0:=zeroValue0
 t3:=underlying3
 a3:=isAgg3
 z3:=sizeOf3
 v3:=zeroValue3
 t4:=underlying4
 a4:=isAgg4
 z4:=sizeOf4
 v4:=zeroValue4
 t5:=underlying5
 a5:=isAgg5
 z5:=sizeOf5
 v5:=zeroValue5
 t9:=underlying9
 a9:=isAgg9
 z9:=sizeOf9
 v9:=zeroValue9
 t22:=underlying143
 a22:=isAgg143
 z22:=sizeOf143
 v22:=zeroValue143
 t25:=underlying150
 a25:=isAgg150
 z25:=sizeOf150
 v25:=zeroValue150
 t39:=underlying156
 a39:=isAgg156
 z39:=sizeOf156
 v39:=zeroValue156
 t45:=underlying182
 a45:=isAgg182
 z45:=sizeOf182
 v45:=zeroValue182
 t46:=underlying183
 a46:=isAgg183
 z46:=sizeOf183
 v46:=zeroValue183
 t50:=underlying187
 a50:=isAgg187
 z50:=sizeOf187
 v50:=zeroValue187
 t53:=underlying190
 a53:=isAgg190
 z53:=sizeOf190
 v53:=zeroValue190
 t55:=underlying63
 a55:=isAgg63
 z55:=sizeOf63
 v55:=zeroValue63
 t66:=underlying218
 a66:=isAgg218
 z66:=sizeOf218
 v66:=zeroValue218
 t70:=underlying197
 a70:=isAgg197
 z70:=sizeOf197
 v70:=zeroValue197
 t76:=underlying254
 a76:=isAgg254
 z76:=sizeOf254
 v76:=zeroValue254
 t77:=underlying35
 a77:=isAgg35
 z77:=sizeOf35
 v77:=zeroValue35 }
end Go.Proofs
namespace Go.Proofs.YteciokcdpadmpaaGreatDoor
open Go.RowKit
structure En where
 nm:ByteArray
 ve:ByteArray
 dg:ByteArray
 nd:List ByteArray
def TxS(w:World)(v:Value)(L:List ByteArray):Prop:=(v=.slice none 0 0/\L=[])\/∃a cap,v=.slice (some a) L.length cap/\L.length<=cap/\∀i (hi:i<L.length),w.cell? (a.add i)=some (.string L[i])
theorem TxS.grow{w w':World}{v:Value}{L:List ByteArray}(h:TxS w v L)(hg:w.grownBy w' none):TxS w' v L:=by
 rcases h with h|⟨a,cap,h1,h2,h3⟩
 ·exact Or.inl h
 ·exact Or.inr ⟨a,cap,h1,h2,fun i hi=>hg.cell (h3 i hi) (by simp)⟩
theorem aak{w:World}{v:Value}{L:List ByteArray}(h:TxS w v L):∃o c,v=.slice o L.length c:=by
 rcases h with⟨rfl,rfl⟩|⟨a,cap,rfl,-⟩
 ·exact⟨_,_,rfl⟩
 ·exact⟨_,_,rfl⟩
def EnAt(w:World)(p:Addr)(x:En):Prop:=w.cell? p=some (.string x.nm)/\w.cell? ⟨p.block,p.off+1,none⟩=some (.string x.ve)/\w.cell? ⟨p.block,p.off+2,none⟩=some (.string x.dg)/\∃v,w.cell? ⟨p.block,p.off+3,none⟩=some v/\TxS w v x.nd
theorem EnAt.grow{w w':World}{p:Addr}{x:En}(h:EnAt w p x)(hg:w.grownBy w' none):EnAt w' p x:=by
 obtain⟨h0,h1,h2,v,h3,h4⟩:=h;exact⟨hg.cell h0 (by simp),hg.cell h1 (by simp),hg.cell h2 (by simp),v,hg.cell h3 (by simp),h4.grow hg⟩
def EnS(w:World)(v:Value)(L:List En):Prop:=(v=.slice none 0 0/\L=[])\/∃a cap,v=.slice (some a) L.length cap/\L.length<=cap/\∀i (hi:i<L.length),EnAt w (a.add (i*4)) L[i]
theorem EnS.grow{w w':World}{v:Value}{L:List En}(h:EnS w v L)(hg:w.grownBy w' none):EnS w' v L:=by
 rcases h with h|⟨a,cap,h1,h2,h3⟩
 ·exact Or.inl h
 ·exact Or.inr ⟨a,cap,h1,h2,fun i hi=>(h3 i hi).grow hg⟩
theorem QQ{w:World}{v:Value}{L:List En}(h:EnS w v L):∃o c,v=.slice o L.length c:=by
 rcases h with⟨rfl,rfl⟩|⟨a,cap,rfl,-⟩
 ·exact⟨_,_,rfl⟩
 ·exact⟨_,_,rfl⟩
theorem hblk(a:Addr)(k:Nat):(a.add k).block=a.block:=by unfold Addr.add;split<;>simp
def uz(v:Value)(b:Option Nat):Prop:=∀a n c,v=.slice (some a) n c->0<n->some a.block≠b
theorem TxS.far{w w':World}{v:Value}{L:List ByteArray}{b:Option Nat}(h:TxS w v L)(hg:w.grownBy w' b)(hf:uz v b):TxS w' v L:=by
 rcases h with h|⟨a,cap,rfl,h2,h3⟩
 ·exact Or.inl h
 ·refine Or.inr ⟨a,cap,rfl,h2,fun i hi=>?_⟩;have hb:=hf a _ _ rfl (by omega);exact hg.cell (h3 i hi) (by rw[hblk];exact hb)
theorem FV{w:World}{a:Addr}{n c:Nat}{L:List ByteArray}(h:TxS w (.slice (some a) n c) L)(hn:0<n):a.block<w.heap.size:=by
 rcases h with⟨h,-⟩|⟨a',cap,h1,h2,h3⟩
 ·cases h
 ·cases h1
  have:=ui (h3 0 (by omega));rw[hblk]at this;exact this
theorem aal{w:World}{base:Nat}{v:Value}{L:List ByteArray}{n:Nat}(hn:n=L.length)(h:w.ownsRow base 9 1 v n (L.map Value.string)):TxS w v L:=by
 subst hn
 rcases h.2 with⟨h1,h2⟩|⟨g,cap,cur,hv,hb,hc,h3,h4,h5,h6⟩
 ·exact Or.inl ⟨h1,List.length_eq_zero_iff.1 h2⟩
 ·refine Or.inr ⟨⟨g,0,none⟩,cap,hv,h3,fun i hi=>?_⟩;have h':=h;rw[hv]at h';exact h'.cells (g:=g) rfl i _ (by rw[List.getElem?_map,List.getElem?_eq_getElem hi];rfl)
def qG(x:En)(v:Value):List Value:=[.string x.nm,.string x.ve,.string x.dg,v]
def qH(L:List En)(vs:List Value):List Value:=(List.zipWith qG L vs).flatten
theorem aam(L:List En)(vs:List Value)(x:En)(v:Value)(h:L.length=vs.length):qH (L++[x]) (vs++[v])=qH L vs++qG x v:=by
 unfold qH;rw[List.zipWith_append h];simp
theorem JV:∀(L:List En) (vs:List Value) (h:L.length=vs.length) (i:Nat) (hi:i<L.length) (k:Nat) (u:Value),(qG L[i] (vs[i]'(by omega)))[k]?=some u->(qH L vs)[i*4+k]?=some u
 | [],vs,h,i,hi,k,u,hu=>by simp at hi
 | x :: L,[],h,i,hi,k,u,hu=>by simp at h
 | x :: L,v :: vs,h,i,hi,k,u,hu=>by
  have e:qH (x :: L) (v :: vs)=qG x v++qH L vs:=rfl;have hl:(qG x v).length=4:=rfl;rw[e]
  cases i with
  | zero =>
   simp only[List.getElem_cons_zero]at hu;have hk:=(List.getElem?_eq_some_iff.1 hu).1;rw[Nat.zero_mul,Nat.zero_add,List.getElem?_append_left hk];exact hu
  | succ i =>
   simp only[List.getElem_cons_succ]at hu;rw[List.getElem?_append_right (by rw[hl];omega),hl,show(i+1)*4+k-4=i*4+k by omega];exact JV L vs (by simpa using h) i (by simpa using hi) k u hu
theorem aan:(prog.info? 56).map (fun i=>(i.zero,i.size,i.bytes))=some (some (.agg #[.string ⟨#[]⟩,.string ⟨#[]⟩,.string ⟨#[]⟩,.slice none 0 0]),4,72):=by kernel_rfl
theorem aao:(prog.info? 9).map (fun i=>(i.zero,i.size,i.bytes))=some (some (.string ⟨#[]⟩),1,16):=by kernel_rfl
theorem QR(s:En)(v:Value)(h:v.oneCell'=true):∀u∈qG s v,u.oneCell'=true:=by
 intro u hu;simp only[qG,List.mem_cons,List.not_mem_nil,or_false]at hu
 rcases hu with rfl|rfl|rfl|rfl
 ·rfl
 ·rfl
 ·rfl
 ·exact h
theorem aap(L:List ByteArray):∀u∈L.map Value.string,u.oneCell'=true:=by
 intro u hu;obtain⟨s,-,rfl⟩:=List.mem_map.1 hu;rfl
theorem aaq{P:Program}{w:World}{ops:Array Oper}{rest:List Oper}{o:Oper}{a:Act}{Q:Exit->Act->World->Prop}(hgd:o.guard=none)(s x:Operand)(t:TypeId)
  (ho:o.op=.call { callee:=.builtin .append,args:=#[s,x],argTypes:=#[t,t] }) (e:TypeId) (i:TypeInfo) (ht:P.underlying t=some (.slice e)) (hi:P.info? e=some i)
  (hs:a.eval s=.slice none 0 0) (p:Option Addr) (c:Nat) (hx:a.eval x=.slice p 0 c)
  (h:wpList P ops Q rest (a.put o.dst (.slice none 0 0)) w):wpList P ops Q (o :: rest) a w:=by
 refine wpList_plain hgd fun K hK=>?_
 have hsrc:Src P i.size t (.slice p 0 c) 0 [] w:=by
  cases p with
  | none=>exact Src.ofNil w ht c
  | some ad=>exact Src.ofSlice w ht ad 0 c [] (by simp) (by intro j u hu;simp at hu) (by intro u hu;cases hu)
 have hrun:(Builtin.append_ #[t,t] o.type #[.slice none 0 0,.slice p 0 c]).run P w=.ok (.slice none 0 0) w:=by
  simp[Builtin.append_,run_underlying ht,sizeOf,typeInfo,hi,hsrc.len,hsrc.cells]
 unfold Oper.wp;simp[execOp,ho,resolve,invoke,builtin,hs,hx,hrun,Result.andThen];exact hK _ _ h
theorem QS{p:Addr}{s:En}{r:Option Nat}{w w':World}(hg:w.grownBy w' r)(hn:some p.block≠r)(h:w.cell? p=some (.string s.nm)/\w.cell? ⟨p.block,p.off+1,none⟩=some (.string s.ve)/\w.cell? ⟨p.block,p.off+2,none⟩=some (.string s.dg)):w'.cell? p=some (.string s.nm)/\w'.cell? ⟨p.block,p.off+1,none⟩=some (.string s.ve)/\w'.cell? ⟨p.block,p.off+2,none⟩=some (.string s.dg) :=
 ⟨hg.cell h.1 hn,hg.cell h.2.1 hn,hg.cell h.2.2 hn⟩
def zW(L:List En)(w:World)(base:Nat)(vm:Value)(i:Nat):Prop:=∃vs:List Value,∃hl:vs.length=i,w.ownsRow base 56 4 vm i (qH (L.take i) vs)/\∀j (hj:j<i) (hL:j<L.length),TxS w (vs[j]'(by omega)) L[j].nd/\uz (vs[j]'(by omega)) vm.ownBlock
theorem aar(a:Addr)(cap:Nat)(L:List En)(w:World)(hL:L.length<=1048576)(hcap:L.length<=cap)(hN:∀x∈L,x.nd.length<=1048576)(h:∀i (hi:i<L.length),EnAt w (a.add (i*4)) L[i]) :
  Calls prog 7 #[.slice (some a) L.length cap] w fun e w'=>∃v,e=.returned v/\zW L w' w.heap.size v L.length/\Below w.heap.size w w':=by
 have HA:=ae h;have HN:=ae hN;clear h hN;have hinfo:=aan;obtain⟨i0,hi0,hii⟩:=Option.map_eq_some_iff.1 hinfo;simp only[Prod.mk.injEq]at hii;obtain⟨hz0,hz1,hzb⟩:=hii;have Dn:=aao;obtain⟨j0,hj0,hjj⟩:=Option.map_eq_some_iff.1 Dn;simp only[Prod.mk.injEq]at hjj;obtain⟨hy0,hy1,hyb⟩:=hjj;clear hinfo Dn;go_enter func7,ntmps7;go_wp2;go_loopw [3,4] (fun vm vi wr=>∃i:Nat,vi=.int .i64 i/\i<=L.length/\zW L wr w.heap.size vm i/\Below w.heap.size w wr) (fun _ vi _=>L.length-(intOf vi).toNat)
 case atStart=>exact⟨0,rfl,Nat.zero_le _,⟨[],rfl,World.ownsRow_nil _ _ _ _,fun j hj=>by omega⟩,Below.refl _ _⟩
 case round =>
  obtain⟨i,rfl,hi,⟨vs,hvs,hown,hin⟩,hb⟩:=hrel
  by_cases hlt:i<L.length
  ·obtain⟨s,hs⟩:=zN (L[i]);have xP:EnAt wr (a.add (i*4)) s:=by rw[<-hs];exact(HA.o i hlt).grow (oh hb)
   obtain⟨e0,e1,e2,sv,e3,hsv⟩:=xP;have lW:Hd (some (a.add (i*4)).block≠u3.ownBlock):=by
    show _≠_;intro e;have h1:=(hown.lt _ e.symm).1;have h2:=(HA.o i hlt).1;have h3:=ui h2;omega
   have hnd:=HN.o s (by rw[<-hs];exact List.getElem_mem _);have kW:Hd (∀j (hj:j<i) (hL:j<L.length),TxS wr (vs[j]'(by omega)) L[j].nd/\uz (vs[j]'(by omega)) u3.ownBlock):=hin;have jO:Hd (∀v,qH (L.take (i+1)) (vs++[v])=qH (L.take i) vs++qG s v):=fun v=>by
    rw[List.take_succ_eq_append_getElem hlt,hs];exact aam _ _ _ _ (by rw[List.length_take,hvs];omega)
   have HS:=ae hs;have hzz:=hb.size;have HTX:=ae hsv;obtain⟨so,sc,rfl⟩:=aak hsv;clear hin hs hsv
   by_cases hn0:s.nd.length=0
   ·rw[hn0]at e3;go_wp2_with (first|(at_builtin;refine aaq rfl _ _ 53 rfl 9 j0 underlying53 hj0 rfl _ _ rfl ?_));have hg1:wr.grownBy wr none:=ak _ _;have Dp:TxS wr (.slice none 0 0) s.nd:=Or.inl ⟨rfl,List.length_eq_zero_iff.1 hn0⟩;have hf1:∀a n k,Value.slice none 0 0=.slice (some a) n k->0<n->wr.heap.size<=a.block:=fun a n k e=>by cases e
    have x9:=ae Dp;have jl:=ae hf1;have E0:=hg1.cell e0 (by simp);have E1:=hg1.cell e1 (by simp);have E2:=hg1.cell e2 (by simp);have hown1:=hown.kept hg1 (by cases u3.ownBlock<;>simp);have hsz1:=hg1.size;have hb1:=hbelow hb hzz hg1;have bJ:=ae hg1;clear e0 e1 e2 e3 Dp hf1 hg1;go_wp2
    go_region_held3 (fun w'=>w'.cell? (a.add (i*4))=some (.string s.nm)/\w'.cell? ⟨(a.add (i*4)).block,(a.add (i*4)).off+1,none⟩=some (.string s.ve)/\w'.cell? ⟨(a.add (i*4)).block,(a.add (i*4)).off+2,none⟩=some (.string s.dg)) ((first|exact QS (by assumption) (by first|exact lW.o|simp) (by assumption)|go_keep)) (first|(refine step_append_lies _ (by rfl) _ _ _ (by rfl) w.heap.size 56 i0 _ 4 72 underlying33 hi0 hz0 hz1 hzb (by rfl) (by decide) u3 i (qH (L.take i) vs) (by rfl) (hown1.drew.alloc _) _ 1 1 (qG s (.slice none 0 0)) (by rfl) (by rfl) (World.news_of_block (heap_alloc_new _ _)) (QR s _ rfl) (by omega) (by unfold maxLen;omega) (by omega) (by simp;omega) _ rfl ?_;intro g cap1 w3 hown3 hgrow hat hlt3))
    have g2:wr.grownBy (wr.drew.alloc (.cells #[.string s.nm,.string s.ve,.string s.dg,.slice none 0 0] 56)) none:=aj (ag bJ.o (show wr.grownBy wr.drew none from⟨rfl,rfl,rfl,Nat.le_refl _,fun _ _ _=>rfl⟩)) _;have hb2:Below w.heap.size w wr.drew:=hbelow hb1 (Nat.le_trans hzz hsz1) ⟨rfl,rfl,rfl,Nat.le_refl _,fun _ _ _=>rfl⟩;have HB3:=ae ((hb2.alloc (Nat.le_trans hzz hsz1) _).grown hgrow (by simp;omega) (fun q hq=>(hown.lt q hq).1));have hnew:TxS (wr.drew.alloc (.cells #[.string s.nm,.string s.ve,.string s.dg,.slice none 0 0] 56)) (.slice none 0 0) s.nd:=x9.o.grow (aj (show wr.grownBy wr.drew none from⟨rfl,rfl,rfl,Nat.le_refl _,fun _ _ _=>rfl⟩) _);have hfn:uz (.slice none 0 0) u3.ownBlock:=fun a' n' k' e hn=>by
     have h1:=jl.o a' n' k' e hn;intro h2;have h3:=(hown.lt a'.block h2.symm).2;omega
    have far2:∀v (M:List ByteArray),TxS (wr.drew.alloc (.cells #[.string s.nm,.string s.ve,.string s.dg,.slice none 0 0] 56)) v M->(∀a' n' k',v=.slice (some a') n' k'->0<n'->a'.block<wr.heap.size)->uz v u3.ownBlock->uz v (some g):=fun v M h1 h2 h3 a' n' k' e hn=>by
     have h4:=h2 a' n' k' e hn
     rcases hat with h5|h5
     ·rw[<-h5];exact h3 a' n' k' e hn
     ·intro h6;injection h6 with h6
      rw[h5]at h6;simp at h6;omega
    have HR3:Hd (zW L w3 w.heap.size (.slice (some ⟨g,0,none⟩) (i+1) cap1) (i+1)):=by
     refine⟨vs++[.slice none 0 0],by simp[hvs],?_,fun j hj hLj=>?_⟩
     ·rw[jO.o];exact hown3
     ·by_cases hji:j<i
      ·obtain⟨k1,k2⟩:=kW.o j hji hLj;have ej:(vs++[Value.slice none 0 0])[j]'(by simp;omega)=vs[j]'(by omega):=List.getElem_append_left (by omega);rw[ej];refine⟨(k1.grow g2).far hgrow k2,?_⟩;refine far2 _ _ (k1.grow g2) (fun a' n' k' e hn=>?_) k2;have:=FV (by rw[<-e];exact k1) hn;exact Nat.lt_of_lt_of_le this hsz1
      ·have hje:j=i:=by omega
       subst hje;have ej:(vs++[Value.slice none 0 0])[j]'(by simp;omega)=.slice none 0 0:=by simp[hvs]
       rw[ej];have esj:L[j].nd=s.nd:=by rw[HS.o]
       rw[esj];exact⟨hnew.far hgrow hfn,far2 _ _ hnew (fun a' n' k' e hn=>FV (by rw[<-e];exact x9.o) hn) hfn⟩
    clear hown3 hgrow hat hown hown1 hb hb1 hb2 hlt3 E0 E1 E2 g2 hnew hfn far2;go_wp2;go_roundw
    case rel=>exact⟨i+1,by go_num,by omega,HR3.o,HB3.o⟩
    case measure=>simp[intOf];omega
   ·obtain⟨b,rfl,hb0⟩:∃b,so=some b/\∀j (hj:j<s.nd.length),wr.cell? (b.add j)=some (.string s.nd[j]):=by
     rcases HTX.o with⟨h1,h2⟩|⟨b,cp,h1,h2,h3⟩
     ·rw[h2]at hn0;exact absurd rfl hn0
     ·cases h1;exact⟨b,rfl,h3⟩
    have hnews:∀j u,(s.nd.map Value.string)[j]?=some u->wr.cell? (b.add j)=some u:=fun j u hu=>by
     obtain⟨hj,rfl⟩:=List.getElem?_eq_some_iff.1 hu;rw[List.getElem_map];exact hb0 j (by simpa using hj)
    obtain⟨nn,hnn⟩:=zN (s.nd.length);rw[hnn]at e3 hnd hn0;go_wp2_with (first|(at_builtin;refine wpList_append_lies _ rfl _ _ 53 rfl wr.heap.size 9 j0 _ 1 16 underlying53 hj0 hy0 hy1 hyb rfl (by decide) (.slice none 0 0) 0 [] rfl (World.ownsRow_nil _ _ _ _) b nn sc (s.nd.map Value.string) rfl (by rw[List.length_map,hnn,Nat.mul_one]) hnews (aap _) (by omega) (by unfold maxLen;omega) (by omega) (Nat.le_refl _) _ rfl ?_;intro g0 cap0 w1 hown0 hgrow0 xP hlt0));simp only[Nat.zero_add]at hown0 ⊢;have hg1:wr.grownBy w1 none:=hgrow0;have Dp:=aal hnn.symm hown0;have hf1:∀a n k,Value.slice (some ⟨g0,0,none⟩) nn cap0=.slice (some a) n k->0<n->wr.heap.size<=a.block:=fun a n k e hn=>by
     rw[e]at hown0;exact(hown0.lt a.block rfl).1
    clear hown0 hgrow0 xP hlt0 hnews hb0 hnn;have x9:=ae Dp;have jl:=ae hf1;have E0:=hg1.cell e0 (by simp);have E1:=hg1.cell e1 (by simp);have E2:=hg1.cell e2 (by simp);have hown1:=hown.kept hg1 (by cases u3.ownBlock<;>simp);have hsz1:=hg1.size;have hb1:=hbelow hb hzz hg1;have bJ:=ae hg1;clear e0 e1 e2 e3 Dp hf1 hg1;go_wp2
    go_region_held3 (fun w'=>w'.cell? (a.add (i*4))=some (.string s.nm)/\w'.cell? ⟨(a.add (i*4)).block,(a.add (i*4)).off+1,none⟩=some (.string s.ve)/\w'.cell? ⟨(a.add (i*4)).block,(a.add (i*4)).off+2,none⟩=some (.string s.dg)) ((first|exact QS (by assumption) (by first|exact lW.o|simp) (by assumption)|go_keep)) (first|(refine step_append_lies _ (by rfl) _ _ _ (by rfl) w.heap.size 56 i0 _ 4 72 underlying33 hi0 hz0 hz1 hzb (by rfl) (by decide) u3 i (qH (L.take i) vs) (by rfl) (hown1.drew.alloc _) _ 1 1 (qG s (.slice (some ⟨g0,0,none⟩) nn cap0)) (by rfl) (by rfl) (World.news_of_block (heap_alloc_new _ _)) (QR s _ rfl) (by omega) (by unfold maxLen;omega) (by omega) (by simp;omega) _ rfl ?_;intro g cap1 w3 hown3 hgrow hat hlt3))
    have g2:wr.grownBy (w1.drew.alloc (.cells #[.string s.nm,.string s.ve,.string s.dg,.slice (some ⟨g0,0,none⟩) nn cap0] 56)) none:=aj (ag bJ.o (show w1.grownBy w1.drew none from⟨rfl,rfl,rfl,Nat.le_refl _,fun _ _ _=>rfl⟩)) _;have hb2:Below w.heap.size w w1.drew:=hbelow hb1 (Nat.le_trans hzz hsz1) ⟨rfl,rfl,rfl,Nat.le_refl _,fun _ _ _=>rfl⟩;have HB3:=ae ((hb2.alloc (Nat.le_trans hzz hsz1) _).grown hgrow (by simp;omega) (fun q hq=>(hown.lt q hq).1));have hnew:TxS (w1.drew.alloc (.cells #[.string s.nm,.string s.ve,.string s.dg,.slice (some ⟨g0,0,none⟩) nn cap0] 56)) (.slice (some ⟨g0,0,none⟩) nn cap0) s.nd:=x9.o.grow (aj (show w1.grownBy w1.drew none from⟨rfl,rfl,rfl,Nat.le_refl _,fun _ _ _=>rfl⟩) _);have hfn:uz (.slice (some ⟨g0,0,none⟩) nn cap0) u3.ownBlock:=fun a' n' k' e hn=>by
     have h1:=jl.o a' n' k' e hn;intro h2;have h3:=(hown.lt a'.block h2.symm).2;omega
    have far2:∀v (M:List ByteArray),TxS (w1.drew.alloc (.cells #[.string s.nm,.string s.ve,.string s.dg,.slice (some ⟨g0,0,none⟩) nn cap0] 56)) v M->(∀a' n' k',v=.slice (some a') n' k'->0<n'->a'.block<w1.heap.size)->uz v u3.ownBlock->uz v (some g):=fun v M h1 h2 h3 a' n' k' e hn=>by
     have h4:=h2 a' n' k' e hn
     rcases hat with h5|h5
     ·rw[<-h5];exact h3 a' n' k' e hn
     ·intro h6;injection h6 with h6
      rw[h5]at h6;simp at h6;omega
    have HR3:Hd (zW L w3 w.heap.size (.slice (some ⟨g,0,none⟩) (i+1) cap1) (i+1)):=by
     refine⟨vs++[.slice (some ⟨g0,0,none⟩) nn cap0],by simp[hvs],?_,fun j hj hLj=>?_⟩
     ·rw[jO.o];exact hown3
     ·by_cases hji:j<i
      ·obtain⟨k1,k2⟩:=kW.o j hji hLj;have ej:(vs++[Value.slice (some ⟨g0,0,none⟩) nn cap0])[j]'(by simp;omega)=vs[j]'(by omega):=List.getElem_append_left (by omega);rw[ej];refine⟨(k1.grow g2).far hgrow k2,?_⟩;refine far2 _ _ (k1.grow g2) (fun a' n' k' e hn=>?_) k2;have:=FV (by rw[<-e];exact k1) hn;exact Nat.lt_of_lt_of_le this hsz1
      ·have hje:j=i:=by omega
       subst hje;have ej:(vs++[Value.slice (some ⟨g0,0,none⟩) nn cap0])[j]'(by simp;omega)=.slice (some ⟨g0,0,none⟩) nn cap0:=by simp[hvs]
       rw[ej];have esj:L[j].nd=s.nd:=by rw[HS.o]
       rw[esj];exact⟨hnew.far hgrow hfn,far2 _ _ hnew (fun a' n' k' e hn=>FV (by rw[<-e];exact x9.o) hn) hfn⟩
    clear hown3 hgrow hat hown hown1 hb hb1 hb2 hlt3 E0 E1 E2 g2 hnew hfn far2;go_wp2;go_roundw
    case rel=>exact⟨i+1,by go_num,by omega,HR3.o,HB3.o⟩
    case measure=>simp[intOf];omega
  ·have hil:i=L.length:=by omega
   subst hil;have HO:Hd (zW L wr w.heap.size u3 L.length):=⟨vs,hvs,hown,hin⟩;have HB:=ae hb;clear hown hb hi hin;go_wp2;refine bodyPost_ret (results_tmp (t:=2) rfl _ _ _) rfl ⟨u3,rfl,HO.o,HB.o⟩
open Go.RowKit
theorem aas(n:Int)(w:World):Calls prog 9 #[.int .i64 n] w fun e w'=>e=.returned (.int .i64 n)/\w'=w:=by
 go_enter func9,ntmps9;go_wp2;go_ret;exact⟨rfl,rfl⟩
open Go.RowKit
theorem aat{L:List Re}{w:World}{base:Nat}{v:Value}(h:BX L w base v L.length):ReS w v L:=by
 obtain⟨vs,hl,ho,hn⟩:=h;rw[List.take_length]at ho
 rcases ho.2 with⟨h1,h2⟩|⟨g,cap,cur,hv,hb,hc,h3,h4,h5,h6⟩
 ·exact Or.inl ⟨h1,List.length_eq_zero_iff.1 h2⟩
 ·refine Or.inr ⟨⟨g,0,none⟩,cap,hv,h3,fun i hi=>?_⟩;have h':=ho;rw[hv]at h';have key:∀k u,0<k->(rE L[i] (vs[i]'(by omega)))[k]?=some u->w.cell? ⟨((⟨g,0,none⟩:Addr).add (i*4)).block,((⟨g,0,none⟩:Addr).add (i*4)).off+k,none⟩=some u:=fun k u hk hu=>by
   have:=h'.cells (g:=g) rfl (i*4+k) u (I9 L vs hl.symm i hi k u hu);rw[xO _ _ k hk]at this;exact this
  have k0:=h'.cells (g:=g) rfl (i*4+0) _ (I9 L vs hl.symm i hi 0 _ rfl);exact⟨by simpa using k0,key 1 _ (by omega) rfl,⟨_,key 2 _ (by omega) rfl,(hn i hi hi).1⟩,key 3 _ (by omega) rfl⟩
theorem aau(sl:Value)(L:List Re)(w:World)(h:ReS w sl L)(hL:L.length<=1048576)(hN:∀x∈L,x.nd.length<=1048576) :
  Calls prog 6 #[sl] w fun e w'=>∃v,e=.returned v/\ReS w' v L/\w.grownBy w' none:=by
 rcases h with⟨rfl,rfl⟩|⟨a,cap,rfl,h2,h3⟩
 ·go_enter func6,ntmps6;go_wp2;go_loopw [3,4] (fun vm vi wr=>vi=.int .i64 0/\vm=.slice none 0 0/\w.grownBy wr none) (fun _ vi _=>0)
  case atStart=>exact⟨rfl,rfl,ak _ _⟩
  case round =>
   obtain⟨rfl,rfl,hb⟩:=hrel;have HB:Hd (w.grownBy wr none):=hb;clear hb;go_wp2;refine bodyPost_ret (results_tmp (t:=2) rfl _ _ _) rfl ⟨_,rfl,Or.inl ⟨rfl,rfl⟩,HB.o⟩
 ·refine(YQ a cap L w hL h2 hN h3).mono ?_;rintro e w' ⟨v,rfl,hr,hb⟩;exact⟨v,rfl,aat hr,oh hb⟩
open Go.RowKit
theorem aav{L:List En}{w:World}{base:Nat}{v:Value}(h:zW L w base v L.length):EnS w v L:=by
 obtain⟨vs,hl,ho,hn⟩:=h;rw[List.take_length]at ho
 rcases ho.2 with⟨h1,h2⟩|⟨g,cap,cur,hv,hb,hc,h3,h4,h5,h6⟩
 ·exact Or.inl ⟨h1,List.length_eq_zero_iff.1 h2⟩
 ·refine Or.inr ⟨⟨g,0,none⟩,cap,hv,h3,fun i hi=>?_⟩;have h':=ho;rw[hv]at h';have key:∀k u,0<k->(qG L[i] (vs[i]'(by omega)))[k]?=some u->w.cell? ⟨((⟨g,0,none⟩:Addr).add (i*4)).block,((⟨g,0,none⟩:Addr).add (i*4)).off+k,none⟩=some u:=fun k u hk hu=>by
   have:=h'.cells (g:=g) rfl (i*4+k) u (JV L vs hl.symm i hi k u hu);rw[xO _ _ k hk]at this;exact this
  have k0:=h'.cells (g:=g) rfl (i*4+0) _ (JV L vs hl.symm i hi 0 _ rfl);exact⟨by simpa using k0,key 1 _ (by omega) rfl,key 2 _ (by omega) rfl,_,key 3 _ (by omega) rfl,(hn i hi hi).1⟩
theorem aaw(sl:Value)(L:List En)(w:World)(h:EnS w sl L)(hL:L.length<=1048576)(hN:∀x∈L,x.nd.length<=1048576) :
  Calls prog 7 #[sl] w fun e w'=>∃o c,e=.returned (.slice o L.length c)/\EnS w' (.slice o L.length c) L/\w.grownBy w' none:=by
 rcases h with⟨rfl,rfl⟩|⟨a,cap,rfl,h2,h3⟩
 ·go_enter func7,ntmps7;go_wp2;go_loopw [3,4] (fun vm vi wr=>vi=.int .i64 0/\vm=.slice none 0 0/\w.grownBy wr none) (fun _ vi _=>0)
  case atStart=>exact⟨rfl,rfl,ak _ _⟩
  case round =>
   obtain⟨rfl,rfl,hb⟩:=hrel;have HB:Hd (w.grownBy wr none):=hb;clear hb;go_wp2;refine bodyPost_ret (results_tmp (t:=2) rfl _ _ _) rfl ⟨none,0,rfl,Or.inl ⟨rfl,rfl⟩,HB.o⟩
 ·refine(aar a cap L w hL h2 hN h3).mono ?_;rintro e w' ⟨v,rfl,hr,hb⟩;have h1:=aav hr;obtain⟨o,c,rfl⟩:=QQ h1;exact⟨o,c,rfl,h1,oh hb⟩
end Go.Proofs.YteciokcdpadmpaaGreatDoor
