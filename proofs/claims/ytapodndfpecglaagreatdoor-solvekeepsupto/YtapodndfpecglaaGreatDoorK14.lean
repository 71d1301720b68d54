import Derived.Test.YtapodndfpecglaaGreatDoorK06
import Derived.Test.YtapodndfpecglaaGreatDoorK13
import Derived.Deep.AppendSrc
set_option linter.all false
set_option maxRecDepth 100000
set_option maxHeartbeats 0
open Go.Proofs.Tryz
namespace Go.Proofs.YtapodndfpecglaaGreatDoor
open Go.RowKit
theorem YF(v1 v2 v3:Int)(v4 v5:ByteArray)(w:World) :
  Calls prog 127 #[.agg #[.int .i64 v1,.int .i64 v2,.int .i64 v3,.string v4,.string v5]] w fun e w'=>e=.returned (.agg #[.int .i64 v1,.int .i64 v2,.int .i64 v3,.string v4,.string ⟨#[]⟩])/\w.grownBy w' none:=by
 go_enter func127,ntmps127;go_wp2;refine bodyPost_ret (results_cell_row rfl _ _ (w.heap.size+1) 97 #[.int .i64 v1,.int .i64 v2,.int .i64 v3,.string v4,.string ⟨#[]⟩] (0,0) _ rfl ?_ underlying97 rfl (by kernel_rfl)) rfl ⟨rfl,au (au (ak w none) _) _⟩;have:=heap_alloc_new (w.alloc (.cells #[.int .i64 v1,.int .i64 v2,.int .i64 v3,.string v4,.string v5] 97)) (.cells #[.int .i64 v1,.int .i64 v2,.int .i64 v3,.string v4,.string ⟨#[]⟩] 97);rw[show(w.alloc (.cells #[.int .i64 v1,.int .i64 v2,.int .i64 v3,.string v4,.string v5] 97)).heap.size=w.heap.size+1 by simp]at this;exact this
def VAt(w:World)(p:Addr)(t:V):Prop:=w.cell? p=some (.int .i64 t.major)/\w.cell? ⟨p.block,p.off+1,none⟩=some (.int .i64 t.minor)/\w.cell? ⟨p.block,p.off+2,none⟩=some (.int .i64 t.patch)/\w.cell? ⟨p.block,p.off+3,none⟩=some (.string ⟨t.pre.toArray⟩)/\w.cell? ⟨p.block,p.off+4,none⟩=some (.string ⟨#[]⟩)
theorem VAt.grow{w w':World}{p:Addr}{t:V}(h:VAt w p t)(hg:w.grownBy w' none):VAt w' p t :=
 ⟨hg.cell h.1 (by simp),hg.cell h.2.1 (by simp),hg.cell h.2.2.1 (by simp),hg.cell h.2.2.2.1 (by simp),hg.cell h.2.2.2.2 (by simp)⟩
def VsAt(w:World)(a:Addr)(l:List V):Prop:=∀i (hi:i<l.length),VAt w (a.add (i*5)) l[i]
theorem VsAt.grow{w w':World}{a:Addr}{l:List V}(h:VsAt w a l)(hg:w.grownBy w' none):VsAt w' a l:=fun i hi=>(h i hi).grow hg
open Go.RowKit
structure En where
 nm:ByteArray
 ve:ByteArray
 dg:ByteArray
 nd:List ByteArray
def TxS(w:World)(v:Value)(L:List ByteArray):Prop:=(v=.slice none 0 0/\L=[])\/∃a cap,v=.slice (some a) L.length cap/\L.length<=cap/\∀i (hi:i<L.length),w.cell? (a.add i)=some (.string L[i])
theorem TxS.grow{w w':World}{v:Value}{L:List ByteArray}(h:TxS w v L)(hg:w.grownBy w' none):TxS w' v L:=by
 rcases h with h|⟨a,cap,h1,h2,h3⟩
 ·exact Or.inl h
 ·exact Or.inr ⟨a,cap,h1,h2,fun i hi=>hg.cell (h3 i hi) (by simp)⟩
theorem YG{w:World}{v:Value}{L:List ByteArray}(h:TxS w v L):∃o c,v=.slice o L.length c:=by
 rcases h with⟨rfl,rfl⟩|⟨a,cap,rfl,-⟩
 ·exact⟨_,_,rfl⟩
 ·exact⟨_,_,rfl⟩
def EnAt(w:World)(p:Addr)(x:En):Prop:=w.cell? p=some (.string x.nm)/\w.cell? ⟨p.block,p.off+1,none⟩=some (.string x.ve)/\w.cell? ⟨p.block,p.off+2,none⟩=some (.string x.dg)/\∃v,w.cell? ⟨p.block,p.off+3,none⟩=some v/\TxS w v x.nd
theorem EnAt.grow{w w':World}{p:Addr}{x:En}(h:EnAt w p x)(hg:w.grownBy w' none):EnAt w' p x:=by
 obtain⟨h0,h1,h2,v,h3,h4⟩:=h;exact⟨hg.cell h0 (by simp),hg.cell h1 (by simp),hg.cell h2 (by simp),v,hg.cell h3 (by simp),h4.grow hg⟩
def EnS(w:World)(v:Value)(L:List En):Prop:=(v=.slice none 0 0/\L=[])\/∃a cap,v=.slice (some a) L.length cap/\L.length<=cap/\∀i (hi:i<L.length),EnAt w (a.add (i*4)) L[i]
theorem EnS.grow{w w':World}{v:Value}{L:List En}(h:EnS w v L)(hg:w.grownBy w' none):EnS w' v L:=by
 rcases h with h|⟨a,cap,h1,h2,h3⟩
 ·exact Or.inl h
 ·exact Or.inr ⟨a,cap,h1,h2,fun i hi=>(h3 i hi).grow hg⟩
theorem Oz{w:World}{v:Value}{L:List En}(h:EnS w v L):∃o c,v=.slice o L.length c:=by
 rcases h with⟨rfl,rfl⟩|⟨a,cap,rfl,-⟩
 ·exact⟨_,_,rfl⟩
 ·exact⟨_,_,rfl⟩
theorem hblk(a:Addr)(k:Nat):(a.add k).block=a.block:=by unfold Addr.add;split<;>simp
def su(v:Value)(b:Option Nat):Prop:=∀a n c,v=.slice (some a) n c->0<n->some a.block≠b
theorem TxS.far{w w':World}{v:Value}{L:List ByteArray}{b:Option Nat}(h:TxS w v L)(hg:w.grownBy w' b)(hf:su v b):TxS w' v L:=by
 rcases h with h|⟨a,cap,rfl,h2,h3⟩
 ·exact Or.inl h
 ·refine Or.inr ⟨a,cap,rfl,h2,fun i hi=>?_⟩;have hb:=hf a _ _ rfl (by omega);exact hg.cell (h3 i hi) (by rw[hblk];exact hb)
theorem Ee{w:World}{a:Addr}{n c:Nat}{L:List ByteArray}(h:TxS w (.slice (some a) n c) L)(hn:0<n):a.block<w.heap.size:=by
 rcases h with⟨h,-⟩|⟨a',cap,h1,h2,h3⟩
 ·cases h
 ·cases h1
  have:=rZ (h3 0 (by omega));rw[hblk]at this;exact this
theorem YH{w:World}{base:Nat}{v:Value}{L:List ByteArray}{n:Nat}(hn:n=L.length)(h:w.ownsRow base 9 1 v n (L.map Value.string)):TxS w v L:=by
 subst hn
 rcases h.2 with⟨h1,h2⟩|⟨g,cap,cur,hv,hb,hc,h3,h4,h5,h6⟩
 ·exact Or.inl ⟨h1,List.length_eq_zero_iff.1 h2⟩
 ·refine Or.inr ⟨⟨g,0,none⟩,cap,hv,h3,fun i hi=>?_⟩;have h':=h;rw[hv]at h';exact h'.cells (g:=g) rfl i _ (by rw[List.getElem?_map,List.getElem?_eq_getElem hi];rfl)
def oZ(x:En)(v:Value):List Value:=[.string x.nm,.string x.ve,.string x.dg,v]
def o5(L:List En)(vs:List Value):List Value:=(List.zipWith oZ L vs).flatten
theorem YI(L:List En)(vs:List Value)(x:En)(v:Value)(h:L.length=vs.length):o5 (L++[x]) (vs++[v])=o5 L vs++oZ x v:=by
 unfold o5;rw[List.zipWith_append h];simp
theorem Hz:∀(L:List En) (vs:List Value) (h:L.length=vs.length) (i:Nat) (hi:i<L.length) (k:Nat) (u:Value),(oZ L[i] (vs[i]'(by omega)))[k]?=some u->(o5 L vs)[i*4+k]?=some u
 | [],vs,h,i,hi,k,u,hu=>by simp at hi
 | x :: L,[],h,i,hi,k,u,hu=>by simp at h
 | x :: L,v :: vs,h,i,hi,k,u,hu=>by
  have e:o5 (x :: L) (v :: vs)=oZ x v++o5 L vs:=rfl;have hl:(oZ x v).length=4:=rfl;rw[e]
  cases i with
  | zero =>
   simp only[List.getElem_cons_zero]at hu;have hk:=(List.getElem?_eq_some_iff.1 hu).1;rw[Nat.zero_mul,Nat.zero_add,List.getElem?_append_left hk];exact hu
  | succ i =>
   simp only[List.getElem_cons_succ]at hu;rw[List.getElem?_append_right (by rw[hl];omega),hl,show(i+1)*4+k-4=i*4+k by omega];exact Hz L vs (by simpa using h) i (by simpa using hi) k u hu
theorem YJ:(prog.info? 62).map (fun i=>(i.zero,i.size,i.bytes))=some (some (.agg #[.string ⟨#[]⟩,.string ⟨#[]⟩,.string ⟨#[]⟩,.slice none 0 0]),4,72):=by kernel_rfl
theorem YK:(prog.info? 9).map (fun i=>(i.zero,i.size,i.bytes))=some (some (.string ⟨#[]⟩),1,16):=by kernel_rfl
theorem OB(s:En)(v:Value)(h:v.oneCell'=true):∀u∈oZ s v,u.oneCell'=true:=by
 intro u hu;simp only[oZ,List.mem_cons,List.not_mem_nil,or_false]at hu
 rcases hu with rfl|rfl|rfl|rfl
 ·rfl
 ·rfl
 ·rfl
 ·exact h
theorem YL(L:List ByteArray):∀u∈L.map Value.string,u.oneCell'=true:=by
 intro u hu;obtain⟨s,-,rfl⟩:=List.mem_map.1 hu;rfl
theorem YM{P:Program}{w:World}{ops:Array Oper}{rest:List Oper}{o:Oper}{a:Act}{Q:Exit->Act->World->Prop}(hgd:o.guard=none)(s x:Operand)(t:TypeId)
  (ho:o.op=.call { callee:=.builtin .append,args:=#[s,x],argTypes:=#[t,t] }) (e:TypeId) (i:TypeInfo) (ht:P.underlying t=some (.slice e)) (hi:P.info? e=some i)
  (hs:a.eval s=.slice none 0 0) (p:Option Addr) (c:Nat) (hx:a.eval x=.slice p 0 c)
  (h:wpList P ops Q rest (a.put o.dst (.slice none 0 0)) w):wpList P ops Q (o :: rest) a w:=by
 refine wpList_plain hgd fun K hK=>?_
 have hsrc:Src P i.size t (.slice p 0 c) 0 [] w:=by
  cases p with
  | none=>exact Src.ofNil w ht c
  | some ad=>exact Src.ofSlice w ht ad 0 c [] (by simp) (by intro j u hu;simp at hu) (by intro u hu;cases hu)
 have hrun:(Builtin.append_ #[t,t] o.type #[.slice none 0 0,.slice p 0 c]).run P w=.ok (.slice none 0 0) w:=by
  simp[Builtin.append_,run_underlying ht,sizeOf,typeInfo,hi,hsrc.len,hsrc.cells]
 unfold Oper.wp;simp[execOp,ho,resolve,invoke,builtin,hs,hx,hrun,Result.andThen];exact hK _ _ h
theorem OC{p:Addr}{s:En}{r:Option Nat}{w w':World}(hg:w.grownBy w' r)(hn:some p.block≠r)(h:w.cell? p=some (.string s.nm)/\w.cell? ⟨p.block,p.off+1,none⟩=some (.string s.ve)/\w.cell? ⟨p.block,p.off+2,none⟩=some (.string s.dg)):w'.cell? p=some (.string s.nm)/\w'.cell? ⟨p.block,p.off+1,none⟩=some (.string s.ve)/\w'.cell? ⟨p.block,p.off+2,none⟩=some (.string s.dg) :=
 ⟨hg.cell h.1 hn,hg.cell h.2.1 hn,hg.cell h.2.2 hn⟩
def yS(L:List En)(w:World)(base:Nat)(vm:Value)(i:Nat):Prop:=∃vs:List Value,∃hl:vs.length=i,w.ownsRow base 62 4 vm i (o5 (L.take i) vs)/\∀j (hj:j<i) (hL:j<L.length),TxS w (vs[j]'(by omega)) L[j].nd/\su (vs[j]'(by omega)) vm.ownBlock
theorem YN(a:Addr)(cap:Nat)(L:List En)(w:World)(hL:L.length<=1048576)(hcap:L.length<=cap)(hN:∀x∈L,x.nd.length<=1048576)(h:∀i (hi:i<L.length),EnAt w (a.add (i*4)) L[i]) :
  Calls prog 9 #[.slice (some a) L.length cap] w fun e w'=>∃v,e=.returned v/\yS L w' w.heap.size v L.length/\Below w.heap.size w w':=by
 have HA:=ae h;have HN:=ae hN;clear h hN;have hinfo:=YJ;obtain⟨i0,hi0,hii⟩:=Option.map_eq_some_iff.1 hinfo;simp only[Prod.mk.injEq]at hii;obtain⟨hz0,hz1,hzb⟩:=hii;have Be:=YK;obtain⟨j0,hj0,hjj⟩:=Option.map_eq_some_iff.1 Be;simp only[Prod.mk.injEq]at hjj;obtain⟨hy0,hy1,hyb⟩:=hjj;clear hinfo Be;go_enter func9,ntmps9;go_wp2;go_loopw [3,4] (fun vm vi wr=>∃i:Nat,vi=.int .i64 i/\i<=L.length/\yS L wr w.heap.size vm i/\Below w.heap.size w wr) (fun _ vi _=>L.length-(intOf vi).toNat)
 case atStart=>exact⟨0,rfl,Nat.zero_le _,⟨[],rfl,World.ownsRow_nil _ _ _ _,fun j hj=>by omega⟩,Below.refl _ _⟩
 case round =>
  obtain⟨i,rfl,hi,⟨vs,hvs,hown,hin⟩,hb⟩:=hrel
  by_cases hlt:i<L.length
  ·obtain⟨s,hs⟩:=zN (L[i]);have qB:EnAt wr (a.add (i*4)) s:=by rw[<-hs];exact(HA.o i hlt).grow (ny hb)
   obtain⟨e0,e1,e2,sv,e3,hsv⟩:=qB;have lu:Hd (some (a.add (i*4)).block≠u3.ownBlock):=by
    show _≠_;intro e;have h1:=(hown.lt _ e.symm).1;have h2:=(HA.o i hlt).1;have h3:=rZ h2;omega
   have hnd:=HN.o s (by rw[<-hs];exact List.getElem_mem _);have iJ:Hd (∀j (hj:j<i) (hL:j<L.length),TxS wr (vs[j]'(by omega)) L[j].nd/\su (vs[j]'(by omega)) u3.ownBlock):=hin;have jm:Hd (∀v,o5 (L.take (i+1)) (vs++[v])=o5 (L.take i) vs++oZ s v):=fun v=>by
    rw[List.take_succ_eq_append_getElem hlt,hs];exact YI _ _ _ _ (by rw[List.length_take,hvs];omega)
   have HS:=ae hs;have hzz:=hb.size;have YO:=ae hsv;obtain⟨so,sc,rfl⟩:=YG hsv;clear hin hs hsv
   by_cases hn0:s.nd.length=0
   ·rw[hn0]at e3;go_wp2_with (first|(at_builtin;refine YM rfl _ _ 49 rfl 9 j0 underlying49 hj0 rfl _ _ rfl ?_));have hg1:wr.grownBy wr none:=ak _ _;have Bf:TxS wr (.slice none 0 0) s.nd:=Or.inl ⟨rfl,List.length_eq_zero_iff.1 hn0⟩;have hf1:∀a n k,Value.slice none 0 0=.slice (some a) n k->0<n->wr.heap.size<=a.block:=fun a n k e=>by cases e
    have wO:=ae Bf;have lh:=ae hf1;have E0:=hg1.cell e0 (by simp);have E1:=hg1.cell e1 (by simp);have E2:=hg1.cell e2 (by simp);have hown1:=hown.kept hg1 (by cases u3.ownBlock<;>simp);have hsz1:=hg1.size;have hb1:=hbelow hb hzz hg1;have bI:=ae hg1;clear e0 e1 e2 e3 Bf hf1 hg1;go_wp2
    go_region_held3 (fun w'=>w'.cell? (a.add (i*4))=some (.string s.nm)/\w'.cell? ⟨(a.add (i*4)).block,(a.add (i*4)).off+1,none⟩=some (.string s.ve)/\w'.cell? ⟨(a.add (i*4)).block,(a.add (i*4)).off+2,none⟩=some (.string s.dg)) ((first|exact OC (by assumption) (by first|exact lu.o|simp) (by assumption)|go_keep)) (first|(refine step_append_lies _ (by rfl) _ _ _ (by rfl) w.heap.size 62 i0 _ 4 72 underlying35 hi0 hz0 hz1 hzb (by rfl) (by decide) u3 i (o5 (L.take i) vs) (by rfl) (hown1.drew.alloc _) _ 1 1 (oZ s (.slice none 0 0)) (by rfl) (by rfl) (World.news_of_block (heap_alloc_new _ _)) (OB s _ rfl) (by omega) (by unfold maxLen;omega) (by omega) (by simp;omega) _ rfl ?_;intro g cap1 w3 hown3 hgrow hat hlt3))
    have g2:wr.grownBy (wr.drew.alloc (.cells #[.string s.nm,.string s.ve,.string s.dg,.slice none 0 0] 62)) none:=au (ah bI.o (show wr.grownBy wr.drew none from⟨rfl,rfl,rfl,Nat.le_refl _,fun _ _ _=>rfl⟩)) _;have hb2:Below w.heap.size w wr.drew:=hbelow hb1 (Nat.le_trans hzz hsz1) ⟨rfl,rfl,rfl,Nat.le_refl _,fun _ _ _=>rfl⟩;have HB3:=ae ((hb2.alloc (Nat.le_trans hzz hsz1) _).grown hgrow (by simp;omega) (fun q hq=>(hown.lt q hq).1));have hnew:TxS (wr.drew.alloc (.cells #[.string s.nm,.string s.ve,.string s.dg,.slice none 0 0] 62)) (.slice none 0 0) s.nd:=wO.o.grow (au (show wr.grownBy wr.drew none from⟨rfl,rfl,rfl,Nat.le_refl _,fun _ _ _=>rfl⟩) _);have hfn:su (.slice none 0 0) u3.ownBlock:=fun a' n' k' e hn=>by
     have h1:=lh.o a' n' k' e hn;intro h2;have h3:=(hown.lt a'.block h2.symm).2;omega
    have far2:∀v (M:List ByteArray),TxS (wr.drew.alloc (.cells #[.string s.nm,.string s.ve,.string s.dg,.slice none 0 0] 62)) v M->(∀a' n' k',v=.slice (some a') n' k'->0<n'->a'.block<wr.heap.size)->su v u3.ownBlock->su v (some g):=fun v M h1 h2 h3 a' n' k' e hn=>by
     have h4:=h2 a' n' k' e hn
     rcases hat with h5|h5
     ·rw[<-h5];exact h3 a' n' k' e hn
     ·intro h6;injection h6 with h6
      rw[h5]at h6;simp at h6;omega
    have HR3:Hd (yS L w3 w.heap.size (.slice (some ⟨g,0,none⟩) (i+1) cap1) (i+1)):=by
     refine⟨vs++[.slice none 0 0],by simp[hvs],?_,fun j hj hLj=>?_⟩
     ·rw[jm.o];exact hown3
     ·by_cases hji:j<i
      ·obtain⟨k1,k2⟩:=iJ.o j hji hLj;have ej:(vs++[Value.slice none 0 0])[j]'(by simp;omega)=vs[j]'(by omega):=List.getElem_append_left (by omega);rw[ej];refine⟨(k1.grow g2).far hgrow k2,?_⟩;refine far2 _ _ (k1.grow g2) (fun a' n' k' e hn=>?_) k2;have:=Ee (by rw[<-e];exact k1) hn;exact Nat.lt_of_lt_of_le this hsz1
      ·have hje:j=i:=by omega
       subst hje;have ej:(vs++[Value.slice none 0 0])[j]'(by simp;omega)=.slice none 0 0:=by simp[hvs]
       rw[ej];have esj:L[j].nd=s.nd:=by rw[HS.o]
       rw[esj];exact⟨hnew.far hgrow hfn,far2 _ _ hnew (fun a' n' k' e hn=>Ee (by rw[<-e];exact wO.o) hn) hfn⟩
    clear hown3 hgrow hat hown hown1 hb hb1 hb2 hlt3 E0 E1 E2 g2 hnew hfn far2;go_wp2;go_roundw
    case rel=>exact⟨i+1,by go_num,by omega,HR3.o,HB3.o⟩
    case measure=>simp[intOf];omega
   ·obtain⟨b,rfl,hb0⟩:∃b,so=some b/\∀j (hj:j<s.nd.length),wr.cell? (b.add j)=some (.string s.nd[j]):=by
     rcases YO.o with⟨h1,h2⟩|⟨b,cp,h1,h2,h3⟩
     ·rw[h2]at hn0;exact absurd rfl hn0
     ·cases h1;exact⟨b,rfl,h3⟩
    have hnews:∀j u,(s.nd.map Value.string)[j]?=some u->wr.cell? (b.add j)=some u:=fun j u hu=>by
     obtain⟨hj,rfl⟩:=List.getElem?_eq_some_iff.1 hu;rw[List.getElem_map];exact hb0 j (by simpa using hj)
    obtain⟨nn,hnn⟩:=zN (s.nd.length);rw[hnn]at e3 hnd hn0;go_wp2_with (first|(at_builtin;refine wpList_append_lies _ rfl _ _ 49 rfl wr.heap.size 9 j0 _ 1 16 underlying49 hj0 hy0 hy1 hyb rfl (by decide) (.slice none 0 0) 0 [] rfl (World.ownsRow_nil _ _ _ _) b nn sc (s.nd.map Value.string) rfl (by rw[List.length_map,hnn,Nat.mul_one]) hnews (YL _) (by omega) (by unfold maxLen;omega) (by omega) (Nat.le_refl _) _ rfl ?_;intro g0 cap0 w1 hown0 hgrow0 qB hlt0));simp only[Nat.zero_add]at hown0 ⊢;have hg1:wr.grownBy w1 none:=hgrow0;have Bf:=YH hnn.symm hown0;have hf1:∀a n k,Value.slice (some ⟨g0,0,none⟩) nn cap0=.slice (some a) n k->0<n->wr.heap.size<=a.block:=fun a n k e hn=>by
     rw[e]at hown0;exact(hown0.lt a.block rfl).1
    clear hown0 hgrow0 qB hlt0 hnews hb0 hnn;have wO:=ae Bf;have lh:=ae hf1;have E0:=hg1.cell e0 (by simp);have E1:=hg1.cell e1 (by simp);have E2:=hg1.cell e2 (by simp);have hown1:=hown.kept hg1 (by cases u3.ownBlock<;>simp);have hsz1:=hg1.size;have hb1:=hbelow hb hzz hg1;have bI:=ae hg1;clear e0 e1 e2 e3 Bf hf1 hg1;go_wp2
    go_region_held3 (fun w'=>w'.cell? (a.add (i*4))=some (.string s.nm)/\w'.cell? ⟨(a.add (i*4)).block,(a.add (i*4)).off+1,none⟩=some (.string s.ve)/\w'.cell? ⟨(a.add (i*4)).block,(a.add (i*4)).off+2,none⟩=some (.string s.dg)) ((first|exact OC (by assumption) (by first|exact lu.o|simp) (by assumption)|go_keep)) (first|(refine step_append_lies _ (by rfl) _ _ _ (by rfl) w.heap.size 62 i0 _ 4 72 underlying35 hi0 hz0 hz1 hzb (by rfl) (by decide) u3 i (o5 (L.take i) vs) (by rfl) (hown1.drew.alloc _) _ 1 1 (oZ s (.slice (some ⟨g0,0,none⟩) nn cap0)) (by rfl) (by rfl) (World.news_of_block (heap_alloc_new _ _)) (OB s _ rfl) (by omega) (by unfold maxLen;omega) (by omega) (by simp;omega) _ rfl ?_;intro g cap1 w3 hown3 hgrow hat hlt3))
    have g2:wr.grownBy (w1.drew.alloc (.cells #[.string s.nm,.string s.ve,.string s.dg,.slice (some ⟨g0,0,none⟩) nn cap0] 62)) none:=au (ah bI.o (show w1.grownBy w1.drew none from⟨rfl,rfl,rfl,Nat.le_refl _,fun _ _ _=>rfl⟩)) _;have hb2:Below w.heap.size w w1.drew:=hbelow hb1 (Nat.le_trans hzz hsz1) ⟨rfl,rfl,rfl,Nat.le_refl _,fun _ _ _=>rfl⟩;have HB3:=ae ((hb2.alloc (Nat.le_trans hzz hsz1) _).grown hgrow (by simp;omega) (fun q hq=>(hown.lt q hq).1));have hnew:TxS (w1.drew.alloc (.cells #[.string s.nm,.string s.ve,.string s.dg,.slice (some ⟨g0,0,none⟩) nn cap0] 62)) (.slice (some ⟨g0,0,none⟩) nn cap0) s.nd:=wO.o.grow (au (show w1.grownBy w1.drew none from⟨rfl,rfl,rfl,Nat.le_refl _,fun _ _ _=>rfl⟩) _);have hfn:su (.slice (some ⟨g0,0,none⟩) nn cap0) u3.ownBlock:=fun a' n' k' e hn=>by
     have h1:=lh.o a' n' k' e hn;intro h2;have h3:=(hown.lt a'.block h2.symm).2;omega
    have far2:∀v (M:List ByteArray),TxS (w1.drew.alloc (.cells #[.string s.nm,.string s.ve,.string s.dg,.slice (some ⟨g0,0,none⟩) nn cap0] 62)) v M->(∀a' n' k',v=.slice (some a') n' k'->0<n'->a'.block<w1.heap.size)->su v u3.ownBlock->su v (some g):=fun v M h1 h2 h3 a' n' k' e hn=>by
     have h4:=h2 a' n' k' e hn
     rcases hat with h5|h5
     ·rw[<-h5];exact h3 a' n' k' e hn
     ·intro h6;injection h6 with h6
      rw[h5]at h6;simp at h6;omega
    have HR3:Hd (yS L w3 w.heap.size (.slice (some ⟨g,0,none⟩) (i+1) cap1) (i+1)):=by
     refine⟨vs++[.slice (some ⟨g0,0,none⟩) nn cap0],by simp[hvs],?_,fun j hj hLj=>?_⟩
     ·rw[jm.o];exact hown3
     ·by_cases hji:j<i
      ·obtain⟨k1,k2⟩:=iJ.o j hji hLj;have ej:(vs++[Value.slice (some ⟨g0,0,none⟩) nn cap0])[j]'(by simp;omega)=vs[j]'(by omega):=List.getElem_append_left (by omega);rw[ej];refine⟨(k1.grow g2).far hgrow k2,?_⟩;refine far2 _ _ (k1.grow g2) (fun a' n' k' e hn=>?_) k2;have:=Ee (by rw[<-e];exact k1) hn;exact Nat.lt_of_lt_of_le this hsz1
      ·have hje:j=i:=by omega
       subst hje;have ej:(vs++[Value.slice (some ⟨g0,0,none⟩) nn cap0])[j]'(by simp;omega)=.slice (some ⟨g0,0,none⟩) nn cap0:=by simp[hvs]
       rw[ej];have esj:L[j].nd=s.nd:=by rw[HS.o]
       rw[esj];exact⟨hnew.far hgrow hfn,far2 _ _ hnew (fun a' n' k' e hn=>Ee (by rw[<-e];exact wO.o) hn) hfn⟩
    clear hown3 hgrow hat hown hown1 hb hb1 hb2 hlt3 E0 E1 E2 g2 hnew hfn far2;go_wp2;go_roundw
    case rel=>exact⟨i+1,by go_num,by omega,HR3.o,HB3.o⟩
    case measure=>simp[intOf];omega
  ·have hil:i=L.length:=by omega
   subst hil;have HO:Hd (yS L wr w.heap.size u3 L.length):=⟨vs,hvs,hown,hin⟩;have HB:=ae hb;clear hown hb hi hin;go_wp2;refine bodyPost_ret (results_tmp (t:=2) rfl _ _ _) rfl ⟨u3,rfl,HO.o,HB.o⟩
end Go.Proofs.YtapodndfpecglaaGreatDoor
