import Derived.Test.YtiinliaoojfjaaaGreatDoorF10
import Derived.Deep.AppendSrc
import Derived.Test.YtiinliaoojfjaaaGreatDoorRows
import Derived.ProofKit
import Derived.OpenShut
import Derived.ShutString
import Derived.SizedLaws
import Derived.Lib.SmallJoins
import Derived.Deep.Slices
import Derived.DataReads
set_option linter.all false
set_option maxRecDepth 100000
set_option maxHeartbeats 0
open Go.Proofs.Tryz
namespace Go.Proofs.YtiinliaoojfjaaaGreatDoor
open Go.RowKit
theorem EU(n:Int)(w:World):Calls prog 17 #[.int .i64 n] w fun e w'=>e=.returned (.int .i64 n)/\w'=w:=by
 go_enter func17,ntmps17;go_wp2;go_ret;exact⟨rfl,rfl⟩
open Go.RowKit
structure En where
 nm:ByteArray
 ve:ByteArray
 dg:ByteArray
 nd:List ByteArray
def TxS(w:World)(v:Value)(L:List ByteArray):Prop:=(v=.slice none 0 0/\L=[])\/∃a cap,v=.slice (some a) L.length cap/\L.length<=cap/\∀i (hi:i<L.length),w.cell? (a.add i)=some (.string L[i])
theorem TxS.grow{w w':World}{v:Value}{L:List ByteArray}(h:TxS w v L)(hg:w.grownBy w' none):TxS w' v L:=by
 rcases h with h|⟨a,cap,h1,h2,h3⟩
 ·exact Or.inl h
 ·exact Or.inr ⟨a,cap,h1,h2,fun i hi=>hg.cell (h3 i hi) (by simp)⟩
theorem Il{w:World}{v:Value}{L:List ByteArray}(h:TxS w v L):∃o c,v=.slice o L.length c:=by
 rcases h with⟨rfl,rfl⟩|⟨a,cap,rfl,-⟩
 ·exact⟨_,_,rfl⟩
 ·exact⟨_,_,rfl⟩
def EnAt(w:World)(p:Addr)(x:En):Prop:=w.cell? p=some (.string x.nm)/\w.cell? ⟨p.block,p.off+1,none⟩=some (.string x.ve)/\w.cell? ⟨p.block,p.off+2,none⟩=some (.string x.dg)/\∃v,w.cell? ⟨p.block,p.off+3,none⟩=some v/\TxS w v x.nd
theorem EnAt.grow{w w':World}{p:Addr}{x:En}(h:EnAt w p x)(hg:w.grownBy w' none):EnAt w' p x:=by
 obtain⟨h0,h1,h2,v,h3,h4⟩:=h;exact⟨hg.cell h0 (by simp),hg.cell h1 (by simp),hg.cell h2 (by simp),v,hg.cell h3 (by simp),h4.grow hg⟩
def EnS(w:World)(v:Value)(L:List En):Prop:=(v=.slice none 0 0/\L=[])\/∃a cap,v=.slice (some a) L.length cap/\L.length<=cap/\∀i (hi:i<L.length),EnAt w (a.add (i*4)) L[i]
theorem EnS.grow{w w':World}{v:Value}{L:List En}(h:EnS w v L)(hg:w.grownBy w' none):EnS w' v L:=by
 rcases h with h|⟨a,cap,h1,h2,h3⟩
 ·exact Or.inl h
 ·exact Or.inr ⟨a,cap,h1,h2,fun i hi=>(h3 i hi).grow hg⟩
theorem zt{w:World}{v:Value}{L:List En}(h:EnS w v L):∃o c,v=.slice o L.length c:=by
 rcases h with⟨rfl,rfl⟩|⟨a,cap,rfl,-⟩
 ·exact⟨_,_,rfl⟩
 ·exact⟨_,_,rfl⟩
theorem hblk(a:Addr)(k:Nat):(a.add k).block=a.block:=by unfold Addr.add;split<;>simp
def vW(v:Value)(b:Option Nat):Prop:=∀a n c,v=.slice (some a) n c->0<n->some a.block≠b
theorem TxS.far{w w':World}{v:Value}{L:List ByteArray}{b:Option Nat}(h:TxS w v L)(hg:w.grownBy w' b)(hf:vW v b):TxS w' v L:=by
 rcases h with h|⟨a,cap,rfl,h2,h3⟩
 ·exact Or.inl h
 ·refine Or.inr ⟨a,cap,rfl,h2,fun i hi=>?_⟩;have hb:=hf a _ _ rfl (by omega);exact hg.cell (h3 i hi) (by rw[hblk];exact hb)
theorem Io{w:World}{a:Addr}{n c:Nat}{L:List ByteArray}(h:TxS w (.slice (some a) n c) L)(hn:0<n):a.block<w.heap.size:=by
 rcases h with⟨h,-⟩|⟨a',cap,h1,h2,h3⟩
 ·cases h
 ·cases h1
  have:=qP (h3 0 (by omega));rw[hblk]at this;exact this
theorem adi{w:World}{base:Nat}{v:Value}{L:List ByteArray}{n:Nat}(hn:n=L.length)(h:w.ownsRow base 9 1 v n (L.map Value.string)):TxS w v L:=by
 subst hn
 rcases h.2 with⟨h1,h2⟩|⟨g,cap,cur,hv,hb,hc,h3,h4,h5,h6⟩
 ·exact Or.inl ⟨h1,List.length_eq_zero_iff.1 h2⟩
 ·refine Or.inr ⟨⟨g,0,none⟩,cap,hv,h3,fun i hi=>?_⟩;have h':=h;rw[hv]at h';exact h'.cells (g:=g) rfl i _ (by rw[List.getElem?_map,List.getElem?_eq_getElem hi];rfl)
def rY(x:En)(v:Value):List Value:=[.string x.nm,.string x.ve,.string x.dg,v]
def rZ(L:List En)(vs:List Value):List Value:=(List.zipWith rY L vs).flatten
theorem adk(L:List En)(vs:List Value)(x:En)(v:Value)(h:L.length=vs.length):rZ (L++[x]) (vs++[v])=rZ L vs++rY x v:=by
 unfold rZ;rw[List.zipWith_append h];simp
theorem LV:∀(L:List En) (vs:List Value) (h:L.length=vs.length) (i:Nat) (hi:i<L.length) (k:Nat) (u:Value),(rY L[i] (vs[i]'(by omega)))[k]?=some u->(rZ L vs)[i*4+k]?=some u
 | [],vs,h,i,hi,k,u,hu=>by simp at hi
 | x :: L,[],h,i,hi,k,u,hu=>by simp at h
 | x :: L,v :: vs,h,i,hi,k,u,hu=>by
  have e:rZ (x :: L) (v :: vs)=rY x v++rZ L vs:=rfl;have hl:(rY x v).length=4:=rfl;rw[e]
  cases i with
  | zero =>
   simp only[List.getElem_cons_zero]at hu;have hk:=(List.getElem?_eq_some_iff.1 hu).1;rw[Nat.zero_mul,Nat.zero_add,List.getElem?_append_left hk];exact hu
  | succ i =>
   simp only[List.getElem_cons_succ]at hu;rw[List.getElem?_append_right (by rw[hl];omega),hl,show(i+1)*4+k-4=i*4+k by omega];exact LV L vs (by simpa using h) i (by simpa using hi) k u hu
theorem adl:(prog.info? 70).map (fun i=>(i.zero,i.size,i.bytes))=some (some (.agg #[.string ⟨#[]⟩,.string ⟨#[]⟩,.string ⟨#[]⟩,.slice none 0 0]),4,72):=by kernel_rfl
theorem LW:(prog.info? 9).map (fun i=>(i.zero,i.size,i.bytes))=some (some (.string ⟨#[]⟩),1,16):=by kernel_rfl
theorem Ul(s:En)(v:Value)(h:v.oneCell'=true):∀u∈rY s v,u.oneCell'=true:=by
 intro u hu;simp only[rY,List.mem_cons,List.not_mem_nil,or_false]at hu
 rcases hu with rfl|rfl|rfl|rfl
 ·rfl
 ·rfl
 ·rfl
 ·exact h
theorem EW(L:List ByteArray):∀u∈L.map Value.string,u.oneCell'=true:=by
 intro u hu;obtain⟨s,-,rfl⟩:=List.mem_map.1 hu;rfl
theorem Um{P:Program}{w:World}{ops:Array Oper}{rest:List Oper}{o:Oper}{a:Act}{Q:Exit->Act->World->Prop}(hgd:o.guard=none)(s x:Operand)(t:TypeId)
  (ho:o.op=.call { callee:=.builtin .append,args:=#[s,x],argTypes:=#[t,t] }) (e:TypeId) (i:TypeInfo) (ht:P.underlying t=some (.slice e)) (hi:P.info? e=some i)
  (hs:a.eval s=.slice none 0 0) (p:Option Addr) (c:Nat) (hx:a.eval x=.slice p 0 c)
  (h:wpList P ops Q rest (a.put o.dst (.slice none 0 0)) w):wpList P ops Q (o :: rest) a w:=by
 refine wpList_plain hgd fun K hK=>?_
 have hsrc:Src P i.size t (.slice p 0 c) 0 [] w:=by
  cases p with
  | none=>exact Src.ofNil w ht c
  | some ad=>exact Src.ofSlice w ht ad 0 c [] (by simp) (by intro j u hu;simp at hu) (by intro u hu;cases hu)
 have hrun:(Builtin.append_ #[t,t] o.type #[.slice none 0 0,.slice p 0 c]).run P w=.ok (.slice none 0 0) w:=by
  simp[Builtin.append_,run_underlying ht,sizeOf,typeInfo,hi,hsrc.len,hsrc.cells]
 unfold Oper.wp;simp[execOp,ho,resolve,invoke,builtin,hs,hx,hrun,Result.andThen];exact hK _ _ h
theorem Un{p:Addr}{s:En}{r:Option Nat}{w w':World}(hg:w.grownBy w' r)(hn:some p.block≠r)(h:w.cell? p=some (.string s.nm)/\w.cell? ⟨p.block,p.off+1,none⟩=some (.string s.ve)/\w.cell? ⟨p.block,p.off+2,none⟩=some (.string s.dg)):w'.cell? p=some (.string s.nm)/\w'.cell? ⟨p.block,p.off+1,none⟩=some (.string s.ve)/\w'.cell? ⟨p.block,p.off+2,none⟩=some (.string s.dg) :=
 ⟨hg.cell h.1 hn,hg.cell h.2.1 hn,hg.cell h.2.2 hn⟩
def BJ(L:List En)(w:World)(base:Nat)(vm:Value)(i:Nat):Prop:=∃vs:List Value,∃hl:vs.length=i,w.ownsRow base 70 4 vm i (rZ (L.take i) vs)/\∀j (hj:j<i) (hL:j<L.length),TxS w (vs[j]'(by omega)) L[j].nd/\vW (vs[j]'(by omega)) vm.ownBlock
theorem adm(a:Addr)(cap:Nat)(L:List En)(w:World)(hL:L.length<=1048576)(hcap:L.length<=cap)(hN:∀x∈L,x.nd.length<=1048576)(h:∀i (hi:i<L.length),EnAt w (a.add (i*4)) L[i]) :
  Calls prog 10 #[.slice (some a) L.length cap] w fun e w'=>∃v,e=.returned v/\BJ L w' w.heap.size v L.length/\Below w.heap.size w w':=by
 have HA:=ae h;have HN:=ae hN;clear h hN;have hinfo:=adl;obtain⟨i0,hi0,hii⟩:=Option.map_eq_some_iff.1 hinfo;simp only[Prod.mk.injEq]at hii;obtain⟨hz0,hz1,hzb⟩:=hii;have rV:=LW;obtain⟨j0,hj0,hjj⟩:=Option.map_eq_some_iff.1 rV;simp only[Prod.mk.injEq]at hjj;obtain⟨hy0,hy1,hyb⟩:=hjj;clear hinfo rV;go_enter func10,ntmps10;go_wp2;go_loopw [3,4] (fun vm vi wr=>∃i:Nat,vi=.int .i64 i/\i<=L.length/\BJ L wr w.heap.size vm i/\Below w.heap.size w wr) (fun _ vi _=>L.length-(intOf vi).toNat)
 case atStart=>exact⟨0,rfl,Nat.zero_le _,⟨[],rfl,World.ownsRow_nil _ _ _ _,fun j hj=>by omega⟩,Below.refl _ _⟩
 case round =>
  obtain⟨i,rfl,hi,⟨vs,hvs,hown,hin⟩,hb⟩:=hrel
  by_cases hlt:i<L.length
  ·obtain⟨s,hs⟩:=zN (L[i]);have qc:EnAt wr (a.add (i*4)) s:=by rw[<-hs];exact(HA.o i hlt).grow (gz hb)
   obtain⟨e0,e1,e2,sv,e3,hsv⟩:=qc;have jS:Hd (some (a.add (i*4)).block≠u3.ownBlock):=by
    show _≠_;intro e;have h1:=(hown.lt _ e.symm).1;have h2:=(HA.o i hlt).1;have h3:=qP h2;omega
   have hnd:=HN.o s (by rw[<-hs];exact List.getElem_mem _);have jT:Hd (∀j (hj:j<i) (hL:j<L.length),TxS wr (vs[j]'(by omega)) L[j].nd/\vW (vs[j]'(by omega)) u3.ownBlock):=hin;have iU:Hd (∀v,rZ (L.take (i+1)) (vs++[v])=rZ (L.take i) vs++rY s v):=fun v=>by
    rw[List.take_succ_eq_append_getElem hlt,hs];exact adk _ _ _ _ (by rw[List.length_take,hvs];omega)
   have HS:=ae hs;have hzz:=hb.size;have HTX:=ae hsv;obtain⟨so,sc,rfl⟩:=Il hsv;clear hin hs hsv
   by_cases hn0:s.nd.length=0
   ·rw[hn0]at e3;go_wp2_with (first|(at_builtin;refine Um rfl _ _ 67 rfl 9 j0 underlying67 hj0 rfl _ _ rfl ?_));have hg1:wr.grownBy wr none:=ai _ _;have EX:TxS wr (.slice none 0 0) s.nd:=Or.inl ⟨rfl,List.length_eq_zero_iff.1 hn0⟩;have hf1:∀a n k,Value.slice none 0 0=.slice (some a) n k->0<n->wr.heap.size<=a.block:=fun a n k e=>by cases e
    have xX:=ae EX;have lu:=ae hf1;have E0:=hg1.cell e0 (by simp);have E1:=hg1.cell e1 (by simp);have E2:=hg1.cell e2 (by simp);have hown1:=hown.kept hg1 (by cases u3.ownBlock<;>simp);have hsz1:=hg1.size;have hb1:=hbelow hb hzz hg1;have bg:=ae hg1;clear e0 e1 e2 e3 EX hf1 hg1;go_wp2
    go_region_held3 (fun w'=>w'.cell? (a.add (i*4))=some (.string s.nm)/\w'.cell? ⟨(a.add (i*4)).block,(a.add (i*4)).off+1,none⟩=some (.string s.ve)/\w'.cell? ⟨(a.add (i*4)).block,(a.add (i*4)).off+2,none⟩=some (.string s.dg)) ((first|exact Un (by assumption) (by first|exact jS.o|simp) (by assumption)|go_keep)) (first|(refine step_append_lies _ (by rfl) _ _ _ (by rfl) w.heap.size 70 i0 _ 4 72 underlying29 hi0 hz0 hz1 hzb (by rfl) (by decide) u3 i (rZ (L.take i) vs) (by rfl) (hown1.drew.alloc _) _ 1 1 (rY s (.slice none 0 0)) (by rfl) (by rfl) (World.news_of_block (heap_alloc_new _ _)) (Ul s _ rfl) (by omega) (by unfold maxLen;omega) (by omega) (by simp;omega) _ rfl ?_;intro g cap1 w3 hown3 hgrow hat hlt3))
    have g2:wr.grownBy (wr.drew.alloc (.cells #[.string s.nm,.string s.ve,.string s.dg,.slice none 0 0] 70)) none:=ak (ag bg.o (show wr.grownBy wr.drew none from⟨rfl,rfl,rfl,Nat.le_refl _,fun _ _ _=>rfl⟩)) _;have hb2:Below w.heap.size w wr.drew:=hbelow hb1 (Nat.le_trans hzz hsz1) ⟨rfl,rfl,rfl,Nat.le_refl _,fun _ _ _=>rfl⟩;have HB3:=ae ((hb2.alloc (Nat.le_trans hzz hsz1) _).grown hgrow (by simp;omega) (fun q hq=>(hown.lt q hq).1));have hnew:TxS (wr.drew.alloc (.cells #[.string s.nm,.string s.ve,.string s.dg,.slice none 0 0] 70)) (.slice none 0 0) s.nd:=xX.o.grow (ak (show wr.grownBy wr.drew none from⟨rfl,rfl,rfl,Nat.le_refl _,fun _ _ _=>rfl⟩) _);have hfn:vW (.slice none 0 0) u3.ownBlock:=fun a' n' k' e hn=>by
     have h1:=lu.o a' n' k' e hn;intro h2;have h3:=(hown.lt a'.block h2.symm).2;omega
    have far2:∀v (M:List ByteArray),TxS (wr.drew.alloc (.cells #[.string s.nm,.string s.ve,.string s.dg,.slice none 0 0] 70)) v M->(∀a' n' k',v=.slice (some a') n' k'->0<n'->a'.block<wr.heap.size)->vW v u3.ownBlock->vW v (some g):=fun v M h1 h2 h3 a' n' k' e hn=>by
     have h4:=h2 a' n' k' e hn
     rcases hat with h5|h5
     ·rw[<-h5];exact h3 a' n' k' e hn
     ·intro h6;injection h6 with h6
      rw[h5]at h6;simp at h6;omega
    have HR3:Hd (BJ L w3 w.heap.size (.slice (some ⟨g,0,none⟩) (i+1) cap1) (i+1)):=by
     refine⟨vs++[.slice none 0 0],by simp[hvs],?_,fun j hj hLj=>?_⟩
     ·rw[iU.o];exact hown3
     ·by_cases hji:j<i
      ·obtain⟨k1,k2⟩:=jT.o j hji hLj;have ej:(vs++[Value.slice none 0 0])[j]'(by simp;omega)=vs[j]'(by omega):=List.getElem_append_left (by omega);rw[ej];refine⟨(k1.grow g2).far hgrow k2,?_⟩;refine far2 _ _ (k1.grow g2) (fun a' n' k' e hn=>?_) k2;have:=Io (by rw[<-e];exact k1) hn;exact Nat.lt_of_lt_of_le this hsz1
      ·have hje:j=i:=by omega
       subst hje;have ej:(vs++[Value.slice none 0 0])[j]'(by simp;omega)=.slice none 0 0:=by simp[hvs]
       rw[ej];have esj:L[j].nd=s.nd:=by rw[HS.o]
       rw[esj];exact⟨hnew.far hgrow hfn,far2 _ _ hnew (fun a' n' k' e hn=>Io (by rw[<-e];exact xX.o) hn) hfn⟩
    clear hown3 hgrow hat hown hown1 hb hb1 hb2 hlt3 E0 E1 E2 g2 hnew hfn far2;go_wp2;go_roundw
    case rel=>exact⟨i+1,by go_num,by omega,HR3.o,HB3.o⟩
    case measure=>simp[intOf];omega
   ·obtain⟨b,rfl,hb0⟩:∃b,so=some b/\∀j (hj:j<s.nd.length),wr.cell? (b.add j)=some (.string s.nd[j]):=by
     rcases HTX.o with⟨h1,h2⟩|⟨b,cp,h1,h2,h3⟩
     ·rw[h2]at hn0;exact absurd rfl hn0
     ·cases h1;exact⟨b,rfl,h3⟩
    have hnews:∀j u,(s.nd.map Value.string)[j]?=some u->wr.cell? (b.add j)=some u:=fun j u hu=>by
     obtain⟨hj,rfl⟩:=List.getElem?_eq_some_iff.1 hu;rw[List.getElem_map];exact hb0 j (by simpa using hj)
    obtain⟨nn,hnn⟩:=zN (s.nd.length);rw[hnn]at e3 hnd hn0;go_wp2_with (first|(at_builtin;refine wpList_append_lies _ rfl _ _ 67 rfl wr.heap.size 9 j0 _ 1 16 underlying67 hj0 hy0 hy1 hyb rfl (by decide) (.slice none 0 0) 0 [] rfl (World.ownsRow_nil _ _ _ _) b nn sc (s.nd.map Value.string) rfl (by rw[List.length_map,hnn,Nat.mul_one]) hnews (EW _) (by omega) (by unfold maxLen;omega) (by omega) (Nat.le_refl _) _ rfl ?_;intro g0 cap0 w1 hown0 hgrow0 qc hlt0));simp only[Nat.zero_add]at hown0 ⊢;have hg1:wr.grownBy w1 none:=hgrow0;have EX:=adi hnn.symm hown0;have hf1:∀a n k,Value.slice (some ⟨g0,0,none⟩) nn cap0=.slice (some a) n k->0<n->wr.heap.size<=a.block:=fun a n k e hn=>by
     rw[e]at hown0;exact(hown0.lt a.block rfl).1
    clear hown0 hgrow0 qc hlt0 hnews hb0 hnn;have xX:=ae EX;have lu:=ae hf1;have E0:=hg1.cell e0 (by simp);have E1:=hg1.cell e1 (by simp);have E2:=hg1.cell e2 (by simp);have hown1:=hown.kept hg1 (by cases u3.ownBlock<;>simp);have hsz1:=hg1.size;have hb1:=hbelow hb hzz hg1;have bg:=ae hg1;clear e0 e1 e2 e3 EX hf1 hg1;go_wp2
    go_region_held3 (fun w'=>w'.cell? (a.add (i*4))=some (.string s.nm)/\w'.cell? ⟨(a.add (i*4)).block,(a.add (i*4)).off+1,none⟩=some (.string s.ve)/\w'.cell? ⟨(a.add (i*4)).block,(a.add (i*4)).off+2,none⟩=some (.string s.dg)) ((first|exact Un (by assumption) (by first|exact jS.o|simp) (by assumption)|go_keep)) (first|(refine step_append_lies _ (by rfl) _ _ _ (by rfl) w.heap.size 70 i0 _ 4 72 underlying29 hi0 hz0 hz1 hzb (by rfl) (by decide) u3 i (rZ (L.take i) vs) (by rfl) (hown1.drew.alloc _) _ 1 1 (rY s (.slice (some ⟨g0,0,none⟩) nn cap0)) (by rfl) (by rfl) (World.news_of_block (heap_alloc_new _ _)) (Ul s _ rfl) (by omega) (by unfold maxLen;omega) (by omega) (by simp;omega) _ rfl ?_;intro g cap1 w3 hown3 hgrow hat hlt3))
    have g2:wr.grownBy (w1.drew.alloc (.cells #[.string s.nm,.string s.ve,.string s.dg,.slice (some ⟨g0,0,none⟩) nn cap0] 70)) none:=ak (ag bg.o (show w1.grownBy w1.drew none from⟨rfl,rfl,rfl,Nat.le_refl _,fun _ _ _=>rfl⟩)) _;have hb2:Below w.heap.size w w1.drew:=hbelow hb1 (Nat.le_trans hzz hsz1) ⟨rfl,rfl,rfl,Nat.le_refl _,fun _ _ _=>rfl⟩;have HB3:=ae ((hb2.alloc (Nat.le_trans hzz hsz1) _).grown hgrow (by simp;omega) (fun q hq=>(hown.lt q hq).1));have hnew:TxS (w1.drew.alloc (.cells #[.string s.nm,.string s.ve,.string s.dg,.slice (some ⟨g0,0,none⟩) nn cap0] 70)) (.slice (some ⟨g0,0,none⟩) nn cap0) s.nd:=xX.o.grow (ak (show w1.grownBy w1.drew none from⟨rfl,rfl,rfl,Nat.le_refl _,fun _ _ _=>rfl⟩) _);have hfn:vW (.slice (some ⟨g0,0,none⟩) nn cap0) u3.ownBlock:=fun a' n' k' e hn=>by
     have h1:=lu.o a' n' k' e hn;intro h2;have h3:=(hown.lt a'.block h2.symm).2;omega
    have far2:∀v (M:List ByteArray),TxS (w1.drew.alloc (.cells #[.string s.nm,.string s.ve,.string s.dg,.slice (some ⟨g0,0,none⟩) nn cap0] 70)) v M->(∀a' n' k',v=.slice (some a') n' k'->0<n'->a'.block<w1.heap.size)->vW v u3.ownBlock->vW v (some g):=fun v M h1 h2 h3 a' n' k' e hn=>by
     have h4:=h2 a' n' k' e hn
     rcases hat with h5|h5
     ·rw[<-h5];exact h3 a' n' k' e hn
     ·intro h6;injection h6 with h6
      rw[h5]at h6;simp at h6;omega
    have HR3:Hd (BJ L w3 w.heap.size (.slice (some ⟨g,0,none⟩) (i+1) cap1) (i+1)):=by
     refine⟨vs++[.slice (some ⟨g0,0,none⟩) nn cap0],by simp[hvs],?_,fun j hj hLj=>?_⟩
     ·rw[iU.o];exact hown3
     ·by_cases hji:j<i
      ·obtain⟨k1,k2⟩:=jT.o j hji hLj;have ej:(vs++[Value.slice (some ⟨g0,0,none⟩) nn cap0])[j]'(by simp;omega)=vs[j]'(by omega):=List.getElem_append_left (by omega);rw[ej];refine⟨(k1.grow g2).far hgrow k2,?_⟩;refine far2 _ _ (k1.grow g2) (fun a' n' k' e hn=>?_) k2;have:=Io (by rw[<-e];exact k1) hn;exact Nat.lt_of_lt_of_le this hsz1
      ·have hje:j=i:=by omega
       subst hje;have ej:(vs++[Value.slice (some ⟨g0,0,none⟩) nn cap0])[j]'(by simp;omega)=.slice (some ⟨g0,0,none⟩) nn cap0:=by simp[hvs]
       rw[ej];have esj:L[j].nd=s.nd:=by rw[HS.o]
       rw[esj];exact⟨hnew.far hgrow hfn,far2 _ _ hnew (fun a' n' k' e hn=>Io (by rw[<-e];exact xX.o) hn) hfn⟩
    clear hown3 hgrow hat hown hown1 hb hb1 hb2 hlt3 E0 E1 E2 g2 hnew hfn far2;go_wp2;go_roundw
    case rel=>exact⟨i+1,by go_num,by omega,HR3.o,HB3.o⟩
    case measure=>simp[intOf];omega
  ·have hil:i=L.length:=by omega
   subst hil;have HO:Hd (BJ L wr w.heap.size u3 L.length):=⟨vs,hvs,hown,hin⟩;have HB:=ae hb;clear hown hb hi hin;go_wp2;refine bodyPost_ret (results_tmp (t:=2) rfl _ _ _) rfl ⟨u3,rfl,HO.o,HB.o⟩
open Go.RowKit
theorem LY{L:List Re}{w:World}{base:Nat}{v:Value}(h:A7 L w base v L.length):ReS w v L:=by
 obtain⟨vs,hl,ho,hn⟩:=h;rw[List.take_length]at ho
 rcases ho.2 with⟨h1,h2⟩|⟨g,cap,cur,hv,hb,hc,h3,h4,h5,h6⟩
 ·exact Or.inl ⟨h1,List.length_eq_zero_iff.1 h2⟩
 ·refine Or.inr ⟨⟨g,0,none⟩,cap,hv,h3,fun i hi=>?_⟩;have h':=ho;rw[hv]at h';have key:∀k u,0<k->(kR L[i] (vs[i]'(by omega)))[k]?=some u->w.cell? ⟨((⟨g,0,none⟩:Addr).add (i*4)).block,((⟨g,0,none⟩:Addr).add (i*4)).off+k,none⟩=some u:=fun k u hk hu=>by
   have:=h'.cells (g:=g) rfl (i*4+k) u (xH L vs hl.symm i hi k u hu);rw[qQ _ _ k hk]at this;exact this
  have k0:=h'.cells (g:=g) rfl (i*4+0) _ (xH L vs hl.symm i hi 0 _ rfl);exact⟨by simpa using k0,key 1 _ (by omega) rfl,⟨_,key 2 _ (by omega) rfl,(hn i hi hi).1⟩,key 3 _ (by omega) rfl⟩
theorem zu(sl:Value)(L:List Re)(w:World)(h:ReS w sl L)(hL:L.length<=1048576)(hN:∀x∈L,x.nd.length<=1048576) :
  Calls prog 9 #[sl] w fun e w'=>∃v,e=.returned v/\ReS w' v L/\w.grownBy w' none:=by
 rcases h with⟨rfl,rfl⟩|⟨a,cap,rfl,h2,h3⟩
 ·go_enter func9,ntmps9;go_wp2;go_loopw [3,4] (fun vm vi wr=>vi=.int .i64 0/\vm=.slice none 0 0/\w.grownBy wr none) (fun _ vi _=>0)
  case atStart=>exact⟨rfl,rfl,ai _ _⟩
  case round =>
   obtain⟨rfl,rfl,hb⟩:=hrel;have HB:Hd (w.grownBy wr none):=hb;clear hb;go_wp2;refine bodyPost_ret (results_tmp (t:=2) rfl _ _ _) rfl ⟨_,rfl,Or.inl ⟨rfl,rfl⟩,HB.o⟩
 ·refine(Sj a cap L w hL h2 hN h3).mono ?_;rintro e w' ⟨v,rfl,hr,hb⟩;exact⟨v,rfl,LY hr,gz hb⟩
open Go.ChangeShapes Go.WideShapes Go.ChangeAt Go.RowKit Go.Joins
instance:Inhabited Nd:=⟨⟨⟨#[]⟩,⟨#[]⟩⟩⟩
instance:Inhabited Re:=⟨⟨⟨#[]⟩,⟨#[]⟩,[],⟨#[]⟩⟩⟩
theorem Uo:prog.cellsOf 56=2:=by kernel_rfl
theorem Ur:prog.cellsOf 51=4:=by kernel_rfl
theorem Ip{H:Type}(d:DataW H):1<=Rows.uptoBulk d:=by
 cases d with
 | lit l=>cases l<;>simp[Rows.uptoBulk]
 | _=>simp[Rows.uptoBulk]
theorem EY{H:Type}(l:List (DataW H)):l.length<=Rows.uptoBulkAll l:=by
 induction l with
 | nil=>simp
 | cons d l ih =>
  have:=Ip d;simp only[Rows.uptoBulkAll,List.length_cons];omega
theorem Iq{H:Type}(l:List (DataW H))(d:DataW H)(h:d∈l):Rows.uptoBulk d<=Rows.uptoBulkAll l:=by
 induction l with
 | nil=>cases h
 | cons e l ih =>
  simp only[Rows.uptoBulkAll]
  rcases List.mem_cons.1 h with rfl|h
  ·omega
  ·have:=ih h;omega
theorem adn{α:Type}{cs:List α}(h:cs.length=2):∃c0 c1,cs=[c0,c1]:=by
 match cs,h with
 | [c0,c1],_=>exact⟨c0,c1,rfl⟩
theorem list4{α:Type}{cs:List α}(h:cs.length=4):∃c0 c1 c2 c3,cs=[c0,c1,c2,c3]:=by
 match cs,h with
 | [c0,c1,c2,c3],_=>exact⟨c0,c1,c2,c3,rfl⟩
theorem ado{H:Type}{enc:TypeId × Value->H}{w:World}{base:Nat}{spare:Nat->Bool}{held:Bool}{fuel:Nat}{cs:List Value}{x:DataW H × List MemPlace}
  (h:DataW.trod enc prog w base spare held fuel 56 cs=some x):∃s:Nd,cs=iL s/\s.n.size<=Rows.uptoBulk x.1/\s.r.size<=Rows.uptoBulk x.1:=by
 have hu:=underlying56;obtain⟨xs,n,_,hx,hl,hlen,hfs⟩:=DataW.trod_struct hu h;obtain⟨c0,c1,rfl⟩:=adn (hl.trans Uo)
 match xs,hlen with
 | [y0,y1],_ =>
  have k9:prog.cellsOf 9=1:=by kernel_rfl
  have g0:=hfs 0 _ rfl;have g1:=hfs 1 _ rfl;simp[k9]at g0 g1;obtain⟨a4,e4,rfl,w4⟩:=DataW.trod_string underlying9 g0;obtain⟨a5,e5,rfl,w5⟩:=DataW.trod_string underlying9 g1;simp at e4 e5;subst e4;subst e5;refine⟨⟨a4,a5⟩,rfl,?_,?_⟩
  ·rw[hx];simp only[List.map,Rows.uptoBulk,Rows.uptoBulkAll,Array.length_toList];have e1:a4.data.size=a4.size:=rfl;omega
  ·rw[hx];simp only[List.map,Rows.uptoBulk,Rows.uptoBulkAll,Array.length_toList];have e1:a5.data.size=a5.size:=rfl;omega
theorem adp{w:World}{a:Addr}{n:Nat}{s:Nd}(h:∀k v,(iL s)[k]?=some v->w.cell? (a.add (n+k))=some v):NdAt w (a.add n) s :=
 ⟨by have:=h 0 _ rfl;simpa using this,by have:=h 1 _ rfl;rw[qQ a n 1 (by omega)]at this;exact this⟩
theorem Us{H:Type}{enc:TypeId × Value->H}{w:World}{base:Nat}{spare:Nat->Bool}{held:Bool}{fuel:Nat}{v:Value}{x:DataW H × List MemPlace}
  (h:DataW.trod enc prog w base spare held fuel 22 [v]=some x):∃L:List Nd,NdS w v L/\L.length<=Rows.uptoBulk x.1/\∀y∈L,y.n.size<=Rows.uptoBulk x.1/\y.r.size<=Rows.uptoBulk x.1:=by
 have hu:=underlying22
 rcases Deep.open_slice hu h with⟨hcs,hx⟩|⟨a,len,cap,m,n,D,Pl,hcs,hb,hl,hm,hmm,hx,hel⟩
 ·simp at hcs;exact⟨[],Or.inl ⟨hcs,rfl⟩,by simp,by simp⟩
 ·simp at hcs;subst hcs;have hle:len<=m:=by rw[hmm];split<;>omega
  have hS:∀i,i<len->∃s:Nd,(∀k u,(iL s)[k]?=some u->w.cell? (a.add (i*2+k))=some u)/\s.n.size<=Rows.uptoBulk (D i)/\s.r.size<=Rows.uptoBulk (D i):=by
   intro i hi;obtain⟨cs',h1,h2⟩:=hel i (by omega);obtain⟨s,hc,hs1,hs2⟩:=ado h2;refine⟨s,fun k u hu=>?_,hs1,hs2⟩;rw[Uo]at h1;obtain⟨-,h4,h3⟩:=World.cells?_some h1;have hk:k<2:=(List.getElem?_eq_some_iff.1 hu).1;have h5:=h3 k hk;rw[Deep.add_add,hc,hu]at h5;exact h5
  obtain⟨S,hS⟩:=Deep.choose_lt hS;have hlen:((List.range len).map S).length=len:=by simp
  refine⟨(List.range len).map S,Or.inr ⟨a,cap,by rw[hlen],by rw[hlen];exact hl,fun i hi=>?_⟩,?_,fun y hy=>?_⟩
  ·have hi':i<len:=by rw[hlen]at hi;exact hi
   rw[List.getElem_map,List.getElem_range];exact adp (hS i hi').1
  ·rw[hx,hlen];simp only[Rows.uptoBulk];have:=EY ((List.range len).map D);simp only[List.length_map,List.length_range]at this;omega
  ·obtain⟨i,hi,rfl⟩:=List.mem_map.1 hy;have hm:=Iq ((List.range len).map D) (D i) (List.mem_map.2 ⟨i,hi,rfl⟩);have:=(hS i (List.mem_range.1 hi)).2;rw[hx];simp only[Rows.uptoBulk];omega
theorem Ut{H:Type}{enc:TypeId × Value->H}{w:World}{base:Nat}{spare:Nat->Bool}{held:Bool}{fuel:Nat}{cs:List Value}{x:DataW H × List MemPlace}
  (h:DataW.trod enc prog w base spare held fuel 51 cs=some x) :
  ∃(r:Re) (v:Value),cs=[.string r.nm,.string r.ve,v,.string r.da]/\NdS w v r.nd/\r.nm.size<=Rows.uptoBulk x.1/\r.ve.size<=Rows.uptoBulk x.1/\r.nd.length<=Rows.uptoBulk x.1/\∀y∈r.nd,y.n.size<=Rows.uptoBulk x.1/\y.r.size<=Rows.uptoBulk x.1:=by
 have hu:=underlying51;obtain⟨xs,n,_,hx,hl,hlen,hfs⟩:=DataW.trod_struct hu h;obtain⟨c0,c1,c2,c3,rfl⟩:=list4 (hl.trans Ur)
 match xs,hlen with
 | [y0,y1,y2,y3],_ =>
  have k9:prog.cellsOf 9=1:=by kernel_rfl
  have k8:prog.cellsOf 22=1:=by kernel_rfl
  have g0:=hfs 0 _ rfl;have g1:=hfs 1 _ rfl;have g2:=hfs 2 _ rfl;have g3:=hfs 3 _ rfl;simp[k8,k9]at g0 g1 g2 g3;obtain⟨a0,e0,rfl,w0⟩:=DataW.trod_string underlying9 g0;obtain⟨a1,e1,rfl,w1⟩:=DataW.trod_string underlying9 g1;obtain⟨a3,e3,rfl,w3⟩:=DataW.trod_string underlying9 g3;obtain⟨N,hN,hNl,LZ⟩:=Us g2;simp at e0 e1 e3;subst e0;subst e1;subst e3;refine⟨⟨a0,a1,N,a3⟩,c2,rfl,hN,?_,?_,?_,fun y hy=>?_⟩
  ·rw[hx];simp only[List.map,Rows.uptoBulk,Rows.uptoBulkAll,Array.length_toList];have e1:a0.data.size=a0.size:=rfl;omega
  ·rw[hx];simp only[List.map,Rows.uptoBulk,Rows.uptoBulkAll,Array.length_toList];have e1:a1.data.size=a1.size:=rfl;omega
  ·rw[hx];simp only[List.map,Rows.uptoBulk,Rows.uptoBulkAll,Array.length_toList];omega
  ·have:=LZ y hy;rw[hx];simp only[List.map,Rows.uptoBulk,Rows.uptoBulkAll,Array.length_toList];omega
theorem EZ{H:Type}{enc:TypeId × Value->H}{w:World}{base:Nat}{spare:Nat->Bool}{held:Bool}{r:Reach}{b0:Nat}{v:Value}{d:DataW H}{p:List MemPlace}
  (hv:Value.okWide prog w r b0 23 v) (h:DataW.Trod enc prog w base spare held 23 v d p) :
  ∃L:List Re,ReS w v L/\L.length<=Rows.uptoBulk d/\∀s∈L,s.nm.size<=Rows.uptoBulk d/\s.ve.size<=Rows.uptoBulk d/\s.nd.length<=Rows.uptoBulk d/\∀y∈s.nd,y.n.size<=Rows.uptoBulk d/\y.r.size<=Rows.uptoBulk d:=by
 have hu:=underlying23;obtain⟨a0,l0,c0,rfl⟩:=okWide_slice hu hv;obtain⟨fuel,hf⟩:=h
 rcases Deep.open_slice hu hf with⟨hcs,hx⟩|⟨a,len,cap,m,n,D,Pl,hcs,hb,hl,hm,hmm,hx,hel⟩
 ·simp[Value.cells]at hcs;obtain⟨rfl,rfl,rfl⟩:=hcs;exact⟨[],Or.inl ⟨rfl,rfl⟩,by simp,by simp⟩
 ·simp[Value.cells]at hcs;obtain⟨rfl,rfl,rfl⟩:=hcs;have hle:l0<=m:=by rw[hmm];split<;>omega
  have hS:∀i,i<l0->∃s:Re,ReAt w (a.add (i*4)) s/\s.nm.size<=Rows.uptoBulk (D i)/\s.ve.size<=Rows.uptoBulk (D i)/\s.nd.length<=Rows.uptoBulk (D i)/\∀y∈s.nd,y.n.size<=Rows.uptoBulk (D i)/\y.r.size<=Rows.uptoBulk (D i):=by
   intro i hi;obtain⟨cs',h1,h2⟩:=hel i (by omega);obtain⟨s,v,hc,hn,hv1,hv2,hv3,hv4⟩:=Ut h2;rw[Ur]at h1;obtain⟨-,h4,h3⟩:=World.cells?_some h1;subst hc;have q0:=h3 0 (by omega);have q1:=h3 1 (by omega);have q2:=h3 2 (by omega);have q3:=h3 3 (by omega);rw[Deep.add_add]at q0 q1 q2 q3;rw[qQ _ _ _ (by omega)]at q1 q2 q3;exact⟨s,⟨by simpa using q0,by simpa using q1,⟨v,by simpa using q2,hn⟩,by simpa using q3⟩,hv1,hv2,hv3,hv4⟩
  obtain⟨S,hS⟩:=Deep.choose_lt hS;have hlen:((List.range l0).map S).length=l0:=by simp
  have hd:d=.slice ((List.range l0).map D) ((List.range (m-l0)).map fun j=>D (l0+j)):=congrArg Prod.fst hx;have hbl:=EY ((List.range l0).map D);simp only[List.length_map,List.length_range]at hbl;refine⟨(List.range l0).map S,Or.inr ⟨a,c0,by rw[hlen],by rw[hlen];exact hl,fun i hi=>?_⟩,?_,fun s hs=>?_⟩
  ·have hi':i<l0:=by rw[hlen]at hi;exact hi
   rw[List.getElem_map,List.getElem_range];exact(hS i hi').1
  ·rw[hd,hlen];simp only[Rows.uptoBulk];omega
  ·obtain⟨i,hi,rfl⟩:=List.mem_map.1 hs;have hm:=Iq ((List.range l0).map D) (D i) (List.mem_map.2 ⟨i,hi,rfl⟩);obtain⟨-,b1,b2,b3,b4⟩:=hS i (List.mem_range.1 hi);rw[hd];simp only[Rows.uptoBulk];exact⟨by omega,by omega,by omega,fun y hy=>by have:=b4 y hy;exact⟨by omega,by omega⟩⟩
open Go.ChangeShapes Go.WideShapes Go.ChangeAt Go.RowKit Go.Joins
instance:Inhabited En:=⟨⟨⟨#[]⟩,⟨#[]⟩,⟨#[]⟩,[]⟩⟩
theorem Uu:prog.cellsOf 69=4:=by kernel_rfl
theorem adq:prog.cellsOf 9=1:=by kernel_rfl
theorem adr{H:Type}{enc:TypeId × Value->H}{w:World}{base:Nat}{spare:Nat->Bool}{held:Bool}{fuel:Nat}{v:Value}{x:DataW H × List MemPlace}
  (h:DataW.trod enc prog w base spare held fuel 67 [v]=some x):∃L:List ByteArray,TxS w v L/\L.length<=Rows.uptoBulk x.1/\∀y∈L,y.size<=Rows.uptoBulk x.1:=by
 have hu:=underlying67
 rcases Deep.open_slice hu h with⟨hcs,hx⟩|⟨a,len,cap,m,n,D,Pl,hcs,hb,hl,hm,hmm,hx,hel⟩
 ·simp at hcs;exact⟨[],Or.inl ⟨hcs,rfl⟩,by simp,by simp⟩
 ·simp at hcs;subst hcs;have hle:len<=m:=by rw[hmm];split<;>omega
  have hS:∀i,i<len->∃s:ByteArray,w.cell? (a.add i)=some (.string s)/\s.size<=Rows.uptoBulk (D i):=by
   intro i hi;obtain⟨cs',h1,h2⟩:=hel i (by omega);rw[adq]at h1;obtain⟨-,h4,h3⟩:=World.cells?_some h1;obtain⟨a0,e0,hd,w0⟩:=DataW.trod_string underlying9 h2;have q0:=h3 0 (by omega);rw[Deep.add_add,e0]at q0;refine⟨a0,by simpa using q0,?_⟩;have hd':=congrArg Prod.fst hd;simp only[]at hd';rw[hd'];simp only[Rows.uptoBulk,Array.length_toList];have e1:a0.data.size=a0.size:=rfl;omega
  obtain⟨S,hS⟩:=Deep.choose_lt hS;have hlen:((List.range len).map S).length=len:=by simp
  refine⟨(List.range len).map S,Or.inr ⟨a,cap,by rw[hlen],by rw[hlen];exact hl,fun i hi=>?_⟩,?_,fun y hy=>?_⟩
  ·have hi':i<len:=by rw[hlen]at hi;exact hi
   rw[List.getElem_map,List.getElem_range];exact(hS i hi').1
  ·rw[hx,hlen];simp only[Rows.uptoBulk];have:=EY ((List.range len).map D);simp only[List.length_map,List.length_range]at this;omega
  ·obtain⟨i,hi,rfl⟩:=List.mem_map.1 hy;have hm:=Iq ((List.range len).map D) (D i) (List.mem_map.2 ⟨i,hi,rfl⟩);have:=(hS i (List.mem_range.1 hi)).2;rw[hx];simp only[Rows.uptoBulk];omega
theorem ads{H:Type}{enc:TypeId × Value->H}{w:World}{base:Nat}{spare:Nat->Bool}{held:Bool}{fuel:Nat}{cs:List Value}{x:DataW H × List MemPlace}
  (h:DataW.trod enc prog w base spare held fuel 69 cs=some x) :
  ∃(r:En) (v:Value),cs=[.string r.nm,.string r.ve,.string r.dg,v]/\TxS w v r.nd/\r.nm.size<=Rows.uptoBulk x.1/\r.ve.size<=Rows.uptoBulk x.1/\r.dg.size<=Rows.uptoBulk x.1/\r.nd.length<=Rows.uptoBulk x.1/\∀y∈r.nd,y.size<=Rows.uptoBulk x.1:=by
 have hu:=underlying69;obtain⟨xs,n,_,hx,hl,hlen,hfs⟩:=DataW.trod_struct hu h;obtain⟨c0,c1,c2,c3,rfl⟩:=list4 (hl.trans Uu)
 match xs,hlen with
 | [y0,y1,y2,y3],_ =>
  have k9:prog.cellsOf 9=1:=by kernel_rfl
  have k8:prog.cellsOf 67=1:=by kernel_rfl
  have g0:=hfs 0 _ rfl;have g1:=hfs 1 _ rfl;have g2:=hfs 2 _ rfl;have g3:=hfs 3 _ rfl;simp[k8,k9]at g0 g1 g2 g3;obtain⟨a0,e0,rfl,w0⟩:=DataW.trod_string underlying9 g0;obtain⟨a1,e1,rfl,w1⟩:=DataW.trod_string underlying9 g1;obtain⟨a2,e2,rfl,w2⟩:=DataW.trod_string underlying9 g2;obtain⟨N,hN,hNl,LZ⟩:=adr g3;simp at e0 e1 e2;subst e0;subst e1;subst e2;have f0:a0.data.size=a0.size:=rfl;have f1:a1.data.size=a1.size:=rfl;have f2:a2.data.size=a2.size:=rfl;refine⟨⟨a0,a1,a2,N⟩,c3,rfl,hN,?_,?_,?_,?_,fun y hy=>?_⟩
  ·rw[hx];simp only[List.map,Rows.uptoBulk,Rows.uptoBulkAll,Array.length_toList];omega
  ·rw[hx];simp only[List.map,Rows.uptoBulk,Rows.uptoBulkAll,Array.length_toList];omega
  ·rw[hx];simp only[List.map,Rows.uptoBulk,Rows.uptoBulkAll,Array.length_toList];omega
  ·rw[hx];simp only[List.map,Rows.uptoBulk,Rows.uptoBulkAll,Array.length_toList];omega
  ·have:=LZ y hy;rw[hx];simp only[List.map,Rows.uptoBulk,Rows.uptoBulkAll,Array.length_toList];omega
theorem open_entries{H:Type}{enc:TypeId × Value->H}{w:World}{base:Nat}{spare:Nat->Bool}{held:Bool}{r:Reach}{b0:Nat}{v:Value}{d:DataW H}{p:List MemPlace}
  (hv:Value.okWide prog w r b0 24 v) (h:DataW.Trod enc prog w base spare held 24 v d p) :
  ∃L:List En,EnS w v L/\L.length<=Rows.uptoBulk d/\∀s∈L,s.nm.size<=Rows.uptoBulk d/\s.ve.size<=Rows.uptoBulk d/\s.dg.size<=Rows.uptoBulk d/\s.nd.length<=Rows.uptoBulk d/\∀y∈s.nd,y.size<=Rows.uptoBulk d:=by
 have hu:=underlying24;obtain⟨a0,l0,c0,rfl⟩:=okWide_slice hu hv;obtain⟨fuel,hf⟩:=h
 rcases Deep.open_slice hu hf with⟨hcs,hx⟩|⟨a,len,cap,m,n,D,Pl,hcs,hb,hl,hm,hmm,hx,hel⟩
 ·simp[Value.cells]at hcs;obtain⟨rfl,rfl,rfl⟩:=hcs;exact⟨[],Or.inl ⟨rfl,rfl⟩,by simp,by simp⟩
 ·simp[Value.cells]at hcs;obtain⟨rfl,rfl,rfl⟩:=hcs;have hle:l0<=m:=by rw[hmm];split<;>omega
  have hS:∀i,i<l0->∃s:En,EnAt w (a.add (i*4)) s/\s.nm.size<=Rows.uptoBulk (D i)/\s.ve.size<=Rows.uptoBulk (D i)/\s.dg.size<=Rows.uptoBulk (D i)/\s.nd.length<=Rows.uptoBulk (D i)/\∀y∈s.nd,y.size<=Rows.uptoBulk (D i):=by
   intro i hi;obtain⟨cs',h1,h2⟩:=hel i (by omega);obtain⟨s,v,hc,hn,hv1,hv2,hv3,hv4,hv5⟩:=ads h2;rw[Uu]at h1;obtain⟨-,h4,h3⟩:=World.cells?_some h1;subst hc;have q0:=h3 0 (by omega);have q1:=h3 1 (by omega);have q2:=h3 2 (by omega);have q3:=h3 3 (by omega);rw[Deep.add_add]at q0 q1 q2 q3;rw[qQ _ _ _ (by omega)]at q1 q2 q3;exact⟨s,⟨by simpa using q0,by simpa using q1,by simpa using q2,v,by simpa using q3,hn⟩,hv1,hv2,hv3,hv4,hv5⟩
  obtain⟨S,hS⟩:=Deep.choose_lt hS;have hlen:((List.range l0).map S).length=l0:=by simp
  have hd:d=.slice ((List.range l0).map D) ((List.range (m-l0)).map fun j=>D (l0+j)):=congrArg Prod.fst hx;have hbl:=EY ((List.range l0).map D);simp only[List.length_map,List.length_range]at hbl;refine⟨(List.range l0).map S,Or.inr ⟨a,c0,by rw[hlen],by rw[hlen];exact hl,fun i hi=>?_⟩,?_,fun s hs=>?_⟩
  ·have hi':i<l0:=by rw[hlen]at hi;exact hi
   rw[List.getElem_map,List.getElem_range];exact(hS i hi').1
  ·rw[hd,hlen];simp only[Rows.uptoBulk];omega
  ·obtain⟨i,hi,rfl⟩:=List.mem_map.1 hs;have hm:=Iq ((List.range l0).map D) (D i) (List.mem_map.2 ⟨i,hi,rfl⟩);obtain⟨-,b1,b2,b3,b4,b5⟩:=hS i (List.mem_range.1 hi);rw[hd];simp only[Rows.uptoBulk];exact⟨by omega,by omega,by omega,by omega,fun y hy=>by have:=b5 y hy;omega⟩
end Go.Proofs.YtiinliaoojfjaaaGreatDoor
