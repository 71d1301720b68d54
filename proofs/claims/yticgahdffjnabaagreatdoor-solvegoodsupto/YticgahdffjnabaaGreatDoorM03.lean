import Derived.Test.YticgahdffjnabaaGreatDoorM02
set_option linter.unusedVariables false
set_option maxHeartbeats 3200000
namespace Go.Proofs.YticgahdffjnabaaGreatDoor
open Go.RowKit
def NdFar (v:Value) (b:Option Nat):Prop:=∀a n c,v=.slice (some a) n c->0 < n->some a.block ≠ b
theorem NdS.far {w w':World} {v:Value} {L:List Nd} {b:Option Nat} (h:NdS w v L) (hg:w.grownBy w' b) (hf:NdFar v b):NdS w' v L:=by
 rcases h with h | ⟨a,cap,rfl,h2,h3⟩
 ·exact Or.inl h
 ·refine Or.inr ⟨a,cap,rfl,h2,fun i hi=>?_⟩;have hb:=hf a _ _ rfl (by omega);have e:∀k,(a.add k).block=a.block:=fun k=>by unfold Addr.add;split <;> simp
  obtain ⟨k0,k1⟩:=h3 i hi;exact ⟨hg.cell k0 (by rw [e];exact hb),hg.cell k1 (by show some (a.add (i * 2)).block ≠ b;rw [e];exact hb)⟩
theorem nds_lt {w:World} {a:Addr} {n c:Nat} {L:List Nd} (h:NdS w (.slice (some a) n c) L) (hn:0 < n):a.block < w.heap.size:=by
 rcases h with ⟨h,-⟩ | ⟨a',cap,h1,h2,h3⟩
 ·cases h
 ·cases h1
  have:=hcell_lt (h3 0 (by omega)).1;have e:(a.add (0 * 2)).block=a.block:=by unfold Addr.add;split <;> simp
  rw [e] at this;exact this
theorem cNeedsN (v:Value) (L:List Nd) (w:World) (h:NdS w v L) (hL:L.length<=1048576) :
  Calls Tryz.prog 5 #[v] w fun e w'=>∃o c,e=.returned (.slice o L.length c)/\NdS w' (.slice o L.length c) L/\(∀a n k,Value.slice o L.length c=.slice (some a) n k->0 < n->w.heap.size<=a.block)/\w.grownBy w' none:=by
 have key:∀e w',NeedsPost L w e w'->∃o c,e=.returned (.slice o L.length c)/\NdS w' (.slice o L.length c) L/\(∀a n k,Value.slice o L.length c=.slice (some a) n k->0 < n->w.heap.size<=a.block)/\w.grownBy w' none:=by
  rintro e w' ⟨v,rfl,ho,hb⟩;obtain ⟨o,c,rfl⟩:=nds_slice (nds_own ho);refine ⟨o,c,rfl,nds_own ho,fun a n k e hn=>?_,bel_gb hb⟩;rw [e] at ho;exact (ho.lt a.block rfl).1
 rcases h with ⟨rfl,rfl⟩ | ⟨a,cap,rfl,h2,h3⟩
 ·exact (needs_nil w).mono key
 ·exact (needs_at a cap L w hL h2 h3).mono key
def reC (x:Re) (v:Value):List Value:=[.string x.nm,.string x.ve,v,.string x.da]
def reCs (L:List Re) (vs:List Value):List Value:=(List.zipWith reC L vs).flatten
theorem reCs_snoc (L:List Re) (vs:List Value) (x:Re) (v:Value) (h:L.length=vs.length):reCs (L++[x]) (vs++[v])=reCs L vs++reC x v:=by
 unfold reCs;rw [List.zipWith_append h];simp
theorem re_get:∀(L:List Re) (vs:List Value) (h:L.length=vs.length) (i:Nat) (hi:i < L.length) (k:Nat) (u:Value),(reC L[i] (vs[i]'(by omega)))[k]?=some u->(reCs L vs)[i * 4+k]?=some u
 | [],vs,h,i,hi,k,u,hu=>by simp at hi
 | x :: L,[],h,i,hi,k,u,hu=>by simp at h
 | x :: L,v :: vs,h,i,hi,k,u,hu=>by
  have e:reCs (x :: L) (v :: vs)=reC x v++reCs L vs:=rfl;have hl:(reC x v).length=4:=rfl;rw [e]
  cases i with
  | zero =>
   simp only [List.getElem_cons_zero] at hu;have hk:k < (reC x v).length:=(List.getElem?_eq_some_iff.1 hu).1;rw [Nat.zero_mul,Nat.zero_add,List.getElem?_append_left hk];exact hu
  | succ i =>
   simp only [List.getElem_cons_succ] at hu;rw [List.getElem?_append_right (by rw [hl];omega),hl,show (i+1) * 4+k - 4=i * 4+k by omega];exact re_get L vs (by simpa using h) i (by simpa using hi) k u hu
theorem infoRe:(Tryz.prog.info? 53).map (fun i=>(i.zero,i.size,i.bytes))=some (some (.agg #[.string ⟨#[]⟩,.string ⟨#[]⟩,.slice none 0 0,.string ⟨#[]⟩]),4,72):=by kernel_rfl
theorem rec_one (s:Re) (v:Value) (h:v.oneCell'=true):∀u ∈ reC s v,u.oneCell'=true:=by
 intro u hu;simp only [reC,List.mem_cons,List.not_mem_nil,or_false] at hu
 rcases hu with rfl | rfl | rfl | rfl
 ·rfl
 ·rfl
 ·exact h
 ·rfl
theorem keepR {p:Addr} {s:Re} {v:Value} {r:Option Nat} {w w':World} (hg:w.grownBy w' r) (hn:some p.block ≠ r) (h:w.cell? p=some (.string s.nm)/\w.cell? ⟨p.block,p.off+1,none⟩=some (.string s.ve)/\w.cell? ⟨p.block,p.off+2,none⟩=some v/\w.cell? ⟨p.block,p.off+3,none⟩=some (.string s.da)):w'.cell? p=some (.string s.nm)/\w'.cell? ⟨p.block,p.off+1,none⟩=some (.string s.ve)/\w'.cell? ⟨p.block,p.off+2,none⟩=some v/\w'.cell? ⟨p.block,p.off+3,none⟩=some (.string s.da) :=
 ⟨hg.cell h.1 hn,hg.cell h.2.1 hn,hg.cell h.2.2.1 hn,hg.cell h.2.2.2 hn⟩
def RRow (L:List Re) (w:World) (base:Nat) (vm:Value) (i:Nat):Prop:=∃vs:List Value,∃hl:vs.length=i,w.ownsRow base 53 4 vm i (reCs (L.take i) vs)/\∀j (hj:j < i) (hL:j < L.length),NdS w (vs[j]'(by omega)) L[j].nd/\NdFar (vs[j]'(by omega)) vm.ownBlock
set_option maxRecDepth 100000 in
theorem releases_at (a:Addr) (cap:Nat) (L:List Re) (w:World) (hL:L.length<=1048576) (hcap:L.length<=cap) (hN:∀x ∈ L,x.nd.length<=1048576) (h:∀i (hi:i < L.length),ReAt w (a.add (i * 4)) L[i]) :
  Calls Tryz.prog 6 #[.slice (some a) L.length cap] w fun e w'=>∃v,e=.returned v/\RRow L w' w.heap.size v L.length/\Below w.heap.size w w':=by
 have HA:Hd (∀i (hi:i < L.length),ReAt w (a.add (i * 4)) L[i]):=h;have HN:Hd (∀x ∈ L,x.nd.length<=1048576):=hN;clear h hN;have hinfo:=infoRe;obtain ⟨i0,hi0,hii⟩:=Option.map_eq_some_iff.1 hinfo;simp only [Prod.mk.injEq] at hii;obtain ⟨hz0,hz1,hzb⟩:=hii;clear hinfo;go_enter Tryz.func6,Tryz.ntmps6;go_wp2;go_loopw [3,4] (fun vm vi wr=>∃i:Nat,vi=.int .i64 i/\i<=L.length/\RRow L wr w.heap.size vm i/\Below w.heap.size w wr) (fun _ vi _=>L.length - (intOf vi).toNat)
 case atStart=>exact ⟨0,rfl,Nat.zero_le _,⟨[],rfl,World.ownsRow_nil _ _ _ _,fun j hj=>by omega⟩,Below.refl _ _⟩
 case round =>
  obtain ⟨i,rfl,hi,⟨vs,hvs,hown,hin⟩,hb⟩:=hrel
  by_cases hlt:i < L.length
  ·obtain ⟨s,hs⟩:=nm (L[i]);have hat0:ReAt wr (a.add (i * 4)) s:=by rw [<-hs];exact (HA.o i hlt).grow (bel_gb hb)
   obtain ⟨e0,e1,⟨sv,e2,hsv⟩,e3⟩:=hat0;have HFAR:Hd (some (a.add (i * 4)).block ≠ u3.ownBlock):=by
    show _ ≠ _;intro e;have h1:=(hown.lt _ e.symm).1;have h2:=(HA.o i hlt).1;have h3:(a.add (i * 4)).block < w.heap.size:=hcell_lt h2;omega
   have CND:Hd (Calls Tryz.prog 5 #[sv] wr.drew fun e w'=>∃o c,e=.returned (.slice o s.nd.length c)/\NdS w' (.slice o s.nd.length c) s.nd/\(∀a n k,Value.slice o s.nd.length c=.slice (some a) n k->0 < n->wr.heap.size<=a.block)/\wr.drew.grownBy w' none):=cNeedsN sv s.nd wr.drew (hsv.grow ⟨rfl,rfl,rfl,Nat.le_refl _,fun _ _ _=>rfl⟩) (HN.o s (by rw [<-hs];exact List.getElem_mem _));have HIN:Hd (∀j (hj:j < i) (hL:j < L.length),NdS wr (vs[j]'(by omega)) L[j].nd/\NdFar (vs[j]'(by omega)) u3.ownBlock):=hin;have HTK:Hd (∀v,reCs (L.take (i+1)) (vs++[v])=reCs (L.take i) vs++reC s v):=fun v=>by
    rw [List.take_succ_eq_append_getElem hlt,hs];exact reCs_snoc _ _ _ _ (by rw [List.length_take,hvs];omega)
   have HS:Hd (L[i]=s):=hs;have hzz:=hb.size;obtain ⟨nn,hnn⟩:=nm (s.nd.length);rw [hnn] at CND;clear hin hs hsv;go_wp2
   go_region_held3 (fun w'=>w'.cell? (a.add (i * 4))=some (.string s.nm)/\w'.cell? ⟨(a.add (i * 4)).block,(a.add (i * 4)).off+1,none⟩=some (.string s.ve)/\w'.cell? ⟨(a.add (i * 4)).block,(a.add (i * 4)).off+2,none⟩=some sv/\w'.cell? ⟨(a.add (i * 4)).block,(a.add (i * 4)).off+3,none⟩=some (.string s.da)) ((first | exact keepR (by assumption) (by first | exact HFAR.o | simp) (by assumption) | go_keep)) (first | (refine step_append_lies _ (by rfl) _ _ _ (by rfl) w.heap.size 53 i0 _ 4 72 Tryz.underlying28 hi0 hz0 hz1 hzb (by rfl) (by decide) u3 i (reCs (L.take i) vs) (by rfl) ((hown.kept (gb_undrew hg1) (by cases u3.ownBlock <;> simp)).alloc _) _ 1 1 (reC s (.slice o1 nn c1)) (by rfl) (by rfl) (World.news_of_block (heap_alloc_new _ _)) (rec_one s _ rfl) (by omega) (by unfold maxLen;omega) (by omega) (by have q1:=hg1.size;simp at q1 ⊢;omega) _ rfl ?_;intro g cap1 w3 hown3 hgrow hat hlt3) | (go_at_call 5;refine CND.o.mono ?_;rintro e w1 ⟨o1,c1,rfl,hn1,hf1,hg1⟩))
   have g1:wr.grownBy w1 none:=gb_undrew hg1;have g2:wr.grownBy (w1.alloc (.cells #[.string s.nm,.string s.ve,.slice o1 nn c1,.string s.da] 53)) none:=gb_alloc g1 _;have hz1':w.heap.size<=w1.heap.size:=Nat.le_trans hzz g1.size;have HB3:Hd (Below w.heap.size w w3):=((hbelow hb hzz g1).alloc hz1' _).grown hgrow (by simp;omega) (fun q hq=>(hown.lt q hq).1);have hnew:NdS (w1.alloc (.cells #[.string s.nm,.string s.ve,.slice o1 nn c1,.string s.da] 53)) (.slice o1 nn c1) s.nd:=hn1.grow (gb_alloc (gb_refl w1 none) _);have hfn:NdFar (.slice o1 nn c1) u3.ownBlock:=fun a' n' k' e hn=>by
    have h1:=hf1 a' n' k' e hn;intro h2;have h3:=(hown.lt a'.block h2.symm).2;omega
   have far2:∀v (M:List Nd),NdS (w1.alloc (.cells #[.string s.nm,.string s.ve,.slice o1 nn c1,.string s.da] 53)) v M->(∀a' n' k',v=.slice (some a') n' k'->0 < n'->a'.block < w1.heap.size)->NdFar v u3.ownBlock->NdFar v (some g):=fun v M h1 h2 h3 a' n' k' e hn=>by
    have h4:=h2 a' n' k' e hn
    rcases hat with h5 | h5
    ·rw [<-h5];exact h3 a' n' k' e hn
    ·intro h6;injection h6 with h6
     rw [h5] at h6;simp at h6;omega
   have HR3:Hd (RRow L w3 w.heap.size (.slice (some ⟨g,0,none⟩) (i+1) cap1) (i+1)):=by
    refine ⟨vs++[.slice o1 nn c1],by simp [hvs],?_,fun j hj hLj=>?_⟩
    ·rw [HTK.o];exact hown3
    ·by_cases hji:j < i
     ·obtain ⟨k1,k2⟩:=HIN.o j hji hLj;have ej:(vs++[Value.slice o1 nn c1])[j]'(by simp;omega)=vs[j]'(by omega):=List.getElem_append_left (by omega);rw [ej];refine ⟨(k1.grow g2).far hgrow k2,?_⟩;refine far2 _ _ (k1.grow g2) (fun a' n' k' e hn=>?_) k2;have:=nds_lt (by rw [<-e];exact k1) hn;exact Nat.lt_of_lt_of_le this g1.size
     ·have hje:j=i:=by omega
      subst hje;have ej:(vs++[Value.slice o1 nn c1])[j]'(by simp;omega)=.slice o1 nn c1:=by simp [hvs]
      rw [ej];have esj:L[j].nd=s.nd:=by rw [HS.o]
      rw [esj];exact ⟨hnew.far hgrow hfn,far2 _ _ hnew (fun a' n' k' e hn=>nds_lt (by rw [<-e];exact hn1) hn) hfn⟩
   clear hown3 hgrow hat hown hb hlt3 e0 e1 e2 e3 hn1 hf1 hg1 g1 g2 hnew hfn far2 hz1';go_wp2;go_roundw
   case rel=>exact ⟨i+1,by go_num,by omega,HR3.o,HB3.o⟩
   case measure=>simp [intOf];omega
  ·have hil:i=L.length:=by omega
   subst hil;have HO:Hd (RRow L wr w.heap.size u3 L.length):=⟨vs,hvs,hown,hin⟩;have HB:Hd (Below w.heap.size w wr):=hb;clear hown hb hi hin;go_wp2;refine bodyPost_ret (results_tmp (t:=2) rfl _ _ _) rfl ⟨u3,rfl,HO.o,HB.o⟩
open Go.RowKit Go.Maps
def IS (w:World) (v:Value) (C:List Int):Prop:=(v=.slice none 0 0/\C=[])\/∃a cap,v=.slice (some a) C.length cap/\C.length<=cap/\∀j (h:j < C.length),w.cell? (a.add j)=some (.int .i64 C[j])
theorem IS.grow {w w':World} {v:Value} {C:List Int} (h:IS w v C) (hg:w.grownBy w' none):IS w' v C:=by
 rcases h with h | ⟨a,cap,h1,h2,h3⟩
 ·exact Or.inl h
 ·exact Or.inr ⟨a,cap,h1,h2,fun j hj=>hg.cell (h3 j hj) (by simp)⟩
theorem is_slice {w:World} {v:Value} {C:List Int} (h:IS w v C):∃o c,v=.slice o C.length c:=by
 rcases h with ⟨rfl,rfl⟩ | ⟨a,cap,rfl,-⟩
 ·exact ⟨_,_,rfl⟩
 ·exact ⟨_,_,rfl⟩
theorem is_at {w:World} {o:Option Addr} {c:Nat} {C:List Int} (h:IS w (.slice o C.length c) C) {i:Nat} (hi:i < C.length):∃a,o=some a/\C.length<=c/\∀j (hj:j < C.length),w.cell? (a.add j)=some (.int .i64 C[j]):=by
 rcases h with ⟨h1,rfl⟩ | ⟨a,cap,h1,h2,h3⟩
 ·simp at hi
 ·injection h1 with e1 e2 e3
  subst e1 e3;exact ⟨a,rfl,h2,h3⟩
theorem reS_at {w:World} {o:Option Addr} {c:Nat} {L:List Re} (h:ReS w (.slice o L.length c) L) {i:Nat} (hi:i < L.length):∃a,o=some a/\L.length<=c/\∀j (hj:j < L.length),ReAt w (a.add (j * 4)) L[j]:=by
 rcases h with ⟨h1,rfl⟩ | ⟨a,cap,h1,h2,h3⟩
 ·simp at hi
 ·injection h1 with e1 e2 e3
  subst e1 e3;exact ⟨a,rfl,h2,h3⟩
theorem reS_sl {w:World} {v:Value} {L:List Re} (h:ReS w v L):∃o c,v=.slice o L.length c:=by
 rcases h with ⟨rfl,rfl⟩ | ⟨a,cap,rfl,-⟩
 ·exact ⟨_,_,rfl⟩
 ·exact ⟨_,_,rfl⟩
def nmK (L:List Re) (k:Nat):ByteArray:=match L[k]? with | some x=>x.nm | none=>⟨#[]⟩
theorem nmK_at (L:List Re) (k:Nat) (h:k < L.length):nmK L k=L[k].nm:=by simp [nmK,List.getElem?_eq_getElem h]
def inR (L:List Re) (C:List Int) (i:Nat):Bool:=(C.take i).all fun c=>decide (0<=c/\c < (L.length:Int))
def chD (L:List Re) (C:List Int):List Nd:=C.map fun c=>⟨nmK L c.toNat,⟨#[]⟩⟩
theorem chD_at (L:List Re) (C:List Int) (i:Nat) (hi:i < C.length) (hi':i < (chD L C).length):(chD L C)[i].n=nmK L (C[i]).toNat:=by
 have e:(chD L C)[i]?=some ⟨nmK L (C[i]).toNat,⟨#[]⟩⟩:=by
  unfold chD;rw [List.getElem?_map,List.getElem?_eq_getElem hi];rfl
 rw [List.getElem?_eq_getElem hi'] at e;rw [Option.some.inj e]
def okC (L:List Re) (C:List Int) (i:Nat):Bool:=inR L C i && !twTo (chD L C) i
def orN (C:List Int):Nat->Nat
 | 0=>0
 | i+1=>orN C i ||| (match C[i]? with | some c=>2 ^ c.toNat | none=>0)
theorem orN_step (C:List Int) (i:Nat) (h:i < C.length):orN C (i+1)=orN C i ||| 2 ^ (C[i]).toNat:=by simp [orN,List.getElem?_eq_getElem h]
theorem orN_bit (C:List Int) (k:Nat):∀i,i<=C.length->(orN C i).testBit k=(C.take i).any fun c=>decide (c.toNat=k)
 | 0,_=>by simp [orN]
 | i+1,h=>by
  rw [orN_step C i (by omega),bit_or,orN_bit C k i (by omega),List.take_succ_eq_append_getElem (by omega:i < C.length),List.any_append];simp
theorem inR_step (L:List Re) (C:List Int) (i:Nat) (h:i < C.length):inR L C (i+1)=(inR L C i && decide (0<=C[i]/\C[i] < (L.length:Int))):=by
 unfold inR;rw [List.take_succ_eq_append_getElem h,List.all_append];simp
theorem inR_miss (L:List Re) (C:List Int) (i:Nat) (h:i < C.length) (hn:¬ (0<=C[i]/\C[i] < (L.length:Int))):inR L C C.length=false:=by
 unfold inR;rw [List.take_length,List.all_eq_false];exact ⟨C[i],List.getElem_mem _,by simpa using hn⟩
theorem orN_small (L:List Re) (C:List Int) (hL:L.length<=64):∀i,i<=C.length->inR L C i=true->orN C i < 18446744073709551616
 | 0,_,_=>by simp [orN]
 | i+1,h,hr=>by
  rw [inR_step L C i (by omega),Bool.and_eq_true,decide_eq_true_eq] at hr;rw [orN_step C i (by omega)];exact or_small (orN_small L C hL i (by omega) hr.1) (bit_small (by omega))
set_option maxRecDepth 100000 in
theorem setOf_any (o o':Option Addr) (c c':Nat) (L:List Re) (C:List Int) (w:World) (h:ReS w (.slice o L.length c) L) (h':IS w (.slice o' C.length c') C) (hL:L.length<=64) (hC:C.length<=1048576) (hV:∀x ∈ L,x.nm.size < 2 ^ 60) :
  Calls Tryz.prog 10 #[.slice o L.length c,.slice o' C.length c'] w fun e w'=>(okC L C C.length=true->e=.returned (.tuple #[.int .u64 (orN C C.length:Nat),.bool true]))/\(okC L C C.length=false->e=.returned (.tuple #[.int .u64 0,.bool false]))/\w.grownBy w' none:=by
 have HE:Hd (∀w',w.grownBy w' none->∀i,i < L.length->∃a,o=some a/\L.length<=c/\∀j (hj:j < L.length),ReAt w' (a.add (j * 4)) L[j]):=fun w' hg i hi=>reS_at (h.grow hg) hi
 have HI:Hd (∀w',w.grownBy w' none->∀i,i < C.length->∃a,o'=some a/\C.length<=c'/\∀j (hj:j < C.length),w'.cell? (a.add j)=some (.int .i64 C[j])):=fun w' hg i hi=>is_at (h'.grow hg) hi
 have HV:Hd (∀x ∈ L,x.nm.size < 2 ^ 60):=hV;obtain ⟨D,hD⟩:=nm (chD L C);have HDL:Hd (D.length=C.length):=by show _=_;rw [<-hD];unfold chD;simp
 have HDA:Hd (∀i (hi:i < C.length) (hi':i < D.length),D[i].n=nmK L (C[i]).toNat):=fun i hi hi'=>by
  subst hD;exact chD_at L C i hi hi'
 have HKO:Hd (okC L C C.length=(inR L C C.length && !twTo D C.length)):=by show _=_;rw [<-hD];rfl
 obtain ⟨B,hB⟩:=nm (w.heap.size);have HB:Hd (w.heap.size=B):=hB;have hmm:=makeU (L.length:Int) w;have CO:Hd (∀k w,k < 64->Calls Tryz.prog 21 #[.int .i64 (k:Nat)] w fun e w'=>e=.returned (.int .u64 ((2 ^ k:Nat):Int))/\w'=w):=fun k w hk=>only_any k hk w
 obtain ⟨ok,hok⟩:∃b,okC L C C.length=b:=⟨_,rfl⟩;rw [hok] at HKO ⊢;clear h h' hV hD hok;go_enter Tryz.func10,Tryz.ntmps10;go_wp2
 try rw [hB]
 clear hB hmm;go_loopw [6,18] (fun vx vi wr=>∃i:Nat,vi=.int .i64 i/\vx=.int .u64 (orN C i:Nat)/\i<=C.length/\inR L C i=true/\twTo D i=false/\wr.ownsMap Tryz.prog 9 (unitElem (H:=Unit)) B i (setN D i)/\w.grownBy wr none) (fun _ vi _=>C.length - (intOf vi).toNat)
 case atStart=>exact ⟨0,rfl,rfl,Nat.zero_le _,rfl,rfl,HB.o ▸ World.ownsMap_made _ _ _ _,gb_alloc (gb_refl w none) _⟩
 case round =>
  obtain ⟨i,rfl,rfl,hi,hr,ht,hown,hg⟩:=hrel;have HG:Hd (w.grownBy wr none):=hg;have HT:Hd (twTo D i=false):=ht;have HR:Hd (inR L C i=true):=hr
  by_cases hlt:i < C.length
  ·obtain ⟨a',ho',hcp',hat'⟩:=HI.o wr hg i hlt;have f0:=hat' i hlt;have hic:i < c':=by omega
   subst ho'
   by_cases hin:0<=C[i]/\C[i] < (L.length:Int)
   ·obtain ⟨k,hk⟩:∃k:Nat,C[i]=(k:Int):=⟨(C[i]).toNat,by omega⟩;have hkl:k < L.length:=by omega
    have HRN:Hd (inR L C (i+1)=true):=by
     show _=_;rw [inR_step L C i hlt,HR.o,decide_eq_true hin];rfl
    have HON:Hd (orN C (i+1)=orN C i ||| 2 ^ k):=by
     show _=_;rw [orN_step C i hlt,hk];rfl
    have hsm:=orN_small L C hL i hi hr;obtain ⟨a,ho,hcp,hat⟩:=HE.o wr hg k hkl;obtain ⟨e0,-⟩:=hat k hkl;obtain ⟨x,hx⟩:=nm (L[k].nm);have hxz:x.size<=maxLen:=by
     have:=HV.o _ (List.getElem_mem hkl);rw [hx] at this;unfold maxLen;omega
    have hiD:i < D.length:=by rw [HDL.o];exact hlt
    have hdn:D[i].n=x:=by rw [HDA.o i hlt hiD,hk,<-hx];exact nmK_at L k hkl
    have HS:Hd (Maps.has (setN D i) (keyN D[i])=sameN (D.take i) D[i]):=set_has D i D[i];have HN:Hd ((setN D i).put (keyN D[i]) (.agg [])=setN D (i+1)):=set_next D i hiD;have HTS:Hd (sameN (D.take i) D[i]=true->twTo D C.length=true):=fun h=>by
     have:=tw_hit D i hiD h;rw [HDL.o] at this;exact this
    have HTM:Hd (sameN (D.take i) D[i]=false->twTo D (i+1)=false):=fun h=>tw_miss D i hiD h HT.o
    have hkey:keyOf Tryz.prog 9 (.string x)=some (keyN D[i]):=by
     unfold keyN;rw [hdn];exact Go.WideMaps.keyOf_string_mk Tryz.underlying9 hxz
    obtain ⟨kl,hkl'⟩:∃kl,keyN D[i]=kl:=⟨_,rfl⟩;rw [hkl'] at HS HN hkey;obtain ⟨sm,hsm'⟩:∃b,sameN (D.take i) D[i]=b:=⟨_,rfl⟩;rw [hsm'] at HS HTS HTM;have hq:Maps.has (setN D i) kl=sm:=HS.o;rw [hx] at e0;rw [hk] at f0;have hkc:k < c:=by omega
    have hb:=bits_or_u64_nat (orN C i) (2 ^ k) hsm (bit_small (by omega));have C1:Hd (∀w,Calls Tryz.prog 21 #[.int .i64 (k:Nat)] w fun e w'=>e=.returned (.int .u64 ((2 ^ k:Nat):Int))/\w'=w):=fun w=>CO.o k w (by omega)
    obtain ⟨X,hX⟩:=nm (orN C i);obtain ⟨Y,hY⟩:∃Y:Nat,2 ^ k=Y:=⟨_,rfl⟩;rw [hX,hY] at hb HON;rw [hY] at C1;rw [hX];have hklI:(k:Int) < (L.length:Int):=by omega
    subst ho;clear hat hat' hg hr ht hin hk hdn hcp hcp' hkl' hsm' hsm hX hY hx
    cases sm with
    | true =>
     have HF:Hd (ok=false):=by
      show ok=false;rw [HKO.o,HTS.o rfl];simp
     go_wp2_with (first | (at_lookup;refine wpList_lookup_own_unit _ rfl _ _ 63 rfl 9 64 keyS Tryz.underlying63 (zeroU _) B i _ rfl hown _ _ rfl hkey ?_;rw [hq]) | go_in);refine bodyPost_ret (results_tmp2 (t:=4) (u:=5) rfl _ _ _) rfl ⟨fun h=>?_,fun _=>rfl,gb_alloc HG.o _⟩;rw [HF.o] at h;cases h
    | false =>
     go_wp2_with (first | (at_lookup;refine wpList_lookup_own_unit _ rfl _ _ 63 rfl 9 64 keyS Tryz.underlying63 (zeroU _) B i _ rfl hown _ _ rfl hkey ?_;rw [hq]) | (at_mapUpdate;refine wpList_mapUpdate_own _ rfl _ _ _ 63 rfl 9 64 keyS Tryz.underlying63 (unitElem (H:=Unit)) B i _ rfl (hown.alloc _) (by unfold maxLen;omega) _ _ _ rfl rfl hkey _ [] unitElem_mk ?_;intro w1 hown1 hgrow1) | (go_at_call 21;refine (C1.o _).mono ?_;rintro e w' ⟨rfl,rfl⟩) | go_in);go_roundw
     case rel=>exact ⟨i+1,by go_num,by rw [HON.o],by omega,HRN.o,HTM.o (by trivial),by rw [<-HN.o];exact hown1,gb_farb (gb_alloc HG.o _) hgrow1 (Nat.le_of_eq HB.o)⟩
     case measure=>simp [intOf];omega
   ·have HF:Hd (ok=false):=by
     show ok=false;rw [HKO.o,inR_miss L C i hlt hin];rfl
    obtain ⟨z,hz⟩:=nm (C[i]);rw [hz] at f0 hin;have hfin:∀(e:Ending),e=.returned (.tuple #[.int .u64 0,.bool false])->(ok=true->e=.returned (.tuple #[.int .u64 (orN C C.length:Nat),.bool true]))/\(ok=false->e=.returned (.tuple #[.int .u64 0,.bool false])):=fun e he=>⟨fun h=>(by rw [HF.o] at h;cases h),fun _=>he⟩
    have HFI:Hd (∀(e:Ending),e=.returned (.tuple #[.int .u64 0,.bool false])->(ok=true->e=.returned (.tuple #[.int .u64 (orN C C.length:Nat),.bool true]))/\(ok=false->e=.returned (.tuple #[.int .u64 0,.bool false]))):=hfin
    by_cases hz0:z < 0
    ·clear hat' hg hr ht hown hcp' hz hin hfin;go_wp2;refine bodyPost_ret (results_tmp2 (t:=4) (u:=5) rfl _ _ _) rfl ?_;exact ⟨(HFI.o _ rfl).1,(HFI.o _ rfl).2,HG.o⟩
    ·have hz1:z ≥ (L.length:Int):=by omega
     clear hat' hg hr ht hown hcp' hz hin hfin;go_wp2;refine bodyPost_ret (results_tmp2 (t:=4) (u:=5) rfl _ _ _) rfl ?_;exact ⟨(HFI.o _ rfl).1,(HFI.o _ rfl).2,HG.o⟩
  ·have hil:i=C.length:=by omega
   have HT1:Hd (ok=true):=by
    show ok=true;rw [HKO.o,<-hil,hr,ht];rfl
   have HX:Hd (orN C i=orN C C.length):=by show _=_;rw [hil]
   obtain ⟨X,hX⟩:=nm (orN C i);rw [hX] at HX ⊢;clear hg hr ht hown hil hi hX;go_wp2;refine bodyPost_ret (results_tmp2 (t:=4) (u:=5) rfl _ _ _) rfl ⟨fun _=>?_,fun h=>?_,HG.o⟩
   ·rw [<-HX.o];rfl
   ·rw [HT1.o] at h;cases h
open Go.RowKit Go.Maps
def SnS (w:World) (v:Value) (M:List Nat):Prop:=(v=.slice none 0 0/\M=[])\/∃a cap,v=.slice (some a) M.length cap/\M.length<=cap/\∀j (h:j < M.length),w.cell? (a.add j)=some (.int .u64 (M[j]:Nat))
theorem SnS.grow {w w':World} {v:Value} {M:List Nat} (h:SnS w v M) (hg:w.grownBy w' none):SnS w' v M:=by
 rcases h with h | ⟨a,cap,h1,h2,h3⟩
 ·exact Or.inl h
 ·exact Or.inr ⟨a,cap,h1,h2,fun j hj=>hg.cell (h3 j hj) (by simp)⟩
theorem sns_sl {w:World} {v:Value} {M:List Nat} (h:SnS w v M):∃o c,v=.slice o M.length c:=by
 rcases h with ⟨rfl,rfl⟩ | ⟨a,cap,rfl,-⟩
 ·exact ⟨_,_,rfl⟩
 ·exact ⟨_,_,rfl⟩
theorem sns_at {w:World} {o:Option Addr} {c:Nat} {M:List Nat} (h:SnS w (.slice o M.length c) M) {i:Nat} (hi:i < M.length):∃a,o=some a/\M.length<=c/\∀j (hj:j < M.length),w.cell? (a.add j)=some (.int .u64 (M[j]:Nat)):=by
 rcases h with ⟨h1,rfl⟩ | ⟨a,cap,h1,h2,h3⟩
 ·simp at hi
 ·injection h1 with e1 e2 e3
  subst e1 e3;exact ⟨a,rfl,h2,h3⟩
structure Pl where
 nam:Nat
 bar:Nat
 mt:List Nat
structure PlOk (x:Pl):Prop where
 nam:x.nam < 18446744073709551616
 bar:x.bar < 18446744073709551616
 mt:∀m ∈ x.mt,m < 18446744073709551616
 ln:x.mt.length<=1048576
def PlAt (w:World) (p:Addr) (x:Pl):Prop:=w.cell? p=some (.int .u64 (x.nam:Nat))/\w.cell? ⟨p.block,p.off+1,none⟩=some (.int .u64 (x.bar:Nat))/\∃v,w.cell? ⟨p.block,p.off+2,none⟩=some v/\SnS w v x.mt
theorem PlAt.grow {w w':World} {p:Addr} {x:Pl} (h:PlAt w p x) (hg:w.grownBy w' none):PlAt w' p x:=by
 obtain ⟨h0,h1,v,h2,h3⟩:=h;exact ⟨hg.cell h0 (by simp),hg.cell h1 (by simp),v,hg.cell h2 (by simp),h3.grow hg⟩
def PlS (w:World) (v:Value) (P:List Pl):Prop:=(v=.slice none 0 0/\P=[])\/∃a cap,v=.slice (some a) P.length cap/\P.length<=cap/\∀i (hi:i < P.length),PlAt w (a.add (i * 3)) P[i]
theorem PlS.grow {w w':World} {v:Value} {P:List Pl} (h:PlS w v P) (hg:w.grownBy w' none):PlS w' v P:=by
 rcases h with h | ⟨a,cap,h1,h2,h3⟩
 ·exact Or.inl h
 ·exact Or.inr ⟨a,cap,h1,h2,fun i hi=>(h3 i hi).grow hg⟩
theorem pls_sl {w:World} {v:Value} {P:List Pl} (h:PlS w v P):∃o c,v=.slice o P.length c:=by
 rcases h with ⟨rfl,rfl⟩ | ⟨a,cap,rfl,-⟩
 ·exact ⟨_,_,rfl⟩
 ·exact ⟨_,_,rfl⟩
theorem pls_at {w:World} {o:Option Addr} {c:Nat} {P:List Pl} (h:PlS w (.slice o P.length c) P) {i:Nat} (hi:i < P.length):∃a,o=some a/\P.length<=c/\∀j (hj:j < P.length),PlAt w (a.add (j * 3)) P[j]:=by
 rcases h with ⟨h1,rfl⟩ | ⟨a,cap,h1,h2,h3⟩
 ·simp at hi
 ·injection h1 with e1 e2 e3
  subst e1 e3;exact ⟨a,rfl,h2,h3⟩
def metB (M:List Nat) (A:Nat):Bool:=M.all fun m=>decide (¬ m &&& A=0)
theorem metB_miss (M:List Nat) (A i:Nat) (hi:i < M.length) (h:M[i] &&& A=0):metB M A=false:=by
 unfold metB;rw [List.all_eq_false];exact ⟨M[i],List.getElem_mem _,by simpa using h⟩
theorem metB_step (M:List Nat) (A i:Nat) (hi:i < M.length) (h:¬ M[i] &&& A=0) (h0:metB (M.take i) A=true):metB (M.take (i+1)) A=true:=by
 unfold metB at *;rw [List.take_succ_eq_append_getElem hi,List.all_append,h0];simpa using h
set_option maxRecDepth 100000 in
theorem metBy_any (nam bar A:Nat) (mv:Value) (M:List Nat) (w:World) (h:SnS w mv M) (hA:A < 18446744073709551616) (hM:∀m ∈ M,m < 18446744073709551616) (hl:M.length<=1048576) :
  Calls Tryz.prog 25 #[.agg #[.int .u64 (nam:Nat),.int .u64 (bar:Nat),mv],.int .u64 (A:Nat)] w fun e w'=>e=.returned (.bool (metB M A))/\w.grownBy w' none:=by
 obtain ⟨o,c,rfl⟩:=sns_sl h;have HE:Hd (∀w',w.grownBy w' none->∀i,i < M.length->∃a,o=some a/\M.length<=c/\∀j (hj:j < M.length),w'.cell? (a.add j)=some (.int .u64 (M[j]:Nat))):=fun w' hg i hi=>sns_at (h.grow hg) hi
 have HM:Hd (∀m ∈ M,m < 18446744073709551616):=hM;obtain ⟨R,hR⟩:=nm (metB M A);have HR:Hd (metB M A=R):=hR;rw [hR];clear h hM hR;have HG0:Hd (w.grownBy (w.alloc (.cells #[.int .u64 (nam:Nat),.int .u64 (bar:Nat),.slice o M.length c] 40)) none):=gb_alloc (gb_refl w none) _;go_enter Tryz.func25,Tryz.ntmps25;go_wp2;go_loopw [10] (fun vi wr=>∃i:Nat,vi=.int .i64 i/\i<=M.length/\metB (M.take i) A=true/\w.grownBy wr none) (fun vi _=>M.length - (intOf vi).toNat)
 case atStart=>exact ⟨0,rfl,Nat.zero_le _,rfl,HG0.o⟩
 case round =>
  obtain ⟨i,rfl,hi,hm,hg⟩:=hrel;have HG:Hd (w.grownBy wr none):=hg;have HMT:Hd (metB (M.take i) A=true):=hm
  by_cases hlt:i < M.length
  ·obtain ⟨a,ho,hcp,hat⟩:=HE.o wr hg i hlt;have e0:=hat i hlt;have hsz:=HM.o _ (List.getElem_mem hlt);have hb:=bits_and_u64_nat M[i] A hsz hA;have HMI:Hd (M[i] &&& A=0->R=false):=fun h=>HR.o.symm.trans (metB_miss M A i hlt h)
   have HST:Hd (¬ M[i] &&& A=0->metB (M.take (i+1)) A=true):=fun h=>metB_step M A i hlt h HMT.o
   obtain ⟨X,hX⟩:=nm (M[i]);obtain ⟨Y,hY⟩:=nm (X &&& A);rw [hX] at e0 hb HMI HST;rw [hY] at hb HMI HST;have hic:i < c:=by omega
   subst ho;clear hat hg hm hX hY hcp hsz
   by_cases hz:Y=0
   ·subst hz;have HF:Hd (R=false):=HMI.o rfl;go_wp2;refine bodyPost_ret (results_tmp (t:=4) rfl _ _ _) rfl ⟨ret_bool HF.o.symm,HG.o⟩
   ·have HS2:Hd (metB (M.take (i+1)) A=true):=HST.o hz;have hz1:(((Y:Nat):Int) == 0)=false:=by
     rw [beq_eq_false_iff_ne];omega
    clear hz;go_wp2;go_roundw
    case rel=>exact ⟨i+1,by go_num,by omega,HS2.o,HG.o⟩
    case measure=>simp [intOf];omega
  ·have hil:i=M.length:=by omega
   have HT:Hd (R=true):=by
    show R=true;rw [<-HR.o,<-List.take_length (l:=M),<-hil];exact hm
   clear hg hm hil hi;go_wp2;refine bodyPost_ret (results_tmp (t:=4) rfl _ _ _) rfl ⟨ret_bool HT.o.symm,HG.o⟩
def metTo (P:List Pl) (A:Nat):Nat->Bool
 | 0=>true
 | i+1=>metTo P A i && (match P[i]? with | some x=>!A.testBit i || metB x.mt A | none=>true)
theorem metTo_step (P:List Pl) (A i:Nat) (hi:i < P.length):metTo P A (i+1)=(metTo P A i && (!A.testBit i || metB P[i].mt A)):=by simp [metTo,List.getElem?_eq_getElem hi]
theorem metTo_up (P:List Pl) (A i k:Nat) (h:metTo P A i=false):metTo P A (i+k)=false:=by
 induction k with
 | zero=>exact h
 | succ k ih=>rw [<-Nat.add_assoc,metTo,ih];rfl
theorem metTo_miss (P:List Pl) (A i:Nat) (hi:i < P.length) (h:(!A.testBit i || metB P[i].mt A)=false):metTo P A P.length=false:=by
 have h1:metTo P A (i+1)=false:=by rw [metTo_step P A i hi,h];simp
 have:=metTo_up P A (i+1) (P.length - (i+1)) h1
 rwa [show i+1+(P.length - (i+1))=P.length by omega] at this
set_option maxRecDepth 100000 in
theorem met_any (nam bar A:Nat) (mv pv:Value) (M:List Nat) (P:List Pl) (w:World) (h:SnS w mv M) (hp:PlS w pv P) (hA:A < 18446744073709551616) (hM:∀m ∈ M,m < 18446744073709551616) (hl:M.length<=1048576) (hP:∀x ∈ P,PlOk x) (hPl:P.length<=64) :
  Calls Tryz.prog 12 #[.agg #[.int .u64 (nam:Nat),.int .u64 (bar:Nat),mv,pv],.int .u64 (A:Nat)] w fun e w'=>e=.returned (.bool (metTo P A P.length && metB M A))/\w.grownBy w' none:=by
 obtain ⟨o,c,rfl⟩:=pls_sl hp;have HE:Hd (∀w',w.grownBy w' none->∀i,i < P.length->∃a,o=some a/\P.length<=c/\∀j (hj:j < P.length),PlAt w' (a.add (j * 3)) P[j]):=fun w' hg i hi=>pls_at (hp.grow hg) hi
 have CB:Hd (∀nam bar mv M w,SnS w mv M->(∀m ∈ M,m < 18446744073709551616)->M.length<=1048576->Calls Tryz.prog 25 #[.agg #[.int .u64 (nam:Nat),.int .u64 (bar:Nat),mv],.int .u64 (A:Nat)] w fun e w'=>e=.returned (.bool (metB M A))/\w.grownBy w' none):=fun nam bar mv M w h1 h2 h3=>metBy_any nam bar A mv M w h1 hA h2 h3
 have CH:Hd (∀k w,k < 64->Calls Tryz.prog 24 #[.int .u64 (A:Nat),.int .i64 (k:Nat)] w fun e w'=>e=.returned (.bool (A.testBit k))/\w'=w):=fun k w hk=>sHas_any A k hA hk w
 have HOK:Hd (∀x ∈ P,PlOk x):=hP;have HME:Hd (∀w',w.grownBy w' none->SnS w' mv M):=fun w' hg=>h.grow hg
 have HMM:Hd ((∀m ∈ M,m < 18446744073709551616)/\M.length<=1048576):=⟨hM,hl⟩;have HST:Hd (∀i (hi:i < P.length),metTo P A (i+1)=(metTo P A i && (!A.testBit i || metB P[i].mt A))):=fun i hi=>metTo_step P A i hi
 have HMI:Hd (∀i (hi:i < P.length),(!A.testBit i || metB P[i].mt A)=false->metTo P A P.length=false):=fun i hi=>metTo_miss P A i hi
 obtain ⟨o2,c2,rfl⟩:=sns_sl h;clear h hp hM hl hP;obtain ⟨B0,hB0⟩:∃B,w.heap.size=B:=⟨_,rfl⟩;obtain ⟨W0,hW0⟩:∃W,w.alloc (.cells #[.int .u64 (nam:Nat),.int .u64 (bar:Nat),.slice o2 M.length c2,.slice o P.length c] 43)=W:=⟨_,rfl⟩;have HG0:Hd (w.grownBy W0 none):=by rw [<-hW0];exact gb_alloc (gb_refl w none) _
 have HBL:Hd (W0.heap[B0]?=some (.cells #[.int .u64 (nam:Nat),.int .u64 (bar:Nat),.slice o2 M.length c2,.slice o P.length c] 43 (0,0))):=by rw [<-hW0,<-hB0];exact heap_alloc_new w _
 have hc3:W0.cell? ⟨B0,3,none⟩=some (.slice o P.length c):=by rw [cOH HBL.o];rfl
 go_enter Tryz.func12,Tryz.ntmps12;go_wp2
 try rw [hW0]
 try rw [hB0]
 clear hW0 hB0 hc3;go_loopw [10] (fun vi wr=>∃i:Nat,vi=.int .i64 i/\i<=P.length/\metTo P A i=true/\W0.grownBy wr none) (fun vi _=>P.length - (intOf vi).toNat)
 case atStart=>exact ⟨0,rfl,Nat.zero_le _,rfl,gb_refl _ _⟩
 case round =>
  obtain ⟨i,rfl,hi,hm,hg⟩:=hrel;have HGR:Hd (W0.grownBy wr none):=hg;have HG:Hd (w.grownBy wr none):=gb_trans HG0.o hg;have HMT:Hd (metTo P A i=true):=hm
  by_cases hlt:i < P.length
  ·obtain ⟨a,ho,hcp,hat⟩:=HE.o wr HG.o i hlt;obtain ⟨e0,e1,v,e2,e3⟩:=hat i hlt;have hok:=HOK.o _ (List.getElem_mem hlt);have hst:=HST.o i hlt;have hmi:=HMI.o i hlt;obtain ⟨x,hx⟩:=nm (P[i]);rw [hx] at e0 e1 e3 hok hst hmi;obtain ⟨o3,c3,rfl⟩:=sns_sl e3;have g1:wr.grownBy (wr.alloc (.cells #[.int .u64 (x.nam:Nat),.int .u64 (x.bar:Nat),.slice o3 x.mt.length c3] 40)) none:=gb_alloc (gb_refl wr none) _;have HG1:Hd (W0.grownBy (wr.alloc (.cells #[.int .u64 (x.nam:Nat),.int .u64 (x.bar:Nat),.slice o3 x.mt.length c3] 40)) none):=gb_trans HGR.o g1;have C1:Hd (Calls Tryz.prog 25 #[.agg #[.int .u64 (x.nam:Nat),.int .u64 (x.bar:Nat),.slice o3 x.mt.length c3],.int .u64 (A:Nat)] (wr.alloc (.cells #[.int .u64 (x.nam:Nat),.int .u64 (x.bar:Nat),.slice o3 x.mt.length c3] 40)) fun e w'=>e=.returned (.bool (metB x.mt A))/\(wr.alloc (.cells #[.int .u64 (x.nam:Nat),.int .u64 (x.bar:Nat),.slice o3 x.mt.length c3] 40)).grownBy w' none):=CB.o _ _ _ _ _ (e3.grow g1) hok.mt hok.ln
   have C2:Hd (∀w,Calls Tryz.prog 24 #[.int .u64 (A:Nat),.int .i64 (i:Nat)] w fun e w'=>e=.returned (.bool (A.testBit i))/\w'=w):=fun w=>CH.o i w (by omega)
   have HS2:Hd (metTo P A (i+1)=(metTo P A i && (!A.testBit i || metB x.mt A))):=hst;have HM2:Hd ((!A.testBit i || metB x.mt A)=false->metTo P A P.length=false):=hmi;obtain ⟨b,hb⟩:=nm (A.testBit i);obtain ⟨m,hm2⟩:=nm (metB x.mt A);rw [hb] at C2 HS2 HM2;rw [hm2] at C1 HS2 HM2;have hic:i < c:=by omega
   subst ho;clear hat hg hm hx hb hm2 hcp hst hmi hok e3 g1
   cases b with
   | false =>
    have HN:Hd (metTo P A (i+1)=true):=by show _=_;rw [HS2.o,HMT.o];rfl
    go_wp2_with (first | (go_at_call 24;refine (C2.o _).mono ?_;rintro e w' ⟨rfl,rfl⟩));go_roundw
    case rel=>exact ⟨i+1,by go_num,by omega,HN.o,HG1.o⟩
    case measure=>simp [intOf];omega
   | true =>
    cases m with
    | true =>
     have HN:Hd (metTo P A (i+1)=true):=by show _=_;rw [HS2.o,HMT.o];rfl
     go_wp2_with (first | (go_at_call 24;refine (C2.o _).mono ?_;rintro e w' ⟨rfl,rfl⟩) | (go_at_call 25;refine C1.o.mono ?_;rintro e w5 ⟨rfl,hg5⟩));go_roundw
     case rel=>exact ⟨i+1,by go_num,by omega,HN.o,gb_trans HG1.o hg5⟩
     case measure=>simp [intOf];omega
    | false =>
     have HN:Hd (metTo P A P.length=false):=HM2.o rfl;go_wp2_with (first | (go_at_call 24;refine (C2.o _).mono ?_;rintro e w' ⟨rfl,rfl⟩) | (go_at_call 25;refine C1.o.mono ?_;rintro e w5 ⟨rfl,hg5⟩));refine bodyPost_ret (results_tmp (t:=4) rfl _ _ _) rfl ⟨ret_bool ?_,gb_trans HG0.o (gb_trans HG1.o hg5)⟩;rw [HN.o];rfl
  ·have hil:i=P.length:=by omega
   have HT:Hd (metTo P A P.length=true):=by rw [hil] at hm;exact hm
   have hbl:=(hg.block B0 (hqL HBL.o) (by simp)).trans HBL.o;obtain ⟨c0,c1,c2'⟩:wr.cell? ⟨B0,0,none⟩=some (.int .u64 (nam:Nat))/\wr.cell? ⟨B0,1,none⟩=some (.int .u64 (bar:Nat))/\wr.cell? ⟨B0,2,none⟩=some (.slice o2 M.length c2):=⟨by rw [cOH hbl];rfl,by rw [cOH hbl];rfl,by rw [cOH hbl];rfl⟩;have C1:Hd (Calls Tryz.prog 25 #[.agg #[.int .u64 (nam:Nat),.int .u64 (bar:Nat),.slice o2 M.length c2],.int .u64 (A:Nat)] wr fun e w'=>e=.returned (.bool (metB M A))/\wr.grownBy w' none):=CB.o _ _ _ _ _ (HME.o wr HG.o) HMM.o.1 HMM.o.2;obtain ⟨m,hm2⟩:=nm (metB M A);have HMB:Hd (metB M A=m):=hm2;rw [hm2] at C1;clear hg hm hil hi hbl hm2;go_wp2_with (first | (go_at_call 25;refine C1.o.mono ?_;rintro e w5 ⟨rfl,hg5⟩));refine bodyPost_ret (results_tmp (t:=4) rfl _ _ _) rfl ⟨ret_bool ?_,gb_trans HG.o hg5⟩;rw [HT.o,HMB.o];rfl
end Go.Proofs.YticgahdffjnabaaGreatDoor
