import Derived.Test.YtbgnflcebafjjaaGreatDoorP37
import Derived.Test.YtbgnflcebafjjaaGreatDoorP38
import Derived.Deep.DeepCutAuto
namespace Go.Proofs.YtbgnflcebafjjaaGreatDoor
open Go.RowKit Go.Maps Go.WideMaps Go.Joins Go.Shelf
set_option linter.unusedVariables false
def msT (ns:List Tn) (q:Nat):List Nat:=if kdAt ns q=2 then ksAt ns q else [q]
def dbT (ns:List Tn) (q:Nat):Bool:=decide (kdAt ns q=2)
def gT (ns:List Tn) (f:Nat) (K:List UInt8) (b:Bool) (o:List UInt8) (m:Nat):List UInt8:=dT ns f m K (o++hdT o K b)
def gK (ns:List Tn) (f:Nat) (path:List UInt8) (o:List UInt8) (q:Nat):List UInt8:=(msT ns q).foldl (gT ns f (pathN path path.length (kyAt ns q)) (dbT ns q)) o
theorem dT_gK (ns:List Tn) (f t:Nat) (path out:List UInt8):dT ns (f+1) t path out=(rs ns t true).foldl (gK ns f path) (out++prT ns t):=by
 show List.foldl _ _ _=_
 rw [bel_rs,List.foldl_flatMap]
 generalize out++prT ns t=o
 have key:∀(L:List Nat),(∀q ∈ L,tb ns q=true)->∀o,L.foldl (fun b a=>List.foldl (fun o v=>dT ns f v.t (pathN path path.length v.ky) (o++hdT o (pathN path path.length v.ky) v.dbl)) b (vs1 ns path.length a).reverse) o=L.foldl (gK ns f path) o:=by
  intro L
  induction L with
  | nil=>intro _ o;rfl
  | cons q L ih =>
   intro hL o
   rw [List.foldl_cons,List.foldl_cons,<-ih (fun q hq=>hL q (by simp [hq]))]
   congr 1
   have ht:kdAt ns q=0\/kdAt ns q=2:=of_decide_eq_true (hL q (by simp))
   unfold gK msT dbT vs1
   by_cases h2:kdAt ns q=2
   ·rw [if_neg (by omega),if_pos h2,if_pos h2,decide_eq_true h2,<-List.map_reverse,List.reverse_reverse,List.foldl_map]
    rfl
   ·rw [if_pos (by omega),if_neg h2,decide_eq_false h2]
    rfl
 exact key _ (fun q hq=>(rs_mem hq).2) o
theorem gT_len (ns:List Tn) (f:Nat) (K:List UInt8) (b:Bool) (o:List UInt8) (m:Nat):o.length+(hdT o K b).length<=(gT ns f K b o m).length:=by
 have:=dT_len ns f m K (o++hdT o K b)
 rw [List.length_append] at this
 exact this
theorem fold_len {α:Type} (g:List UInt8->α->List UInt8) (h:∀o a,o.length<=(g o a).length):∀(l:List α) (o:List UInt8),o.length<=(l.foldl g o).length
 | [],o=>Nat.le_refl _
 | a :: l,o=>by
  rw [List.foldl_cons]
  have:=fold_len g h l (g o a)
  have:=h o a
  omega
theorem fold_pre {α:Type} (g:List UInt8->α->List UInt8) (h:∀o a,o.length<=(g o a).length) (l:List α) (i:Nat) (o:List UInt8):((l.take i).foldl g o).length<=(l.foldl g o).length:=by
 conv=>rhs;rw [<-List.take_append_drop i l,List.foldl_append]
 exact fold_len g h _ _
theorem fold_snoc {α:Type} (g:List UInt8->α->List UInt8) (l:List α) (i:Nat) (o:List UInt8) (hi:i < l.length):(l.take (i+1)).foldl g o=g ((l.take i).foldl g o) l[i]:=by
 rw [List.take_succ_eq_append_getElem hi,List.foldl_append]
 rfl
theorem gK_len (ns:List Tn) (f:Nat) (path o:List UInt8) (q:Nat):o.length<=(gK ns f path o q).length:=fold_len _ (fun o m=>by have:=gT_len ns f (pathN path path.length (kyAt ns q)) (dbT ns q) o m;omega) _ _
def DtT (w0:World) (N c:Nat) (ns:List Tn) (f:Nat):Prop:=∀(t:Nat) (path out:List UInt8) (w:World),t < ns.length->kdAt ns t=0->ns.length - t<=f->w0.grownBy w none->path.length<=t * 8000000->(dT ns f t path out).length<=70368744177664 →
 Calls Tryz.prog 21 #[.slice (some ⟨N,0,none⟩) ns.length c,.int .i64 (t:Nat),.string ⟨path.toArray⟩,.string ⟨out.toArray⟩] w fun e w'=>e=.returned (.string ⟨(dT ns f t path out).toArray⟩)/\w.grownBy w' none
set_option maxRecDepth 100000 in
set_option maxHeartbeats 6400000 in
theorem dTable_of {w0:World} {N c:Nat} {ns:List Tn} {own:List Nat} (E:Edv w0 N c ns own) (F:Ef ns own) (VT0:∀p q,q ∈ ksAt ns p->kdAt ns p=0->0<=kdAt ns q/\kdAt ns q<=5) (f:Nat) (C:DtT w0 N c ns f):DtT w0 N c ns (f+1):=by
 intro t path out w ht hk0 hf hg hpl hsz
 have CR:Hid (∀b w',w0.grownBy w' none->Calls Tryz.prog 36 #[.slice (some ⟨N,0,none⟩) ns.length c,.int .i64 (t:Nat),.bool b] w' fun e w''=>∃v,e=.returned v/\w''.ownsRow w'.heap.size 3 1 v (rs ns t b).length ((rs ns t b).map fun q=>.int .i64 (q:Nat))/\w'.grownBy w'' none):=fun b w' h=>dRising E.nv E.wf E.len t ht (F.kdd t hk0) b w' h
 have CK:Hid (∀q,q < ns.length->∀w',Calls Tryz.prog 37 #[.string ⟨(kyAt ns q).toArray⟩] w' fun e w''=>e=.returned (.string ⟨(kt (kyAt ns q)).toArray⟩)/\w'.grownBy w'' none):=fun q hq w'=>by
  have:=dKeyText_any ⟨(kyAt ns q).toArray⟩ w' (by show (kyAt ns q).toArray.size<=_;rw [kyAt_in hq];simpa using (E.txt q hq).1)
  simpa using this
 have CV:Hid (∀q,q ∈ rs ns t false->∀w',w0.grownBy w' none->(vT ns ns.length q).length<=70368744177664->Calls Tryz.prog 38 #[.slice (some ⟨N,0,none⟩) ns.length c,.int .i64 (q:Nat)] w' fun e w''=>e=.returned (.string ⟨(vT ns ns.length q).toArray⟩)/\w'.grownBy w'' none):=fun q hq w' h1 h2=>by
  obtain ⟨hm,htb⟩:=rs_mem hq
  have h3:=VT0 t q hm hk0
  have h4:=of_decide_eq_false htb
  exact dValue E ns.length q w' (E.wf.lt _ _ hm) (by omega) h1 (by omega) h2
 have CT:Hid (∀q,q ∈ rs ns t true->∀m ∈ msT ns q,∀o w',w0.grownBy w' none->(gT ns f (pathN path path.length (kyAt ns q)) (dbT ns q) o m).length<=70368744177664->Calls Tryz.prog 21 #[.slice (some ⟨N,0,none⟩) ns.length c,.int .i64 (m:Nat),.string ⟨(pathN path path.length (kyAt ns q)).toArray⟩,.string ⟨(o++hdT o (pathN path path.length (kyAt ns q)) (dbT ns q)).toArray⟩] w' fun e w''=>e=.returned (.string ⟨(gT ns f (pathN path path.length (kyAt ns q)) (dbT ns q) o m).toArray⟩)/\w'.grownBy w'' none):=fun q hq m hm o w' h1 h2=>by
  obtain ⟨hq1,hq2⟩:=rs_mem hq
  have hbk:BK ns t m:=by
   unfold msT at hm
   split at hm
   ·rename_i h
    exact Or.inr ⟨q,hq1,h,hm⟩
   ·rename_i h
    have:=of_decide_eq_true hq2
    rw [List.mem_singleton.1 hm]
    exact Or.inl ⟨hq1,by omega⟩
  obtain ⟨m1,m2,m3⟩:=bk_tab F hbk
  have hkq:=(kt_len (kyAt ns q)).2
  have hky:=(E.txt q (E.wf.lt _ _ hq1)).1
  rw [<-kyAt_in (E.wf.lt _ _ hq1)] at hky
  refine C m _ _ w' m2 m1 (by omega) h1 ?_ h2
  unfold pathN
  rw [List.take_length,List.length_append,List.length_append]
  have:(if 0 < path.length then [46] else ([]:List UInt8)).length<=1:=by split <;> simp
  have h3:(t+1) * 8000000<=m * 8000000:=Nat.mul_le_mul_right _ m3
  omega
 have HPN:Hid (∀q,q < ns.length->pathN path path.length (kyAt ns q)=(if path=[] then kt (kyAt ns q) else path++[46]++kt (kyAt ns q))/\(kt (kyAt ns q)).length<=8000000):=fun q hq=>by
  have hkq:=(kt_len (kyAt ns q)).2
  have hky:=(E.txt q hq).1
  rw [<-kyAt_in hq] at hky
  refine ⟨?_,by omega⟩
  unfold pathN
  rw [List.take_length]
  by_cases h:path=[]
  ·rw [if_pos h,h];simp
  ·rw [if_neg h,if_pos (List.length_pos_iff.2 h)]
 have hpl2:path.length<=8000000000000:=by have:=E.len;omega
 have HCE:Hid (∀q,q < ns.length->∀w',w0.grownBy w' none->∃k,w'.cell? ⟨N,q * 6,none⟩=some (.int .i64 (kdAt ns q))/\w'.cell? ⟨N,q * 6+1,none⟩=some (.string ⟨(kyAt ns q).toArray⟩)/\w'.cell? ⟨N,q * 6+4,none⟩=some k/\NuS w' k (ksAt ns q)):=fun q hq w' hg'=>by
  obtain ⟨k,d0,d1,-,-,d4,-,d6⟩:=(E.nv.grow hg').cel q hq
  rw [kyAt_in hq,kdAt_in hq,ksAt_in hq]
  exact ⟨k,d0,d1,d4,d6⟩
 have HML:Hid (∀b q,q ∈ rs ns t b->q < ns.length):=fun b q hq=>E.wf.lt _ _ (rs_mem hq).1
 have HRL:Hid (∀b,(rs ns t b).length<=1000000):=fun b=>by
  have h1:(rs ns t b).length<=(srt ns t).length:=List.length_filter_le _ _
  rw [(srt_perm ns t).length_eq] at h1
  have:=E.wf.len t
  have:=E.len
  show _<=_
  omega
 have HKL:Hid (∀q,(ksAt ns q).length<=1000000):=fun q=>by
  have:=E.wf.len q
  have:=E.len
  show _<=_
  omega
 have HG0:Hid (w0.grownBy w none):=hg
 have HDT:Hid (dT ns (f+1) t path out=(rs ns t true).foldl (gK ns f path) (out++prT ns t)):=dT_gK ns f t path out
 have HPT:Hid (prT ns t=(rs ns t false).flatMap (pr1 ns)):=prT_rs ns t
 have HP1:Hid (∀q,q ∈ rs ns t false->pr1 ns q=kt (kyAt ns q)++[32,61,32]++vT ns ns.length q++[10]):=fun q hq=>by
  have h4:=of_decide_eq_false (rs_mem hq).2
  unfold pr1
  rw [if_neg h4]
 have hsz2:(out++prT ns t).length<=70368744177664:=by
  refine Nat.le_trans ?_ hsz
  rw [HDT.out]
  exact fold_len _ (gK_len ns f path) _ _
 rw [List.length_append,HPT.out] at hsz2
 obtain ⟨L,hL⟩:∃L,ns.length=L:=⟨_,rfl⟩
 have HLN:Hid (ns.length=L):=hL
 have hEl:=E.len
 rw [hL] at CR CK CV CT HPN HCE HML ht hEl ⊢
 have htI:(t:Int) < (L:Int):=by omega
 have CR1:Hid (Calls Tryz.prog 36 #[.slice (some ⟨N,0,none⟩) L c,.int .i64 (t:Nat),.bool false] w fun e w''=>∃v,e=.returned v/\w''.ownsRow w.heap.size 3 1 v (rs ns t false).length ((rs ns t false).map fun q=>.int .i64 (q:Nat))/\w.grownBy w'' none):=CR.out false w hg
 have CR2:Hid (∀w',w0.grownBy w' none->Calls Tryz.prog 36 #[.slice (some ⟨N,0,none⟩) L c,.int .i64 (t:Nat),.bool true] w' fun e w''=>∃v,e=.returned v/\w''.ownsRow w'.heap.size 3 1 v (rs ns t true).length ((rs ns t true).map fun q=>.int .i64 (q:Nat))/\w'.grownBy w'' none):=CR.out true
 obtain ⟨P,hP⟩:∃P,rs ns t false=P:=⟨_,rfl⟩
 obtain ⟨Q,hQ⟩:∃Q,rs ns t true=Q:=⟨_,rfl⟩
 have HPL:Hid (∀q ∈ P,q < L):=fun q hq=>HML.out false q (by rw [hP];exact hq)
 have HQL:Hid (∀q ∈ Q,q < L):=fun q hq=>HML.out true q (by rw [hQ];exact hq)
 have hPl:=HRL.out false
 have hQl:=HRL.out true
 rw [hP] at CR1 CV HPT HP1 hsz2 hPl
 rw [hQ] at CR2 CT HDT hQl
 rw [HDT.out] at hsz ⊢
 rw [HPT.out] at hsz ⊢
 obtain ⟨n,hn⟩:∃n,P.length=n:=⟨_,rfl⟩
 have HN:Hid (P.length=n):=hn
 obtain ⟨m,hm⟩:∃m,Q.length=m:=⟨_,rfl⟩
 have HM:Hid (Q.length=m):=hm
 rw [hn] at CR1 hPl
 rw [hm] at CR2 hQl
 clear C E F VT0 hk0 hf hg hpl HML HRL hP hQ hn hm hL CR HPT HDT
 go_enter Tryz.func21,Tryz.ntmps21
 go_wp2_with (first | (go_at_call 36;refine CR1.out.mono ?_))
 rintro e w1 ⟨v,rfl,hown1,hg1⟩
 obtain ⟨o1,c1,rfl⟩:=own_slice hown1
 have HO1:Hid (w1.ownsRow w.heap.size 3 1 (.slice o1 n c1) n (P.map fun q=>.int .i64 (q:Nat))):=hown1
 have HG1:Hid (w.grownBy w1 none):=hg1
 have HG01:Hid (w0.grownBy w1 none):=gb_trans HG0.out hg1
 clear hown1 hg1 CR1
 go_wp2
 go_loopw [3,10] (fun v3 v10 wr=>∃i:Nat,v10=.int .i64 (i:Nat)/\i<=n/\v3=.string ⟨(out++(P.take i).flatMap (pr1 ns)).toArray⟩/\w1.grownBy wr none) (fun _ v10 _=>n - (intOf v10).toNat)
 case atStart=>exact ⟨0,rfl,Nat.zero_le _,by simp,gb_refl _ _⟩
 case round =>
  obtain ⟨i,rfl,hi,rfl,hgr⟩:=hrel
  have HGR:Hid (w1.grownBy wr none):=hgr
  have HG0R:Hid (w0.grownBy wr none):=gb_trans HG01.out hgr
  clear hgr
  by_cases hlt:i < n
  ·have hil:i < P.length:=by rw [HN.out];exact hlt
   have hI:(i:Int) < (n:Int):=by omega
   obtain ⟨g1,c1',hvf,-,-⟩:=HO1.out.form (by omega)
   injection hvf with ho _ hc
   subst ho hc
   obtain ⟨q,hq⟩:∃q,P[i]=q:=⟨_,rfl⟩
   have g1c:=HGR.out.cell (HO1.out.cells (g:=g1) rfl i (.int .i64 (q:Nat)) (by rw [List.getElem?_map,List.getElem?_eq_getElem hil,hq];rfl)) (by simp)
   rw [zero_off] at g1c
   have hqP:q ∈ P:=by rw [<-hq];exact List.getElem_mem hil
   have hqL:=HPL.out q hqP
   have hqI:(q:Int) < (L:Int):=by omega
   obtain ⟨kx,-,d1,-⟩:=HCE.out q hqL wr HG0R.out
   have CK1:=CK.out q hqL
   have CV1:=CV.out q hqP
   have HTK:Hid ((P.take (i+1)).flatMap (pr1 ns)=(P.take i).flatMap (pr1 ns)++(kt (kyAt ns q)++[32,61,32]++vT ns L q++[10])):=by
    show _=_
    rw [flat_snoc (pr1 ns) P i hil,hq,HP1.out q hqP,HLN.out]
   have hle:=flat_take (pr1 ns) P (i+1)
   rw [HTK.out] at hle
   simp only [List.length_append,List.length_cons,List.length_nil] at hle
   obtain ⟨acc,hacc⟩:∃acc,(P.take i).flatMap (pr1 ns)=acc:=⟨_,rfl⟩
   rw [hacc] at HTK hle ⊢
   obtain ⟨KB,hKB⟩:∃B,kyAt ns q=B:=⟨_,rfl⟩
   rw [hKB] at CK1 d1 HTK hle
   obtain ⟨KT,hKT⟩:∃B,kt KB=B:=⟨_,rfl⟩
   rw [hKT] at CK1 HTK hle
   obtain ⟨VT,hVT⟩:∃V,vT ns L q=V:=⟨_,rfl⟩
   rw [hVT] at CV1 HTK hle
   have CK2:Hid (∀w',Calls Tryz.prog 37 #[.string ⟨KB.toArray⟩] w' fun e w''=>e=.returned (.string ⟨KT.toArray⟩)/\w'.grownBy w'' none):=CK1
   have CV2:Hid (∀w',w0.grownBy w' none->Calls Tryz.prog 38 #[.slice (some ⟨N,0,none⟩) L c,.int .i64 (q:Nat)] w' fun e w''=>e=.returned (.string ⟨VT.toArray⟩)/\w'.grownBy w'' none):=fun w' h=>CV1 w' h (by omega)
   obtain ⟨X,hX⟩:∃X,out++acc=X:=⟨_,rfl⟩
   have hXl:X.length=out.length+acc.length:=by rw [<-hX];simp
   have HZ:Hid (⟨(X++KT++[32,61,32]++VT++[10]).toArray⟩=(⟨(out++(P.take (i+1)).flatMap (pr1 ns)).toArray⟩:ByteArray)):=by
    show _=_
    rw [HTK.out,<-hX]
    simp
   rw [hX]
   have k1:∀wx,(Op.stringOp .add ⟨X.toArray⟩ ⟨KT.toArray⟩).run Tryz.prog wx=.ok (.string ⟨(X++KT).toArray⟩) wx:=fun wx=>add_str X KT wx (by omega)
   have k2:∀wx,(Op.stringOp .add ⟨(X++KT).toArray⟩ ⟨#[32,61,32]⟩).run Tryz.prog wx=.ok (.string ⟨(X++KT++[32,61,32]).toArray⟩) wx:=fun wx=>add_str (X++KT) [32,61,32] wx (by simp only [List.length_append,List.length_cons,List.length_nil];omega)
   obtain ⟨X2,hX2⟩:∃Y,X++KT++[32,61,32]=Y:=⟨_,rfl⟩
   have hX2l:X2.length=X.length+KT.length+3:=by rw [<-hX2];simp only [List.length_append,List.length_cons,List.length_nil]
   rw [hX2] at k2 HZ
   have k3:∀wx,(Op.stringOp .add ⟨X2.toArray⟩ ⟨VT.toArray⟩).run Tryz.prog wx=.ok (.string ⟨(X2++VT).toArray⟩) wx:=fun wx=>add_str X2 VT wx (by omega)
   have k4:∀wx,(Op.stringOp .add ⟨(X2++VT).toArray⟩ ⟨#[10]⟩).run Tryz.prog wx=.ok (.string ⟨(X2++VT++[10]).toArray⟩) wx:=fun wx=>add_str (X2++VT) [10] wx (by simp only [List.length_append,List.length_cons,List.length_nil];omega)
   clear hq hacc hKB hKT hVT hX hX2 CK1 CV1 hle hqP
   go_wp2_with (first | (go_at_call 37;refine (CK2.out _).mono ?_))
   first | rintro e w3 rfl hg3 | rintro e w3 ⟨rfl,hg3⟩
   have HG3:Hid (w1.grownBy w3 none):=gb_trans HGR.out hg3
   have HG03:Hid (w0.grownBy w3 none):=gb_trans HG0R.out hg3
   have g3c:=hg3.cell g1c (by simp)
   clear hg3 g1c d1
   go_wp2_with (first | (go_at_call 38;refine (CV2.out _ HG03.out).mono ?_))
   first | rintro e w4 rfl hg4 | rintro e w4 ⟨rfl,hg4⟩
   have HG4:Hid (w1.grownBy w4 none):=gb_trans HG3.out hg4
   clear hg4 g3c
   go_wp2
   go_roundw
   case rel=>exact ⟨i+1,by go_num,by omega,(by rw [<-HZ.out];simp),HG4.out⟩
   case measure=>simp [intOf];omega
  ·have hI:¬ (i:Int) < (n:Int):=by omega
   have e:P.take i=P:=List.take_of_length_le (by rw [HN.out];omega)
   rw [e]
   clear e hi hlt
   obtain ⟨X,hX⟩:∃X,out++P.flatMap (pr1 ns)=X:=⟨_,rfl⟩
   have HX:Hid (out++P.flatMap (pr1 ns)=X):=hX
   rw [hX] at hsz ⊢
   clear hX
   go_wp2_with (first | (go_at_call 36;refine (CR2.out _ HG0R.out).mono ?_))
   rintro e w2 v rfl hown2 hg2
   obtain ⟨o2,c2,rfl⟩:=own_slice hown2
   have HO2:Hid (w2.ownsRow wr.heap.size 3 1 (.slice o2 m c2) m (Q.map fun q=>.int .i64 (q:Nat))):=hown2
   have HG2:Hid (w.grownBy w2 none):=gb_trans HG1.out (gb_trans HGR.out hg2)
   have HG02:Hid (w0.grownBy w2 none):=gb_trans HG0R.out hg2
   clear hown2 hg2 CR2 HGR HG0R hI
   go_wp2
   go_loopw [3,14] (fun v3 v14 wr=>∃i:Nat,v14=.int .i64 (i:Nat)/\i<=m/\v3=.string ⟨((Q.take i).foldl (gK ns f path) X).toArray⟩/\w2.grownBy wr none) (fun _ v14 _=>m - (intOf v14).toNat)
   case atStart=>exact ⟨0,rfl,Nat.zero_le _,rfl,gb_refl _ _⟩
   case round =>
    obtain ⟨i,rfl,hi,rfl,hgr⟩:=hrel
    have HGR:Hid (w2.grownBy wr none):=hgr
    have HG0R:Hid (w0.grownBy wr none):=gb_trans HG02.out hgr
    clear hgr
    by_cases hlt:i < m
    ·have hil:i < Q.length:=by rw [HM.out];exact hlt
     have hI:(i:Int) < (m:Int):=by omega
     obtain ⟨g1,c1',hvf,-,-⟩:=HO2.out.form (by omega)
     injection hvf with ho _ hc
     subst ho hc
     obtain ⟨q,hq⟩:∃q,Q[i]=q:=⟨_,rfl⟩
     have HRC:Hid (w2.cell? ⟨g1,i,none⟩=some (.int .i64 (q:Nat))):=by
      have:=HO2.out.cells (g:=g1) rfl i (.int .i64 (q:Nat)) (by rw [List.getElem?_map,List.getElem?_eq_getElem hil,hq];rfl)
      rw [zero_off] at this
      exact this
     have g1c:=HGR.out.cell HRC.out (by simp)
     have hqQ:q ∈ Q:=by rw [<-hq];exact List.getElem_mem hil
     have hqL:=HQL.out q hqQ
     have hqI:(q:Int) < (L:Int):=by omega
     obtain ⟨kx,-,d1,-⟩:=HCE.out q hqL wr HG0R.out
     have CK1:=CK.out q hqL
     have CT1:=CT.out q hqQ
     obtain ⟨HPN1,hktl⟩:=HPN.out q hqL
     have HSN:Hid ((Q.take (i+1)).foldl (gK ns f path) X=gK ns f path ((Q.take i).foldl (gK ns f path) X) q):=by
      show _=_
      rw [fold_snoc _ Q i X hil,hq]
     have hgk:(gK ns f path ((Q.take i).foldl (gK ns f path) X) q).length<=70368744177664:=by
      rw [<-HSN.out]
      exact Nat.le_trans (fold_pre _ (gK_len ns f path) Q (i+1) X) hsz
     obtain ⟨O,hO⟩:∃O,(Q.take i).foldl (gK ns f path) X=O:=⟨_,rfl⟩
     rw [hO] at HSN hgk ⊢
     have HCQ:Hid (∀w',w0.grownBy w' none->∃k,w'.cell? ⟨N,q * 6,none⟩=some (.int .i64 (kdAt ns q))/\w'.cell? ⟨N,q * 6+1,none⟩=some (.string ⟨(kyAt ns q).toArray⟩)/\w'.cell? ⟨N,q * 6+4,none⟩=some k/\NuS w' k (ksAt ns q)):=HCE.out q hqL
     have HGK:Hid (gK ns f path O q=(msT ns q).foldl (gT ns f (pathN path path.length (kyAt ns q)) (dbT ns q)) O):=rfl
     obtain ⟨K,hK⟩:∃K,pathN path path.length (kyAt ns q)=K:=⟨_,rfl⟩
     rw [hK] at CT1 HGK HPN1
     obtain ⟨db,hdb⟩:∃b,dbT ns q=b:=⟨_,rfl⟩
     rw [hdb] at CT1 HGK
     rw [HGK.out] at HSN hgk
     obtain ⟨KB,hKB⟩:∃B,kyAt ns q=B:=⟨_,rfl⟩
     rw [hKB] at CK1 d1 HPN1 hktl HCQ
     obtain ⟨KT,hKT⟩:∃B,kt KB=B:=⟨_,rfl⟩
     rw [hKT] at CK1 HPN1 hktl
     have CK2:Hid (∀w',Calls Tryz.prog 37 #[.string ⟨KB.toArray⟩] w' fun e w''=>e=.returned (.string ⟨KT.toArray⟩)/\w'.grownBy w'' none):=CK1
     have CT2:Hid (∀p ∈ msT ns q,∀o w',w0.grownBy w' none->(gT ns f K db o p).length<=70368744177664->Calls Tryz.prog 21 #[.slice (some ⟨N,0,none⟩) L c,.int .i64 (p:Nat),.string ⟨K.toArray⟩,.string ⟨(o++hdT o K db).toArray⟩] w' fun e w''=>e=.returned (.string ⟨(gT ns f K db o p).toArray⟩)/\w'.grownBy w'' none):=CT1
     have HPK:Hid (K=if path=[] then KT else path++[46]++KT):=HPN1
     have hKl:K.length<=9000000000000:=by
      rw [HPN1]
      split
      ·omega
      ·simp only [List.length_append,List.length_cons,List.length_nil];omega
     have HDB:Hid (db=decide (kdAt ns q=2)):=hdb.symm
     have HMS:Hid (msT ns q=if kdAt ns q=2 then ksAt ns q else [q]):=rfl
     have hmsl:(msT ns q).length<=1000000:=by
      rw [HMS.out]
      split
      ·exact HKL.out q
      ·simp
     clear hq hO hK hdb hKB hKT CK1 CT1 HPN1 HGK hqQ
     go_wp2_with (first | (go_at_call 37;refine (CK2.out _).mono ?_))
     first | rintro e w3 rfl hg3 | rintro e w3 ⟨rfl,hg3⟩
     have HG3:Hid (w2.grownBy w3 none):=gb_trans HGR.out hg3
     have HG03:Hid (w0.grownBy w3 none):=gb_trans HG0R.out hg3
     have g3c:=hg3.cell g1c (by simp)
     clear hg3 g1c d1 HGR HG0R
     obtain ⟨pe,hpe⟩:∃b,path.isEmpty=b:=⟨_,rfl⟩
     have HPE:Hid (path.isEmpty=pe):=hpe
     go_upto_if 70 with fail
     go_cut [15] (fun v15 wx=>v15=.string ⟨K.toArray⟩/\wx=w3)
     case first =>
      cases pe with
      | true =>
       have HKE:Hid (K=KT):=by show _=_;rw [HPK.out,if_pos (by simpa using HPE.out)]
       go_wp2
       go_meet
       exact ⟨by rw [HKE.out],rfl⟩
      | false =>
       have HKE:Hid (K=path++[46]++KT):=by show _=_;rw [HPK.out,if_neg (by simpa using HPE.out)]
       have k1:∀wx,(Op.stringOp .add ⟨path.toArray⟩ ⟨#[46]⟩).run Tryz.prog wx=.ok (.string ⟨(path++[46]).toArray⟩) wx:=fun wx=>add_str path [46] wx (by simp only [List.length_cons,List.length_nil];omega)
       have k2:∀wx,(Op.stringOp .add ⟨(path++[46]).toArray⟩ ⟨KT.toArray⟩).run Tryz.prog wx=.ok (.string ⟨K.toArray⟩) wx:=fun wx=>by
        rw [HKE.out]
        exact add_str (path++[46]) KT wx (by simp only [List.length_append,List.length_cons,List.length_nil];omega)
       go_wp2
       go_meet
       exact ⟨rfl,rfl⟩
     case rest =>
      obtain ⟨rfl,hwc⟩:=hcut
      subst hwc
      have hgA:wc.grownBy (wc.alloc (.cells #[.int .i64 (q:Nat)] 3)) none:=World.grownBy_alloc _ _ none
      have hbx:=heap_alloc_new wc (.cells #[.int .i64 (q:Nat)] 3)
      obtain ⟨w4,hw4⟩:∃W,wc.alloc (.cells #[.int .i64 (q:Nat)] 3)=W:=⟨_,rfl⟩
      obtain ⟨bx,hbxe⟩:∃b,wc.heap.size=b:=⟨_,rfl⟩
      rw [hw4] at hgA hbx
      rw [hbxe] at hbx
      have HW4:Hid (wc.alloc (.cells #[.int .i64 (q:Nat)] 3)=w4):=hw4
      have HBX:Hid (wc.heap.size=bx):=hbxe
      have HG4:Hid (w2.grownBy w4 none):=gb_trans HG3.out hgA
      have HG04:Hid (w0.grownBy w4 none):=gb_trans HG03.out hgA
      have HB4:Hid (w4.cell? ⟨bx,0,none⟩=some (.int .i64 (q:Nat))):=by show _=_;rw [Lib.cell_of_heap hbx];rfl
      have g4c:=hgA.cell g3c (by simp)
      obtain ⟨kx,e0,-,e4,e6⟩:=HCQ.out w4 HG04.out
      clear hw4 hbxe hgA hbx
      go_upto_region 16 with fail
      rw [HW4.out,HBX.out]
      clear g3c
      obtain ⟨MS,hMS⟩:∃M,msT ns q=M:=⟨_,rfl⟩
      rw [hMS] at CT2 hmsl HMS hgk HSN
      obtain ⟨kd,hkd⟩:∃z,kdAt ns q=z:=⟨_,rfl⟩
      rw [hkd] at e0 HMS HDB
      obtain ⟨ok,ck,hkx,hkc⟩:=e6
      have HNK:Hid (NuS w4 (.slice ok (ksAt ns q).length ck) (ksAt ns q)):=⟨ok,ck,rfl,hkc⟩
      rw [hkx] at e4
      obtain ⟨KS,hKS⟩:∃K,ksAt ns q=K:=⟨_,rfl⟩
      rw [hKS] at HNK HMS e4
      obtain ⟨kn,hkn⟩:∃n,KS.length=n:=⟨_,rfl⟩
      rw [hkn] at HNK e4
      clear hMS hkd hkx hkc hKS hkn
      go_upto_if 88 with fail
      go_cut [16,17,18] (fun v16 v17 v18 wx=>NuS w4 v16 MS/\v17=.string ⟨(if db=true then [91,91] else [91]).toArray⟩/\v18=.string ⟨(if db=true then [93,93] else [93]).toArray⟩/\wx=w4)
      case first =>
       by_cases h2:kd=2
       ·have hb2:(kd == 2)=true:=by simpa using h2
        have HD:Hid (db=true):=by show _=_;rw [HDB.out];simpa using h2
        have HM2:Hid (MS=KS):=by show _=_;rw [HMS.out,if_pos h2]
        clear h2
        go_wp2
        go_meet
        exact ⟨by rw [HM2.out];exact HNK.out,by rw [HD.out];rfl,by rw [HD.out];rfl,rfl⟩
       ·have hb2:(kd == 2)=false:=by simpa using h2
        have HD:Hid (db=false):=by show _=_;rw [HDB.out];simpa using h2
        have HM2:Hid (MS=[q]):=by show _=_;rw [HMS.out,if_neg h2]
        clear h2
        go_wp2
        go_meet
        refine ⟨?_,by rw [HD.out];rfl,by rw [HD.out];rfl,rfl⟩
        rw [HM2.out]
        refine ⟨_,_,rfl,fun i hi=>⟨bx,rfl,?_⟩⟩
        have hi0:i=0:=by simp at hi;exact hi
        subst hi0
        exact HB4.out
      case rest =>
       obtain ⟨hnu,rfl,rfl,hwc⟩:=hcut
       subst hwc
       obtain ⟨o16,c16,rfl,hc16⟩:=hnu
       have HC16:Hid (∀i (hi:i < MS.length),∃g,o16=some ⟨g,0,none⟩/\wc.cell? ⟨g,i,none⟩=some (.int .i64 (MS[i]:Nat))):=hc16
       obtain ⟨OP,hOP⟩:∃O:List UInt8,(if db=true then [91,91] else [91])=O:=⟨_,rfl⟩
       obtain ⟨SH,hSH⟩:∃O:List UInt8,(if db=true then [93,93] else [93])=O:=⟨_,rfl⟩
       have HHD:Hid (∀o,o++hdT o K db=o++(if o=[] then [] else [10])++OP++K++SH++[10]):=fun o=>by
        rw [<-hOP,<-hSH]
        unfold hdT
        cases db <;> simp
       have hOPl:OP.length<=2:=by rw [<-hOP];split <;> simp
       have hSHl:SH.length<=2:=by rw [<-hSH];split <;> simp
       rw [hOP,hSH]
       obtain ⟨ml,hml⟩:∃n,MS.length=n:=⟨_,rfl⟩
       have HML:Hid (MS.length=ml):=hml
       rw [hml] at hmsl ⊢
       clear hc16 hOP hSH hml e0 e4 g4c
       go_wp2
       go_loopw [3,19] (fun v3 v19 wk=>∃j:Nat,v19=.int .i64 (j:Nat)/\j<=ml/\v3=.string ⟨((MS.take j).foldl (gT ns f K db) O).toArray⟩/\wc.grownBy wk none) (fun _ v19 _=>ml - (intOf v19).toNat)
       case atStart=>exact ⟨0,rfl,Nat.zero_le _,rfl,gb_refl _ _⟩
       case round =>
        obtain ⟨j,rfl,hj,rfl,hgj⟩:=hrel
        have HGJ:Hid (wc.grownBy wr none):=hgj
        have HG0J:Hid (w0.grownBy wr none):=gb_trans HG04.out hgj
        clear hgj
        by_cases hjl:j < ml
        ·have hjl2:j < MS.length:=by rw [HML.out];exact hjl
         have hJ:(j:Int) < (ml:Int):=by omega
         obtain ⟨gm,rfl,dm⟩:=HC16.out j hjl2
         obtain ⟨p,hp⟩:∃p,MS[j]=p:=⟨_,rfl⟩
         rw [hp] at dm
         have dm2:=HGJ.out.cell dm (by simp)
         have hpM:p ∈ MS:=by rw [<-hp];exact List.getElem_mem hjl2
         have HS2:Hid ((MS.take (j+1)).foldl (gT ns f K db) O=gT ns f K db ((MS.take j).foldl (gT ns f K db) O) p):=by
          show _=_
          rw [fold_snoc _ MS j O hjl2,hp]
         have hgl:(gT ns f K db ((MS.take j).foldl (gT ns f K db) O) p).length<=70368744177664:=by
          rw [<-HS2.out]
          exact Nat.le_trans (fold_pre _ (fun o m=>by have:=gT_len ns f K db o m;omega) MS (j+1) O) hgk
         obtain ⟨o,ho⟩:∃o,(MS.take j).foldl (gT ns f K db) O=o:=⟨_,rfl⟩
         rw [ho] at HS2 hgl ⊢
         have hol:=gT_len ns f K db o p
         have HHO:=HHD.out o
         have CT3:=CT2.out p hpM o
         rw [HHO] at CT3
         obtain ⟨G,hG⟩:∃G,gT ns f K db o p=G:=⟨_,rfl⟩
         rw [hG] at CT3 HS2 hgl hol
         obtain ⟨o',ho'⟩:∃z,o++(if o=[] then [] else [10])=z:=⟨_,rfl⟩
         have HOO:Hid (o++(if o=[] then [] else [10])=o'):=ho'
         rw [ho'] at CT3
         have hol':o'.length<=o.length+1:=by
          rw [<-ho',List.length_append]
          have:(if o=[] then [] else ([10]:List UInt8)).length<=1:=by split <;> simp
          omega
         obtain ⟨Y1,hY1⟩:∃Y,o'++OP=Y:=⟨_,rfl⟩
         have hY1l:Y1.length=o'.length+OP.length:=by rw [<-hY1];simp
         rw [hY1] at CT3
         obtain ⟨Y2,hY2⟩:∃Y,Y1++K=Y:=⟨_,rfl⟩
         have hY2l:Y2.length=Y1.length+K.length:=by rw [<-hY2];simp
         rw [hY2] at CT3
         obtain ⟨Y3,hY3⟩:∃Y,Y2++SH=Y:=⟨_,rfl⟩
         have hY3l:Y3.length=Y2.length+SH.length:=by rw [<-hY3];simp
         rw [hY3] at CT3
         obtain ⟨Y4,hY4⟩:∃Y,Y3++[10]=Y:=⟨_,rfl⟩
         rw [hY4] at CT3
         have k1:∀wx,(Op.stringOp .add ⟨o'.toArray⟩ ⟨OP.toArray⟩).run Tryz.prog wx=.ok (.string ⟨Y1.toArray⟩) wx:=fun wx=>by rw [<-hY1];exact add_str o' OP wx (by omega)
         have k2:∀wx,(Op.stringOp .add ⟨Y1.toArray⟩ ⟨K.toArray⟩).run Tryz.prog wx=.ok (.string ⟨Y2.toArray⟩) wx:=fun wx=>by rw [<-hY2];exact add_str Y1 K wx (by omega)
         have k3:∀wx,(Op.stringOp .add ⟨Y2.toArray⟩ ⟨SH.toArray⟩).run Tryz.prog wx=.ok (.string ⟨Y3.toArray⟩) wx:=fun wx=>by rw [<-hY3];exact add_str Y2 SH wx (by omega)
         have k4:∀wx,(Op.stringOp .add ⟨Y3.toArray⟩ ⟨#[10]⟩).run Tryz.prog wx=.ok (.string ⟨Y4.toArray⟩) wx:=fun wx=>by rw [<-hY4];exact add_str Y3 [10] wx (by simp only [List.length_cons,List.length_nil];omega)
         have CT4:Hid (∀w',w0.grownBy w' none->Calls Tryz.prog 21 #[.slice (some ⟨N,0,none⟩) L c,.int .i64 (p:Nat),.string ⟨K.toArray⟩,.string ⟨Y4.toArray⟩] w' fun e w''=>e=.returned (.string ⟨G.toArray⟩)/\w'.grownBy w'' none):=fun w' h=>CT3 w' h hgl
         obtain ⟨oe,hoe⟩:∃b,o.isEmpty=b:=⟨_,rfl⟩
         have HOE:Hid (o.isEmpty=oe):=hoe
         clear hp dm ho HHO hG ho' hY1 hY2 hY3 hY4 CT3 hpM
         go_upto_if 104 with fail
         go_cut [3] (fun v3 wx=>v3=.string ⟨o'.toArray⟩/\wx=wr)
         case first =>
          cases oe with
          | true =>
           have HE:Hid (o'=o):=by show _=_;rw [<-HOO.out,if_pos (by simpa using HOE.out),List.append_nil]
           go_wp2
           go_meet
           exact ⟨by rw [HE.out],rfl⟩
          | false =>
           have HE:Hid (o'=o++[10]):=by show _=_;rw [<-HOO.out,if_neg (by simpa using HOE.out)]
           have k0:∀wx,(Op.stringOp .add ⟨o.toArray⟩ ⟨#[10]⟩).run Tryz.prog wx=.ok (.string ⟨o'.toArray⟩) wx:=fun wx=>by rw [HE.out];exact add_str o [10] wx (by simp only [List.length_cons,List.length_nil];omega)
           go_wp2
           go_meet
           exact ⟨rfl,rfl⟩
         case rest =>
          obtain ⟨rfl,hwc⟩:=hcut
          subst hwc
          go_wp2_with (first | (go_at_call 21;refine (CT4.out _ HG0J.out).mono ?_))
          first | rintro e w5 rfl hg5 | rintro e w5 ⟨rfl,hg5⟩
          have HG5:Hid (_):=gb_trans HGJ.out hg5
          clear hg5 dm2
          go_wp2
          go_roundw
          case rel=>exact ⟨j+1,by go_num,by omega,by rw [HS2.out],HG5.out⟩
          case measure=>simp [intOf];omega
        ·have hJ:¬ (j:Int) < (ml:Int):=by omega
         have e:MS.take j=MS:=List.take_of_length_le (by rw [HML.out];omega)
         rw [e,<-HSN.out]
         clear e hj
         go_wp2
         go_roundw
         case rel=>exact ⟨i+1,by go_num,by omega,rfl,gb_trans HG4.out HGJ.out⟩
         case measure=>simp [intOf];omega
    ·have hI:¬ (i:Int) < (m:Int):=by omega
     have e:Q.take i=Q:=List.take_of_length_le (by rw [HM.out];omega)
     rw [e]
     clear e
     go_wp2
     go_ret
     exact ⟨by rw [HX.out];rfl,gb_trans HG2.out HGR.out⟩
theorem dTable {w0:World} {N c:Nat} {ns:List Tn} {own:List Nat} (E:Edv w0 N c ns own) (F:Ef ns own) (VT0:∀p q,q ∈ ksAt ns p->kdAt ns p=0->0<=kdAt ns q/\kdAt ns q<=5):∀f,DtT w0 N c ns f
 | 0=>fun t path out w ht h0 hf=>absurd hf (by omega)
 | f+1=>dTable_of E F VT0 f (dTable E F VT0 f)
end Go.Proofs.YtbgnflcebafjjaaGreatDoor
