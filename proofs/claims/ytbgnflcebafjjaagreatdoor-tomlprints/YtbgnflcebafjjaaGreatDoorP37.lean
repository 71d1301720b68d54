import Derived.Test.YtbgnflcebafjjaaGreatDoorP24
import Derived.Test.YtbgnflcebafjjaaGreatDoorP36
import Derived.Deep.DeepCutAuto
import Derived.Test.YtbgnflcebafjjaaGreatDoorP16
import Derived.Test.YtbgnflcebafjjaaGreatDoorP15
import Derived.Test.YtbgnflcebafjjaaGreatDoorP08
namespace Go.Proofs.YtbgnflcebafjjaaGreatDoor
open Go.RowKit Go.Maps Go.WideMaps Go.Joins
set_option linter.unusedVariables false
theorem rown_set {w:World} {base:Nat} {e:TypeId} {size:Nat} {g n cap:Nat} {xs:List Value} (h:w.ownsRow base e size (.slice (some ⟨g,0,none⟩) n cap) n xs) (o:Nat) (x:Value) (ho:o < n * size):(w.setCell ⟨g,o,none⟩ x).ownsRow base e size (.slice (some ⟨g,0,none⟩) n cap) n (xs.set o x):=by
 refine ⟨by rw [List.length_set];exact h.1,?_⟩
 rcases h.2 with ⟨h1,_⟩ | ⟨g',cap',cur,h1,hb,hg,hn,hm,hs,ht⟩
 ·cases h1
 ·cases h1
  refine Or.inr ⟨g,cap,cur.setIfInBounds o x,rfl,hb,?_,hn,hm,by simpa using hs,?_⟩
  ·simp [World.setCell,Array.getElem?_modify,hg]
  ·rw [Array.toList_setIfInBounds,List.take_set,ht]
theorem rown_f {w:World} {base:Nat} {e:TypeId} {size gs n cap:Nat} {xs:List Value} (h:w.ownsRow base e size (.slice (some ⟨gs,0,none⟩) n cap) n xs) (o:Nat):w.frozen? ⟨gs,o,none⟩=false:=by
 rcases h.2 with ⟨h1,_⟩ | ⟨g',cap',cur,h1,hb,hg,_⟩
 ·cases h1
 ·cases h1;exact Lib.frozen_of_heap hg o
theorem rswap (P:List Value) (u v:Value) (Q:List Value):((P++u :: v :: Q).set (P.length+1) u).set P.length v=P++v :: u :: Q:=by
 rw [List.set_append_right _ _ (by omega),show P.length+1 - P.length=1 by omega]
 rw [List.set_append_right _ _ (by omega),Nat.sub_self]
 rfl
theorem rbel_set {B:Nat} {a w:World} (h:Below B a w) {g:Nat} (hg:B<=g) (o:Nat) (v:Value):Below B a (w.setCell ⟨g,o,none⟩ v) :=
 ⟨h.os,h.tape,h.output,by simpa [World.setCell] using h.size,fun k hk=>by rw [<-h.block k hk];exact heap_setCell_other w _ k v (by simp;omega)⟩
theorem rown_stay {w w':World} {base:Nat} {e:TypeId} {size:Nat} {v:Value} {n:Nat} {xs:List Value} (h:w.ownsRow base e size v n xs) (hg:w.grownBy w' none):w'.ownsRow base e size v n xs :=
 h.kept hg (by cases v.ownBlock <;> simp)
theorem nrow_cell {w:World} {base g n cap:Nat} {A B:List Nat} {x:Nat} (h:w.ownsRow base 3 1 (.slice (some ⟨g,0,none⟩) n cap) n ((A++x :: B).map fun q=>.int .i64 (q:Nat))):w.cell? ⟨g,A.length,none⟩=some (.int .i64 (x:Nat)):=by
 have:=h.cells (g:=g) rfl A.length (.int .i64 (x:Nat)) (by simp)
 rw [zero_off] at this
 exact this
theorem lss_cb:∀(a b:List UInt8),Op.bytesLess a b=decide (cb a b < 0)
 | [],[]=>rfl
 | [],_ :: _=>rfl
 | _ :: _,[]=>rfl
 | x :: a,y :: b=>by
  rw [cb_val]
  unfold Op.bytesLess
  rw [lss_cb a b]
  by_cases h1:x < y
  ·simp [h1]
  ·by_cases h2:y < x
   ·have hne:¬ x=y:=fun e=>by rw [e] at h2;exact UInt8.lt_irrefl y h2
    simp [h1,h2,hne]
   ·have he:x=y:=UInt8.le_antisymm (UInt8.not_lt.1 h2) (UInt8.not_lt.1 h1)
    subst he
    simp [h1]
theorem lss_ba (a b:List UInt8):Op.bytesLess (⟨a.toArray⟩:ByteArray).toList (⟨b.toArray⟩:ByteArray).toList=decide (cb a b < 0):=by
 rw [<-lss_cb,ByteArray.toList_eq,ByteArray.toList_eq]
def RiK (ns:List Tn) (L:List Nat):Prop:=L.Pairwise fun x y=>cb (kyAt ns x) (kyAt ns y)<=0
theorem riK_mid {ns:List Tn} {A B:List Nat} {x:Nat} (h:RiK ns (A++B)) (hb:∀b ∈ B,cb (kyAt ns x) (kyAt ns b) < 0) (hl:∀A0 y,A=A0++[y]->cb (kyAt ns y) (kyAt ns x)<=0):RiK ns (A++x :: B):=by
 unfold RiK at *
 rw [List.pairwise_append] at h ⊢
 refine ⟨h.1,List.pairwise_cons.2 ⟨fun b hb'=>Int.le_of_lt (hb b hb'),h.2.1⟩,fun a ha b hb'=>?_⟩
 rcases List.mem_cons.1 hb' with rfl | hb'
 ·rcases List.eq_nil_or_concat A with hA | ⟨A0,y,hA⟩
  ·rw [hA] at ha;cases ha
  ·rw [List.concat_eq_append] at hA
   have h1:=hl A0 y hA
   rw [hA] at ha h
   rcases List.mem_append.1 ha with ha | ha
   ·have h2:=(List.pairwise_append.1 h.1).2.2 a ha y (by simp)
    exact (cb_trans _ _ _ h2 h1).1
   ·rw [List.mem_singleton.1 ha];exact h1
 ·exact h.2.2 a ha b hb'
set_option maxRecDepth 100000 in
set_option maxHeartbeats 6400000 in
theorem dRising {w0:World} {N c:Nat} {ns:List Tn} {own:List Nat} (hv:Nv w0 (.slice (some ⟨N,0,none⟩) ns.length c) N c ns) (W:WF ns own) (hlen:ns.length<=900000) (t:Nat) (ht:t < ns.length) (hkd:KD ns t) (b:Bool) (w:World) (hg:w0.grownBy w none) :
  Calls Tryz.prog 36 #[.slice (some ⟨N,0,none⟩) ns.length c,.int .i64 (t:Nat),.bool b] w fun e w'=>∃v,e=.returned v/\w'.ownsRow w.heap.size 3 1 v (rs ns t b).length ((rs ns t b).map fun q=>.int .i64 (q:Nat))/\w.grownBy w' none:=by
 obtain ⟨j0,hj0,hjj⟩:=Option.map_eq_some_iff.1 infoInt
 simp only [Prod.mk.injEq] at hjj
 obtain ⟨hy0,hy1,hyb⟩:=hjj
 have HV:Hid (Nv w (.slice (some ⟨N,0,none⟩) ns.length c) N c ns):=hv.grow hg
 have HU:Hid (∀E:List Nat,E.Perm ((ksAt ns t).filter fun q=>tb ns q == b)->RiK ns E->E=rs ns t b):=fun E h1 h2=>rs_uni ns t b hkd E h1 h2
 have HKL:Hid (∀q ∈ ksAt ns t,q < ns.length):=fun q hq=>W.lt t q hq
 obtain ⟨kv,-,-,-,-,c4,-,hnu⟩:=HV.out.cel t ht
 rw [<-ksAt_in ht] at hnu
 have hkl:(ksAt ns t).length<=1000000:=by have:=W.len t;omega
 obtain ⟨K,hK⟩:∃K,ksAt ns t=K:=⟨_,rfl⟩
 rw [hK] at hnu hkl HU HKL
 obtain ⟨ok,ck,hkv,hkc⟩:=hnu
 subst hkv
 obtain ⟨L,hL⟩:∃L,ns.length=L:=⟨_,rfl⟩
 have HLN:Hid (ns.length=L):=hL
 have HKC:Hid (∀i (hi:i < K.length),∃g,ok=some ⟨g,0,none⟩/\w.cell? ⟨g,i,none⟩=some (.int .i64 (K[i]:Nat))):=hkc
 have HCK:Hid (∀q,q < L->w.cell? ⟨N,q * 6,none⟩=some (.int .i64 (kdAt ns q))/\w.cell? ⟨N,q * 6+1,none⟩=some (.string ⟨(kyAt ns q).toArray⟩)):=fun q hq=>by
  have hq':q < ns.length:=by rw [hL];exact hq
  obtain ⟨_,d0,d1,-⟩:=HV.out.cel q hq'
  rw [kyAt_in hq']
  unfold kdAt
  rw [List.getElem?_eq_getElem hq']
  exact ⟨d0,d1⟩
 have HB0:Hid (∀(a:Addr) u wr,w.cell? a=some u->Below w.heap.size w wr->wr.cell? a=some u):=fun a u wr h1 h2=>(bel_gbn h2).cell h1 (by simp)
 have HKD:Hid (∀q,tb ns q=(decide (kdAt ns q=0) || decide (kdAt ns q=2))):=fun q=>by
  show tb ns q=_
  unfold tb
  by_cases h1:kdAt ns q=0
  ·simp [h1]
  ·simp [h1]
 rw [hL] at ht hlen HKL ⊢
 have htI:(t:Int) < (L:Int):=by omega
 obtain ⟨n,hn⟩:∃n,K.length=n:=⟨_,rfl⟩
 have HN:Hid (K.length=n):=hn
 rw [hn] at hkl c4
 have HB00:Hid (w.cell? ⟨N,t * 6+4,none⟩=some (.slice ok n ck)):=c4
 clear hv W hkd hg hK hL hkc hn c4
 go_enter Tryz.func36,Tryz.ntmps36
 go_wp2
 go_loopw [7,8] (fun v7 v8 wr=>∃(i:Nat) (P:List Nat),v8=.int .i64 (i:Nat)/\i<=n/\P.Perm ((K.take i).filter fun q=>tb ns q == b)/\RiK ns P/\wr.ownsRow w.heap.size 3 1 v7 P.length (P.map fun q=>.int .i64 (q:Nat))/\Below w.heap.size w wr) (fun _ v8 _=>n - (intOf v8).toNat)
 case atStart=>exact ⟨0,[],rfl,Nat.zero_le _,by simp,List.Pairwise.nil,World.ownsRow_nil _ _ _ _,Below.refl _ _⟩
 case round =>
  obtain ⟨i,P,rfl,hi,hp,hs,hown,hb⟩:=hrel
  have HP:Hid (P.Perm ((K.take i).filter fun q=>tb ns q == b)):=hp
  have HS:Hid (RiK ns P):=hs
  have HB:Hid (Below w.heap.size w wr):=hb
  have HO:Hid (wr.ownsRow w.heap.size 3 1 u7 P.length (P.map fun q=>.int .i64 (q:Nat))):=hown
  have c4:=HB0.out _ _ wr HB00.out hb
  have hPl:P.length<=i:=by
   rw [hp.length_eq]
   refine Nat.le_trans (List.length_filter_le _ _) ?_
   rw [List.length_take]
   omega
  have hszB:=hb.size
  clear hp hs hb hown
  by_cases hlt:i < n
  ·have hI:(i:Int) < (n:Int):=by omega
   have hil:i < K.length:=by rw [HN.out];exact hlt
   obtain ⟨gk,rfl,dk⟩:=HKC.out i hil
   obtain ⟨q,hq⟩:∃q,K[i]=q:=⟨_,rfl⟩
   rw [hq] at dk
   have dk':=HB0.out _ _ wr dk HB.out
   have hqL:q < L:=HKL.out q (by rw [<-hq];exact List.getElem_mem hil)
   have hqI:(q:Int) < (L:Int):=by omega
   obtain ⟨d0,d1⟩:=HCK.out q hqL
   have d0':=HB0.out _ _ wr d0 HB.out
   have HTK:Hid (K.take (i+1)=K.take i++[q]):=by
    show _=_
    rw [List.take_succ_eq_append_getElem hil,hq]
   have HTB:=HKD.out q
   obtain ⟨kd,hkd⟩:∃kd,kdAt ns q=kd:=⟨_,rfl⟩
   rw [hkd] at d0' HTB
   obtain ⟨bb,hbb⟩:∃bb,tb ns q=bb:=⟨_,rfl⟩
   have HBB:Hid (tb ns q=bb):=hbb
   rw [hbb] at HTB
   have HT2:Hid (bb=(decide (kd=0) || decide (kd=2))):=HTB
   clear dk d0 d1 hq hkd hbb HTB
   go_upto_region 6 with fail
   go_cut [10] (fun v10 wx=>v10=.bool bb/\wx=wr)
   case first =>
    by_cases h0:kd=0
    ·have hb0:(kd == 0)=true:=by simpa using h0
     have HE:Hid (bb=true):=by show _=_;rw [HT2.out];simp [h0]
     clear h0
     go_wp2
     go_meet
     exact ⟨by rw [HE.out],rfl⟩
    ·have hb0:(kd == 0)=false:=by simpa using h0
     by_cases h2:kd=2
     ·have hb2:(kd == 2)=true:=by simpa using h2
      have HE:Hid (bb=true):=by show _=_;rw [HT2.out];simp [h2]
      clear h0 h2
      go_wp2
      go_meet
      exact ⟨by rw [HE.out],rfl⟩
     ·have hb2:(kd == 2)=false:=by simpa using h2
      have HE:Hid (bb=false):=by show _=_;rw [HT2.out];simp [h0,h2]
      clear h0 h2
      go_wp2
      go_meet
      exact ⟨by rw [HE.out],rfl⟩
   case rest =>
    obtain ⟨rfl,rfl⟩:=hcut
    by_cases hbe:bb=b
    ·subst hbe
     have hbn:(bb != bb)=false:=by simp
     have HPM:Hid (∀y ∈ P,y < L):=fun y hy=>by
      have h1:=(List.mem_filter.1 (HP.out.subset hy)).1
      exact HKL.out y (List.mem_of_mem_take h1)
     have HPQ:Hid ((P++[q]).Perm ((K.take (i+1)).filter fun q=>tb ns q == bb)):=by
      show List.Perm _ _
      rw [HTK.out,List.filter_append,List.filter_cons_of_pos (by rw [HBB.out];simp),List.filter_nil]
      exact HP.out.append_right [q]
     have HSZ:Hid (w.heap.size<=wc.heap.size):=hszB
     clear hi
     go_wp2_with (first | (at_builtin;refine wpList_append_lies _ rfl _ _ 31 rfl w.heap.size 3 j0 _ 1 8 Tryz.underlying31 hj0 hy0 hy1 hyb rfl (by decide) _ _ _ rfl (HO.out.alloc _) _ 1 1 [.int .i64 (q:Nat)] rfl rfl (World.news_of_block (heap_alloc_new _ _)) (in_one _) (by decide) (by unfold maxLen;omega) (by omega) (by simp;omega) _ rfl ?_))
     intro g4 cap4 w4 hown4 hgrow4 hat4 hlt4
     have HR0:Hid (w4.ownsRow w.heap.size 3 1 (.slice (some ⟨g4,0,none⟩) (P.length+1) cap4) (P.length+1) ((P++q :: []).map fun q=>.int .i64 (q:Nat))):=by
      show World.ownsRow _ _ _ _ _ _ _
      rw [List.map_append]
      exact hown4
     have HB4:Hid (Below w.heap.size w w4):=by
      have h1:=HB.out.alloc HB.out.size (.cells #[.int .i64 (q:Nat)] 3)
      refine h1.trans ⟨hgrow4.os,hgrow4.tape,hgrow4.output,hgrow4.size,fun k hk=>hgrow4.block k (Nat.lt_of_lt_of_le hk h1.size) (fun e=>?_)⟩
      have:=(own_typ (HO.out.alloc (.cells #[.int .i64 (q:Nat)] 3)) e.symm).1
      omega
     have HCP:Hid (P.length+1<=cap4):=by
      rcases hown4.2 with ⟨h1,_⟩ | ⟨g',cap',cur,hv,_,_,h3,_⟩
      ·cases h1
      ·cases hv;exact h3
     obtain ⟨pl,hpl⟩:∃pl,P.length=pl:=⟨_,rfl⟩
     have HPLN:Hid (P.length=pl):=hpl
     rw [hpl] at HR0 HCP hPl ⊢
     have hcp:=HCP.out
     clear hown4 hgrow4 hat4 hlt4 hpl hszB c4 dk' d0'
     go_wp2
     go_loopw [11] (fun vk wk=>∃A B:List Nat,vk=.int .i64 (A.length:Int)/\A++B=P/\(∀b ∈ B,cb (kyAt ns q) (kyAt ns b) < 0)/\wk.ownsRow w.heap.size 3 1 (.slice (some ⟨g4,0,none⟩) (pl+1) cap4) (pl+1) ((A++q :: B).map fun q=>.int .i64 (q:Nat))/\Below w.heap.size w wk) (fun vk _=>(intOf vk).toNat)
     case atStart=>exact ⟨P,[],by rw [HPLN.out],by simp,by simp,HR0.out,HB4.out⟩
     case round =>
      obtain ⟨A,B,rfl,hAB,hBn,hrow,hbk⟩:=hrel
      have HRW:Hid (wr.ownsRow w.heap.size 3 1 (.slice (some ⟨g4,0,none⟩) (pl+1) cap4) (pl+1) ((A++q :: B).map fun q=>.int .i64 (q:Nat))):=hrow
      have HBK:Hid (Below w.heap.size w wr):=hbk
      have HBN:Hid (∀b ∈ B,cb (kyAt ns q) (kyAt ns b) < 0):=hBn
      have HAB:Hid (A++B=P):=hAB
      have HLE:Hid ((A++q :: B).length=pl+1):=by
       have h1:=congrArg List.length hAB
       have h2:=HPLN.out
       simp only [List.length_append,List.length_cons] at h1 ⊢
       show _=_
       omega
      have HOUT:Hid ((∀A0 y,A=A0++[y]->cb (kyAt ns y) (kyAt ns q)<=0)->(A++q :: B).Perm ((K.take (i+1)).filter fun q=>tb ns q == bb)/\RiK ns (A++q :: B)):=fun hlast=>by
       refine ⟨?_,riK_mid (by rw [HAB.out];exact HS.out) HBN.out hlast⟩
       have h1:(A++q :: B).Perm (q :: (A++B)):=List.perm_middle
       rw [HAB.out] at h1
       exact h1.trans ((List.perm_append_singleton q P).symm.trans HPQ.out)
      clear hAB hBn hrow hbk
      rcases List.eq_nil_or_concat A with rfl | ⟨A0,y,rfl⟩
      ·have HDO:Hid (([]++q :: B).Perm ((K.take (i+1)).filter fun q=>tb ns q == bb)/\RiK ns ([]++q :: B)):=HOUT.out (fun A0 y e=>by simp at e)
       clear HOUT
       have k0:(([]:List Nat).length:Int)=0:=rfl
       rw [k0]
       clear k0
       have hdec:decide ((0:Int) < 0)=false:=by decide
       go_wp2
       go_quiet (fail)
       go_wp2
       go_roundw
       case rel=>exact ⟨i+1,[]++q :: B,by go_num,by omega,HDO.out.1,HDO.out.2,by rw [HLE.out];exact rown_stay HRW.out (gb_drew (gb_refl _ none) _),below_drewN HBK.out _⟩
       case measure=>simp [intOf];omega
      ·simp only [List.concat_eq_append] at HRW HAB HOUT HLE ⊢
       have d1:wr.cell? ⟨g4,A0.length+1,none⟩=some (.int .i64 (q:Nat)):=by
        have:=nrow_cell HRW.out
        simpa using this
       have d2:wr.cell? ⟨g4,A0.length,none⟩=some (.int .i64 (y:Nat)):=by
        have h1:=HRW.out
        rw [List.append_assoc] at h1
        exact nrow_cell (A:=A0) (x:=y) (B:=q :: B) h1
       have HLN:Hid (A0.length+1<=pl):=by
        have h1:=HLE.out
        simp only [List.length_append,List.length_cons,List.length_nil] at h1
        show _<=_
        omega
       have hyL:y < L:=HPM.out y (by rw [<-HAB.out];simp)
       have hyI:(y:Int) < (L:Int):=by omega
       have e1:=HB0.out _ _ wr (HCK.out q hqL).2 HBK.out
       have e2:=HB0.out _ _ wr (HCK.out y hyL).2 HBK.out
       obtain ⟨m,hm⟩:∃m,A0.length=m:=⟨_,rfl⟩
       have hmi:=HLN.out
       have kl:(((A0++[y]).length:Nat):Int)=(m:Int)+1:=by simp [hm]
       rw [kl]
       rw [hm] at d1 d2 hmi
       have HNN:Hid (A0.length=m):=hm
       clear hm kl
       have t1:((m:Int)+1).toNat=m+1:=by omega
       have t3:(0:Int) < (m:Int)+1:=by omega
       have t4:decide ((0:Int) < (m:Int)+1)=true:=decide_eq_true t3
       have t6:(m:Int)+1 < (pl:Int)+1:=by omega
       have t7:(0:Int)<=(m:Int)+1:=by omega
       have t8:(m:Int) < (pl:Int)+1:=by omega
       have tE:IntKind.i64.wrap (m:Int)=(m:Int):=by
        rw [IntKind.wrap_i64];omega
       have tD:(0:Int)<=(m:Int):=by omega
       have t9:m+1 < pl+1:=by omega
       have t10:m < pl+1:=by omega
       have t5:=lss_ba (kyAt ns q) (kyAt ns y)
       obtain ⟨KQ,hKQ⟩:∃B:ByteArray,⟨(kyAt ns q).toArray⟩=B:=⟨_,rfl⟩
       obtain ⟨KY,hKY⟩:∃B:ByteArray,⟨(kyAt ns y).toArray⟩=B:=⟨_,rfl⟩
       rw [hKQ] at e1 t5
       rw [hKY] at e2 t5
       clear hKQ hKY
       by_cases hr0:cb (kyAt ns q) (kyAt ns y) < 0
       ·rw [decide_eq_true hr0] at t5
        have ff:=rown_f HRW.out
        go_wp2
        go_quiet (fail)
        go_wp2
        have hgb:=(HRW.out.lt g4 rfl).1
        refine ⟨⟨A0,y :: B,by rw [HNN.out],by have:=HAB.out;simpa using this,fun b hb=>?_,?_,rbel_set (rbel_set (below_drewN HBK.out _) hgb _ _) hgb _ _⟩,by simp [intOf]⟩
        ·rcases List.mem_cons.1 hb with rfl | hb
         ·exact hr0
         ·exact HBN.out b hb
        ·have e1:((A0++[y])++q :: B).map (fun q:Nat=>Value.int .i64 (q:Nat))=A0.map (fun q:Nat=>Value.int .i64 (q:Nat))++.int .i64 (y:Nat) :: .int .i64 (q:Nat) :: B.map (fun q:Nat=>Value.int .i64 (q:Nat)):=by simp
         have e2:(A0++q :: (y :: B)).map (fun q:Nat=>Value.int .i64 (q:Nat))=A0.map (fun q:Nat=>Value.int .i64 (q:Nat))++.int .i64 (q:Nat) :: .int .i64 (y:Nat) :: B.map (fun q:Nat=>Value.int .i64 (q:Nat)):=by simp
         have e4:m=(A0.map (fun q:Nat=>Value.int .i64 (q:Nat))).length:=by rw [List.length_map];exact HNN.out.symm
         have h1:∀z,(((wr.drewN z).setCell ⟨g4,m+1,none⟩ (.int .i64 (y:Nat))).setCell ⟨g4,m,none⟩ (.int .i64 (q:Nat))).ownsRow w.heap.size 3 1 (.slice (some ⟨g4,0,none⟩) (pl+1) cap4) (pl+1) ((A0++q :: (y :: B)).map fun q=>.int .i64 (q:Nat)):=fun z=>by
          have h:=rown_set (rown_set (rown_stay HRW.out (gb_drew (gb_refl wr none) z)) (m+1) (.int .i64 (y:Nat)) (by omega)) m (.int .i64 (q:Nat)) (by omega)
          rw [e1,e4,rswap,<-e2,<-e4] at h
          exact h
         exact h1 _
       ·rw [decide_eq_false hr0] at t5
        have HDO:Hid (((A0++[y])++q :: B).Perm ((K.take (i+1)).filter fun q=>tb ns q == bb)/\RiK ns ((A0++[y])++q :: B)):=HOUT.out (fun A1 y1 e=>by
         have e1:=List.append_inj' e rfl
         have e2:y=y1:=by simpa using e1.2
         rw [<-e2]
         have:=cb_anti (kyAt ns q) (kyAt ns y)
         omega)
        clear HOUT
        go_wp2
        go_quiet (fail)
        go_wp2
        go_roundw
        case rel=>exact ⟨i+1,(A0++[y])++q :: B,by go_num,by omega,HDO.out.1,HDO.out.2,by rw [HLE.out];exact rown_stay HRW.out (gb_drew (gb_refl _ none) _),below_drewN HBK.out _⟩
        case measure=>simp [intOf];omega
    ·have hbn:(bb != b)=true:=by simpa using hbe
     have HPQ:Hid (P.Perm ((K.take (i+1)).filter fun q=>tb ns q == b)):=by
      show List.Perm _ _
      rw [HTK.out,List.filter_append,List.filter_cons_of_neg (by rw [HBB.out];simpa using hbe),List.filter_nil,List.append_nil]
      exact HP.out
     clear hbn
     cases b with
     | true =>
      obtain rfl:bb=false:=by simpa using hbe
      clear hbe
      go_wp2
      go_roundw
      case rel=>exact ⟨i+1,P,by go_num,by omega,HPQ.out,HS.out,HO.out,HB.out⟩
      case measure=>simp [intOf];omega
     | false =>
      obtain rfl:bb=true:=by simpa using hbe
      clear hbe
      go_wp2
      go_roundw
      case rel=>exact ⟨i+1,P,by go_num,by omega,HPQ.out,HS.out,HO.out,HB.out⟩
      case measure=>simp [intOf];omega
  ·have hil:i=n:=by omega
   subst hil
   have HQ:Hid (P=rs ns t b):=by
    refine HU.out P ?_ HS.out
    have:=HP.out
    rw [List.take_of_length_le (by rw [HN.out];exact Nat.le_refl _)] at this
    exact this
   go_wp2
   refine bodyPost_ret (results_tmp (t:=6) rfl _ _ _) rfl ?_
   rw [<-HQ.out]
   exact ⟨_,rfl,HO.out,bel_gbn HB.out⟩
end Go.Proofs.YtbgnflcebafjjaaGreatDoor
namespace Go.Proofs.YtbgnflcebafjjaaGreatDoor
open Go.RowKit Go.Maps Go.WideMaps Go.Joins
set_option linter.unusedVariables false
set_option maxRecDepth 100000 in
theorem qc_doc (c:UInt8):(c.toNat=34\/c.toNat=92->qc c=[92,c])/\(c.toNat=8->qc c=[92,98])/\(c.toNat=9->qc c=[92,116])/\(c.toNat=10->qc c=[92,110])/\(c.toNat=12->qc c=[92,102])/\(c.toNat=13->qc c=[92,114])/\(¬ (c.toNat=34\/c.toNat=92\/c.toNat=8\/c.toNat=9\/c.toNat=10\/c.toNat=12\/c.toNat=13)->(c.toNat < 32\/c.toNat=127->qc c=[92,117,48,48]++[hexS.getD (c.toNat / 16) 0]++[hexS.getD (c.toNat % 16) 0])/\(¬ (c.toNat < 32\/c.toNat=127)->qc c=[c])):=by
 have key:∀n:Fin 256,(let c:=UInt8.ofNat n.val;(c.toNat=34\/c.toNat=92->qc c=[92,c])/\(c.toNat=8->qc c=[92,98])/\(c.toNat=9->qc c=[92,116])/\(c.toNat=10->qc c=[92,110])/\(c.toNat=12->qc c=[92,102])/\(c.toNat=13->qc c=[92,114])/\(¬ (c.toNat=34\/c.toNat=92\/c.toNat=8\/c.toNat=9\/c.toNat=10\/c.toNat=12\/c.toNat=13)->(c.toNat < 32\/c.toNat=127->qc c=[92,117,48,48]++[hexS.getD (c.toNat / 16) 0]++[hexS.getD (c.toNat % 16) 0])/\(¬ (c.toNat < 32\/c.toNat=127)->qc c=[c]))):=by decide
 have:=key ⟨c.toNat,c.toNat_lt⟩
 simp only [UInt8.ofNat_toNat] at this
 exact this
theorem hex_sub (m:Nat) (h:m < 16) (wx:World):(Instr.slice 9 (.string ⟨#[48,49,50,51,52,53,54,55,56,57,65,66,67,68,69,70]⟩) (some (.int .i64 (m:Int))) (some (.int .i64 ((m:Int)+1))) none).run Tryz.prog wx=.ok (.string ⟨#[hexS.getD m 0]⟩) wx:=by
 have:=run_sub ⟨#[48,49,50,51,52,53,54,55,56,57,65,66,67,68,69,70]⟩ m (m+1) (by omega) (by show m+1<=16;omega) wx
 rw [show m+1 - m=1 by omega,show ((m+1:Nat):Int)=(m:Int)+1 by omega] at this
 have key:∀k:Fin 16,subT [48,49,50,51,52,53,54,55,56,57,65,66,67,68,69,70] k.val 1=[hexS.getD k.val 0]:=by decide
 have k2:subT (ByteArray.mk #[48,49,50,51,52,53,54,55,56,57,65,66,67,68,69,70]).data.toList m 1=[hexS.getD m 0]:=key ⟨m,h⟩
 rw [this,k2]
set_option maxRecDepth 100000 in
set_option maxHeartbeats 3200000 in
theorem dString_any (s:ByteArray) (w:World) (hs:s.size<=1048576) :
  Calls Tryz.prog 68 #[.string s] w fun e w'=>e=.returned (.string ⟨(qt s.data.toList).toArray⟩)/\w.grownBy w' none:=by
 have HL:Hid (s.data.toList.length=s.size):=by show _=_;simp
 go_enter Tryz.func68,Tryz.ntmps68
 go_wp2
 go_loopw [3,4] (fun v3 v4 wr=>∃i:Nat,v4=.int .i64 (i:Nat)/\i<=s.size/\v3=.string ⟨(34 :: (s.data.toList.take i).flatMap qc).toArray⟩/\w.grownBy wr none) (fun _ v4 _=>s.size - (intOf v4).toNat)
 case atStart=>exact ⟨0,rfl,Nat.zero_le _,rfl,gb_refl _ _⟩
 case round =>
  obtain ⟨i,rfl,hi,rfl,hgr⟩:=hrel
  have HGR:Hid (w.grownBy wr none):=hgr
  have hacc:(34 :: (s.data.toList.take i).flatMap qc).length<=6 * i+1:=by
   have:=qc_sum (s.data.toList.take i)
   rw [List.length_take] at this
   simp only [List.length_cons]
   omega
  clear hgr
  by_cases hlt:i < s.size
  ·have hI:(i:Int) < (s.size:Int):=by omega
   obtain ⟨c,hc⟩:∃c,s[i]=c:=⟨_,rfl⟩
   have hil:i < s.data.toList.length:=by rw [HL.out];exact hlt
   have HCM:Hid (s.data.toList[i]=c):=by show _=c;rw [<-hc];rfl
   have HTK:Hid (34 :: (s.data.toList.take (i+1)).flatMap qc=(34 :: (s.data.toList.take i).flatMap qc)++qc c):=by
    show _=_
    rw [List.take_succ_eq_append_getElem hil,List.flatMap_append,List.cons_append,HCM.out]
    simp
   obtain ⟨acc,hac⟩:∃acc,34 :: (s.data.toList.take i).flatMap qc=acc:=⟨_,rfl⟩
   rw [hac] at HTK hacc ⊢
   have hal:acc.length<=8000000:=by omega
   have sl:∀wx,(Instr.slice 9 (.string s) (some (.int .i64 (i:Int))) (some (.int .i64 ((i:Int)+1))) none).run Tryz.prog wx=.ok (.string ⟨#[c]⟩) wx:=fun wx=>by
    have:=run_sub s i (i+1) (by omega) (by omega) wx
    rw [show i+1 - i=1 by omega,show ((i+1:Nat):Int)=(i:Int)+1 by omega] at this
    have e:subT s.data.toList i 1=[c]:=by
     unfold subT
     rw [List.drop_eq_getElem_cons hil,HCM.out]
     rfl
    rw [this,e]
   have HDN:Hid (∀(Y:ByteArray),Y=⟨(acc++qc c).toArray⟩->(.string Y:Value)=.string ⟨(34 :: (s.data.toList.take (i+1)).flatMap qc).toArray⟩):=fun Y h2=>by rw [HTK.out,h2]
   have HQ:Hid _:=qc_doc c
   clear hac hacc HCM hil
   have hx1:=c.toNat_lt
   by_cases h34:c.toNat=34\/c.toNat=92
   ·have HE:Hid (qc c=[92,c]):=HQ.out.1 (by omega)
    by_cases hq:c.toNat=34
    ·have b34:((c.toNat:Int) == 34)=true:=by rw [beq_iff_eq];omega
     go_wp2
     go_roundw
     case rel=>exact ⟨i+1,by go_num,by omega,HDN.out _ (by rw [HE.out];apply ByteArray.ext;simp [ByteArray.data_append]),HGR.out⟩
     case measure=>simp [intOf];omega
    ·have b34:((c.toNat:Int) == 34)=false:=by rw [beq_eq_false_iff_ne];omega
     have b92:((c.toNat:Int) == 92)=true:=by rw [beq_iff_eq];omega
     go_wp2
     go_roundw
     case rel=>exact ⟨i+1,by go_num,by omega,HDN.out _ (by rw [HE.out];apply ByteArray.ext;simp [ByteArray.data_append]),HGR.out⟩
     case measure=>simp [intOf];omega
   ·have b34:((c.toNat:Int) == 34)=false:=by rw [beq_eq_false_iff_ne];omega
    have b92:((c.toNat:Int) == 92)=false:=by rw [beq_eq_false_iff_ne];omega
    by_cases h8:c.toNat=8
    ·have HE:Hid (qc c=[92,98]):=HQ.out.2.1 (by omega)
     have b8:((c.toNat:Int) == 8)=true:=by rw [beq_iff_eq];omega
     go_wp2
     go_roundw
     case rel=>exact ⟨i+1,by go_num,by omega,HDN.out _ (by rw [HE.out];apply ByteArray.ext;simp [ByteArray.data_append]),HGR.out⟩
     case measure=>simp [intOf];omega
    ·have b8:((c.toNat:Int) == 8)=false:=by rw [beq_eq_false_iff_ne];omega
     by_cases h9:c.toNat=9
     ·have HE:Hid (qc c=[92,116]):=HQ.out.2.2.1 (by omega)
      have b9:((c.toNat:Int) == 9)=true:=by rw [beq_iff_eq];omega
      go_wp2
      go_roundw
      case rel=>exact ⟨i+1,by go_num,by omega,HDN.out _ (by rw [HE.out];apply ByteArray.ext;simp [ByteArray.data_append]),HGR.out⟩
      case measure=>simp [intOf];omega
     ·have b9:((c.toNat:Int) == 9)=false:=by rw [beq_eq_false_iff_ne];omega
      by_cases h10:c.toNat=10
      ·have HE:Hid (qc c=[92,110]):=HQ.out.2.2.2.1 (by omega)
       have b10:((c.toNat:Int) == 10)=true:=by rw [beq_iff_eq];omega
       go_wp2
       go_roundw
       case rel=>exact ⟨i+1,by go_num,by omega,HDN.out _ (by rw [HE.out];apply ByteArray.ext;simp [ByteArray.data_append]),HGR.out⟩
       case measure=>simp [intOf];omega
      ·have b10:((c.toNat:Int) == 10)=false:=by rw [beq_eq_false_iff_ne];omega
       by_cases h12:c.toNat=12
       ·have HE:Hid (qc c=[92,102]):=HQ.out.2.2.2.2.1 (by omega)
        have b12:((c.toNat:Int) == 12)=true:=by rw [beq_iff_eq];omega
        go_wp2
        go_roundw
        case rel=>exact ⟨i+1,by go_num,by omega,HDN.out _ (by rw [HE.out];apply ByteArray.ext;simp [ByteArray.data_append]),HGR.out⟩
        case measure=>simp [intOf];omega
       ·have b12:((c.toNat:Int) == 12)=false:=by rw [beq_eq_false_iff_ne];omega
        by_cases h13:c.toNat=13
        ·have HE:Hid (qc c=[92,114]):=HQ.out.2.2.2.2.2.1 (by omega)
         have b13:((c.toNat:Int) == 13)=true:=by rw [beq_iff_eq];omega
         go_wp2
         go_roundw
         case rel=>exact ⟨i+1,by go_num,by omega,HDN.out _ (by rw [HE.out];apply ByteArray.ext;simp [ByteArray.data_append]),HGR.out⟩
         case measure=>simp [intOf];omega
        ·have b13:((c.toNat:Int) == 13)=false:=by rw [beq_eq_false_iff_ne];omega
         have HR:=HQ.out.2.2.2.2.2.2 (by omega)
         by_cases h32:c.toNat < 32\/c.toNat=127
         ·have HE:Hid (qc c=[92,117,48,48]++[hexS.getD (c.toNat / 16) 0]++[hexS.getD (c.toNat % 16) 0]):=HR.1 (by omega)
          obtain ⟨p,hp⟩:∃p,c.toNat / 16=p:=⟨_,rfl⟩
          obtain ⟨q,hq⟩:∃q,c.toNat % 16=q:=⟨_,rfl⟩
          rw [hp,hq] at HE
          have hpx:(c.toNat:Int) / 16=(p:Int):=by omega
          have hqx:(c.toNat:Int) % 16=(q:Int):=by omega
          have s1:=hex_sub p (by omega)
          have s2:=hex_sub q (by omega)
          have hp16:(p:Int) < 16:=by omega
          have hq16:(q:Int) < 16:=by omega
          obtain ⟨a1,ha1⟩:∃a,hexS.getD p 0=a:=⟨_,rfl⟩
          obtain ⟨a2,ha2⟩:∃a,hexS.getD q 0=a:=⟨_,rfl⟩
          rw [ha1] at HE s1
          rw [ha2] at HE s2
          have hwx:IntKind.i64.wrap (c.toNat:Int)=(c.toNat:Int):=by rw [IntKind.wrap_i64];omega
          clear HR hp hq ha1 ha2
          by_cases hl32:c.toNat < 32
          ·have b127:(c.toNat:Int) < 32:=by omega
           go_wp2
           go_quiet (fail)
           go_wp2
           go_roundw
           case rel=>exact ⟨i+1,by go_num,by omega,HDN.out _ (by rw [HE.out];apply ByteArray.ext;simp [ByteArray.data_append]),gb_drew HGR.out _⟩
           case measure=>simp [intOf];omega
          ·have b126:¬ (c.toNat:Int) < 32:=by omega
           have b127:((c.toNat:Int) == 127)=true:=by rw [beq_iff_eq];omega
           go_wp2
           go_quiet (fail)
           go_wp2
           go_roundw
           case rel=>exact ⟨i+1,by go_num,by omega,HDN.out _ (by rw [HE.out];apply ByteArray.ext;simp [ByteArray.data_append]),gb_drew HGR.out _⟩
           case measure=>simp [intOf];omega
         ·have HE:Hid (qc c=[c]):=HR.2 (by omega)
          have hl32:¬ (c.toNat:Int) < 32:=by omega
          have b127:((c.toNat:Int) == 127)=false:=by rw [beq_eq_false_iff_ne];omega
          clear HR
          go_wp2
          go_roundw
          case rel=>exact ⟨i+1,by go_num,by omega,HDN.out _ (by rw [HE.out];apply ByteArray.ext;simp [ByteArray.data_append]),HGR.out⟩
          case measure=>simp [intOf];omega
  ·have hI:¬ (i:Int) < (s.size:Int):=by omega
   have HE:Hid (34 :: (s.data.toList.take i).flatMap qc++[34]=qt s.data.toList):=by
    show _=_
    unfold qt
    rw [List.take_of_length_le (by rw [HL.out];omega)]
   obtain ⟨acc,hac⟩:∃acc,34 :: (s.data.toList.take i).flatMap qc=acc:=⟨_,rfl⟩
   rw [hac] at HE hacc ⊢
   have ka:∀wx,(Op.stringOp .add ⟨acc.toArray⟩ ⟨#[34]⟩).run Tryz.prog wx=.ok (.string ⟨(acc++[34]).toArray⟩) wx:=fun wx=>add_str acc [34] wx (by simp only [List.length_cons,List.length_nil];omega)
   clear hac
   go_wp2
   go_ret
   exact ⟨by rw [HE.out];rfl,HGR.out⟩
end Go.Proofs.YtbgnflcebafjjaaGreatDoor
namespace Go.Proofs.YtbgnflcebafjjaaGreatDoor
open Go.RowKit Go.Maps Go.WideMaps Go.Joins
set_option linter.unusedVariables false
set_option maxRecDepth 100000 in
set_option maxHeartbeats 1600000 in
theorem dKeyText_any (s:ByteArray) (w:World) (hs:s.size<=1048576) :
  Calls Tryz.prog 37 #[.string s] w fun e w'=>e=.returned (.string ⟨(kt s.data.toList).toArray⟩)/\w.grownBy w' none:=by
 have CQ:Hid (∀w',Calls Tryz.prog 68 #[.string s] w' fun e w''=>e=.returned (.string ⟨(qt s.data.toList).toArray⟩)/\w'.grownBy w'' none):=fun w'=>dString_any s w' hs
 have CB:Hid (∀(c:UInt8) w',Calls Tryz.prog 67 #[.int .u8 (c.toNat:Int)] w' fun e w''=>e=.returned (.bool (isBa (c.toNat:Int)))/\w''=w'):=dBare_any
 have HL:Hid (s.data.toList.length=s.size):=by show _=_;simp
 have HKT:Hid (kt s.data.toList=if ((!decide (s.data.toList=[])) && s.data.toList.all (fun c=>isBa (c.toNat:Int)))=true then s.data.toList else qt s.data.toList):=by
  show _=_
  unfold kt
  by_cases h:s.data.toList=[]
  ·rw [if_pos h];simp [h]
  ·rw [if_neg h];simp [h]
 obtain ⟨b0,hb0⟩:∃b,(!decide (s.data.toList=[]))=b:=⟨_,rfl⟩
 have hne:s.toList.isEmpty=!b0:=by
  rw [<-hb0,ByteArray.toList_eq]
  cases h:s.data.toList with
  | nil=>simp
  | cons a r=>simp
 have HB0:Hid ((!decide (s.data.toList=[]))=b0):=hb0
 rw [hb0] at HKT
 clear hb0
 go_enter Tryz.func37,Tryz.ntmps37
 go_wp2
 go_loopw [3,4] (fun v3 v4 wr=>∃i:Nat,v4=.int .i64 (i:Nat)/\i<=s.size/\v3=.bool (b0 && (s.data.toList.take i).all (fun c=>isBa (c.toNat:Int)))/\wr=w) (fun _ v4 _=>s.size - (intOf v4).toNat)
 case atStart=>exact ⟨0,rfl,Nat.zero_le _,by simp,rfl⟩
 case round =>
  obtain ⟨i,rfl,hi,rfl,rfl⟩:=hrel
  by_cases hlt:i < s.size
  ·have hI:(i:Int) < (s.size:Int):=by omega
   obtain ⟨c,hc⟩:∃c,s[i]=c:=⟨_,rfl⟩
   have hil:i < s.data.toList.length:=by rw [HL.out];exact hlt
   have HTK:Hid ((b0 && (s.data.toList.take (i+1)).all (fun c=>isBa (c.toNat:Int)))=((b0 && (s.data.toList.take i).all (fun c=>isBa (c.toNat:Int))) && isBa (c.toNat:Int))):=by
    show _=_
    have e:s.data.toList[i]=c:=by rw [<-hc];rfl
    rw [List.take_succ_eq_append_getElem hil,List.all_append,e,Bool.and_assoc]
    simp
   have CB1:Hid (∀w',Calls Tryz.prog 67 #[.int .u8 (c.toNat:Int)] w' fun e w''=>e=.returned (.bool (isBa (c.toNat:Int)))/\w''=w'):=CB.out c
   obtain ⟨bb,hbb⟩:∃bb,isBa (c.toNat:Int)=bb:=⟨_,rfl⟩
   obtain ⟨b1,hb1⟩:∃b,(b0 && (s.data.toList.take i).all (fun c=>isBa (c.toNat:Int)))=b:=⟨_,rfl⟩
   rw [hbb] at HTK CB1
   rw [hb1] at HTK ⊢
   clear hbb hb1 hil
   cases b1 with
   | true =>
    go_wp2_with (first | (go_at_call 67;refine (CB1.out _).mono ?_;rintro e w' ⟨rfl,rfl⟩))
    go_roundw
    case rel=>exact ⟨i+1,by go_num,by omega,by rw [HTK.out];simp,trivial⟩
    case measure=>simp [intOf];omega
   | false =>
    go_wp2
    go_roundw
    case rel=>exact ⟨i+1,by go_num,by omega,by rw [HTK.out];simp,trivial⟩
    case measure=>simp [intOf];omega
  ·have hI:¬ (i:Int) < (s.size:Int):=by omega
   have e:s.data.toList.take i=s.data.toList:=List.take_of_length_le (by rw [HL.out];omega)
   rw [e]
   obtain ⟨b1,hb1⟩:∃b,(b0 && s.data.toList.all (fun c=>isBa (c.toNat:Int)))=b:=⟨_,rfl⟩
   rw [hb1] at HKT ⊢
   clear hb1 e
   cases b1 with
   | true =>
    go_wp2
    go_ret
    refine ⟨?_,gb_refl _ _⟩
    have e2:kt s.data.toList=s.data.toList:=by rw [HKT.out];simp
    rw [e2]
    have e:(⟨s.data.toList.toArray⟩:ByteArray)=s:=by cases s;simp
    rw [e]
    rfl
   | false =>
    go_wp2_with (first | (go_at_call 68;refine (CQ.out _).mono ?_;rintro e w1 ⟨rfl,hg1⟩))
    go_ret
    refine ⟨?_,hg1⟩
    have e2:kt s.data.toList=qt s.data.toList:=by rw [HKT.out];simp
    rw [e2]
    rfl
open Go.RowKit
set_option linter.unusedVariables false
theorem nd_len:∀(u:Nat),(Lib.decDigits u).length<=u / 10+1:=by
 intro u
 induction u using Nat.strongRecOn with
 | ind u ih =>
  rw [Lib.decDigits]
  split
  ·simp
  ·have:=ih (u / 10) (by omega)
   simp;omega
theorem itoa_len (n:Int) (h0:-9223372036854775808<=n) (h1:n<=9223372036854775807):(Lib.itoa n).length<=922337203685477584:=by
 unfold Lib.itoa
 split
 ·have:=nd_len n.natAbs;simp;omega
 ·have:=nd_len n.toNat;omega
theorem itoa_s1 (n:Int) (h:n < 0) (h':-10 < n):Lib.itoa n=[45,UInt8.ofNat (48 - n).toNat]:=by
 unfold Lib.itoa
 rw [if_pos h,Lib.decDigits_one (by omega),show (48 - n).toNat=48+n.natAbs by omega]
theorem itoa_s3 (n:Int) (h:¬ n < 0) (h':n < 10):Lib.itoa n=[UInt8.ofNat (48+n).toNat]:=by
 unfold Lib.itoa
 rw [if_neg h,Lib.decDigits_one (by omega),show (48+n).toNat=48+n.toNat by omega]
theorem itoa_s4 (n:Int) (h:10<=n):Lib.itoa n=Lib.itoa (n / 10)++[UInt8.ofNat (48+n % 10).toNat]:=by
 unfold Lib.itoa
 rw [if_neg (by omega),if_neg (by omega),Lib.decDigits,dif_neg (by omega),show (n / 10).toNat=n.toNat / 10 by omega,show (48+n % 10).toNat=48+n.toNat % 10 by omega]
theorem tdiv_neg (n:Int) (h:n < 0):n.tdiv 10=-((-n) / 10):=by
 have:n=-(-n):=by omega
 rw [this,Int.neg_tdiv,Int.tdiv_eq_ediv_of_nonneg (by omega)];simp
theorem tmod_neg (n:Int) (h:n < 0):n.tmod 10=-((-n) % 10):=by
 have:n=-(-n):=by omega
 rw [this,Int.neg_tmod,Int.tmod_eq_emod_of_nonneg (by omega)];simp
theorem itoa_s2 (n:Int) (h:n<=-10):Lib.itoa n=Lib.itoa (n.tdiv 10)++[UInt8.ofNat (48 - n.tmod 10).toNat]:=by
 rw [tdiv_neg n (by omega),tmod_neg n (by omega)]
 unfold Lib.itoa
 rw [if_pos (by omega),if_pos (by omega),Lib.decDigits,dif_neg (by omega),show (-(-n / 10)).natAbs=n.natAbs / 10 by omega,show (48 - -(-n % 10)).toNat=48+n.natAbs % 10 by omega]
 rfl
set_option maxHeartbeats 800000 in
theorem decimal_at:∀(m:Nat) (n:Int),n.natAbs=m->-9223372036854775808<=n->n<=9223372036854775807->∀(w:World),
  Calls Tryz.prog 69 #[.int .i64 n] w fun e w'=>e=.returned (.string ⟨(Lib.itoa n).toArray⟩)/\Below w.heap.size w w':=by
 intro m
 induction m using Nat.strongRecOn with
 | ind m ih =>
  intro n hm h0 h1 w
  have IH:Hid (∀n':Int,n'.natAbs < m->-9223372036854775808<=n'->n'<=9223372036854775807->∀(w:World),Calls Tryz.prog 69 #[.int .i64 n'] w fun e w'=>e=.returned (.string ⟨(Lib.itoa n').toArray⟩)/\Below w.heap.size w w'):=fun n' h=>ih _ h n' rfl
  have HM:Hid (n.natAbs=m):=hm
  clear ih hm
  obtain ⟨T,hT⟩:∃T,T=Lib.itoa n:=⟨_,rfl⟩
  rw [<-hT]
  have HT:Hid (T=Lib.itoa n):=hT
  clear hT
  by_cases hneg:n < 0
  ·by_cases h10:-10 < n
   ·have w1:IntKind.i64.wrap (48 - n)=48 - n:=by rw [IntKind.wrap_i64];omega
    have w2:IntKind.u8.wrap (48 - n)=48 - n:=by rw [IntKind.wrap_u8];omega
    have hcv:=cv_one w (48 - n)
    have HE:Hid (T=[45,UInt8.ofNat (48 - n).toNat]):=by show T=_;rw [HT.out,itoa_s1 n hneg h10]
    go_enter Tryz.func69,Tryz.ntmps69
    go_wp2
    go_ret
    refine ⟨?_,gb_below (gb_alloc (gb_refl w none) _)⟩
    rw [HE.out]
    rfl
   ·have hn10:n<=-10:=by omega
    have hr:n.tmod 10=-((-n) % 10):=tmod_neg n hneg
    have hq:n.tdiv 10=-((-n) / 10):=tdiv_neg n hneg
    have w1:IntKind.i64.wrap (48 - n.tmod 10)=48 - n.tmod 10:=by rw [IntKind.wrap_i64];omega
    have w2:IntKind.u8.wrap (48 - n.tmod 10)=48 - n.tmod 10:=by rw [IntKind.wrap_u8];omega
    have HC:Hid (∀w:World,Calls Tryz.prog 69 #[.int .i64 (n.tdiv 10)] w fun e w'=>e=.returned (.string ⟨(Lib.itoa (n.tdiv 10)).toArray⟩)/\Below w.heap.size w w'):=IH.out (n.tdiv 10) (by have:=HM.out;omega) (by omega) (by omega)
    have hl:=itoa_len (n.tdiv 10) (by omega) (by omega)
    have HE:Hid (T=Lib.itoa (n.tdiv 10)++[UInt8.ofNat (48 - n.tmod 10).toNat]):=by show T=_;rw [HT.out,itoa_s2 n hn10]
    have ad:=fun wx=>add_str (Lib.itoa (n.tdiv 10)) [UInt8.ofNat (48 - n.tmod 10).toNat] wx (by simp;omega)
    have hcv:=fun w=>cv_one w (48 - n.tmod 10)
    rw [<-HE.out] at ad
    clear hr hq hl
    generalize Lib.itoa (n.tdiv 10)=T1 at HC ad HE
    generalize UInt8.ofNat (48 - n.tmod 10).toNat=d at ad hcv HE
    have ad':∀wx,(Op.stringOp .add ⟨T1.toArray⟩ ⟨#[d]⟩).run Tryz.prog wx=.ok (.string ⟨T.toArray⟩) wx:=ad
    clear ad h10
    go_enter Tryz.func69,Tryz.ntmps69
    go_wp2_with (go_at_call 69;refine (HC.out _).mono ?_)
    rintro e w1' ⟨rfl,hb⟩
    have HB:Hid (Below w.heap.size w w1'):=hb
    clear hb
    have hcv1:=hcv w1'
    clear hcv
    go_wp2
    go_ret
    exact ⟨rfl,HB.out.alloc HB.out.size _⟩
  ·by_cases h10:n < 10
   ·have w1:IntKind.i64.wrap (48+n)=48+n:=by rw [IntKind.wrap_i64];omega
    have w2:IntKind.u8.wrap (48+n)=48+n:=by rw [IntKind.wrap_u8];omega
    have hcv:=cv_one w (48+n)
    have HE:Hid (T=[UInt8.ofNat (48+n).toNat]):=by show T=_;rw [HT.out,itoa_s3 n hneg h10]
    go_enter Tryz.func69,Tryz.ntmps69
    go_wp2
    go_ret
    refine ⟨?_,gb_below (gb_alloc (gb_refl w none) _)⟩
    rw [HE.out]
    rfl
   ·have hn10:10<=n:=by omega
    have w1:IntKind.i64.wrap (48+n % 10)=48+n % 10:=by rw [IntKind.wrap_i64];omega
    have w2:IntKind.u8.wrap (48+n % 10)=48+n % 10:=by rw [IntKind.wrap_u8];omega
    have HC:Hid (∀w:World,Calls Tryz.prog 69 #[.int .i64 (n / 10)] w fun e w'=>e=.returned (.string ⟨(Lib.itoa (n / 10)).toArray⟩)/\Below w.heap.size w w'):=IH.out (n / 10) (by have:=HM.out;omega) (by omega) (by omega)
    have hl:=itoa_len (n / 10) (by omega) (by omega)
    have HE:Hid (T=Lib.itoa (n / 10)++[UInt8.ofNat (48+n % 10).toNat]):=by show T=_;rw [HT.out,itoa_s4 n hn10]
    have ad:=fun wx=>add_str (Lib.itoa (n / 10)) [UInt8.ofNat (48+n % 10).toNat] wx (by simp;omega)
    have hcv:=fun w=>cv_one w (48+n % 10)
    rw [<-HE.out] at ad
    clear hl
    generalize Lib.itoa (n / 10)=T1 at HC ad HE
    generalize UInt8.ofNat (48+n % 10).toNat=d at ad hcv HE
    have ad':∀wx,(Op.stringOp .add ⟨T1.toArray⟩ ⟨#[d]⟩).run Tryz.prog wx=.ok (.string ⟨T.toArray⟩) wx:=ad
    clear ad h10
    go_enter Tryz.func69,Tryz.ntmps69
    go_wp2_with (go_at_call 69;refine (HC.out _).mono ?_)
    rintro e w1' rfl hb
    have HB:Hid (Below w.heap.size w w1'):=hb
    clear hb
    have hcv1:=hcv w1'
    clear hcv
    go_wp2
    go_ret
    exact ⟨rfl,HB.out.alloc HB.out.size _⟩
theorem decimal_any (n:Int) (w:World) (h0:-9223372036854775808<=n) (h1:n<=9223372036854775807) :
  Calls Tryz.prog 69 #[.int .i64 n] w fun e w'=>e=.returned (.string ⟨(Lib.itoa n).toArray⟩)/\Below w.heap.size w w':=decimal_at _ n rfl h0 h1 w
end Go.Proofs.YtbgnflcebafjjaaGreatDoor
