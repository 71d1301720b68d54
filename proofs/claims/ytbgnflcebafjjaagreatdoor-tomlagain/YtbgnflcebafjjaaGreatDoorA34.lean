import Derived.Test.YtbgnflcebafjjaaGreatDoorA33
import Derived.Deep.OwnRows
import Derived.Deep.DeepCutAuto
import Derived.Deep.RegionHeld3
import Derived.Test.YtbgnflcebafjjaaGreatDoorA30
namespace Go.Proofs.YtbgnflcebafjjaaGreatDoor
open Go.RowKit Go.Maps Go.WideMaps Go.Joins Go.Shelf
set_option linter.unusedVariables false
theorem upc_succ (ns:List Tn) (i c:Nat):upc ns (i+1) c=upc ns i c+(ksAt ns i).count c:=by
 unfold upc
 rw [List.range_succ,List.flatMap_append,List.count_append]
 simp
theorem upc_le {n S:Nat} {ns:List Tn} {own:List Nat} (W:WF ns own) (hl:ns.length<=900000) (c:Nat):∀i,upc ns i c<=i * 1000000
 | 0=>by simp [upc]
 | i+1=>by
  rw [upc_succ]
  have:=upc_le (n:=n) (S:=S) W hl c i
  have h1:(ksAt ns i).count c<=(ksAt ns i).length:=List.count_le_length
  have:=W.len i
  omega
def iV (u:Nat->Nat) (n:Nat):Array Value:=((List.range n).map fun c=>(.int .i64 (u c:Nat):Value)).toArray
def NB (w:World) (B:Nat) (u:Nat->Nat) (n:Nat):Prop:=w.heap[B]?=some (.cells (iV u n) 3 (0,0))
theorem iV_eq {u v:Nat->Nat} {n:Nat} (h:∀c,c < n->u c=v c):iV u n=iV v n:=by
 unfold iV
 congr 1
 refine List.map_congr_left fun c hc=>?_
 rw [h c (List.mem_range.1 hc)]
theorem NB.eq {w:World} {B n:Nat} {u v:Nat->Nat} (h:NB w B u n) (e:∀c,c < n->u c=v c):NB w B v n:=by
 unfold NB at *
 rw [<-iV_eq e]
 exact h
theorem NB.cell {w:World} {B n:Nat} {u:Nat->Nat} (h:NB w B u n) (c:Nat) (hc:c < n):w.cell? ⟨B,c,none⟩=some (.int .i64 (u c:Nat))/\w.frozen? ⟨B,c,none⟩=false:=by
 refine ⟨?_,Lib.frozen_of_heap h c⟩
 rw [Lib.cell_of_heap h]
 unfold iV
 simp [hc]
theorem NB.set {w:World} {B n:Nat} {u:Nat->Nat} (h:NB w B u n) (c x:Nat):NB (w.setCell ⟨B,c,none⟩ (.int .i64 (x:Nat))) B (fun d=>if d=c then x else u d) n:=by
 have:=block_setCell (i:=c) h (.int .i64 (x:Nat))
 unfold NB
 rw [this]
 congr 2
 unfold iV
 apply Array.ext'
 rw [Array.toList_setIfInBounds]
 show List.set ((List.range n).map fun c=>(.int .i64 (u c:Nat):Value)) c _=(List.range n).map fun d=>(.int .i64 ((if d=c then x else u d:Nat):Int):Value)
 apply List.ext_getElem?
 intro d
 by_cases hd:d < n
 ·by_cases e:d=c
  ·subst e
   rw [List.getElem?_set_self (by simpa using hd)]
   simp [hd]
  ·rw [List.getElem?_set_ne (fun e2=>e e2.symm)]
   simp [hd,e]
 ·rw [List.getElem?_eq_none (by simp;omega),List.getElem?_eq_none (by simp;omega)]
theorem gb_setN {w W:World} {q:Nat} (h:w.grownBy W none) (hq:w.heap.size<=q) (o:Nat) (v:Value):w.grownBy (W.setCell ⟨q,o,none⟩ v) none :=
 ⟨h.os,h.tape,h.output,by simpa [World.setCell] using h.size,fun k hk hn=>(heap_setCell_other W _ k _ (by show ¬ k=q;omega)).trans (h.block k hk hn)⟩
theorem made_int (n:Nat):madeCells #[.int .i64 0] n=iV (fun _=>0) n:=by
 unfold madeCells iV
 apply Array.ext'
 simp
 intro a ha
 simp [Nat.mod_one]
set_option maxRecDepth 100000 in
set_option maxHeartbeats 6400000 in
theorem lGrown {w0:World} {N c:Nat} {ns:List Tn} {own:List Nat} {n S:Nat} (hv:Nv w0 (.slice (some ⟨N,0,none⟩) ns.length c) N c ns) (T:Tv n ns S) (W:WF ns own) (hlen:ns.length<=900000) (w:World) (hg:w0.grownBy w none) :
  Calls Tryz.prog 13 #[.slice (some ⟨N,0,none⟩) ns.length c] w fun e w'=>e=.returned (.bool true)/\w.grownBy w' none:=by
 have hL0:=T.root.1
 have HV:Hid (Nv w (.slice (some ⟨N,0,none⟩) ns.length c) N c ns):=hv.grow hg
 have HKC:Hid (∀i,i < ns.length->∃o ck,w.cell? ⟨N,i * 6+4,none⟩=some (.slice o (ksAt ns i).length ck)/\∀j (hj:j < (ksAt ns i).length),∃g,o=some ⟨g,0,none⟩/\w.cell? ⟨g,j,none⟩=some (.int .i64 ((ksAt ns i)[j]:Nat))):=fun i hi=>by
  obtain ⟨k,-,-,-,-,c4,-,o,ck,hk,hkc⟩:=HV.out.cel i hi
  rw [hk] at c4
  rw [ksAt_in hi]
  exact ⟨o,ck,c4,hkc⟩
 have HKL:Hid (∀i,(ksAt ns i).length<=1000000):=fun i=>by have:=W.len i;show _<=_;omega
 have HGT:Hid (∀i q,q ∈ ksAt ns i->i < q/\q < ns.length):=fun i q hq=>⟨T.gt _ _ hq,T.lt _ _ hq⟩
 have HUL:Hid (∀c i,upc ns i c<=i * 1000000):=fun c i=>upc_le (n:=n) (S:=S) W hlen c i
 have HUA:Hid (∀c,c < ns.length->upc ns ns.length c=if c=0 then 0 else 1):=fun c hc=>upc_all T W c hc
 obtain ⟨B,hB⟩:∃B,w.heap.size=B:=⟨_,rfl⟩
 obtain ⟨L,hL⟩:∃L,ns.length=L:=⟨_,rfl⟩
 rw [hL] at HKC HGT HUA hlen hL0 ⊢
 have hmk:=run_make_row' (P:=Tryz.prog) 31 3 (.int .i64 0) 8 Tryz.underlying31 infoInt rfl .i64 .i64 L (by omega) (by omega) w
 rw [made_int,hB] at hmk
 have hn1:=heap_alloc_new w (.cells (iV (fun _=>0) L) 3)
 have hg1:w.grownBy (w.alloc (.cells (iV (fun _=>0) L) 3)) none:=World.grownBy_alloc _ _ none
 obtain ⟨w1,hw1⟩:∃W,w.alloc (.cells (iV (fun _=>0) L) 3)=W:=⟨_,rfl⟩
 rw [hw1] at hmk hn1 hg1
 rw [hB] at hn1
 have HN1:Hid (NB w1 B (upc ns 0) L):=NB.eq (u:=fun _=>0) hn1 (fun c _=>by simp [upc])
 have HG1:Hid (w.grownBy w1 none):=hg1
 have HBE:Hid (w.heap.size=B):=hB
 have hLI:(0:Int) < (L:Int):=by omega
 have hLz:((L:Int) == 0)=false:=by rw [beq_eq_false_iff_ne];omega
 clear hv hg T W hL hw1 hn1 hg1 hB
 go_enter Tryz.func13,Tryz.ntmps13
 go_wp2
 go_loopw [4] (fun v4 wr=>∃i:Nat,v4=.int .i64 (i:Nat)/\i<=L/\NB wr B (upc ns i) L/\w.grownBy wr none) (fun v4 _=>L - (intOf v4).toNat)
 case atStart=>exact ⟨0,rfl,Nat.zero_le _,HN1.out,HG1.out⟩
 case round =>
  obtain ⟨i,rfl,hi,hnb,hgr⟩:=hrel
  have HNB:Hid (NB wr B (upc ns i) L):=hnb
  have HGR:Hid (w.grownBy wr none):=hgr
  clear hnb hgr
  by_cases hlt:i < L
  ·have hI:(i:Int) < (L:Int):=by omega
   obtain ⟨o,ck,c4,hkc⟩:=HKC.out i hlt
   have hkl:=HKL.out i
   have HUS:Hid (∀c,upc ns (i+1) c=upc ns i c+(ksAt ns i).count c):=upc_succ ns i
   have HGI:Hid (∀q ∈ ksAt ns i,i < q/\q < L):=HGT.out i
   obtain ⟨K,hK⟩:∃K,ksAt ns i=K:=⟨_,rfl⟩
   have HUB:Hid (∀c,upc ns i c<=1000000000000):=fun c=>by have:=HUL.out c i;show _<=_;omega
   have HC4:Hid (w.cell? ⟨N,i * 6+4,none⟩=some (.slice o K.length ck)):=by rw [<-hK];exact c4
   have HKK:Hid (∀j (hj:j < K.length),∃g,o=some ⟨g,0,none⟩/\w.cell? ⟨g,j,none⟩=some (.int .i64 (K[j]:Nat))):=by subst hK;exact hkc
   rw [hK] at hkl HUS HGI
   clear c4 hkc hK
   obtain ⟨m,hm⟩:∃m,K.length=m:=⟨_,rfl⟩
   have HM:Hid (K.length=m):=hm
   rw [hm] at HC4 hkl
   clear hm
   go_wp2
   go_loopw [5] (fun v5 wk=>∃k:Nat,v5=.int .i64 (k:Nat)/\k<=m/\NB wk B (fun c=>upc ns i c+(K.take k).count c) L/\w.grownBy wk none) (fun v5 _=>m - (intOf v5).toNat)
   case atStart=>exact ⟨0,rfl,Nat.zero_le _,NB.eq HNB.out (fun c _=>by simp),HGR.out⟩
   case round =>
    obtain ⟨k,rfl,hk,hnk,hgk⟩:=hrel
    have HNK:Hid (NB wr B (fun c=>upc ns i c+(K.take k).count c) L):=hnk
    have HGK:Hid (w.grownBy wr none):=hgk
    have c4:=hgk.cell HC4.out (by simp)
    clear hnk hgk
    by_cases hkt:k < m
    ·have hkl2:k < K.length:=by rw [HM.out];exact hkt
     have hKI:(k:Int) < (m:Int):=by omega
     obtain ⟨g,rfl,dk⟩:=HKK.out k hkl2
     obtain ⟨q,hq⟩:∃q,K[k]=q:=⟨_,rfl⟩
     rw [hq] at dk
     have dk2:=HGK.out.cell dk (by simp)
     obtain ⟨hq1,hq2⟩:=HGI.out q (by rw [<-hq];exact List.getElem_mem hkl2)
     obtain ⟨e1,e2⟩:=HNK.out.cell q hq2
     have hub:upc ns i q+(K.take k).count q<=2000000000000:=by
      have h1:=HUB.out q
      have h2:(K.take k).count q<=(K.take k).length:=List.count_le_length
      rw [List.length_take] at h2
      omega
     have HCT:Hid (∀d,(K.take (k+1)).count d=(K.take k).count d+(if q=d then 1 else 0)):=fun d=>by
      rw [List.take_succ_eq_append_getElem hkl2,List.count_append,hq,List.count_singleton]
      simp only [beq_iff_eq]
     obtain ⟨x,hx⟩:∃x,upc ns i q+(K.take k).count q=x:=⟨_,rfl⟩
     have HX:Hid (upc ns i q+(K.take k).count q=x):=hx
     rw [hx] at e1 hub
     have HNX:=HNK.out.set q (x+1)
     have HN2:Hid (NB (wr.setCell ⟨B,q,none⟩ (.int .i64 ((x+1:Nat):Int))) B (fun c=>upc ns i c+(K.take (k+1)).count c) L):=HNX.eq (fun d hd=>by
      rw [HCT.out d]
      by_cases e:d=q
      ·subst e
       rw [if_pos rfl,if_pos rfl,<-HX.out]
       omega
      ·rw [if_neg e,if_neg (fun e2=>e e2.symm),Nat.add_zero])
     have hqI1:¬ (q:Int)<=(i:Int):=by omega
     have hqI2:(q:Int) < (L:Int):=by omega
     have hqI3:¬ (L:Int)<=(q:Int):=by omega
     have ec:((x+1:Nat):Int)=(x:Int)+1:=by omega
     rw [ec] at HN2
     clear hq dk hx HNX ec
     go_wp2
     go_roundw
     case rel=>exact ⟨k+1,by go_num,by omega,HN2.out,gb_setN HGK.out (by rw [HBE.out];exact Nat.le_refl _) _ _⟩
     case measure=>simp [intOf];omega
    ·have hKI:¬ (k:Int) < (m:Int):=by omega
     have HN2:Hid (NB wr B (upc ns (i+1)) L):=HNK.out.eq (fun d hd=>by
      rw [HUS.out d,List.take_of_length_le (by rw [HM.out];omega)])
     go_wp2
     go_roundw
     case rel=>exact ⟨i+1,by go_num,by omega,HN2.out,HGK.out⟩
     case measure=>simp [intOf];omega
  ·have hI:¬ (i:Int) < (L:Int):=by omega
   have hiL:i=L:=by omega
   have HN3:Hid (NB wr B (fun c=>if c=0 then 0 else 1) L):=HNB.out.eq (fun c hc=>by rw [hiL];exact HUA.out c hc)
   clear HNB
   go_wp2
   go_loopw [7] (fun v7 wk=>∃k:Nat,v7=.int .i64 (k:Nat)/\k<=L/\wk=wr) (fun v7 _=>L - (intOf v7).toNat)
   case atStart=>exact ⟨0,rfl,Nat.zero_le _,rfl⟩
   case round =>
    obtain ⟨k,rfl,hk,rfl⟩:=hrel
    by_cases hkt:k < L
    ·have hKI:(k:Int) < (L:Int):=by omega
     obtain ⟨e1,-⟩:=HN3.out.cell k hkt
     by_cases h0:k=0
     ·subst h0
      first | rw [if_pos rfl] at e1 | rw [if_pos trivial] at e1
      go_wp2
      go_roundw
      case rel=>exact ⟨0+1,by go_num,by omega,trivial⟩
      case measure=>simp [intOf];omega
     ·rw [if_neg h0] at e1
      go_wp2
      go_roundw
      case rel=>exact ⟨k+1,by go_num,by omega,trivial⟩
      case measure=>simp [intOf];omega
    ·have hKI:¬ (k:Int) < (L:Int):=by omega
     obtain ⟨e1,-⟩:=HN3.out.cell 0 hL0
     first | rw [if_pos rfl] at e1 | rw [if_pos trivial] at e1
     go_wp2
     go_ret
     exact ⟨rfl,HGR.out⟩
theorem al_at {n S:Nat} {ns a:List Tn} (T:Tv n ns S) {q q':Nat} {x y:Tn} (h1:ns[q]?=some x) (h2:a[q']?=some y) (h8:y.ks.length=(dord ns q).length) (h9:∀(i u v:Nat),(dord ns q)[i]?=some u->y.ks[i]?=some v->Al ns a u v) (i:Nat) (hi:i < x.ks.length) :
  y.ks.length=x.ks.length/\∃j,∃hj:j < y.ks.length,(dord ns q)[j]?=some x.ks[i]/\(¬ x.kd=0->j=i)/\(x.kd=0->∀k (hk:k < y.ks.length),k < j->kyAt a y.ks[k] ≠ kyAt ns x.ks[i]):=by
 have hk:ksAt ns q=x.ks:=by unfold ksAt;rw [h1]
 have hd:kdAt ns q=x.kd:=by unfold kdAt;rw [h1]
 have hp:(dord ns q).Perm (ksAt ns q):=by
  by_cases h0:kdAt ns q=0
  ·exact dord_perm h0
  ·unfold dord;rw [if_neg h0]
 have hl:=hp.length_eq
 rw [hk] at hl hp
 refine ⟨by omega,?_⟩
 by_cases h0:x.kd=0
 ·obtain ⟨j,hj⟩:=List.mem_iff_getElem?.1 (hp.symm.subset (List.getElem_mem hi))
  have hjl:j < (dord ns q).length:=(List.getElem?_eq_some_iff.1 hj).1
  refine ⟨j,by omega,hj,fun h=>absurd h0 h,fun _ k hk hkj=>?_⟩
  have hkl:k < (dord ns q).length:=by omega
  have e1:=(h9 k _ _ (List.getElem?_eq_getElem hkl) (List.getElem?_eq_getElem hk)).ky.1
  have hpw:=dord_keys (hd.trans h0) (T.kdd q (hd.trans h0))
  rw [List.pairwise_iff_getElem] at hpw
  have:=hpw k j hkl hjl hkj
  have e2:(dord ns q)[j]=x.ks[i]:=(List.getElem?_eq_some_iff.1 hj).2
  rw [e1]
  rw [e2] at this
  exact this
 ·have hd2:dord ns q=x.ks:=by unfold dord;rw [if_neg (by rw [hd];exact h0),hk]
  exact ⟨i,by omega,by rw [hd2];exact List.getElem?_eq_getElem hi,fun _=>rfl,fun h=>absurd h h0⟩
theorem beq_ne {a b:List UInt8} (h:a ≠ b):((⟨a.toArray⟩:ByteArray).toList == (⟨b.toArray⟩:ByteArray).toList)=false:=by
 rw [ByteArray.toList_eq,ByteArray.toList_eq]
 simpa using h
set_option maxRecDepth 100000 in
set_option maxHeartbeats 6400000 in
theorem lAlike {w0:World} {N c N' c':Nat} {ns a:List Tn} {own own':List Nat} {n S n' S':Nat} (hv:Nv w0 (.slice (some ⟨N,0,none⟩) ns.length c) N c ns) (hv':Nv w0 (.slice (some ⟨N',0,none⟩) a.length c') N' c' a) (T:Tv n ns S) (T':Tv n' a S') (W:WF ns own) (hlen:ns.length<=900000) (hlen':a.length<=900000) {q q':Nat} (h:Al ns a q q') :
  ∀w,w0.grownBy w none->Calls Tryz.prog 14 #[.slice (some ⟨N,0,none⟩) ns.length c,.int .i64 (q:Nat),.slice (some ⟨N',0,none⟩) a.length c',.int .i64 (q':Nat)] w fun e w'=>e=.returned (.bool true)/\w.grownBy w' none:=by
 induction h with
 | mk q q' x y h1 h2 h3 h4 h5 h6 h7 h8 h9 ih =>
  intro w hg
  have hq:=get_lt h1
  have hq':=get_lt h2
  have ex:ns[q]=x:=by rw [List.getElem?_eq_getElem hq] at h1;injection h1
  have ey:a[q']=y:=by rw [List.getElem?_eq_getElem hq'] at h2;injection h2
  obtain ⟨kv,c0,c1,c2,c3,c4,c5,hk⟩:=(hv.grow hg).cel q hq
  obtain ⟨lv,f0,f1,f2,f3,f4,f5,hl⟩:=(hv'.grow hg).cel q' hq'
  rw [ex] at c0 c1 c2 c3 c5 hk
  rw [ey] at f0 f1 f2 f3 f5 hl
  rw [h3] at f0
  rw [h4] at f1
  rw [h5] at f2
  rw [h6] at f3
  have hkm:∀m ∈ x.ks,m < ns.length:=fun m hm=>T.lt q m (by unfold ksAt;rw [h1];exact hm)
  have hlm:∀m ∈ y.ks,m < a.length:=fun m hm=>T'.lt q' m (by unfold ksAt;rw [h2];exact hm)
  have HAT:Hid (∀i (hi:i < x.ks.length),∃j,∃hj:j < y.ks.length,(∀w,w0.grownBy w none->Calls Tryz.prog 14 #[.slice (some ⟨N,0,none⟩) ns.length c,.int .i64 (x.ks[i]:Nat),.slice (some ⟨N',0,none⟩) a.length c',.int .i64 (y.ks[j]:Nat)] w fun e w'=>e=.returned (.bool true)/\w.grownBy w' none)/\kyAt a y.ks[j]=kyAt ns x.ks[i]/\(¬ x.kd=0->j=i)/\(x.kd=0->∀k (hk:k < y.ks.length),k < j->kyAt a y.ks[k] ≠ kyAt ns x.ks[i])):=fun i hi=>by
   obtain ⟨-,j,hj,hd,e1,e2⟩:=al_at T h1 h2 h8 h9 i hi
   exact ⟨j,hj,ih j _ _ hd (List.getElem?_eq_getElem hj),(h9 j _ _ hd (List.getElem?_eq_getElem hj)).ky.1,e1,e2⟩
  have hlen2:y.ks.length=x.ks.length:=by
   have hp:(dord ns q).length=(ksAt ns q).length:=by
    by_cases h0:kdAt ns q=0
    ·exact (dord_perm h0).length_eq
    ·unfold dord;rw [if_neg h0]
   rw [h8,hp]
   unfold ksAt
   rw [h1]
  have hkl:x.ks.length<=1000000:=by
   have:=W.len q
   unfold ksAt at this
   rw [h1] at this
   simp only [] at this
   omega
  obtain ⟨ok,ck,hkv,hkc⟩:=hk
  obtain ⟨ol,cl,hlv,hlc⟩:=hl
  rw [hkv] at c4
  rw [hlv,hlen2] at f4
  have HKC:Hid (∀i (hi:i < x.ks.length),∃g,ok=some ⟨g,0,none⟩/\w.cell? ⟨g,i,none⟩=some (.int .i64 (x.ks[i]:Nat))):=hkc
  have HLC:Hid (∀i (hi:i < y.ks.length),∃g,ol=some ⟨g,0,none⟩/\w.cell? ⟨g,i,none⟩=some (.int .i64 (y.ks[i]:Nat))):=hlc
  have HKY:Hid (∀m,m < ns.length->w.cell? ⟨N,m * 6+1,none⟩=some (.string ⟨(kyAt ns m).toArray⟩)):=fun m hm=>by
   obtain ⟨_,-,d1,-⟩:=(hv.grow hg).cel m hm
   rw [kyAt_in hm]
   exact d1
  have HLY:Hid (∀m,m < a.length->w.cell? ⟨N',m * 6+1,none⟩=some (.string ⟨(kyAt a m).toArray⟩)):=fun m hm=>by
   obtain ⟨_,-,d1,-⟩:=(hv'.grow hg).cel m hm
   rw [kyAt_in hm]
   exact d1
  have HKM:Hid (∀m ∈ x.ks,m < ns.length):=hkm
  have HLM:Hid (∀m ∈ y.ks,m < a.length):=hlm
  have HG0:Hid (w0.grownBy w none):=hg
  obtain ⟨KS,hKS⟩:∃K,x.ks=K:=⟨_,rfl⟩
  obtain ⟨LS,hLS⟩:∃K,y.ks=K:=⟨_,rfl⟩
  rw [hKS] at hkl hlen2 c4 f4
  rw [hLS] at hlen2
  have HAT1:Hid (∀i (hi:i < KS.length),∃j,∃hj:j < LS.length,(∀w,w0.grownBy w none->Calls Tryz.prog 14 #[.slice (some ⟨N,0,none⟩) ns.length c,.int .i64 (KS[i]:Nat),.slice (some ⟨N',0,none⟩) a.length c',.int .i64 (LS[j]:Nat)] w fun e w'=>e=.returned (.bool true)/\w.grownBy w' none)/\kyAt a LS[j]=kyAt ns KS[i]/\(¬ x.kd=0->j=i)/\(x.kd=0->∀k (hk:k < LS.length),k < j->kyAt a LS[k] ≠ kyAt ns KS[i])):=by subst hKS hLS;exact HAT.out
  have HKC1:Hid (∀i (hi:i < KS.length),∃g,ok=some ⟨g,0,none⟩/\w.cell? ⟨g,i,none⟩=some (.int .i64 (KS[i]:Nat))):=by subst hKS;exact HKC.out
  have HLC1:Hid (∀i (hi:i < LS.length),∃g,ol=some ⟨g,0,none⟩/\w.cell? ⟨g,i,none⟩=some (.int .i64 (LS[i]:Nat))):=by subst hLS;exact HLC.out
  rw [hKS] at HKM
  rw [hLS] at HLM
  obtain ⟨m,hm⟩:∃m,KS.length=m:=⟨_,rfl⟩
  have HM:Hid (KS.length=m/\LS.length=m):=⟨hm,hlen2.trans hm⟩
  rw [hm] at c4 f4 hkl
  obtain ⟨kd,hkd⟩:∃k,x.kd=k:=⟨_,rfl⟩
  rw [hkd] at c0 f0 HAT1
  obtain ⟨L,hL⟩:∃L,ns.length=L:=⟨_,rfl⟩
  obtain ⟨L',hL'⟩:∃L,a.length=L:=⟨_,rfl⟩
  rw [hL] at HAT1 HKY HKM hq hlen ⊢
  rw [hL'] at HAT1 HLY HLM hq' hlen' ⊢
  have hqI:(q:Int) < (L:Int):=by omega
  have hqI':(q':Int) < (L':Int):=by omega
  obtain ⟨SK,hSK⟩:∃B:ByteArray,⟨x.ky.toArray⟩=B:=⟨_,rfl⟩
  obtain ⟨ST,hST⟩:∃B:ByteArray,⟨x.tx.toArray⟩=B:=⟨_,rfl⟩
  obtain ⟨NU,hNU⟩:∃B:Int,x.nu=B:=⟨_,rfl⟩
  rw [hSK] at c1 f1
  rw [hST] at c2 f2
  rw [hNU] at c3 f3
  obtain ⟨p1,hp1⟩:∃p:Int,(x.pl:Int)=p:=⟨_,rfl⟩
  obtain ⟨p2,hp2⟩:∃p:Int,(y.pl:Int)=p:=⟨_,rfl⟩
  rw [hp1] at c5
  rw [hp2] at f5
  -- the two copies
  have hgA:w.grownBy (w.alloc (.cells #[.int .i64 kd,.string SK,.string ST,.int .i64 NU,.slice ok m ck,.int .i64 p1] 33)) none:=World.grownBy_alloc _ _ none
  have hbx:=heap_alloc_new w (.cells #[.int .i64 kd,.string SK,.string ST,.int .i64 NU,.slice ok m ck,.int .i64 p1] 33)
  obtain ⟨w1,hw1⟩:∃W,w.alloc (.cells #[.int .i64 kd,.string SK,.string ST,.int .i64 NU,.slice ok m ck,.int .i64 p1] 33)=W:=⟨_,rfl⟩
  obtain ⟨bx,hbxe⟩:∃b,w.heap.size=b:=⟨_,rfl⟩
  rw [hw1] at hgA hbx
  rw [hbxe] at hbx
  have HW1:Hid (w.alloc (.cells #[.int .i64 kd,.string SK,.string ST,.int .i64 NU,.slice ok m ck,.int .i64 p1] 33)=w1):=hw1
  have HBX:Hid (w.heap.size=bx):=hbxe
  have g0:=hgA.cell f0 (by simp)
  have g1:=hgA.cell f1 (by simp)
  have g2:=hgA.cell f2 (by simp)
  have g3:=hgA.cell f3 (by simp)
  have g4:=hgA.cell f4 (by simp)
  have g5:=hgA.cell f5 (by simp)
  have hgB:w1.grownBy (w1.alloc (.cells #[.int .i64 kd,.string SK,.string ST,.int .i64 NU,.slice ol m cl,.int .i64 p2] 33)) none:=World.grownBy_alloc _ _ none
  have hby:=heap_alloc_new w1 (.cells #[.int .i64 kd,.string SK,.string ST,.int .i64 NU,.slice ol m cl,.int .i64 p2] 33)
  obtain ⟨w2,hw2⟩:∃W,w1.alloc (.cells #[.int .i64 kd,.string SK,.string ST,.int .i64 NU,.slice ol m cl,.int .i64 p2] 33)=W:=⟨_,rfl⟩
  obtain ⟨bz,hbze⟩:∃b,w1.heap.size=b:=⟨_,rfl⟩
  rw [hw2] at hgB hby
  rw [hbze] at hby
  have HW2:Hid (w1.alloc (.cells #[.int .i64 kd,.string SK,.string ST,.int .i64 NU,.slice ol m cl,.int .i64 p2] 33)=w2):=hw2
  have HBZ:Hid (w1.heap.size=bz):=hbze
  have hx2:=(hgB.block bx (blk_lt hbx) (by simp)).trans hbx
  have HX2:Hid (w2.heap[bx]?=some (.cells #[.int .i64 kd,.string SK,.string ST,.int .i64 NU,.slice ok m ck,.int .i64 p1] 33 (0,0))):=hx2
  have HZ2:Hid (w2.heap[bz]?=some (.cells #[.int .i64 kd,.string SK,.string ST,.int .i64 NU,.slice ol m cl,.int .i64 p2] 33 (0,0))):=hby
  have HGW:Hid (w.grownBy w2 none):=gb_trans hgA hgB
  have HG02:Hid (w0.grownBy w2 none):=gb_trans HG0.out HGW.out
  clear hv hv' T T' W h1 h2 h3 h4 h5 h6 h7 h8 h9 ih ex ey hkv hlv hkc hlc hkm hlm hg HAT HKC HLC hKS hLS hm hlen2 hkd hL hL' hSK hST hNU hp1 hp2 f0 f1 f2 f3 f4 f5 hw1 hw2 hbxe hbze hgA hgB hbx hby hx2
  go_enter Tryz.func14,Tryz.ntmps14
  go_upto_region 2 with fail
  rw [HW1.out,HBX.out]
  clear c0 c1 c2 c3 c4 c5
  go_upto_region 3 with fail
  rw [HW2.out,HBZ.out]
  clear g0 g1 g2 g3 g4 g5
  have b0:w2.cell? ⟨bx,0,none⟩=some (.int .i64 kd):=by rw [Lib.cell_of_heap HX2.out];rfl
  have b1:w2.cell? ⟨bx,1,none⟩=some (.string SK):=by rw [Lib.cell_of_heap HX2.out];rfl
  have b2:w2.cell? ⟨bx,2,none⟩=some (.string ST):=by rw [Lib.cell_of_heap HX2.out];rfl
  have b3:w2.cell? ⟨bx,3,none⟩=some (.int .i64 NU):=by rw [Lib.cell_of_heap HX2.out];rfl
  have b4:w2.cell? ⟨bx,4,none⟩=some (.slice ok m ck):=by rw [Lib.cell_of_heap HX2.out];rfl
  have d0:w2.cell? ⟨bz,0,none⟩=some (.int .i64 kd):=by rw [Lib.cell_of_heap HZ2.out];rfl
  have d1:w2.cell? ⟨bz,1,none⟩=some (.string SK):=by rw [Lib.cell_of_heap HZ2.out];rfl
  have d2:w2.cell? ⟨bz,2,none⟩=some (.string ST):=by rw [Lib.cell_of_heap HZ2.out];rfl
  have d3:w2.cell? ⟨bz,3,none⟩=some (.int .i64 NU):=by rw [Lib.cell_of_heap HZ2.out];rfl
  have d4:w2.cell? ⟨bz,4,none⟩=some (.slice ol m cl):=by rw [Lib.cell_of_heap HZ2.out];rfl
  have n1:(kd != kd)=false:=by simp
  have n2:(NU != NU)=false:=by simp
  have n3:((m:Int) != (m:Int))=false:=by simp
  have B4:Hid (w2.cell? ⟨bx,4,none⟩=some (.slice ok m ck)):=b4
  have B0:Hid (w2.cell? ⟨bx,0,none⟩=some (.int .i64 kd)):=b0
  have D4:Hid (w2.cell? ⟨bz,4,none⟩=some (.slice ol m cl)):=d4
  go_wp2
  go_loopw [11] (fun v11 wr=>∃i:Nat,v11=.int .i64 (i:Nat)/\i<=m/\w2.grownBy wr none) (fun v11 _=>m - (intOf v11).toNat)
  case atStart=>exact ⟨0,rfl,Nat.zero_le _,gb_refl _ _⟩
  case round =>
   obtain ⟨i,rfl,hi,hgr⟩:=hrel
   have HGR:Hid (w2.grownBy wr none):=hgr
   have e4:=hgr.cell B4.out (by simp)
   clear hgr b0 b1 b2 b3 b4 d0 d1 d2 d3 d4
   by_cases hlt:i < m
   ·have hI:(i:Int) < (m:Int):=by omega
    have hil:i < KS.length:=by rw [HM.out.1];exact hlt
    obtain ⟨j,hj,CA,ky,j1,j2⟩:=HAT1.out i hil
    have hjm:j < m:=by rw [<-HM.out.2];exact hj
    obtain ⟨gk,rfl,kc⟩:=HKC1.out i hil
    obtain ⟨gl,rfl,lc⟩:=HLC1.out j hj
    have HLC2:Hid (∀k (hk:k < LS.length),w.cell? ⟨gl,k,none⟩=some (.int .i64 (LS[k]:Nat))):=fun k hk=>by
     obtain ⟨g,hg,hc⟩:=HLC1.out k hk
     injection hg with hg
     injection hg with hg
     subst hg
     exact hc
    have hK1:=HKM.out _ (List.getElem_mem hil)
    have ky1:=HKY.out _ hK1
    obtain ⟨u,hu⟩:∃u,KS[i]=u:=⟨_,rfl⟩
    obtain ⟨v,hv⟩:∃v,LS[j]=v:=⟨_,rfl⟩
    rw [hu] at kc hK1 ky1 CA ky j2
    rw [hv] at lc CA ky
    have hv1:v < L':=HLM.out v (by rw [<-hv];exact List.getElem_mem hj)
    have lj1:=HLY.out v hv1
    rw [ky] at lj1
    have HKI:Hid (w.cell? ⟨gk,i,none⟩=some (.int .i64 (u:Nat))):=kc
    have HLJ:Hid (w.cell? ⟨gl,j,none⟩=some (.int .i64 (v:Nat))):=lc
    have HKU:Hid (w.cell? ⟨N,u * 6+1,none⟩=some (.string ⟨(kyAt ns u).toArray⟩)):=ky1
    have HLV:Hid (w.cell? ⟨N',v * 6+1,none⟩=some (.string ⟨(kyAt ns u).toArray⟩)):=lj1
    have HLE:Hid (∀k (hk:k < LS.length),LS[k] < L'/\w.cell? ⟨N',LS[k] * 6+1,none⟩=some (.string ⟨(kyAt a LS[k]).toArray⟩)):=fun k hk=>by
     have h1:=HLM.out _ (List.getElem_mem hk)
     exact ⟨h1,HLY.out _ h1⟩
    have HCA:Hid (∀w,w0.grownBy w none->Calls Tryz.prog 14 #[.slice (some ⟨N,0,none⟩) L c,.int .i64 (u:Nat),.slice (some ⟨N',0,none⟩) L' c',.int .i64 (v:Nat)] w fun e w'=>e=.returned (.bool true)/\w.grownBy w' none):=CA
    have HJ1:Hid (¬ kd=0->j=i):=j1
    have HJ2:Hid (kd=0->∀k (hk:k < LS.length),k < j->kyAt a LS[k] ≠ kyAt ns u):=j2
    have huI:(u:Int) < (L:Int):=by omega
    have hvI:(v:Int) < (L':Int):=by omega
    have HGWR:Hid (w.grownBy wr none):=gb_trans HGW.out HGR.out
    clear kc lc CA ky j1 j2 hu hv ky1 lj1
    have e0:=HGR.out.cell B0.out (by simp)
    go_upto_if 67 with fail
    go_cut [12] (fun v12 wx=>v12=.int .i64 (j:Nat)/\w2.grownBy wx none)
    case first =>
     by_cases h0:kd=0
     ·have hb0:(kd == 0)=true:=by simpa using h0
      have HJ3:Hid (∀k (hk:k < LS.length),k < j->kyAt a LS[k] ≠ kyAt ns u):=HJ2.out h0
      clear h0
      go_wp2
      go_loopw [12] (fun v12 wk=>∃k:Nat,v12=.int .i64 (k:Nat)/\k<=j/\w2.grownBy wk none) (fun v12 _=>j - (intOf v12).toNat)
      case atStart=>exact ⟨0,rfl,Nat.zero_le _,HGR.out⟩
      case round =>
       obtain ⟨k,rfl,hk,hgk⟩:=hrel
       have HGK:Hid (w2.grownBy wr none):=hgk
       have gw:w.grownBy wr none:=gb_trans HGW.out hgk
       have z4:=hgk.cell B4.out (by simp)
       have y4:=hgk.cell D4.out (by simp)
       have kk:=gw.cell HKI.out (by simp)
       have ku:=gw.cell HKU.out (by simp)
       have hkm2:k < LS.length:=by rw [HM.out.2];omega
       have lk:=gw.cell (HLC2.out k hkm2) (by simp)
       obtain ⟨hle1,hle2⟩:=HLE.out k hkm2
       have lu:=gw.cell hle2 (by simp)
       have hkI:(k:Int) < (m:Int):=by omega
       have hkD:decide ((k:Int) < (m:Int))=true:=decide_eq_true hkI
       clear hgk e4 e0
       by_cases hkj:k < j
       ·have hne:=beq_ne (HJ3.out k hkm2 hkj)
        obtain ⟨t,ht⟩:∃t,LS[k]=t:=⟨_,rfl⟩
        rw [ht] at lk lu hne hle1
        obtain ⟨Z1,hZ1⟩:∃B:ByteArray,⟨(kyAt a t).toArray⟩=B:=⟨_,rfl⟩
        obtain ⟨Z2,hZ2⟩:∃B:ByteArray,⟨(kyAt ns u).toArray⟩=B:=⟨_,rfl⟩
        rw [hZ1] at lu hne
        rw [hZ2] at ku hne
        have htI:(t:Int) < (L':Int):=by omega
        clear ht hZ1 hZ2 hle2 gw
        go_wp2
        go_quiet (fail)
        go_wp2
        go_roundw
        case rel=>exact ⟨k+1,by go_num,by omega,gb_drew HGK.out _⟩
        case measure=>simp [intOf];omega
       ·have hke:k=j:=by omega
        subst hke
        have lk2:=gw.cell HLJ.out (by simp)
        have lu2:=gw.cell HLV.out (by simp)
        obtain ⟨Z2,hZ2⟩:∃B:ByteArray,⟨(kyAt ns u).toArray⟩=B:=⟨_,rfl⟩
        rw [hZ2] at ku lu2
        have hee:(Z2.toList == Z2.toList)=true:=by simp
        clear lk lu hle1 hle2 hZ2 gw
        go_wp2
        go_quiet (fail)
        go_wp2
        go_meet
        exact ⟨rfl,gb_drew HGK.out _⟩
     ·have hb0:(kd == 0)=false:=by simpa using h0
      have HJI:Hid (j=i):=HJ1.out h0
      clear h0
      go_wp2
      go_meet
      exact ⟨by rw [HJI.out],HGR.out⟩
    case rest =>
     obtain ⟨rfl,hgc⟩:=hcut
     have HGC:Hid (w2.grownBy wc none):=hgc
     have gw:w.grownBy wc none:=gb_trans HGW.out hgc
     have z4:=hgc.cell B4.out (by simp)
     have y4:=hgc.cell D4.out (by simp)
     have kk:=gw.cell HKI.out (by simp)
     have lk:=gw.cell HLJ.out (by simp)
     have hjI:(j:Int) < (m:Int):=by omega
     have hjI2:¬ (m:Int)<=(j:Int):=by omega
     have CX:Hid (Calls Tryz.prog 14 #[.slice (some ⟨N,0,none⟩) L c,.int .i64 (u:Nat),.slice (some ⟨N',0,none⟩) L' c',.int .i64 (v:Nat)] wc.drew fun e w'=>e=.returned (.bool true)/\Hid (w2.grownBy w' none)/\w'.cell? ⟨bx,4,none⟩=some (.slice (some ⟨gk,0,none⟩) m ck)/\w'.cell? ⟨bz,4,none⟩=some (.slice (some ⟨gl,0,none⟩) m cl)/\w'.cell? ⟨gk,i,none⟩=some (.int .i64 (u:Nat))/\w'.cell? ⟨gl,j,none⟩=some (.int .i64 (v:Nat))):=(HCA.out wc.drew (gb_drew (gb_trans HG02.out hgc) 1)).mono fun e w' ⟨he,hg'⟩=>by
      have hgd:wc.grownBy w' none:=gb_trans (show wc.grownBy wc.drew none from ⟨rfl,rfl,rfl,Nat.le_refl _,fun _ _ _=>rfl⟩) hg'
      exact ⟨he,gb_trans HGC.out hgd,hgd.cell z4 (by simp),hgd.cell y4 (by simp),hgd.cell kk (by simp),hgd.cell lk (by simp)⟩
     clear e4 e0 hgc gw
     go_wp2
     go_region_held3 (fun u'=>u'.cell? ⟨bx,4,none⟩=some (.slice (some ⟨gk,0,none⟩) m ck)/\u'.cell? ⟨bz,4,none⟩=some (.slice (some ⟨gl,0,none⟩) m cl)/\u'.cell? ⟨gk,i,none⟩=some (.int .i64 (u:Nat))/\u'.cell? ⟨gl,j,none⟩=some (.int .i64 (v:Nat))) ((first | assumption | go_keep)) (first | (go_at_call 14;refine CX.out.mono ?_;rintro e w6 ⟨rfl,hg6,hc6⟩))
     go_wp2
     go_roundw
     case rel=>exact ⟨i+1,by go_num,by omega,hg6.out⟩
     case measure=>simp [intOf];omega
   ·have hI:¬ (i:Int) < (m:Int):=by omega
    go_wp2
    go_ret
    exact ⟨rfl,gb_trans HGW.out HGR.out⟩
set_option maxRecDepth 100000 in
set_option maxHeartbeats 6400000 in
theorem tomlAgainLaw (s:ByteArray) (E:Int->TypeId × Value) (b:Int->Addr) (w:World) (G:Gl w w.heap.size E) (S:Sn w E b) (TB:Tab w) (h0:0 < w.heap.size) (hs:s.size<=140737488351232) :
  Calls Tryz.prog 5 #[.string s] w fun e w'=>e=.returned (.bool true)/\w.grownBy w' none:=by
 have CP:Hid (∀(x:ByteArray) w',x.size < 2 ^ 62->w.grownBy w' none->Calls Tryz.prog 11 #[.string x] w' fun e w''=>e=.returned (.tuple #[.string ⟨(ft (rdToml x.data.toList)).toArray⟩,.int .i64 (fe (rdToml x.data.toList)),.int .i64 (fp (rdToml x.data.toList):Nat)])/\w'.grownBy w'' none):=fun x w' hx hg=>(tPrint_any x E b w' ((G.bel (gb_below hg)).up hg.size) (S.grow hg) (tab_grow TB hg) hx).mono fun e w'' h=>pn_val h
 have CA:Hid (∀(x:ByteArray) w',x.size < 2 ^ 62->w.grownBy w' none->Calls Tryz.prog 7 #[.string x] w' (PePost (rdToml x.data.toList) w')):=fun x w' hx hg=>tParse_any x E b w' ((G.bel (gb_below hg)).up hg.size) (S.grow hg) hx
 have CR:Hid (∀w',w.grownBy w' none->Calls Tryz.prog 8 #[.string s] w' fun e w''=>∃v q,e=.returned (.tuple #[v,.int .i64 (fe (rdToml s.data.toList)),q])/\w'.grownBy w'' none):=fun w' hg=>(dRead_any dHeader_any s w' (Nat.lt_of_lt_of_le h0 hg.size) (by omega)).mono fun e w'' h=>by
  obtain ⟨h1,h2,h3⟩:=h
  cases hX:rdToml s.data.toList with
  | ok ns =>
   obtain ⟨N2,c2,OV,xs2,ks2,own2,m2,rfl,hD2⟩:=h1 ns hX
   exact ⟨_,_,rfl,h3⟩
  | error e =>
   obtain ⟨c,p⟩:=e
   obtain rfl:=h2 c p hX
   exact ⟨_,_,rfl,h3⟩
 have CU:Hid (∀(w:World) (n:Int),Calls Tryz.prog 10 #[.int .i64 n] w fun e w'=>e=.returned (.int .i64 n)/\w=w'):=fun w n=>(lNum_any w n).mono fun e w' h=>⟨h.1,h.2.symm⟩
 have HER:Hid (∀c p,rdToml s.data.toList=.error (c,p)->(c=1/\p=0)\/(2<=c/\c<=5)):=er_toml _
 have HTM:Hid (∀x ns,rdToml x=.ok ns->(fmT ns).length<=70368744177664/\ns.length<=900000/\(∀w0 w' N c,Nv w0 (.slice (some ⟨N,0,none⟩) ns.length c) N c ns->w0.grownBy w' none->Calls Tryz.prog 13 #[.slice (some ⟨N,0,none⟩) ns.length c] w' fun e w''=>e=.returned (.bool true)/\w'.grownBy w'' none)):=fun x ns hx=>by
  obtain ⟨T,own,W,hn⟩:=toml_tv x ns hx
  have F:Ef ns own:=⟨W,T.gt,T.nod,T.kdd,T.two,T.root,fun i hi=>by have:=(T.txt ns[i] (List.getElem_mem hi)).1;omega⟩
  exact ⟨fmT_max F T hn,by omega,fun w0 w' N c h1 h2=>lGrown h1 T W (by omega) w' h2⟩
 have HAG:Hid (∀ns,rdToml s.data.toList=.ok ns->(fmT ns).length<=100000->∃ns',rdToml (fmT ns)=.ok ns'/\fmT ns'=fmT ns/\ns'.length=ns.length/\∀w0 w' N c N' c',Nv w0 (.slice (some ⟨N,0,none⟩) ns.length c) N c ns->Nv w0 (.slice (some ⟨N',0,none⟩) ns'.length c') N' c' ns'->w0.grownBy w' none->Calls Tryz.prog 14 #[.slice (some ⟨N,0,none⟩) ns.length c,.int .i64 0,.slice (some ⟨N',0,none⟩) ns'.length c',.int .i64 0] w' fun e w''=>e=.returned (.bool true)/\w'.grownBy w'' none):=fun ns hx hl=>by
  obtain ⟨ns',h1,h2,h3,h4⟩:=again_all _ ns hx hl
  obtain ⟨T,own,W,hn⟩:=toml_tv _ ns hx
  obtain ⟨T',own',W',hn'⟩:=toml_tv _ ns' h1
  exact ⟨ns',h1,h3,h4,fun w0 w' N c N' c' v1 v2 hg=>lAlike (own':=own') v1 v2 T T' W (by omega) (by omega) h2 w' hg⟩
 have HBG:Hid (∀x:List UInt8,100000 < x.length->rdToml x=.error (1,0)):=fun x hx=>by rw [rdToml_eq,if_pos hx]
 have CP1:=CP.out s w (by omega) (gb_refl _ _)
 have CA1:=fun w' hg=>CA.out s w' (by omega) hg
 obtain ⟨X,hX⟩:∃X,rdToml s.data.toList=X:=⟨_,rfl⟩
 rw [hX] at CP1 CR HER HAG
 have CA2:Hid (∀w',w.grownBy w' none->Calls Tryz.prog 7 #[.string s] w' (PePost X w')):=fun w' hg=>by
  have:=CA1 w' hg
  rw [hX] at this
  exact this
 have HXE:Hid (rdToml s.data.toList=X):=hX
 clear CA1 hX G S TB
 match X,CP1,CR,HER,HAG,CA2,HXE with
 | .error (c,p),CP1,CR,HER,_,CA2,_ =>
  have hrg:=HER.out c p rfl
  have hc0:(c != 0)=true:=by rw [bne_iff_ne];omega
  have hcc:(c != c)=false:=by simp
  have CP2:Hid (Calls Tryz.prog 11 #[.string s] w fun e w''=>e=.returned (.tuple #[.string ⟨#[]⟩,.int .i64 c,.int .i64 (p:Nat)])/\w.grownBy w'' none):=CP1
  have CR2:Hid (∀w',w.grownBy w' none->Calls Tryz.prog 8 #[.string s] w' fun e w''=>∃v q,e=.returned (.tuple #[v,.int .i64 c,q])/\w'.grownBy w'' none):=CR.out
  have CA3:Hid (∀w',w.grownBy w' none->Calls Tryz.prog 7 #[.string s] w' fun e w''=>e=.returned (.tuple #[.slice none 0 0,.int .i64 c,.int .i64 (p:Nat)])/\w'.grownBy w'' none):=fun w' hg=>(CA2.out w' hg).mono fun e w'' h=>⟨h.2.1 c p rfl,h.2.2⟩
  clear hrg CP1
  go_enter Tryz.func5,Tryz.ntmps5
  go_wp2_with (first | (go_at_call 11;refine CP2.out.mono ?_))
  first | rintro e w1 rfl hg1 | rintro e w1 ⟨rfl,hg1⟩
  have HG1:Hid (w.grownBy w1 none):=hg1
  clear hg1
  go_wp2_with (first | (go_at_call 7;refine (CA3.out _ HG1.out).mono ?_))
  first | rintro e w2 rfl hg2 | rintro e w2 ⟨rfl,hg2⟩
  have HG2:Hid (w.grownBy w2 none):=gb_trans HG1.out hg2
  clear hg2
  go_wp2_with (first | (go_at_call 8;refine (CR2.out _ HG2.out).mono ?_))
  rintro e w3 ⟨v3,q3,rfl,hg3⟩
  have HG3:Hid (w.grownBy w3 none):=gb_trans HG2.out hg3
  clear hg3
  go_wp2_with (first | (go_at_call 10;refine (CU.out _ _).mono ?_;rintro e w' ⟨rfl,rfl⟩))
  go_ret
  exact ⟨rfl,HG3.out⟩
 | .ok ns,CP1,CR,_,HAG,CA2,HXE =>
  obtain ⟨hfl,hnl,CG⟩:=HTM.out _ ns HXE.out
  have CP2:Hid (Calls Tryz.prog 11 #[.string s] w fun e w''=>e=.returned (.tuple #[.string ⟨(fmT ns).toArray⟩,.int .i64 0,.int .i64 0])/\w.grownBy w'' none):=CP1
  have CR2:Hid (∀w',w.grownBy w' none->Calls Tryz.prog 8 #[.string s] w' fun e w''=>∃v q,e=.returned (.tuple #[v,.int .i64 0,q])/\w'.grownBy w'' none):=CR.out
  have CA3:Hid (∀w',w.grownBy w' none->Calls Tryz.prog 7 #[.string s] w' fun e w''=>∃N c,e=.returned (.tuple #[.slice (some ⟨N,0,none⟩) ns.length c,.int .i64 0,.int .i64 0])/\Nv w'' (.slice (some ⟨N,0,none⟩) ns.length c) N c ns/\w'.grownBy w'' none):=fun w' hg=>(CA2.out w' hg).mono fun e w'' h=>by
   obtain ⟨N,c,M,T,xs,ks,now,n,f,rfl,hD⟩:=h.1 ns rfl
   exact ⟨N,c,rfl,nv_of hD,h.2.2⟩
  have HCG:Hid (∀w0 w' N c,Nv w0 (.slice (some ⟨N,0,none⟩) ns.length c) N c ns->w0.grownBy w' none->Calls Tryz.prog 13 #[.slice (some ⟨N,0,none⟩) ns.length c] w' fun e w''=>e=.returned (.bool true)/\w'.grownBy w'' none):=CG
  have HAG1:=HAG.out ns rfl
  obtain ⟨x,hx⟩:∃x,fmT ns=x:=⟨_,rfl⟩
  rw [hx] at CP2 hfl HAG1
  obtain ⟨B,hB⟩:∃B:ByteArray,⟨x.toArray⟩=B:=⟨_,rfl⟩
  have hBl:B.data.toList=x:=by rw [<-hB]
  have hBs:B.size=x.length:=by rw [<-hB];show x.toArray.size=_;simp
  have CPB:=fun w' hg=>CP.out B w' (by omega) hg
  have CAB:=fun w' hg=>CA.out B w' (by omega) hg
  rw [hBl] at CPB CAB
  rw [hB] at CP2
  obtain ⟨L,hL⟩:∃L,ns.length=L:=⟨_,rfl⟩
  rw [hL] at CA3 HCG HAG1
  by_cases hbig:100000 < x.length
  ·have hxe:=HBG.out x hbig
   rw [hxe] at CPB CAB
   have CP3:Hid (∀w',w.grownBy w' none->Calls Tryz.prog 11 #[.string B] w' fun e w''=>e=.returned (.tuple #[.string ⟨#[]⟩,.int .i64 1,.int .i64 0])/\w'.grownBy w'' none):=CPB
   have CA4:Hid (∀w',w.grownBy w' none->Calls Tryz.prog 7 #[.string B] w' fun e w''=>e=.returned (.tuple #[.slice none 0 0,.int .i64 1,.int .i64 0])/\w'.grownBy w'' none):=fun w' hg=>(CAB w' hg).mono fun e w'' h=>⟨h.2.1 1 0 rfl,h.2.2⟩
   have hbI:(100000:Int) < (B.size:Int):=by omega
   clear HAG1 HAG CAB CPB hxe hbig CP1 hB hBl hx hL CG hfl hBs
   go_enter Tryz.func5,Tryz.ntmps5
   go_wp2_with (first | (go_at_call 11;refine CP2.out.mono ?_))
   first | rintro e w1 rfl hg1 | rintro e w1 ⟨rfl,hg1⟩
   have HG1:Hid (w.grownBy w1 none):=hg1
   clear hg1 CP2
   go_wp2_with (first | (go_at_call 7;refine (CA3.out _ HG1.out).mono ?_))
   rintro e w2 ⟨N,c,rfl,hnv2,hg2⟩
   have HG2:Hid (w.grownBy w2 none):=gb_trans HG1.out hg2
   clear hg2 hnv2 CA3
   go_wp2_with (first | (go_at_call 8;refine (CR2.out _ HG2.out).mono ?_))
   rintro e w3 ⟨v3,q3,rfl,hg3⟩
   have HG3:Hid (w.grownBy w3 none):=gb_trans HG2.out hg3
   clear hg3
   go_wp2_with (first | (go_at_call 10;refine (CU.out _ _).mono ?_;rintro e w' ⟨rfl,rfl⟩) | (go_at_call 11;refine (CP3.out _ HG3.out).mono ?_))
   first | rintro e w4 rfl hg4 | rintro e w4 ⟨rfl,hg4⟩
   have HG4:Hid (w.grownBy w4 none):=gb_trans HG3.out hg4
   clear hg4
   go_wp2_with (first | (go_at_call 7;refine (CA4.out _ HG4.out).mono ?_))
   first | rintro e w5 rfl hg5 | rintro e w5 ⟨rfl,hg5⟩
   have HG5:Hid (w.grownBy w5 none):=gb_trans HG4.out hg5
   clear hg5
   go_wp2_with (first | (go_at_call 10;refine (CU.out _ _).mono ?_;rintro e w' ⟨rfl,rfl⟩))
   go_ret
   exact ⟨rfl,HG5.out⟩
  ·obtain ⟨ns',hr,hfx,hln,CL⟩:=HAG1 (by omega)
   rw [hr] at CPB CAB
   obtain ⟨-,-,CG'⟩:=HTM.out _ ns' hr
   rw [hln] at CL CG'
   have CP3:Hid (∀w',w.grownBy w' none->Calls Tryz.prog 11 #[.string B] w' fun e w''=>e=.returned (.tuple #[.string B,.int .i64 0,.int .i64 0])/\w'.grownBy w'' none):=fun w' hg=>by
    have:=CPB w' hg
    rw [show ft (.ok ns')=fmT ns' from rfl,hfx,hB] at this
    exact this
   have CA4:Hid (∀w',w.grownBy w' none->Calls Tryz.prog 7 #[.string B] w' fun e w''=>∃N c,e=.returned (.tuple #[.slice (some ⟨N,0,none⟩) L c,.int .i64 0,.int .i64 0])/\Nv w'' (.slice (some ⟨N,0,none⟩) L c) N c ns'/\w'.grownBy w'' none):=fun w' hg=>(CAB w' hg).mono fun e w'' h=>by
    obtain ⟨N,c,M,T,xs,ks,now,n,f,rfl,hD⟩:=h.1 ns' rfl
    have:=nv_of hD
    rw [hln] at this
    exact ⟨N,c,by rw [hln],this,h.2.2⟩
   have HCG':Hid (∀w0 w' N c,Nv w0 (.slice (some ⟨N,0,none⟩) L c) N c ns'->w0.grownBy w' none->Calls Tryz.prog 13 #[.slice (some ⟨N,0,none⟩) L c] w' fun e w''=>e=.returned (.bool true)/\w'.grownBy w'' none):=CG'
   have HCL:Hid (∀w0 w' N c N' c',Nv w0 (.slice (some ⟨N,0,none⟩) L c) N c ns->Nv w0 (.slice (some ⟨N',0,none⟩) L c') N' c' ns'->w0.grownBy w' none->Calls Tryz.prog 14 #[.slice (some ⟨N,0,none⟩) L c,.int .i64 0,.slice (some ⟨N',0,none⟩) L c',.int .i64 0] w' fun e w''=>e=.returned (.bool true)/\w'.grownBy w'' none):=CL
   have hbI:¬ (100000:Int) < (B.size:Int):=by omega
   have hBB:(B.toList == B.toList)=true:=by simp
   have hLL:((L:Int) == (L:Int))=true:=by simp
   clear HAG1 HAG CAB CPB hr hfx hln CL CG' hbig CP1 hB hBl hx hL CG hfl hBs
   go_enter Tryz.func5,Tryz.ntmps5
   go_wp2_with (first | (go_at_call 11;refine CP2.out.mono ?_))
   first | rintro e w1 rfl hg1 | rintro e w1 ⟨rfl,hg1⟩
   have HG1:Hid (w.grownBy w1 none):=hg1
   clear hg1 CP2
   go_wp2_with (first | (go_at_call 7;refine (CA3.out _ HG1.out).mono ?_))
   rintro e w2 ⟨N,c,rfl,hnv2,hg2⟩
   have HG2:Hid (w.grownBy w2 none):=gb_trans HG1.out hg2
   have HV2:Hid (Nv w2 (.slice (some ⟨N,0,none⟩) L c) N c ns):=hnv2
   clear hg2 hnv2 CA3
   go_wp2_with (first | (go_at_call 8;refine (CR2.out _ HG2.out).mono ?_))
   rintro e w3 ⟨v3,q3,rfl,hg3⟩
   have HG3:Hid (w.grownBy w3 none):=gb_trans HG2.out hg3
   have HV3:Hid (Nv w3 (.slice (some ⟨N,0,none⟩) L c) N c ns):=HV2.out.grow hg3
   clear hg3
   go_wp2_with (first | (go_at_call 10;refine (CU.out _ _).mono ?_;rintro e w' ⟨rfl,rfl⟩) | (go_at_call 11;refine (CP3.out _ HG3.out).mono ?_))
   first | rintro e w4 rfl hg4 | rintro e w4 ⟨rfl,hg4⟩
   have HG4:Hid (w.grownBy w4 none):=gb_trans HG3.out hg4
   have HV4:Hid (Nv w4 (.slice (some ⟨N,0,none⟩) L c) N c ns):=HV3.out.grow hg4
   clear hg4
   go_wp2_with (first | (go_at_call 7;refine (CA4.out _ HG4.out).mono ?_))
   rintro e w5 ⟨N',c',rfl,hnv5,hg5⟩
   have HG5:Hid (w.grownBy w5 none):=gb_trans HG4.out hg5
   have HV5:Hid (Nv w5 (.slice (some ⟨N,0,none⟩) L c) N c ns):=HV4.out.grow hg5
   have HV5':Hid (Nv w5 (.slice (some ⟨N',0,none⟩) L c') N' c' ns'):=hnv5
   clear hg5 hnv5
   go_wp2_with (first | (go_at_call 10;refine (CU.out _ _).mono ?_;rintro e w' ⟨rfl,rfl⟩) | (go_at_call 13;refine (HCG.out w5 _ N c HV5.out (gb_refl _ _)).mono ?_))
   first | rintro e w6 rfl hg6 | rintro e w6 ⟨rfl,hg6⟩
   have HG6:Hid (w5.grownBy w6 none):=hg6
   clear hg6
   go_wp2_with (first | (go_at_call 13;refine (HCG'.out w5 _ N' c' HV5'.out HG6.out).mono ?_))
   first | rintro e w7 rfl hg7 | rintro e w7 ⟨rfl,hg7⟩
   have HG7:Hid (w5.grownBy w7 none):=gb_trans HG6.out hg7
   clear hg7
   go_wp2_with (first | (go_at_call 14;refine (HCL.out w5 _ N c N' c' HV5.out HV5'.out HG7.out).mono ?_))
   first | rintro e w8 rfl hg8 | rintro e w8 ⟨rfl,hg8⟩
   have HG8:Hid (w.grownBy w8 none):=gb_trans HG5.out (gb_trans HG7.out hg8)
   clear hg8
   go_wp2
   go_ret
   exact ⟨rfl,HG8.out⟩
end Go.Proofs.YtbgnflcebafjjaaGreatDoor
