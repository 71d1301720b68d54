import Derived.Test.YtbgnflcebafjjaaGreatDoorP37
import Derived.Test.YtbgnflcebafjjaaGreatDoorP20
namespace Go.Proofs.YtbgnflcebafjjaaGreatDoor
open Go.RowKit Go.Maps Go.WideMaps Go.Joins
set_option linter.unusedVariables false
structure Edv (w0:World) (N c:Nat) (ns:List Tn) (own:List Nat):Prop where
 nv:Nv w0 (.slice (some ⟨N,0,none⟩) ns.length c) N c ns
 wf:WF ns own
 gt:∀p q,q ∈ ksAt ns p->p < q
 len:ns.length<=900000
 txt:∀i (hi:i < ns.length),ns[i].ky.length<=1048576/\ns[i].tx.length<=1048576
 num:∀i (hi:i < ns.length),-9223372036854775808<=ns[i].nu/\ns[i].nu<=9223372036854775807
 vk:∀p q,q ∈ ksAt ns p->kdAt ns p=1->kdAt ns q=1\/kdAt ns q=3\/kdAt ns q=4\/kdAt ns q=5
theorem kdAt_in {ns:List Tn} {q:Nat} (h:q < ns.length):kdAt ns q=ns[q].kd:=by
 unfold kdAt
 rw [List.getElem?_eq_getElem h]
def DvT (w0:World) (N c:Nat) (ns:List Tn) (f:Nat):Prop:=∀(t:Nat) (w:World),t < ns.length->ns.length - t<=f->w0.grownBy w none->(kdAt ns t=1\/kdAt ns t=3\/kdAt ns t=4\/kdAt ns t=5)->(vT ns f t).length<=70368744177664 →
 Calls Tryz.prog 38 #[.slice (some ⟨N,0,none⟩) ns.length c,.int .i64 (t:Nat)] w fun e w'=>e=.returned (.string ⟨(vT ns f t).toArray⟩)/\w.grownBy w' none
set_option maxRecDepth 100000 in
set_option maxHeartbeats 6400000 in
theorem dValue_of {w0:World} {N c:Nat} {ns:List Tn} {own:List Nat} (E:Edv w0 N c ns own) (f:Nat) (C:DvT w0 N c ns f):DvT w0 N c ns (f+1):=by
 intro t w ht hf hg hkd hsz
 have HVT:=vT_step ns f t ht
 obtain ⟨htx1,htx⟩:=E.txt t ht
 obtain ⟨hnu1,hnu2⟩:=E.num t ht
 obtain ⟨k,c0,c1,c2,c3,c4,c5,hk⟩:=E.nv.cel t ht
 have d0:=hg.cell c0 (by simp)
 have d1:=hg.cell c1 (by simp)
 have d2:=hg.cell c2 (by simp)
 have d3:=hg.cell c3 (by simp)
 have d4:=hg.cell c4 (by simp)
 have d5:=hg.cell c5 (by simp)
 have hKS:=ksAt_in ht
 have HC:Hid (∀q ∈ ns[t].ks,kdAt ns t=1->∀w',w0.grownBy w' none->(vT ns f q).length<=70368744177664->Calls Tryz.prog 38 #[.slice (some ⟨N,0,none⟩) ns.length c,.int .i64 (q:Nat)] w' fun e w''=>e=.returned (.string ⟨(vT ns f q).toArray⟩)/\w'.grownBy w'' none):=fun q hq h1 w' hg' hl=>by
  rw [<-hKS] at hq
  have a1:=E.gt _ _ hq
  exact C q w' (E.wf.lt _ _ hq) (by omega) hg' (E.vk _ _ hq h1) hl
 have hkl:ns[t].ks.length<=1000000:=by have:=E.wf.len t;rw [hKS] at this;have:=E.len;omega
 rw [kdAt_in ht] at hkd HC
 have hEl:=E.len
 obtain ⟨L,hL⟩:∃L,ns.length=L:=⟨_,rfl⟩
 rw [hL] at HC ht hEl ⊢
 have htI:(t:Int) < (L:Int):=by omega
 obtain ⟨x,hx⟩:∃x,ns[t]=x:=⟨_,rfl⟩
 rw [hx] at HC HVT htx hnu1 hnu2 d0 d1 d2 d3 d5 hk hkl hkd
 obtain ⟨V,hV⟩:∃V,vT ns (f+1) t=V:=⟨_,rfl⟩
 rw [hV] at HVT hsz ⊢
 have HVV:Hid (V=if x.kd=1 then 91 :: cm true (x.ks.map (vT ns f))++[93] else if x.kd=3 then qt x.tx else if x.kd=4 then Lib.itoa x.nu else if x.kd=5 then Lib.formatBool (decide (x.nu=1)) else []):=HVT
 have hgA:w.grownBy (w.alloc (.cells #[.int .i64 x.kd,.string ⟨x.ky.toArray⟩,.string ⟨x.tx.toArray⟩,.int .i64 x.nu,k,.int .i64 (x.pl:Nat)] 53)) none:=World.grownBy_alloc _ _ none
 have hbx:=heap_alloc_new w (.cells #[.int .i64 x.kd,.string ⟨x.ky.toArray⟩,.string ⟨x.tx.toArray⟩,.int .i64 x.nu,k,.int .i64 (x.pl:Nat)] 53)
 obtain ⟨w1,hw1⟩:∃W,w.alloc (.cells #[.int .i64 x.kd,.string ⟨x.ky.toArray⟩,.string ⟨x.tx.toArray⟩,.int .i64 x.nu,k,.int .i64 (x.pl:Nat)] 53)=W:=⟨_,rfl⟩
 obtain ⟨bx,hbxe⟩:∃b,w.heap.size=b:=⟨_,rfl⟩
 rw [hw1] at hgA hbx
 rw [hbxe] at hbx
 have HW1:Hid (w.alloc (.cells #[.int .i64 x.kd,.string ⟨x.ky.toArray⟩,.string ⟨x.tx.toArray⟩,.int .i64 x.nu,k,.int .i64 (x.pl:Nat)] 53)=w1):=hw1
 have HBX:Hid (w.heap.size=bx):=hbxe
 have HGA:Hid (w.grownBy w1 none):=hgA
 have HG1:Hid (w0.grownBy w1 none):=gb_trans hg hgA
 have b0:w1.cell? ⟨bx,0,none⟩=some (.int .i64 x.kd):=by rw [Lib.cell_of_heap hbx];rfl
 have b2:w1.cell? ⟨bx,2,none⟩=some (.string ⟨x.tx.toArray⟩):=by rw [Lib.cell_of_heap hbx];rfl
 have b3:w1.cell? ⟨bx,3,none⟩=some (.int .i64 x.nu):=by rw [Lib.cell_of_heap hbx];rfl
 have b4:w1.cell? ⟨bx,4,none⟩=some k:=by rw [Lib.cell_of_heap hbx];rfl
 obtain ⟨KD',hkde⟩:∃z,x.kd=z:=⟨_,rfl⟩
 rw [hkde] at HVV b0 HW1 hkd HC d0
 obtain ⟨T,hT⟩:∃T:ByteArray,⟨x.tx.toArray⟩=T:=⟨_,rfl⟩
 have HT:Hid (T.data.toList=x.tx/\T.size<=1048576):=by
  rw [<-hT]
  exact ⟨by simp,by show x.tx.toArray.size<=_;simpa using htx⟩
 rw [hT] at b2 HW1 d2
 obtain ⟨ok,ck,hkv,hkc⟩:=hk
 have HKC:Hid (∀i (hi:i < x.ks.length),∃g,ok=some ⟨g,0,none⟩/\w0.cell? ⟨g,i,none⟩=some (.int .i64 (x.ks[i]:Nat))):=hkc
 rw [hkv] at b4 HW1 d4
 clear hg hkv hkc hf HVT hV hgA hbx hbxe hw1 E C hx htx1 hkde hT c0 c1 c2 c3 c4 c5 hKS hL
 rcases hkd with h1 | h3 | h4 | h5
 ·subst h1
  have HVV':Hid (V=91 :: cm true (x.ks.map (vT ns f))++[93]):=by show _=_;rw [HVV.out,if_pos rfl]
  have HC1:Hid (∀q ∈ x.ks,∀w',w0.grownBy w' none->(vT ns f q).length<=70368744177664->Calls Tryz.prog 38 #[.slice (some ⟨N,0,none⟩) L c,.int .i64 (q:Nat)] w' fun e w''=>e=.returned (.string ⟨(vT ns f q).toArray⟩)/\w'.grownBy w'' none):=fun q hq=>HC.out q hq rfl
  rw [HVV'.out] at hsz ⊢
  obtain ⟨l,hl⟩:∃l,x.ks=l:=⟨_,rfl⟩
  rw [hl] at hsz HC1 HKC hkl b4 HW1 d4 ⊢
  obtain ⟨n,hn⟩:∃n,l.length=n:=⟨_,rfl⟩
  have HN:Hid (l.length=n):=hn
  rw [hn] at hkl b4 HW1 d4
  have hcl:(91 :: cm true (l.map (vT ns f))++[93]).length=(cm true (l.map (vT ns f))).length+2:=by simp
  rw [hcl] at hsz
  have B4:Hid (w1.cell? ⟨bx,4,none⟩=some (.slice ok n ck)):=b4
  clear HVV HC hn hl hcl b2 b3 b4
  go_enter Tryz.func38,Tryz.ntmps38
  go_upto_region 2 with fail
  rw [HW1.out,HBX.out]
  clear d0 d1 d2 d3 d4 d5
  go_wp2
  go_loopw [6,7] (fun v6 v7 wr=>∃i:Nat,v7=.int .i64 (i:Nat)/\i<=n/\v6=.string ⟨(91 :: cm true ((l.map (vT ns f)).take i)).toArray⟩/\w1.grownBy wr none) (fun _ v7 _=>n - (intOf v7).toNat)
  case atStart=>exact ⟨0,rfl,Nat.zero_le _,rfl,gb_refl _ _⟩
  case round =>
   obtain ⟨i,rfl,hi,rfl,hgr⟩:=hrel
   have HGR:Hid (w1.grownBy wr none):=hgr
   have HG0:Hid (w0.grownBy wr none):=gb_trans HG1.out hgr
   have e4:=hgr.cell B4.out (by simp)
   clear hgr
   by_cases hlt:i < n
   ·have hil:i < l.length:=by rw [HN.out];exact hlt
    have hI:(i:Int) < (n:Int):=by omega
    obtain ⟨g,hgo,hgc⟩:=HKC.out i hil
    subst hgo
    have g1:=HG0.out.cell hgc (by simp)
    obtain ⟨q,hq⟩:∃q,l[i]=q:=⟨_,rfl⟩
    have hqm:q ∈ l:=by rw [<-hq];exact List.getElem_mem hil
    rw [hq] at g1
    have HTK:Hid (cm true ((l.map (vT ns f)).take (i+1))=cm true ((l.map (vT ns f)).take i)++((if i=0 then [] else [44,32])++vT ns f q)):=by
     show _=_
     have hil2:i < (l.map (vT ns f)).length:=by simpa using hil
     rw [List.take_succ_eq_append_getElem hil2,cm_snoc,List.getElem_map,hq]
     have e:(true=true/\(l.map (vT ns f)).take i=[]) ↔ i=0:=by
      simp only [true_and,List.take_eq_nil_iff]
      constructor
      ·rintro (h | h)
       ·exact h
       ·rw [h] at hil2;simp at hil2
      ·exact Or.inl
     by_cases h0:i=0
     ·rw [if_pos (e.2 h0),if_pos h0]
     ·rw [if_neg (fun hh=>h0 (e.1 hh)),if_neg h0]
    have hle:=cm_le true (l.map (vT ns f)) (i+1)
    rw [HTK.out] at hle
    simp only [List.length_append] at hle
    obtain ⟨acc,hacc⟩:∃acc,cm true ((l.map (vT ns f)).take i)=acc:=⟨_,rfl⟩
    rw [hacc] at HTK hle ⊢
    have CV:=HC1.out q hqm
    obtain ⟨VT,hVT⟩:∃V,vT ns f q=V:=⟨_,rfl⟩
    rw [hVT] at CV HTK hle
    have CV1:Hid (∀w',w0.grownBy w' none->Calls Tryz.prog 38 #[.slice (some ⟨N,0,none⟩) L c,.int .i64 (q:Nat)] w' fun e w''=>e=.returned (.string ⟨VT.toArray⟩)/\w'.grownBy w'' none):=fun w' h=>CV w' h (by omega)
    obtain ⟨X,hX⟩:∃X,91 :: acc=X:=⟨_,rfl⟩
    have hXl:X.length=acc.length+1:=by rw [<-hX];simp
    have HX:Hid (91 :: acc=X):=hX
    rw [hX]
    clear hq hacc hX hVT hgc CV hqm
    by_cases h0:i=0
    ·have hgt:¬ (0:Int) < (i:Int):=by omega
     have HZ:Hid (X++VT=91 :: cm true ((l.map (vT ns f)).take (i+1))):=by
      show _=_
      rw [HTK.out,if_pos h0,<-HX.out]
      simp
     rw [if_pos h0] at hle
     have ka:∀wx,(Op.stringOp .add ⟨X.toArray⟩ ⟨VT.toArray⟩).run Tryz.prog wx=.ok (.string ⟨(X++VT).toArray⟩) wx:=fun wx=>add_str X VT wx (by simp at hle;omega)
     clear h0 hle
     go_wp2_with (first | (go_at_call 38;refine (CV1.out _ HG0.out).mono ?_))
     first | rintro e w3 rfl hg3 | rintro e w3 ⟨rfl,hg3⟩
     have HG3:Hid (w1.grownBy w3 none):=gb_trans HGR.out hg3
     clear hg3 e4
     go_wp2
     go_roundw
     case rel=>exact ⟨i+1,by go_num,by omega,by rw [HZ.out],HG3.out⟩
     case measure=>simp [intOf];omega
    ·have hgt:(0:Int) < (i:Int):=by omega
     have HZ:Hid (X++[44,32]++VT=91 :: cm true ((l.map (vT ns f)).take (i+1))):=by
      show _=_
      rw [HTK.out,if_neg h0,<-HX.out]
      simp
     rw [if_neg h0] at hle
     have k1:∀wx,(Op.stringOp .add ⟨X.toArray⟩ ⟨#[44,32]⟩).run Tryz.prog wx=.ok (.string ⟨(X++[44,32]).toArray⟩) wx:=fun wx=>add_str X [44,32] wx (by simp at hle ⊢;omega)
     have ka:∀wx,(Op.stringOp .add ⟨(X++[44,32]).toArray⟩ ⟨VT.toArray⟩).run Tryz.prog wx=.ok (.string ⟨(X++[44,32]++VT).toArray⟩) wx:=fun wx=>add_str (X++[44,32]) VT wx (by simp at hle ⊢;omega)
     clear h0 hle
     go_wp2_with (first | (go_at_call 38;refine (CV1.out _ HG0.out).mono ?_))
     first | rintro e w3 rfl hg3 | rintro e w3 ⟨rfl,hg3⟩
     have HG3:Hid (w1.grownBy w3 none):=gb_trans HGR.out hg3
     clear hg3 e4
     go_wp2
     go_roundw
     case rel=>exact ⟨i+1,by go_num,by omega,by rw [<-HZ.out];simp,HG3.out⟩
     case measure=>simp [intOf];omega
   ·have hI:¬ (i:Int) < (n:Int):=by omega
    have e:(l.map (vT ns f)).take i=l.map (vT ns f):=List.take_of_length_le (by rw [List.length_map,HN.out];omega)
    rw [e]
    obtain ⟨X,hX⟩:∃X,91 :: cm true (l.map (vT ns f))=X:=⟨_,rfl⟩
    have hXl:X.length=(cm true (l.map (vT ns f))).length+1:=by rw [<-hX];simp
    have HX:Hid (91 :: cm true (l.map (vT ns f))=X):=hX
    rw [hX]
    have ka:∀wx,(Op.stringOp .add ⟨X.toArray⟩ ⟨#[93]⟩).run Tryz.prog wx=.ok (.string ⟨(X++[93]).toArray⟩) wx:=fun wx=>add_str X [93] wx (by simp;omega)
    clear e hX
    go_wp2
    go_ret
    refine ⟨?_,gb_trans HGA.out HGR.out⟩
    show Ending.returned (.string ⟨(X++[93]).toArray⟩)=_
    rw [<-HX.out]
    rfl
 ·subst h3
  have HVV':Hid (V=qt x.tx):=by show _=_;rw [HVV.out,if_neg (by decide),if_pos rfl]
  rw [HVV'.out]
  have CQ:Hid (Calls Tryz.prog 68 #[.string T] w1 fun e w'=>e=.returned (.string ⟨(qt x.tx).toArray⟩)/\w1.grownBy w' none):=by
   have:=dString_any T w1 HT.out.2
   rw [HT.out.1] at this
   exact this
  obtain ⟨QT,hQT⟩:∃Q:ByteArray,⟨(qt x.tx).toArray⟩=Q:=⟨_,rfl⟩
  rw [hQT] at CQ ⊢
  clear HVV HC hQT HKC
  go_enter Tryz.func38,Tryz.ntmps38
  go_upto_region 2 with fail
  rw [HW1.out,HBX.out]
  clear d0 d1 d2 d3 d4 d5
  go_wp2_with (first | (go_at_call 68;refine CQ.out.mono ?_;rintro e w6 ⟨rfl,hg6⟩))
  go_ret
  exact ⟨rfl,gb_trans HGA.out hg6⟩
 ·subst h4
  have HVV':Hid (V=Lib.itoa x.nu):=by show _=_;rw [HVV.out,if_neg (by decide),if_neg (by decide),if_pos rfl]
  rw [HVV'.out]
  have CQ:Hid (Calls Tryz.prog 69 #[.int .i64 x.nu] w1 fun e w'=>e=.returned (.string ⟨(Lib.itoa x.nu).toArray⟩)/\w1.grownBy w' none):=(decimal_any x.nu w1 hnu1 hnu2).mono fun e w' h=>⟨h.1,bel_gbn h.2⟩
  obtain ⟨QT,hQT⟩:∃Q:ByteArray,⟨(Lib.itoa x.nu).toArray⟩=Q:=⟨_,rfl⟩
  rw [hQT] at CQ ⊢
  obtain ⟨NU,hNU⟩:∃z,x.nu=z:=⟨_,rfl⟩
  rw [hNU] at CQ b3 HW1 d3
  clear HVV HC hQT HKC hNU hnu1 hnu2 HVV'
  go_enter Tryz.func38,Tryz.ntmps38
  go_upto_region 2 with fail
  rw [HW1.out,HBX.out]
  clear d0 d1 d2 d3 d4 d5
  go_wp2_with (first | (go_at_call 69;refine CQ.out.mono ?_;rintro e w6 ⟨rfl,hg6⟩))
  go_ret
  exact ⟨rfl,gb_trans HGA.out hg6⟩
 ·subst h5
  have HVV':Hid (V=Lib.formatBool (decide (x.nu=1))):=by show _=_;rw [HVV.out,if_neg (by decide),if_neg (by decide),if_neg (by decide),if_pos rfl]
  rw [HVV'.out]
  obtain ⟨NU,hNU⟩:∃z,x.nu=z:=⟨_,rfl⟩
  rw [hNU] at b3 HW1 d3 ⊢
  clear HVV HC HKC hNU hnu1 hnu2 HVV'
  by_cases h1:NU=1
  ·have hb1:(NU == 1)=true:=by simpa using h1
   have e:(⟨(Lib.formatBool (decide (NU=1))).toArray⟩:ByteArray)=⟨#[116,114,117,101]⟩:=by rw [decide_eq_true h1];decide
   rw [e]
   clear h1 e
   go_enter Tryz.func38,Tryz.ntmps38
   go_upto_region 2 with fail
   rw [HW1.out,HBX.out]
   clear d0 d1 d2 d3 d4 d5
   go_wp2
   go_ret
   exact ⟨rfl,HGA.out⟩
  ·have hb1:(NU == 1)=false:=by simpa using h1
   have e:(⟨(Lib.formatBool (decide (NU=1))).toArray⟩:ByteArray)=⟨#[102,97,108,115,101]⟩:=by rw [decide_eq_false h1];decide
   rw [e]
   clear h1 e
   go_enter Tryz.func38,Tryz.ntmps38
   go_upto_region 2 with fail
   rw [HW1.out,HBX.out]
   clear d0 d1 d2 d3 d4 d5
   go_wp2
   go_ret
   exact ⟨rfl,HGA.out⟩
theorem dValue {w0:World} {N c:Nat} {ns:List Tn} {own:List Nat} (E:Edv w0 N c ns own):∀f,DvT w0 N c ns f
 | 0=>fun t w ht hf=>absurd hf (by omega)
 | f+1=>dValue_of E f (dValue E f)
end Go.Proofs.YtbgnflcebafjjaaGreatDoor
