import Derived.Test.YtbgnflcebafjjaaGreatDoorP20
namespace Go.Proofs.YtbgnflcebafjjaaGreatDoor
open Go.RowKit Go.Maps Go.WideMaps Go.Joins
set_option linter.unusedVariables false
def pr1 (ns:List Tn) (q:Nat):List UInt8:=if kdAt ns q=0\/kdAt ns q=2 then [] else kt (kyAt ns q)++[32,61,32]++vT ns ns.length q++[10]
def prT (ns:List Tn) (t:Nat):List UInt8:=(srt ns t).flatMap (pr1 ns)
theorem flat_take {α:Type} (f:α->List UInt8) (l:List α) (i:Nat):((l.take i).flatMap f).length<=(l.flatMap f).length:=by
 conv=>rhs;rw [<-List.take_append_drop i l,List.flatMap_append,List.length_append]
 omega
theorem flat_snoc {α:Type} (f:α->List UInt8) (l:List α) (i:Nat) (h:i < l.length):(l.take (i+1)).flatMap f=(l.take i).flatMap f++f l[i]:=by
 rw [List.take_succ_eq_append_getElem h,List.flatMap_append]
 simp
theorem srt_mem {ns:List Tn} {t q:Nat} (h:q ∈ srt ns t):q ∈ ksAt ns t:=(srt_perm ns t).subset h
set_option maxRecDepth 100000 in
set_option maxHeartbeats 6400000 in
theorem pPairs {w0:World} {p N c:Nat} {NV:Value} {ns:List Tn} {own:List Nat} (E:Ev w0 NV N c ns own) (out path:List UInt8) (t:Nat) (w:World) (ht:t < ns.length) (hkd:KD ns t) (hP:Pn w w0.heap.size p NV out path) (hg:w0.grownBy w none) (hsz:out.length+(prT ns t).length<=70368744177664) :
  Calls Tryz.prog 32 #[.pointer (some ⟨p,0,none⟩),.int .i64 (t:Nat)] w fun e w'=>e=.returned (.tuple #[])/\Pn w' w0.heap.size p NV (out++prT ns t) path/\PF w0.heap.size w w':=by
 have hEl:=E.len
 have hSL:(srt ns t).length<=900000:=by rw [(srt_perm ns t).length_eq];have:=E.wf.len t;omega
 have CS:Hid (Calls Tryz.prog 59 #[.pointer (some ⟨p,0,none⟩),.int .i64 (t:Nat)] w fun e w'=>∃v,e=.returned v/\w'.ownsRow w.heap.size 3 1 v (srt ns t).length ((srt ns t).map fun q=>.int .i64 (q:Nat))/\w.grownBy w' none):=sSorted p N c NV ns own t w hP.base.2.2 (E.nv.grow hg) E.wf ht hkd hEl
 have HMEM:Hid (∀q ∈ srt ns t,q < ns.length):=fun q hq=>E.wf.lt t q (srt_mem hq)
 have hv:=E.nv.val
 obtain ⟨B,hB⟩:∃B,w0.heap.size=B:=⟨_,rfl⟩
 have HUP:Hid (∀w w',w0.grownBy w none->Below B w w'->w0.grownBy w' none):=fun w w' h1 h2=>up_gb h1 (by rw [hB];exact h2)
 have CW:Hid (∀(X Y:List UInt8) w,Pn w B p NV X path->Y ≠ []->X.length+Y.length<=70368744177664->Calls Tryz.prog 60 #[.pointer (some ⟨p,1,none⟩),.string ⟨Y.toArray⟩] w fun e w'=>(∃k:Int,e=.returned (.tuple #[.int .i64 k,.nilIface]))/\Pn w' B p NV (X++Y) path/\PF B w w'):=fun X Y w h h0 hl=>bWriteS B p NV X path Y w h h0 hl
 have CB:Hid (∀(X:List UInt8) (ch:UInt8) w,Pn w B p NV X path->X.length+1<=70368744177664->Calls Tryz.prog 63 #[.pointer (some ⟨p,1,none⟩),.int .u8 (ch.toNat:Int)] w fun e w'=>e=.returned .nilIface/\Pn w' B p NV (X++[ch]) path/\PF B w w'):=fun X ch w h hl=>bWriteB B p NV X path ch w h hl
 have CV:Hid (∀(X:List UInt8) (q:Nat) (hq:q < ns.length) (k:Value) (w:World),Pn w B p NV X path->w0.grownBy w none->NuS w0 k ns[q].ks->X.length+(vT ns ns.length q).length<=70368744177664->Calls Tryz.prog 62 #[.pointer (some ⟨p,0,none⟩),.agg #[.int .i64 ns[q].kd,.string ⟨ns[q].ky.toArray⟩,.string ⟨ns[q].tx.toArray⟩,.int .i64 ns[q].nu,k,.int .i64 (ns[q].pl:Nat)]] w fun e w'=>e=.returned (.tuple #[])/\Pn w' B p NV (X++vT ns ns.length q) path/\PF B w w'):=fun X q hq k w h2 h3 h4 h5=>by
  have:=pVL_any E ns.length X path q hq k w (by omega) (by rw [hB];exact h2) h3 h4 h5
  rw [hB] at this
  exact this
 have HE:Hid (Ev w0 NV N c ns own):=E
 rw [hB] at hP ⊢
 have HP0:Hid (Pn w B p NV out path):=hP
 have HG0:Hid (w0.grownBy w none):=hg
 have hBw:=hP.pf
 obtain ⟨SR,hSR⟩:∃S,srt ns t=S:=⟨_,rfl⟩
 have HPT:Hid (prT ns t=SR.flatMap (pr1 ns)):=by show _=_;unfold prT;rw [hSR]
 rw [hSR] at CS HMEM hSL
 rw [HPT.out] at hsz ⊢
 obtain ⟨n,hn⟩:∃n,SR.length=n:=⟨_,rfl⟩
 have HN:Hid (SR.length=n):=hn
 rw [hn] at CS hSL
 obtain ⟨L,hL⟩:∃L,ns.length=L:=⟨_,rfl⟩
 have HLN:Hid (ns.length=L):=hL
 subst hv
 rw [hL] at ht
 clear hP hg E hkd hB hSR hn hL
 go_enter Tryz.func32,Tryz.ntmps32
 go_wp2_with (first | (go_at_call 59;refine CS.out.mono ?_))
 rintro e w1 ⟨v,rfl,hown1,hg1⟩
 obtain ⟨o1,c1,rfl⟩:=own_slice hown1
 have HO1:Hid (w1.ownsRow w.heap.size 3 1 (.slice o1 n c1) n (SR.map fun q=>.int .i64 (q:Nat))):=hown1
 have HF1:Hid (PF B w w1):=PF.gb hg1 hBw
 have HP1:Hid (Pn w1 B p (.slice (some ⟨N,0,none⟩) ns.length c) out path):=HP0.out.gb hg1
 clear hown1 hg1
 go_wp2
 go_loopw [11] (fun v11 wr=>∃i:Nat,v11=.int .i64 (i:Nat)/\i<=n/\Pn wr B p (.slice (some ⟨N,0,none⟩) ns.length c) (out++(SR.take i).flatMap (pr1 ns)) path/\PF B w1 wr) (fun v11 _=>n - (intOf v11).toNat)
 case atStart=>exact ⟨0,rfl,Nat.zero_le _,by simpa using HP1.out,PF.refl _ _⟩
 case round =>
  obtain ⟨i,rfl,hi,hpr,hfr⟩:=hrel
  have HPR:Hid (Pn wr B p (.slice (some ⟨N,0,none⟩) ns.length c) (out++(SR.take i).flatMap (pr1 ns)) path):=hpr
  have HFR:Hid (PF B w1 wr):=hfr
  have HFW:Hid (PF B w wr):=HF1.out.two hfr
  have HGR:Hid (w0.grownBy wr none):=HUP.out _ _ HG0.out HFW.out.bel
  clear hpr hfr
  by_cases hlt:i < n
  ·have hil:i < SR.length:=by rw [HN.out];exact hlt
   have hI:(i:Int) < (n:Int):=by omega
   obtain ⟨g1,c1',hvf,-,-⟩:=HO1.out.form (by omega)
   injection hvf with ho _ hc
   subst ho hc
   obtain ⟨q,hq⟩:∃q,SR[i]=q:=⟨_,rfl⟩
   have g1c:=(own_block HO1.out fun g cur hh hc=>HFR.out.oth _ _ _ _ hc (by decide) (by decide)).cells (g:=g1) rfl i (.int .i64 (q:Nat)) (by rw [List.getElem?_map,List.getElem?_eq_getElem hil,hq];rfl)
   rw [zero_off] at g1c
   have hqL:q < ns.length:=HMEM.out q (by rw [<-hq];exact List.getElem_mem hil)
   have hqI:(q:Int) < (L:Int):=by have:=HLN.out;omega
   have HTK:Hid ((SR.take (i+1)).flatMap (pr1 ns)=(SR.take i).flatMap (pr1 ns)++pr1 ns q):=by
    show _=_
    rw [flat_snoc (pr1 ns) SR i hil,hq]
   have hle:=flat_take (pr1 ns) SR (i+1)
   rw [HTK.out,List.length_append] at hle
   obtain ⟨acc,hacc⟩:∃acc,(SR.take i).flatMap (pr1 ns)=acc:=⟨_,rfl⟩
   rw [hacc] at HTK HPR hle
   obtain ⟨X,hX⟩:∃X,out++acc=X:=⟨_,rfl⟩
   have hXl:X.length=out.length+acc.length:=by rw [<-hX];simp
   rw [hX] at HPR
   have HX:Hid (out++acc=X):=hX
   obtain ⟨k6,n0,n1,n2,n3,n4,n5,n6⟩:=HE.out.nv.cel q hqL
   have m0:=HGR.out.cell n0 (by simp)
   have m1:=HGR.out.cell n1 (by simp)
   have m2:=HGR.out.cell n2 (by simp)
   have m3:=HGR.out.cell n3 (by simp)
   have m4:=HGR.out.cell n4 (by simp)
   have m5:=HGR.out.cell n5 (by simp)
   have p0:=HPR.out.base.2.2
   rw [HLN.out] at p0
   have CV1:Hid (∀(X:List UInt8) w,Pn w B p (.slice (some ⟨N,0,none⟩) ns.length c) X path->w0.grownBy w none->X.length+(vT ns ns.length q).length<=70368744177664->Calls Tryz.prog 62 #[.pointer (some ⟨p,0,none⟩),.agg #[.int .i64 ns[q].kd,.string ⟨ns[q].ky.toArray⟩,.string ⟨ns[q].tx.toArray⟩,.int .i64 ns[q].nu,k6,.int .i64 (ns[q].pl:Nat)]] w fun e w'=>e=.returned (.tuple #[])/\Pn w' B p (.slice (some ⟨N,0,none⟩) ns.length c) (X++vT ns ns.length q) path/\PF B w w'):=fun X w h1 h2 h3=>CV.out X q hqL k6 w h1 h2 n6 h3
   have HP1q:Hid (pr1 ns q=if ns[q].kd=0\/ns[q].kd=2 then [] else kt ns[q].ky++[32,61,32]++vT ns ns.length q++[10]):=by
    show _=_
    unfold pr1 kdAt
    rw [kyAt_in hqL,List.getElem?_eq_getElem hqL]
   have hky:=(HE.out.txt q hqL).1
   obtain ⟨ok6,ck6,hk6,-⟩:=n6
   subst hk6
   obtain ⟨nk,hnk⟩:∃z,ns[q].ks.length=z:=⟨_,rfl⟩
   rw [hnk] at m4 CV1
   obtain ⟨y,hy⟩:∃y,ns[q]=y:=⟨_,rfl⟩
   rw [hy] at m0 m1 m2 m3 m5 CV1 HP1q hky
   obtain ⟨VT,hVT⟩:∃V,vT ns ns.length q=V:=⟨_,rfl⟩
   rw [hVT] at CV1 HP1q
   obtain ⟨PQ,hPQ⟩:∃P,pr1 ns q=P:=⟨_,rfl⟩
   rw [hPQ] at HTK hle HP1q
   have hbx:=heap_alloc_new wr (.cells #[.int .i64 y.kd,.string ⟨y.ky.toArray⟩,.string ⟨y.tx.toArray⟩,.int .i64 y.nu,.slice ok6 nk ck6,.int .i64 (y.pl:Nat)] 33)
   have hgA:wr.grownBy (wr.alloc (.cells #[.int .i64 y.kd,.string ⟨y.ky.toArray⟩,.string ⟨y.tx.toArray⟩,.int .i64 y.nu,.slice ok6 nk ck6,.int .i64 (y.pl:Nat)] 33)) none:=World.grownBy_alloc _ _ none
   clear hq hacc hX n0 n1 n2 n3 n4 n5 hnk hy hVT hPQ
   go_upto_region 4 with fail
   obtain ⟨bx,hbxe⟩:∃b,wr.heap.size=b:=⟨_,rfl⟩
   obtain ⟨w2,hw2⟩:∃W,wr.alloc (.cells #[.int .i64 y.kd,.string ⟨y.ky.toArray⟩,.string ⟨y.tx.toArray⟩,.int .i64 y.nu,.slice ok6 nk ck6,.int .i64 (y.pl:Nat)] 33)=W:=⟨_,rfl⟩
   rw [hw2] at hbx hgA ⊢
   rw [hbxe] at hbx ⊢
   have HBX:Hid (w2.heap[bx]?=some (.cells #[.int .i64 y.kd,.string ⟨y.ky.toArray⟩,.string ⟨y.tx.toArray⟩,.int .i64 y.nu,.slice ok6 nk ck6,.int .i64 (y.pl:Nat)] 33 (0,0))):=hbx
   have HP2:Hid (Pn w2 B p (.slice (some ⟨N,0,none⟩) ns.length c) X path):=HPR.out.gb hgA
   have HF2:Hid (PF B w1 w2):=HFR.out.two (PF.gb hgA HPR.out.pf)
   have HG2:Hid (w0.grownBy w2 none):=gb_trans HGR.out hgA
   have b0:w2.cell? ⟨bx,0,none⟩=some (.int .i64 y.kd):=by rw [Lib.cell_of_heap hbx];rfl
   have b1:w2.cell? ⟨bx,1,none⟩=some (.string ⟨y.ky.toArray⟩):=by rw [Lib.cell_of_heap hbx];rfl
   clear hgA hbx hbxe hw2 m0 m1 m2 m3 m4 m5 p0 g1c
   obtain ⟨KN,hKN⟩:∃z,y.kd=z:=⟨_,rfl⟩
   rw [hKN] at b0 HP1q
   have HKN:Hid (y.kd=KN):=hKN
   clear hKN
   by_cases hk0:KN=0\/KN=2
   ·rw [if_pos hk0] at HP1q
    have HPN:Hid (Pn w2 B p (.slice (some ⟨N,0,none⟩) ns.length c) (out++(SR.take (i+1)).flatMap (pr1 ns)) path):=by
     show Pn _ _ _ _ _ _
     rw [HTK.out,HP1q.out,List.append_nil,HX.out]
     exact HP2.out
    rcases hk0 with h0 | h2
    ·have hb:(KN == 0)=true:=by simpa using h0
     clear h0
     go_wp2
     go_roundw
     case rel=>exact ⟨i+1,by go_num,by omega,HPN.out,HF2.out⟩
     case measure=>simp [intOf];omega
    ·have hb:(KN == 0)=false:=by rw [h2];rfl
     have hb2:(KN == 2)=true:=by simpa using h2
     clear h2
     go_wp2
     go_roundw
     case rel=>exact ⟨i+1,by go_num,by omega,HPN.out,HF2.out⟩
     case measure=>simp [intOf];omega
   ·rw [if_neg hk0] at HP1q
    have hb:(KN == 0)=false:=by simp;omega
    have hb2:(KN == 2)=false:=by simp;omega
    clear hk0
    have hPl:PQ.length=(kt y.ky).length+3+VT.length+1:=by rw [HP1q.out];simp;omega
    obtain ⟨K,hK⟩:∃K:ByteArray,⟨y.ky.toArray⟩=K:=⟨_,rfl⟩
    have CQ:Hid (Calls Tryz.prog 61 #[.string K] w2.drew fun e w'=>e=.returned (.string ⟨(kt y.ky).toArray⟩)/\w2.drew.grownBy w' none):=by
     have:=tKeyText_any ⟨y.ky.toArray⟩ w2.drew (by show y.ky.toArray.size<=_;simpa using hky)
     rw [hK] at this
     have e:K.data.toList=y.ky:=by rw [<-hK]
     rw [e] at this
     exact this
    have CW2:Hid (∀w3,w2.drew.grownBy w3 none->Calls Tryz.prog 60 #[.pointer (some ⟨p,1,none⟩),.string ⟨(kt y.ky).toArray⟩] w3 fun e w4=>(∃k:Int,e=.returned (.tuple #[.int .i64 k,.nilIface]))/\Hid (Pn w4 B p (.slice (some ⟨N,0,none⟩) ns.length c) (X++kt y.ky) path/\PF B w1 w4/\w4.heap[bx]?=w2.heap[bx]?)/\w4.cell? ⟨bx,1,none⟩=some (.string K)):=fun w3 hg3=>by
     have g3:w2.grownBy w3 none:=gb_trans (show w2.grownBy w2.drew none from ⟨rfl,rfl,rfl,Nat.le_refl _,fun _ _ _=>rfl⟩) hg3
     refine (CW.out X (kt y.ky) w3 (HP2.out.gb g3) (fun e=>by have:=(kt_len y.ky).1;rw [e] at this;simp at this) (by omega)).mono ?_
     rintro e w4 ⟨he,h1,h2⟩
     have hb3:=(g3.block bx (blk_lt HBX.out) (by simp)).trans HBX.out
     have hb4:=(h2.oth _ _ _ _ hb3 (by decide) (by decide)).trans hb3
     exact ⟨he,⟨h1,(HF2.out.two (PF.gb g3 HP2.out.pf)).two h2,hb4.trans HBX.out.symm⟩,by rw [Lib.cell_of_heap hb4,<-hK];rfl⟩
    obtain ⟨QT,hQT⟩:∃Q:ByteArray,⟨(kt y.ky).toArray⟩=Q:=⟨_,rfl⟩
    rw [hQT] at CQ CW2
    rw [hK] at b1
    clear hK hQT
    go_wp2
    go_region_held3 (fun u=>u.cell? ⟨bx,1,none⟩=some (.string K)) ((first | assumption | exact World.grownBy.cell (by assumption) (by assumption) (by simp) | go_keep)) (first | (go_at_call 61;refine CQ.out.mono ?_;rintro e w6 ⟨rfl,hg6⟩) | (go_at_call 60;refine (CW2.out _ hg6).mono ?_;rintro e w7 ⟨⟨k7,rfl⟩,hall,hcl⟩))
    obtain ⟨hp7,hf7,hb7⟩:=hall.out
    have HP7:Hid (Pn w7 B p (.slice (some ⟨N,0,none⟩) ns.length c) (X++kt y.ky) path):=hp7
    have HF7:Hid (PF B w1 w7):=hf7
    have HB7:Hid (w7.heap[bx]?=some (.cells #[.int .i64 y.kd,.string ⟨y.ky.toArray⟩,.string ⟨y.tx.toArray⟩,.int .i64 y.nu,.slice ok6 nk ck6,.int .i64 (y.pl:Nat)] 33 (0,0))):=hb7.trans HBX.out
    clear hp7 hf7 hb7 hall hcl b0 b1
    go_wp2_with (first | (go_at_call 60;refine (CW.out (X++kt y.ky) [32,61,32] _ HP7.out (by simp) (by simp;omega)).mono ?_))
    rintro e w8 ⟨⟨k8,rfl⟩,hp8,hf8⟩
    have HP8:Hid (Pn w8 B p (.slice (some ⟨N,0,none⟩) ns.length c) (X++kt y.ky++[32,61,32]) path):=hp8
    have HF8:Hid (PF B w1 w8):=HF7.out.two hf8
    have HG8:Hid (w0.grownBy w8 none):=HUP.out _ _ HG0.out (HF1.out.two HF8.out).bel
    have hb8:=(hf8.oth _ _ _ _ HB7.out (by decide) (by decide)).trans HB7.out
    have d0:w8.cell? ⟨bx,0,none⟩=some (.int .i64 y.kd):=by rw [Lib.cell_of_heap hb8];rfl
    have d1:w8.cell? ⟨bx,1,none⟩=some (.string ⟨y.ky.toArray⟩):=by rw [Lib.cell_of_heap hb8];rfl
    have d2:w8.cell? ⟨bx,2,none⟩=some (.string ⟨y.tx.toArray⟩):=by rw [Lib.cell_of_heap hb8];rfl
    have d3:w8.cell? ⟨bx,3,none⟩=some (.int .i64 y.nu):=by rw [Lib.cell_of_heap hb8];rfl
    have d4:w8.cell? ⟨bx,4,none⟩=some (.slice ok6 nk ck6):=by rw [Lib.cell_of_heap hb8];rfl
    have d5:w8.cell? ⟨bx,5,none⟩=some (.int .i64 (y.pl:Nat)):=by rw [Lib.cell_of_heap hb8];rfl
    clear hp8 hf8 hb8
    go_wp2_with (first | (go_at_call 62;refine (CV1.out (X++kt y.ky++[32,61,32]) _ HP8.out HG8.out (by simp;omega)).mono ?_))
    first | rintro e w9 rfl hp9 hf9 | rintro e w9 ⟨rfl,hp9,hf9⟩
    have HP9:Hid (Pn w9 B p (.slice (some ⟨N,0,none⟩) ns.length c) (X++kt y.ky++[32,61,32]++VT) path):=hp9
    have HF9:Hid (PF B w1 w9):=HF8.out.two hf9
    clear hp9 hf9 d0 d1 d2 d3 d4 d5
    go_wp2_with (first | (go_at_call 63;refine (CB.out (X++kt y.ky++[32,61,32]++VT) 10 _ HP9.out (by simp;omega)).mono ?_))
    first | rintro e wa rfl hpa hfa | rintro e wa ⟨rfl,hpa,hfa⟩
    have HPN:Hid (Pn wa B p (.slice (some ⟨N,0,none⟩) ns.length c) (out++(SR.take (i+1)).flatMap (pr1 ns)) path):=by
     show Pn _ _ _ _ _ _
     rw [HTK.out,HP1q.out]
     have:=hpa
     rw [<-HX.out] at this
     simpa using this
    have HFN:Hid (PF B w1 wa):=HF9.out.two hfa
    clear hpa hfa
    go_wp2
    go_roundw
    case rel=>exact ⟨i+1,by go_num,by omega,HPN.out,HFN.out⟩
    case measure=>simp [intOf];omega
  ·have hI:¬ (i:Int) < (n:Int):=by omega
   have HPE:Hid (Pn wr B p (.slice (some ⟨N,0,none⟩) ns.length c) (out++SR.flatMap (pr1 ns)) path):=by
    have:=HPR.out
    rw [List.take_of_length_le (by rw [HN.out];omega)] at this
    exact this
   go_wp2
   refine bodyPost_end (results_none rfl _ _ _) rfl ?_
   exact ⟨rfl,HPE.out,HFW.out⟩
end Go.Proofs.YtbgnflcebafjjaaGreatDoor
namespace Go.Proofs.YtbgnflcebafjjaaGreatDoor
open Go.RowKit Go.Maps Go.WideMaps Go.Joins
set_option linter.unusedVariables false
def pathN (path:List UInt8) (ab:Nat) (ky:List UInt8):List UInt8:=path.take ab++(if 0 < ab then [46] else [])++kt ky
def hdT (out path:List UInt8) (dbl:Bool):List UInt8:=(if out=[] then [] else [10])++(if dbl then [91,91] else [91])++path++(if dbl then [93,93,10] else [93,10])
theorem wp_str_at {P:Program} {w:World} {o:Oper} {a:Act} {K:Act->World->Prop} {Q:Exit->Act->World->Prop} (sl y:Operand) (t u:TypeId)
  (ho:o.op=.call { callee:=.builtin .append,args:=#[sl,y],argTypes:=#[t,u] })
  (base:Nat) (e:TypeId) (i:TypeInfo) (ht:P.underlying t=some (.slice e)) (hu:P.underlying u=some .string) (hi:P.info? e=some i) (hz:i.zero=some (.int .u8 0)) (hsize:i.size=1) (hby:i.bytes=1)
  (v:Value) (n:Nat) (xs:List Value) (hs:a.eval sl=v) (hown:w.ownsRow base e 1 v n xs) (s:ByteArray) (hy:a.eval y=.string s) (h63:n+s.size<=140737488355328) (hbase:base<=w.heap.size)
  (h:∀v' w',w'.ownsRow base e 1 v' (n+s.size) (xs++Lib.strCells s)->w.grownBy w' v.ownBlock->(v'.ownBlock=v.ownBlock\/v'.ownBlock=some w.heap.size)->K (a.put o.dst v') w'):Oper.wp P o a w K Q:=by
 obtain ⟨v',w',hr,h2,h3,h4⟩:=str_at (P:=P) w base t u o.type e i ht hu hi hz hsize hby v n xs hown s h63 hbase
 unfold Oper.wp execOp
 simp only [ho,resolve,invoke,builtin,Sem.run_bind,Sem.run_pure,Result.andThen_ok,List.map_toArray,List.map_cons,List.map_nil,hs,hy,hr]
 exact h v' w' h2 h3 h4
theorem step_str_at {P:Program} {w:World} {ops:Array Oper} {o:Oper} {a:Act} {K:Act->World->Prop} {Q:Exit->Act->World->Prop} {E:Prop} (hgd:o.guard=none) (sl y:Operand) (t u:TypeId)
  (ho:o.op=.call { callee:=.builtin .append,args:=#[sl,y],argTypes:=#[t,u] })
  (base:Nat) (e:TypeId) (i:TypeInfo) (ht:P.underlying t=some (.slice e)) (hu:P.underlying u=some .string) (hi:P.info? e=some i) (hz:i.zero=some (.int .u8 0)) (hsize:i.size=1) (hby:i.bytes=1)
  (v:Value) (n:Nat) (xs:List Value) (hs:a.eval sl=v) (hown:w.ownsRow base e 1 v n xs) (s:ByteArray) (hy:a.eval y=.string s) (h63:n+s.size<=140737488355328) (hbase:base<=w.heap.size)
  (h:∀v' w',w'.ownsRow base e 1 v' (n+s.size) (xs++Lib.strCells s)->w.grownBy w' v.ownBlock->(v'.ownBlock=v.ownBlock\/v'.ownBlock=some w.heap.size)->K (a.put o.dst v') w') :
  if Region.wanted o (yielded ops a.tmps)=true then Oper.wp P o a w K Q else E:=by
 have hw:Region.wanted o (yielded ops a.tmps)=true:=by simp [Region.wanted,hgd]
 rw [if_pos hw]
 exact wp_str_at sl y t u ho base e i ht hu hi hz hsize hby v n xs hs hown s hy h63 hbase h
theorem own_cut {w:World} {B:Nat} {e:TypeId} {o:Option Addr} {n c:Nat} {xs:List Value} (h:w.ownsRow B e 1 (.slice o n c) n xs) (a:Nat) (ha:a<=n):w.ownsRow B e 1 (.slice o a c) a (xs.take a):=by
 have hl:xs.length=n:=by simpa using h.1
 refine ⟨by rw [List.length_take];omega,?_⟩
 rcases h.2 with ⟨hv,hn⟩ | ⟨g,cap,cur,hv,h1,h2,h3,h4,h5,h6⟩
 ·injection hv with ho _ hc
  subst ho hc
  have:a=0:=by omega
  subst this
  exact Or.inl ⟨rfl,rfl⟩
 ·injection hv with ho _ hc
  subst ho hc
  refine Or.inr ⟨g,c,cur,rfl,h1,h2,by omega,h4,h5,?_⟩
  rw [<-h6,List.take_take]
  congr 1
  omega
theorem cells_take (x:List UInt8) (a:Nat):(Lib.byteCells x).take a=Lib.byteCells (x.take a):=by
 unfold Lib.byteCells
 rw [List.map_take]
theorem Pn.path {w w1 w2:World} {B p:Nat} {NV ad bf pv v':Value} {out path path':List UInt8} (hB:B<=p) (h1:Pb w1 p NV ad bf pv) (had:ad=.pointer none\/ad=.pointer (some ⟨p,1,none⟩)) (hbf:w1.ownsRow B 5 1 bf out.length (Lib.byteCells out)) (hpv:w1.ownsRow B 5 1 pv path.length (Lib.byteCells path)) (hap:∀g,bf.ownBlock=some g->pv.ownBlock ≠ some g) (hnil:out=[]->bf=.slice none 0 0)
  (hv:w2.ownsRow B 5 1 v' path'.length (Lib.byteCells path')) (hg:w1.grownBy w2 pv.ownBlock) (hat:v'.ownBlock=pv.ownBlock\/∃g,v'.ownBlock=some g/\w1.heap.size<=g) (hBw:B<=w1.heap.size) :
  w2.cell? ⟨p,3,none⟩=some pv/\w2.frozen? ⟨p,3,none⟩=false/\Pn (w2.setCell ⟨p,3,none⟩ v') B p NV out path'/\PF B w1 (w2.setCell ⟨p,3,none⟩ v'):=by
 have hp2:Pb w2 p NV ad bf pv:=(hg.block p (blk_lt h1) (fun e=>by
  obtain ⟨-,cc,hcc⟩:=own_typ hpv e.symm
  exact ne_typ h1 hcc (by decide) rfl)).trans h1
 obtain ⟨-,-,-,c3,cf⟩:=hp2.cells
 have hbf2:w2.ownsRow B 5 1 bf out.length (Lib.byteCells out):=own_block hbf fun g cur hh hc=>hg.block g (blk_lt hc) (fun e=>hap g hh e.symm)
 have hset:∀(b:Nat) (cs:Array Value) (t:TypeId) (fz:Nat × Nat),w2.heap[b]?=some (.cells cs t fz)->¬ t=78->(w2.setCell ⟨p,3,none⟩ v').heap[b]?=w2.heap[b]?:=fun b cs t fz hb ht=>heap_setCell_other _ _ _ _ (ne_typ hb hp2 ht)
 refine ⟨c3,cf 3,⟨hB,ad,bf,v',hp2.setP v',had,own_block hbf2 fun g cur _ hc=>hset _ _ _ _ hc (by decide),own_block hv fun g cur _ hc=>hset _ _ _ _ hc (by decide),?_,hnil⟩,?_⟩
 ·intro g hgb hgp
  rcases hat with e | ⟨g',e,hle⟩
  ·exact hap g hgb (e ▸ hgp)
  ·rw [e] at hgp
   cases hgp
   obtain ⟨-,cc,hcc⟩:=own_typ hbf hgb
   have:=blk_lt hcc
   omega
 ·exact (PF.app hpv hg hBw).two (PF.row (gb_setc w2 p 3 v') (Nat.le_trans hBw hg.size) hB hp2 (Or.inl rfl))
theorem gb_wide {w w':World} (h:w.grownBy w' none) (r:Option Nat):w.grownBy w' r:=⟨h.os,h.tape,h.output,h.size,fun k hk _=>h.block k hk (by simp)⟩
theorem gb_drew0 (w:World) (r:Option Nat):w.grownBy w.drew r:=⟨rfl,rfl,rfl,Nat.le_refl _,fun _ _ _=>rfl⟩
end Go.Proofs.YtbgnflcebafjjaaGreatDoor
namespace Go.Proofs.YtbgnflcebafjjaaGreatDoor
open Go.RowKit Go.Maps Go.WideMaps Go.Joins
set_option linter.unusedVariables false
set_option maxRecDepth 100000 in
set_option maxHeartbeats 6400000 in
theorem pHeader (B p:Nat) (NV:Value) (out path:List UInt8) (t:Nat) (ky:List UInt8) (dbl:Bool) (ab:Nat) (w:World) (hP:Pn w B p NV out path) (hab:ab<=path.length) (hky:ky.length<=1048576) (hsz:out.length+(hdT out (pathN path ab ky) dbl).length<=70368744177664) :
  Calls Tryz.prog 34 #[.pointer (some ⟨p,0,none⟩),.agg #[.int .i64 (t:Nat),.string ⟨ky.toArray⟩,.bool dbl,.int .i64 (ab:Nat)]] w fun e w'=>e=.returned (.tuple #[])/\Pn w' B p NV (out++hdT out (pathN path ab ky) dbl) (pathN path ab ky)/\PF B w w':=by
 have hbx:=heap_alloc_new w (.cells #[.int .i64 (t:Nat),.string ⟨ky.toArray⟩,.bool dbl,.int .i64 (ab:Nat)] 83)
 have hga:w.grownBy (w.alloc (.cells #[.int .i64 (t:Nat),.string ⟨ky.toArray⟩,.bool dbl,.int .i64 (ab:Nat)] 83)) none:=World.grownBy_alloc _ _ none
 obtain ⟨w1,hw1⟩:∃W,w.alloc (.cells #[.int .i64 (t:Nat),.string ⟨ky.toArray⟩,.bool dbl,.int .i64 (ab:Nat)] 83)=W:=⟨_,rfl⟩
 obtain ⟨bx,hbxe⟩:∃b,w.heap.size=b:=⟨_,rfl⟩
 have HF1:Hid (PF B w w1):=by rw [<-hw1];exact PF.gb hga hP.pf
 have hP1:Pn w1 B p NV out path:=by rw [<-hw1];exact hP.gb hga
 rw [hw1,hbxe] at hbx
 have HBX:Hid (w1.heap[bx]?=some (.cells #[.int .i64 (t:Nat),.string ⟨ky.toArray⟩,.bool dbl,.int .i64 (ab:Nat)] 83 (0,0))):=hbx
 have b3:w1.cell? ⟨bx,3,none⟩=some (.int .i64 (ab:Nat)):=by rw [Lib.cell_of_heap hbx];rfl
 have hPN:(pathN path ab ky).length=ab+(if 0 < ab then 1 else 0)+(kt ky).length:=by unfold pathN;rw [List.length_append,List.length_append,List.length_take];split <;> simp <;> omega
 have hpsz:(pathN path ab ky).length<=(hdT out (pathN path ab ky) dbl).length:=by unfold hdT;simp only [List.length_append];omega
 obtain ⟨i0,hi0,hii⟩:=Option.map_eq_some_iff.1 infoU8
 simp only [Prod.mk.injEq] at hii
 obtain ⟨hz0,hz1,hzb⟩:=hii
 obtain ⟨hB,ad,bf,pv,hp,had,hbf,hpv,hap,hnil⟩:=hP1
 obtain ⟨o,c,rfl⟩:=own_slice hpv
 have hcap:ab<=c/\c<=maxLen:=by
  rcases hpv.2 with ⟨hv,hn⟩ | ⟨g,cap,cur,hv,h1,h2,h3,h4,h5,h6⟩
  ·injection hv with _ _ hc
   unfold maxLen
   omega
  ·injection hv with _ _ hc
   subst hc
   exact ⟨by omega,h4⟩
 obtain ⟨hac,hcm⟩:=hcap
 have hBw1:B<=w1.heap.size:=Nat.le_of_lt (Nat.lt_of_le_of_lt hB (blk_lt hp))
 obtain ⟨-,-,-,c3,cf⟩:=hp.cells
 have cf3:=cf 3
 have HCUT:Hid (∀w2,w1.grownBy w2 none->Pn (w2.setCell ⟨p,3,none⟩ (.slice o ab c)) B p NV out (path.take ab)/\PF B w1 (w2.setCell ⟨p,3,none⟩ (.slice o ab c))/\(w2.setCell ⟨p,3,none⟩ (.slice o ab c)).heap[bx]?=w1.heap[bx]?):=fun w2 hg=>by
  have hrow:=own_cut hpv ab hab
  rw [cells_take] at hrow
  have hl:(path.take ab).length=ab:=by rw [List.length_take];omega
  have hrow2:w2.ownsRow B 5 1 (.slice o ab c) (path.take ab).length (Lib.byteCells (path.take ab)):=by
   rw [hl]
   exact own_block hrow fun g cur _ hc=>hg.block g (blk_lt hc) (by simp)
  obtain ⟨-,-,h3,h4⟩:=Pn.path (w:=w) hB hp had hbf hpv hap hnil hrow2 (gb_wide hg _) (Or.inl (by cases o <;> rfl)) hBw1
  exact ⟨h3,h4,h4.oth _ _ _ _ hbx (by decide) (by decide)⟩
 have ha0:(0:Int)<=(ab:Int):=by omega
 have hacI:(ab:Int)<=(c:Int):=by omega
 have hcI:(c:Int)<=(c:Int):=Int.le_refl _
 have HAB:Hid (ab<=path.length):=hab
 obtain ⟨P3,hP3⟩:∃P3,pathN path ab ky=P3:=⟨_,rfl⟩
 rw [hP3] at hPN hpsz hsz ⊢
 clear hP hga hp had hbf hpv hap hnil hbx
 go_enter Tryz.func34,Tryz.ntmps34
 go_upto_region 1 with fail
 try rw [hw1]
 try rw [hbxe]
 clear hw1 hbxe
 go_cut [] from 6 (fun wx=>Pn wx B p NV out (path.take ab)/\PF B w1 wx/\wx.heap[bx]?=w1.heap[bx]?)
 case first =>
  cases o with
  | none =>
   go_region
   all_goals (
    go_wp2_with fail
    go_meet
    exact HCUT.out _ (gb_drew0 _ _))
  | some oa =>
   go_region
   all_goals (
    go_wp2_with fail
    go_meet
    exact HCUT.out _ (gb_drew0 _ _))
 case rest =>
  obtain ⟨hp2,hf2,hb2⟩:=hcut
  have HF2:Hid (PF B w wc):=HF1.out.two hf2
  have HB2:Hid (wc.heap[bx]?=some (.cells #[.int .i64 (t:Nat),.string ⟨ky.toArray⟩,.bool dbl,.int .i64 (ab:Nat)] 83 (0,0))):=hb2.trans HBX.out
  have HP2:Hid (Pn wc B p NV out (path.take ab)):=hp2
  have hlA:(path.take ab).length=ab:=by rw [List.length_take];have:=HAB.out;omega
  obtain ⟨A,hA⟩:∃A,path.take ab=A:=⟨_,rfl⟩
  have HPN:Hid (P3=A++(if 0 < ab then [46] else [])++kt ky):=by show _=_;rw [<-hP3];unfold pathN;rw [hA]
  rw [hA] at HP2 hlA
  clear hp2 hf2 hb2 b3 c3 cf cf3 HCUT HF1 HBX HAB hA
  have b3:wc.cell? ⟨bx,3,none⟩=some (.int .i64 (ab:Nat)):=by rw [Lib.cell_of_heap HB2.out];rfl
  have hBw:B<=wc.heap.size:=HP2.out.pf
  go_upto_if 18 with fail
  go_cut [] from 6 (fun wx=>Pn wx B p NV out (A++(if 0 < ab then [46] else []))/\PF B wc wx)
  case first =>
   by_cases h0:0 < ab
   ·have h0I:(0:Int) < (ab:Int):=by omega
    obtain ⟨-,ad2,bf2,pv2,hp2,had2,hbf2,hpv2,hap2,hnil2⟩:=HP2.out
    have d3:=hp2.cells.2.2.2.1
    have hone:=u8_one 46
    have hga2:wc.grownBy (wc.alloc (.cells #[.int .u8 46] 5)) none:=World.grownBy_alloc _ _ none
    rw [hlA] at hpv2
    go_wp2_with (first | (at_builtin;refine wpList_append_lies _ rfl _ _ 74 rfl B 5 i0 _ 1 1 Tryz.underlying74 hi0 hz0 hz1 hzb rfl (by decide) _ _ _ rfl (hpv2.alloc _) _ 1 1 [.int .u8 46] rfl rfl (World.news_of_block (heap_alloc_new _ _)) hone (by decide) (by unfold maxLen;omega) (by omega) (by simp;omega) _ rfl ?_))
    intro g cap w2 hv2 hg2 hat hlt2
    have hv2':w2.ownsRow B 5 1 (.slice (some ⟨g,0,none⟩) (ab+1) cap) (A++[46]).length (Lib.byteCells (A++[46])):=by
     rw [cells_app,List.length_append,hlA]
     exact hv2
    obtain ⟨e3,ef,hn,hf⟩:=Pn.path (w:=w) hB ((hga2.block p (blk_lt hp2) (by simp)).trans hp2) had2 (hbf2.alloc _) (by rw [hlA];exact hpv2.alloc _) hap2 hnil2 hv2' hg2 (hat.imp (fun e=>e.symm) fun e=>⟨g,rfl,Nat.le_of_eq (by rw [World.size_alloc];exact e.symm)⟩) (by simp;omega)
    have HN:Hid (Pn (w2.setCell ⟨p,3,none⟩ (.slice (some ⟨g,0,none⟩) (ab+1) cap)) B p NV out (A++[46])/\PF B wc (w2.setCell ⟨p,3,none⟩ (.slice (some ⟨g,0,none⟩) (ab+1) cap))):=⟨hn,(PF.gb hga2 hBw).two hf⟩
    clear hv2 hv2' hg2 hat hn hf hlt2 hp2 had2 hbf2 hpv2 hap2 hnil2 hga2 d3
    go_wp2
    go_meet
    rw [if_pos h0]
    exact HN.out
   ·have h0I:¬ (0:Int) < (ab:Int):=by omega
    go_wp2
    go_meet
    rw [if_neg h0,List.append_nil]
    exact ⟨HP2.out,PF.refl _ _⟩
  case rest =>
   obtain ⟨hp3,hf3⟩:=hcut
   have HF3:Hid (PF B w wc):=HF2.out.two hf3
   have HB3:Hid (wc.heap[bx]?=some (.cells #[.int .i64 (t:Nat),.string ⟨ky.toArray⟩,.bool dbl,.int .i64 (ab:Nat)] 83 (0,0))):=(hf3.oth _ _ _ _ HB2.out (by decide) (by decide)).trans HB2.out
   obtain ⟨A2,hA2⟩:∃A2,A++(if 0 < ab then [46] else [])=A2:=⟨_,rfl⟩
   have hPNe:=HPN.out
   rw [hA2] at hPNe hp3
   have hl3:P3.length=A2.length+(kt ky).length:=by rw [hPNe,List.length_append]
   have HP3E:Hid (P3=A2++kt ky):=hPNe
   clear HF2 HB2 HP2 HPN hPN hPNe hP3 hA2 hlA b3 hf3
   have b1:wc.cell? ⟨bx,1,none⟩=some (.string ⟨ky.toArray⟩):=by rw [Lib.cell_of_heap HB3.out];rfl
   have hBw3:B<=wc.heap.size:=hp3.pf
   have HP3:Hid (Pn wc B p NV out A2):=hp3
   obtain ⟨-,ad3,bf3,pv3,hp3,had3,hbf3,hpv3,hap3,hnil3⟩:=hp3
   have d3:=hp3.cells.2.2.2.1
   obtain ⟨K,hK⟩:∃K:ByteArray,⟨ky.toArray⟩=K:=⟨_,rfl⟩
   obtain ⟨QT,hQT⟩:∃Q:ByteArray,⟨(kt ky).toArray⟩=Q:=⟨_,rfl⟩
   have hQs:QT.size=(kt ky).length:=by rw [<-hQT];show (kt ky).toArray.size=_;simp
   have hQc:Lib.strCells QT=Lib.byteCells (kt ky):=by rw [<-hQT,str_cells]
   have CQ:Hid (Calls Tryz.prog 61 #[.string K] wc.drew fun e w'=>e=.returned (.string QT)/\wc.drew.grownBy w' none):=by
    have:=tKeyText_any ⟨ky.toArray⟩ wc.drew (by show ky.toArray.size<=_;simpa using hky)
    rw [hK] at this
    have e:K.data.toList=ky:=by rw [<-hK]
    rw [e,hQT] at this
    exact this
   have HR6:Hid (∀w6,wc.drew.grownBy w6 none->w6.ownsRow B 5 1 pv3 A2.length (Lib.byteCells A2)/\B<=w6.heap.size/\w6.cell? ⟨p,3,none⟩=some pv3):=fun w6 hg=>by
    have hg':=gb_trans (gb_drew0 wc none) hg
    exact ⟨own_block hpv3 fun g cur _ hc=>hg'.block g (blk_lt hc) (by simp),Nat.le_trans hBw3 hg'.size,hg'.cell d3 (by simp)⟩
   have HK:Hid (∀w6 v' w7,wc.drew.grownBy w6 none->w7.ownsRow B 5 1 v' (A2.length+QT.size) (Lib.byteCells A2++Lib.strCells QT)->w6.grownBy w7 pv3.ownBlock->(v'.ownBlock=pv3.ownBlock\/v'.ownBlock=some w6.heap.size)->w7.cell? ⟨p,3,none⟩=some pv3/\w7.frozen? ⟨p,3,none⟩=false/\Hid (Pn (w7.setCell ⟨p,3,none⟩ v') B p NV out P3/\PF B wc (w7.setCell ⟨p,3,none⟩ v'))/\w7.cell? ⟨bx,1,none⟩=some (.string K)/\(w7.setCell ⟨p,3,none⟩ v').cell? ⟨bx,1,none⟩=some (.string K)):=fun w6 v' w7 hg hv hg7 hat=>by
    have hg':=gb_trans (gb_drew0 wc none) hg
    obtain ⟨h1,h2,h3,h4⟩:=Pn.path (w:=w) (path:=A2) (path':=P3) hB ((hg'.block p (blk_lt hp3) (by simp)).trans hp3) had3 (own_block hbf3 fun g cur _ hc=>hg'.block g (blk_lt hc) (by simp)) (own_block hpv3 fun g cur _ hc=>hg'.block g (blk_lt hc) (by simp)) hap3 hnil3 (by rw [hl3,<-hQs,HP3E.out,cells_app,<-hQc];exact hv) hg7 (hat.imp id fun e=>⟨_,e,Nat.le_refl _⟩) (Nat.le_trans hBw3 hg'.size)
    have hbx7:=(((PF.gb hg' hBw3).two (PF.app (own_block hpv3 fun g cur _ hc=>hg'.block g (blk_lt hc) (by simp)) hg7 (Nat.le_trans hBw3 hg'.size))).oth _ _ _ _ HB3.out (by decide) (by decide)).trans HB3.out
    have hbx8:=(((PF.gb hg' hBw3).two h4).oth _ _ _ _ HB3.out (by decide) (by decide)).trans HB3.out
    exact ⟨h1,h2,⟨h3,(PF.gb hg' hBw3).two h4⟩,by rw [Lib.cell_of_heap hbx7,<-hK];rfl,by rw [Lib.cell_of_heap hbx8,<-hK];rfl⟩
   rw [hK] at b1
   have hstr:A2.length+QT.size<=140737488355328:=by omega
   clear hK hQT hQs hQc hp3 had3 hbf3 hpv3 hap3 hnil3 hky
   go_upto_region 4 with fail
   go_cut [] from 6 (fun wx=>Pn wx B p NV out P3/\PF B wc wx)
   case first =>
    go_region_law (first | (refine step_str_at (by rfl) _ _ _ _ (by rfl) B 5 i0 Tryz.underlying74 Tryz.underlying9 hi0 hz0 hz1 hzb pv3 A2.length (Lib.byteCells A2) (by rfl) (HR6.out _ hg6).1 QT (by rfl) hstr (HR6.out _ hg6).2.1 ?_;intro v7 w7 hv7 hg7 hat7;obtain ⟨k1,k2,k3,k4,k5⟩:=HK.out _ _ _ hg6 hv7 hg7 hat7;obtain ⟨o7,c7,rfl⟩:=own_slice hv7) | (go_simp;go_at_call 61;refine CQ.out.mono ?_;rintro e w6 ⟨rfl,hg6⟩;have q3:=(HR6.out _ hg6).2.2))
    all_goals (
     go_wp2_with fail
     go_meet
     exact k3.out)
   case rest =>
    obtain ⟨hp4,hf4⟩:=hcut
    have HF4:Hid (PF B w wc):=HF3.out.two hf4
    have HB4:Hid (wc.heap[bx]?=some (.cells #[.int .i64 (t:Nat),.string ⟨ky.toArray⟩,.bool dbl,.int .i64 (ab:Nat)] 83 (0,0))):=(hf4.oth _ _ _ _ HB3.out (by decide) (by decide)).trans HB3.out
    have HP4:Hid (Pn wc B p NV out P3):=hp4
    clear hp4 hf4 HF3 HB3 HP3 HK HR6 CQ b1 d3 HP3E hstr hBw3
    have CL:Hid (Calls Tryz.prog 65 #[.pointer (some ⟨p,1,none⟩)] wc fun e w'=>e=.returned (.int .i64 (out.length:Nat))/\w'=wc):=bLen B p NV out P3 wc HP4.out
    have CB:Hid (out.length+1<=70368744177664->Calls Tryz.prog 63 #[.pointer (some ⟨p,1,none⟩),.int .u8 10] wc fun e w'=>e=.returned .nilIface/\Pn w' B p NV (out++[10]) P3/\PF B wc w'):=fun hl=>bWriteB B p NV out P3 10 wc HP4.out hl
    obtain ⟨n0,hn0⟩:∃n0,out.length=n0:=⟨_,rfl⟩
    have hN0:n0=0 ↔ out=[]:=by rw [<-hn0];exact List.length_eq_zero_iff
    have hsz2:out.length+(if out=[] then 0 else 1)+(if dbl then 2 else 1)+P3.length+(if dbl then 3 else 2)<=70368744177664:=by
     have e:(hdT out P3 dbl).length=(if out=[] then 0 else 1)+(if dbl then 2 else 1)+P3.length+(if dbl then 3 else 2):=by
      unfold hdT
      simp only [List.length_append]
      congr 1
      ·congr 1
       congr 1
       ·split <;> rfl
       ·split <;> rfl
      ·split <;> rfl
     omega
    rw [hn0] at CL
    have HN0:Hid (out.length=n0):=hn0
    clear hn0
    go_upto_if 43 with (first | (go_at_call 65;refine CL.out.mono ?_;rintro e w5 ⟨rfl,rfl⟩))
    go_cut [] from 6 (fun wx=>Pn wx B p NV (out++(if out=[] then [] else [10])) P3/\PF B w5 wx)
    case first =>
     by_cases h0:out=[]
     ·have h0I:¬ (0:Int) < (n0:Int):=by have:=hN0.2 h0;omega
      go_wp2
      go_meet
      rw [if_pos h0,List.append_nil]
      exact ⟨HP4.out,PF.refl _ _⟩
     ·have h0I:(0:Int) < (n0:Int):=by have:=mt hN0.1 h0;omega
      rw [if_neg h0] at hsz2
      go_wp2_with (first | (go_at_call 63;refine (CB.out (by omega)).mono ?_))
      first | rintro e w5' rfl hp5 hf5 | rintro e w5' ⟨rfl,hp5,hf5⟩
      go_wp2
      go_meet
      rw [if_neg h0]
      exact ⟨hp5,hf5⟩
    case rest =>
     obtain ⟨hp5,hf5⟩:=hcut
     have HF5:Hid (PF B w wc):=HF4.out.two hf5
     have hb5:=(hf5.oth _ _ _ _ HB4.out (by decide) (by decide)).trans HB4.out
     have b2:wc.cell? ⟨bx,2,none⟩=some (.bool dbl):=by rw [Lib.cell_of_heap hb5];rfl
     obtain ⟨X,hX⟩:∃X,out++(if out=[] then [] else [10])=X:=⟨_,rfl⟩
     have hXl:X.length=out.length+(if out=[] then 0 else 1):=by rw [<-hX,List.length_append];congr 1;split <;> rfl
     rw [hX] at hp5
     have HX:Hid (out++(if out=[] then [] else [10])=X):=hX
     have HP5:Hid (Pn wc B p NV X P3):=hp5
     have HPE:Hid (P3 ≠ []):=by
      show _ ≠ _
      intro e
      have h1:=(kt_len ky).1
      rw [e] at hl3
      simp only [List.length_nil] at hl3
      omega
     have CW:Hid (∀(Y:List UInt8) w,Pn w B p NV X P3->Y ≠ []->X.length+Y.length<=70368744177664->Calls Tryz.prog 60 #[.pointer (some ⟨p,1,none⟩),.string ⟨Y.toArray⟩] w fun e w'=>(∃k:Int,e=.returned (.tuple #[.int .i64 k,.nilIface]))/\Pn w' B p NV (X++Y) P3/\PF B w w'):=fun Y w h h0 hl=>bWriteS B p NV X P3 Y w h h0 hl
     rw [<-hXl] at hsz2
     clear hp5 hf5 hb5 hX CL CB HF4 HB4 HP4
     cases dbl with
     | true =>
      simp only [if_true] at hsz2
      go_wp2_with (first | (go_at_call 60;refine (CW.out [91,91] _ HP5.out (by simp) (by simp;omega)).mono ?_))
      rintro e w6 ⟨⟨k6,rfl⟩,hp6,hf6⟩
      obtain ⟨pv6,e6,CP⟩:=bWriteP B p NV (X++[91,91]) P3 w6.drew (hp6.gb (gb_drew0 w6 none)) HPE.out (by simp;omega)
      have CP6:Hid (Calls Tryz.prog 66 #[.pointer (some ⟨p,1,none⟩),pv6] w6.drew fun e w'=>(∃k:Int,e=.returned (.tuple #[.int .i64 k,.nilIface]))/\Pn w' B p NV (X++[91,91]++P3) P3/\PF B w6.drew w'):=CP
      have q6:w6.cell? ⟨p,3,none⟩=some pv6:=e6
      have HF6:Hid (PF B w w6.drew):=(HF5.out.two hf6).two (PF.gb (gb_drew0 w6 none) hp6.pf)
      clear hp6 hf6 CP e6
      go_wp2
      go_region_law (go_simp;go_at_call 66;refine CP6.out.mono ?_;rintro e w7 ⟨⟨k7,rfl⟩,hp7,hf7⟩)
      go_wp2_with (first | (go_at_call 60;refine (bWriteS B p NV (X++[91,91]++P3) P3 [93,93,10] _ hp7 (by simp) (by simp;omega)).mono ?_))
      rintro e w8 ⟨⟨k8,rfl⟩,hp8,hf8⟩
      go_wp2
      refine bodyPost_end (results_none rfl _ _ _) rfl ?_
      refine ⟨rfl,?_,(HF6.out.two hf7).two hf8⟩
      unfold hdT
      rw [<-HX.out] at hp8
      simpa using hp8
     | false =>
      simp only [Bool.false_eq_true,if_false] at hsz2
      go_wp2_with (first | (go_at_call 60;refine (CW.out [91] _ HP5.out (by simp) (by simp;omega)).mono ?_))
      rintro e w6 ⟨⟨k6,rfl⟩,hp6,hf6⟩
      obtain ⟨pv6,e6,CP⟩:=bWriteP B p NV (X++[91]) P3 w6.drew (hp6.gb (gb_drew0 w6 none)) HPE.out (by simp;omega)
      have CP6:Hid (Calls Tryz.prog 66 #[.pointer (some ⟨p,1,none⟩),pv6] w6.drew fun e w'=>(∃k:Int,e=.returned (.tuple #[.int .i64 k,.nilIface]))/\Pn w' B p NV (X++[91]++P3) P3/\PF B w6.drew w'):=CP
      have q6:w6.cell? ⟨p,3,none⟩=some pv6:=e6
      have HF6:Hid (PF B w w6.drew):=(HF5.out.two hf6).two (PF.gb (gb_drew0 w6 none) hp6.pf)
      clear hp6 hf6 CP e6
      go_wp2
      go_region_law (go_simp;go_at_call 66;refine CP6.out.mono ?_;rintro e w7 ⟨⟨k7,rfl⟩,hp7,hf7⟩)
      go_wp2_with (first | (go_at_call 60;refine (bWriteS B p NV (X++[91]++P3) P3 [93,10] _ hp7 (by simp) (by simp;omega)).mono ?_))
      rintro e w8 ⟨⟨k8,rfl⟩,hp8,hf8⟩
      go_wp2
      refine bodyPost_end (results_none rfl _ _ _) rfl ?_
      refine ⟨rfl,?_,(HF6.out.two hf7).two hf8⟩
      unfold hdT
      rw [<-HX.out] at hp8
      simpa using hp8
end Go.Proofs.YtbgnflcebafjjaaGreatDoor
