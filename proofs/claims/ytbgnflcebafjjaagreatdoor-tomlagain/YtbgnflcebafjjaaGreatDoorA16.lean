import Derived.Test.YtbgnflcebafjjaaGreatDoorA13
import Derived.Test.YtbgnflcebafjjaaGreatDoorA15
import Derived.Lib.LaidTab
import Derived.Deep.RegionHeld3
namespace Go.Proofs.YtbgnflcebafjjaaGreatDoor
open Go.RowKit Go.Maps Go.WideMaps Go.Joins
set_option linter.unusedVariables false
def Tab (w:World):Prop:=Lib.TabIs Tryz.prog w "internal/strconv.uint64pow10" .u64 Lib.pow10Tab
theorem tab_grow {w w':World} (h:Tab w) (hg:w.grownBy w' none):Tab w':=by
 unfold Tab Lib.TabIs World.var? at h ⊢
 cases hgn:Tryz.prog.globalNamed "internal/strconv.uint64pow10" with
 | none=>simp [hgn] at h
 | some g =>
  simp only [hgn,Option.bind_some] at h ⊢
  have hlt:g < w.heap.size:=by
   rcases Nat.lt_or_ge g w.heap.size with h' | h'
   ·exact h'
   ·simp [Array.getElem?_eq_none h'] at h
  rw [hg.block g hlt (by simp)]
  exact h
theorem itoa_any (n:Int) (w:World) (h0:-9223372036854775808<=n) (h1:n<=9223372036854775807) (ht:Tab w) :
  Calls Tryz.prog 93 #[.int .i64 n] w fun e w'=>e=.returned (.string ⟨(Lib.itoa n).toArray⟩)/\w.grownBy w' none:=by
 refine Calls.mono (Any.strconv_Itoa Tryz.lays171 n h0 h1 w ht) ?_
 rintro e w' ⟨rfl,k,os,rfl⟩
 refine ⟨rfl,⟨rfl,rfl,rfl,by show w.heap.size<=(w.heap++os).size;simp,fun i hi _=>?_⟩⟩
 show (w.heap++os)[i]?=w.heap[i]?
 rw [Array.getElem?_append_left hi]
theorem itoa_ne (n:Int):Lib.itoa n ≠ []:=by
 unfold Lib.itoa
 split
 ·simp
 ·intro h
  have:=congrArg List.length h
  rw [Lib.decDigits_length] at this
  simp only [List.length_nil] at this
  by_cases hu:n.toNat < 10
  ·rw [Lib.nDigits_small hu] at this;cases this
  ·rw [Lib.nDigits_big hu] at this;cases this
structure Ev (w0:World) (NV:Value) (N c:Nat) (ns:List Tn) (own:List Nat):Prop where
 nv:Nv w0 NV N c ns
 wf:WF ns own
 gt:∀p q,q ∈ ksAt ns p->p < q
 len:ns.length<=900000
 txt:∀i (hi:i < ns.length),ns[i].ky.length<=1048576/\ns[i].tx.length<=1048576
 num:∀i (hi:i < ns.length),-9223372036854775808<=ns[i].nu/\ns[i].nu<=9223372036854775807
 tab:Tab w0
theorem up_gb {w0 w w':World} (h:w0.grownBy w none) (hb:Below w0.heap.size w w'):w0.grownBy w' none:=bel_gbn ((gb_below h).trans hb)
def PvC (w0:World) (p:Nat) (NV:Value) (ns:List Tn) (f:Nat):Prop:=∀(out path:List UInt8) (t:Nat) (ht:t < ns.length) (k:Value) (w:World),ns.length - t<=f->Pn w w0.heap.size p NV out path->w0.grownBy w none->NuS w0 k ns[t].ks->out.length+(vT ns f t).length<=70368744177664 →
 Calls Tryz.prog 62 #[.pointer (some ⟨p,0,none⟩),.agg #[.int .i64 ns[t].kd,.string ⟨ns[t].ky.toArray⟩,.string ⟨ns[t].tx.toArray⟩,.int .i64 ns[t].nu,k,.int .i64 (ns[t].pl:Nat)]] w fun e w'=>e=.returned (.tuple #[])/\Pn w' w0.heap.size p NV (out++vT ns f t) path/\PF w0.heap.size w w'
def PlC (w0:World) (p:Nat) (NV:Value) (ns:List Tn) (f:Nat):Prop:=∀(out path:List UInt8) (l:List Nat) (k:Value) (w:World),(∀q ∈ l,q < ns.length/\ns.length - q<=f)->l.length<=1000000->Pn w w0.heap.size p NV out path->w0.grownBy w none->NuS w0 k l->out.length+(91 :: cm true (l.map (vT ns f))++[93]).length<=70368744177664 →
 Calls Tryz.prog 92 #[.pointer (some ⟨p,0,none⟩),k] w fun e w'=>e=.returned (.tuple #[])/\Pn w' w0.heap.size p NV (out++(91 :: cm true (l.map (vT ns f))++[93])) path/\PF w0.heap.size w w'
theorem cm_le (first:Bool) (l:List (List UInt8)) (i:Nat):(cm first (l.take i)).length<=(cm first l).length:=by
 induction l generalizing first i with
 | nil=>simp
 | cons a r ih =>
  cases i with
  | zero=>simp [cm]
  | succ i =>
   show ((if first=true then [] else [44,32])++a++cm false (r.take i)).length<=((if first=true then [] else [44,32])++a++cm false r).length
   have:=ih false i
   simp only [List.length_append]
   omega
set_option maxRecDepth 100000 in
set_option maxHeartbeats 3200000 in
theorem pList_of {w0:World} {p N c:Nat} {NV:Value} {ns:List Tn} {own:List Nat} (E:Ev w0 NV N c ns own) (f:Nat) (C:PvC w0 p NV ns f):PlC w0 p NV ns f:=by
 intro out path l k w hl hll hP hg hk hsz
 obtain ⟨o,ck,rfl,hkc⟩:=hk
 have hv:=E.nv.val
 have HNV:Hid (∀w',w0.grownBy w' none->w'.cell? ⟨p,0,none⟩=some NV->w'.cell? ⟨p,0,none⟩=some (.slice (some ⟨N,0,none⟩) ns.length c)):=fun w' _ h=>by rw [<-hv];exact h
 obtain ⟨B,hB⟩:∃B,w0.heap.size=B:=⟨_,rfl⟩
 have HB:Hid (w0.heap.size=B):=hB
 have CB:Hid (∀(out:List UInt8) (ch:UInt8) w,Pn w B p NV out path->out.length+1<=70368744177664->Calls Tryz.prog 63 #[.pointer (some ⟨p,1,none⟩),.int .u8 (ch.toNat:Int)] w fun e w'=>e=.returned .nilIface/\Pn w' B p NV (out++[ch]) path/\PF B w w'):=fun out ch w h hl=>bWriteB B p NV out path ch w h hl
 have CS:Hid (∀(out:List UInt8) w,Pn w B p NV out path->out.length+2<=70368744177664->Calls Tryz.prog 60 #[.pointer (some ⟨p,1,none⟩),.string ⟨#[44,32]⟩] w fun e w'=>(∃k:Int,e=.returned (.tuple #[.int .i64 k,.nilIface]))/\Pn w' B p NV (out++[44,32]) path/\PF B w w'):=fun out w h hl=>bWriteS B p NV out path [44,32] w h (by simp) hl
 have CV:Hid (∀(out:List UInt8) (t:Nat) (ht:t < ns.length) (k:Value) (w:World),ns.length - t<=f->Pn w B p NV out path->w0.grownBy w none->NuS w0 k ns[t].ks->out.length+(vT ns f t).length<=70368744177664->Calls Tryz.prog 62 #[.pointer (some ⟨p,0,none⟩),.agg #[.int .i64 ns[t].kd,.string ⟨ns[t].ky.toArray⟩,.string ⟨ns[t].tx.toArray⟩,.int .i64 ns[t].nu,k,.int .i64 (ns[t].pl:Nat)]] w fun e w'=>e=.returned (.tuple #[])/\Pn w' B p NV (out++vT ns f t) path/\PF B w w'):=fun out t ht k w h1 h2 h3 h4 h5=>by
  have:=C out path t ht k w h1 (by rw [hB];exact h2) h3 h4 h5
  rw [hB] at this
  exact this
 rw [hB] at hP ⊢
 have HKC:Hid (∀i (hi:i < l.length),∃g,o=some ⟨g,0,none⟩/\w0.cell? ⟨g,i,none⟩=some (.int .i64 (l[i]:Nat))):=hkc
 have HL:Hid (∀q ∈ l,q < ns.length/\ns.length - q<=f):=hl
 have HP0:Hid (Pn w B p NV out path):=hP
 have HG0:Hid (w0.grownBy w none):=hg
 have HE:Hid (Ev w0 NV N c ns own):=E
 have HUP:Hid (∀w w',w0.grownBy w none->Below B w w'->w0.grownBy w' none):=fun w w' h1 h2=>up_gb h1 (by rw [hB];exact h2)
 have hcl:(91 :: cm true (l.map (vT ns f))++[93]).length=(cm true (l.map (vT ns f))).length+2:=by simp
 rw [hcl] at hsz
 have hol:out.length+2<=70368744177664:=by omega
 obtain ⟨n,hn⟩:∃n,l.length=n:=⟨_,rfl⟩
 have HN:Hid (l.length=n):=hn
 rw [hn] at hll ⊢
 have hEl:=E.len
 obtain ⟨L,hL⟩:∃L,ns.length=L:=⟨_,rfl⟩
 have HLN:Hid (ns.length=L):=hL
 clear hP hg hkc hl E hv hB hcl hn hL C
 go_enter Tryz.func92,Tryz.ntmps92
 go_wp2_with (first | (go_at_call 63;refine (CB.out out 91 _ HP0.out (by omega)).mono ?_))
 first | rintro e w1 rfl hp1 hf1 | rintro e w1 ⟨rfl,hp1,hf1⟩
 have HP1:Hid (Pn w1 B p NV (out++[91]) path):=hp1
 have HF1:Hid (PF B w w1):=hf1
 have HG1:Hid (w0.grownBy w1 none):=HUP.out _ _ HG0.out hf1.bel
 clear hp1 hf1
 go_wp2
 go_loopw [12] (fun v12 wr=>∃i:Nat,v12=.int .i64 (i:Nat)/\i<=n/\Pn wr B p NV (out++[91]++cm true ((l.map (vT ns f)).take i)) path/\PF B w wr/\w0.grownBy wr none) (fun v12 _=>n - (intOf v12).toNat)
 case atStart=>exact ⟨0,rfl,Nat.zero_le _,by simpa [cm] using HP1.out,HF1.out,HG1.out⟩
 case round =>
  obtain ⟨i,rfl,hi,hpr,hfr,hgr⟩:=hrel
  have HPR:Hid (Pn wr B p NV (out++[91]++cm true ((l.map (vT ns f)).take i)) path):=hpr
  have HFR:Hid (PF B w wr):=hfr
  have HGR:Hid (w0.grownBy wr none):=hgr
  clear hpr hfr hgr
  by_cases hlt:i < n
  ·have hil:i < l.length:=by rw [HN.out];exact hlt
   have hI:(i:Int) < (n:Int):=by omega
   obtain ⟨g,hgo,hgc⟩:=HKC.out i hil
   subst hgo
   have g1:=HGR.out.cell hgc (by simp)
   obtain ⟨q,hq⟩:∃q,l[i]=q:=⟨_,rfl⟩
   obtain ⟨hqL,hqf⟩:=HL.out q (by rw [<-hq];exact List.getElem_mem hil)
   rw [hq] at g1
   have HTK:Hid (cm true ((l.map (vT ns f)).take (i+1))=cm true ((l.map (vT ns f)).take i)++((if i=0 then [] else [44,32])++vT ns f q)):=by
    show _=_
    have hil2:i < (l.map (vT ns f)).length:=by simpa using hil
    rw [List.take_succ_eq_append_getElem hil2,cm_snoc,List.getElem_map,hq]
    have e:(true=true/\(l.map (vT ns f)).take i=[]) ↔ i=0:=by
     simp only [true_and,List.take_eq_nil_iff]
     constructor
     ·rintro (h | h)
      ·exact h
      ·rw [h] at hil2;simp at hil2
     ·exact Or.inl
    by_cases h0:i=0
    ·rw [if_pos (e.2 h0),if_pos h0]
    ·rw [if_neg (fun hh=>h0 (e.1 hh)),if_neg h0]
   have hle:=cm_le true (l.map (vT ns f)) (i+1)
   rw [HTK.out] at hle
   simp only [List.length_append] at hle
   obtain ⟨acc,hacc⟩:∃acc,cm true ((l.map (vT ns f)).take i)=acc:=⟨_,rfl⟩
   rw [hacc] at HTK HPR hle
   obtain ⟨X,hX⟩:∃X,out++[91]++acc=X:=⟨_,rfl⟩
   have hXl:X.length=out.length+1+acc.length:=by rw [<-hX];simp;omega
   rw [hX] at HPR
   obtain ⟨k6,n0,n1,n2,n3,n4,n5,n6⟩:=HE.out.nv.cel q hqL
   have HCE:Hid (∀w',w0.grownBy w' none->w'.cell? ⟨N,q * 6,none⟩=some (.int .i64 ns[q].kd)/\w'.cell? ⟨N,q * 6+1,none⟩=some (.string ⟨ns[q].ky.toArray⟩)/\w'.cell? ⟨N,q * 6+2,none⟩=some (.string ⟨ns[q].tx.toArray⟩)/\w'.cell? ⟨N,q * 6+3,none⟩=some (.int .i64 ns[q].nu)/\w'.cell? ⟨N,q * 6+4,none⟩=some k6/\w'.cell? ⟨N,q * 6+5,none⟩=some (.int .i64 (ns[q].pl:Nat))):=fun w' h=>⟨h.cell n0 (by simp),h.cell n1 (by simp),h.cell n2 (by simp),h.cell n3 (by simp),h.cell n4 (by simp),h.cell n5 (by simp)⟩
   have CV1:Hid (∀(X:List UInt8) w,Pn w B p NV X path->w0.grownBy w none->X.length+(vT ns f q).length<=70368744177664->Calls Tryz.prog 62 #[.pointer (some ⟨p,0,none⟩),.agg #[.int .i64 ns[q].kd,.string ⟨ns[q].ky.toArray⟩,.string ⟨ns[q].tx.toArray⟩,.int .i64 ns[q].nu,k6,.int .i64 (ns[q].pl:Nat)]] w fun e w'=>e=.returned (.tuple #[])/\Pn w' B p NV (X++vT ns f q) path/\PF B w w'):=fun X w h1 h2 h3=>CV.out X q hqL k6 w hqf h1 h2 n6 h3
   obtain ⟨VT,hVT⟩:∃V,vT ns f q=V:=⟨_,rfl⟩
   rw [hVT] at CV1 HTK hle
   obtain ⟨y,hy⟩:∃y,ns[q]=y:=⟨_,rfl⟩
   rw [hy] at HCE CV1
   have hqI:(q:Int) < (L:Int):=by have:=HLN.out;omega
   have HX:Hid (out++[91]++acc=X):=hX
   clear hq hacc hX n0 n1 n2 n3 n4 n5 n6 hVT hy hgc hqf
   have fin:Hid (∀w',Pn w' B p NV (X++(if i=0 then [] else [44,32])++VT) path->Pn w' B p NV (out++[91]++cm true ((l.map (vT ns f)).take (i+1))) path):=fun w' h=>by
    rw [HTK.out]
    rw [<-HX.out] at h
    simpa using h
   by_cases h0:i=0
   ·have hgt:¬ (0:Int) < (i:Int):=by omega
    simp only [if_pos h0] at hle fin
    have p0:=HPR.out.base.2.2
    have p0':=HNV.out _ HGR.out p0
    rw [HLN.out] at p0'
    obtain ⟨m0,m1,m2,m3,m4,m5⟩:=HCE.out _ HGR.out
    clear p0 h0
    go_wp2_with (first | (go_at_call 62;refine (CV1.out X _ HPR.out HGR.out (by simp at hle;omega)).mono ?_))
    first | rintro e w3 rfl hp3 hf3 | rintro e w3 ⟨rfl,hp3,hf3⟩
    have HPN:Hid (Pn w3 B p NV (out++[91]++cm true ((l.map (vT ns f)).take (i+1))) path):=fin.out w3 (by simpa using hp3)
    have HFN:Hid (PF B w w3):=HFR.out.two hf3
    have HGN:Hid (w0.grownBy w3 none):=HUP.out _ _ HGR.out hf3.bel
    clear hp3 hf3 m0 m1 m2 m3 m4 m5 p0'
    go_wp2
    go_roundw
    case rel=>exact ⟨i+1,by go_num,by omega,HPN.out,HFN.out,HGN.out⟩
    case measure=>simp [intOf];omega
   ·have hgt:(0:Int) < (i:Int):=by omega
    simp only [if_neg h0] at hle fin
    go_wp2_with (first | (go_at_call 60;refine (CS.out X _ HPR.out (by simp at hle;omega)).mono ?_))
    rintro e w2 ⟨⟨k2,rfl⟩,hp2,hf2⟩
    have HP2:Hid (Pn w2 B p NV (X++[44,32]) path):=hp2
    have HF2:Hid (PF B w w2):=HFR.out.two hf2
    have HG2:Hid (w0.grownBy w2 none):=HUP.out _ _ HGR.out hf2.bel
    have p0:=hp2.base.2.2
    have p0':=HNV.out _ HG2.out p0
    rw [HLN.out] at p0'
    obtain ⟨m0,m1,m2,m3,m4,m5⟩:=HCE.out _ HG2.out
    clear p0 hp2 hf2
    go_wp2_with (first | (go_at_call 62;refine (CV1.out (X++[44,32]) _ HP2.out HG2.out (by simp at hle ⊢;omega)).mono ?_))
    first | rintro e w3 rfl hp3 hf3 | rintro e w3 ⟨rfl,hp3,hf3⟩
    have HPN:Hid (Pn w3 B p NV (out++[91]++cm true ((l.map (vT ns f)).take (i+1))) path):=fin.out w3 (by simpa using hp3)
    have HFN:Hid (PF B w w3):=HF2.out.two hf3
    have HGN:Hid (w0.grownBy w3 none):=HUP.out _ _ HG2.out hf3.bel
    clear hp3 hf3 m0 m1 m2 m3 m4 m5 p0'
    go_wp2
    go_roundw
    case rel=>exact ⟨i+1,by go_num,by omega,HPN.out,HFN.out,HGN.out⟩
    case measure=>simp [intOf];omega
  ·have hI:¬ (i:Int) < (n:Int):=by omega
   have HPE:Hid (Pn wr B p NV (out++[91]++cm true (l.map (vT ns f))) path):=by
    have:=HPR.out
    rw [List.take_of_length_le (by rw [List.length_map,HN.out];omega)] at this
    exact this
   go_wp2_with (first | (go_at_call 63;refine (CB.out (out++[91]++cm true (l.map (vT ns f))) 93 _ HPE.out (by simp;omega)).mono ?_))
   first | rintro e w3 rfl hp3 hf3 | rintro e w3 ⟨rfl,hp3,hf3⟩
   have HPN:Hid (Pn w3 B p NV (out++(91 :: cm true (l.map (vT ns f))++[93])) path):=by show Pn _ _ _ _ _ _;simpa using hp3
   have HFN:Hid (PF B w w3):=HFR.out.two hf3
   clear hp3 hf3
   go_wp2
   refine bodyPost_end (results_none rfl _ _ _) rfl ?_
   exact ⟨rfl,HPN.out,HFN.out⟩
theorem Pn.pf {w:World} {B p:Nat} {NV:Value} {out path:List UInt8} (h:Pn w B p NV out path):B<=w.heap.size:=by
 have:=h.base
 omega
set_option maxRecDepth 100000 in
set_option maxHeartbeats 3200000 in
theorem pValue_of {w0:World} {p N c:Nat} {NV:Value} {ns:List Tn} {own:List Nat} (E:Ev w0 NV N c ns own) (f:Nat) (C:PlC w0 p NV ns f):PvC w0 p NV ns (f+1):=by
 intro out path t ht k w hf hP hg hk hsz
 have HVT:=vT_step ns f t ht
 obtain ⟨htx1,htx⟩:=E.txt t ht
 obtain ⟨hnu1,hnu2⟩:=E.num t ht
 obtain ⟨ok,ck,hkv,hkc⟩:=hk
 have hk2:NuS w0 k ns[t].ks:=⟨ok,ck,hkv,hkc⟩
 have CL:Hid (∀w',Pn w' w0.heap.size p NV out path->w0.grownBy w' none->out.length+(91 :: cm true (ns[t].ks.map (vT ns f))++[93]).length<=70368744177664->Calls Tryz.prog 92 #[.pointer (some ⟨p,0,none⟩),k] w' fun e w''=>e=.returned (.tuple #[])/\Pn w'' w0.heap.size p NV (out++(91 :: cm true (ns[t].ks.map (vT ns f))++[93])) path/\PF w0.heap.size w' w''):=fun w' h1 h2 h3=>C out path ns[t].ks k w' (fun q hq=>by
  have hq':q ∈ ksAt ns t:=by rw [ksAt_in ht];exact hq
  have a1:=E.gt t q hq'
  have a2:=E.wf.lt t q hq'
  exact ⟨a2,by omega⟩) (by have:=E.wf.len t;rw [ksAt_in ht] at this;have:=E.len;omega) h1 h2 hk2 h3
 obtain ⟨B,hB⟩:∃B,w0.heap.size=B:=⟨_,rfl⟩
 have HUP:Hid (∀w w',w0.grownBy w none->Below B w w'->w0.grownBy w' none):=fun w w' h1 h2=>up_gb h1 (by rw [hB];exact h2)
 have HTB:Hid (∀w',w0.grownBy w' none->Tab w'):=fun w' h=>tab_grow E.tab h
 rw [hB] at CL hP ⊢
 obtain ⟨x,hx⟩:∃x,ns[t]=x:=⟨_,rfl⟩
 rw [hx] at CL HVT htx hnu1 hnu2 ⊢
 obtain ⟨V,hV⟩:∃V,vT ns (f+1) t=V:=⟨_,rfl⟩
 rw [hV] at HVT hsz ⊢
 have HVV:Hid (V=if x.kd=1 then 91 :: cm true (x.ks.map (vT ns f))++[93] else if x.kd=3 then qt x.tx else if x.kd=4 then Lib.itoa x.nu else if x.kd=5 then Lib.formatBool (decide (x.nu=1)) else []):=HVT
 have hgA:w.grownBy (w.alloc (.cells #[.int .i64 x.kd,.string ⟨x.ky.toArray⟩,.string ⟨x.tx.toArray⟩,.int .i64 x.nu,k,.int .i64 (x.pl:Nat)] 33)) none:=World.grownBy_alloc _ _ none
 have hbx:=heap_alloc_new w (.cells #[.int .i64 x.kd,.string ⟨x.ky.toArray⟩,.string ⟨x.tx.toArray⟩,.int .i64 x.nu,k,.int .i64 (x.pl:Nat)] 33)
 have hBw:=hP.pf
 obtain ⟨w1,hw1⟩:∃W,w.alloc (.cells #[.int .i64 x.kd,.string ⟨x.ky.toArray⟩,.string ⟨x.tx.toArray⟩,.int .i64 x.nu,k,.int .i64 (x.pl:Nat)] 33)=W:=⟨_,rfl⟩
 obtain ⟨bx,hbxe⟩:∃b,w.heap.size=b:=⟨_,rfl⟩
 rw [hw1] at hgA hbx
 rw [hbxe] at hbx
 have HW1:Hid (w.alloc (.cells #[.int .i64 x.kd,.string ⟨x.ky.toArray⟩,.string ⟨x.tx.toArray⟩,.int .i64 x.nu,k,.int .i64 (x.pl:Nat)] 33)=w1):=hw1
 have HBX:Hid (w.heap.size=bx):=hbxe
 have HP1:Hid (Pn w1 B p NV out path):=hP.gb hgA
 have HF1:Hid (PF B w w1):=PF.gb hgA hBw
 have HG1:Hid (w0.grownBy w1 none):=gb_trans hg hgA
 have HBB:Hid (w1.heap[bx]?=some (.cells #[.int .i64 x.kd,.string ⟨x.ky.toArray⟩,.string ⟨x.tx.toArray⟩,.int .i64 x.nu,k,.int .i64 (x.pl:Nat)] 33 (0,0))):=hbx
 have b0:w1.cell? ⟨bx,0,none⟩=some (.int .i64 x.kd):=by rw [Lib.cell_of_heap hbx];rfl
 have b2:w1.cell? ⟨bx,2,none⟩=some (.string ⟨x.tx.toArray⟩):=by rw [Lib.cell_of_heap hbx];rfl
 have b3:w1.cell? ⟨bx,3,none⟩=some (.int .i64 x.nu):=by rw [Lib.cell_of_heap hbx];rfl
 have b4:w1.cell? ⟨bx,4,none⟩=some k:=by rw [Lib.cell_of_heap hbx];rfl
 -- a text written behind a call that only grows
 have CW:Hid (∀(X:List UInt8),X ≠ []->out.length+X.length<=70368744177664->∀w2,w1.drew.grownBy w2 none->Calls Tryz.prog 60 #[.pointer (some ⟨p,1,none⟩),.string ⟨X.toArray⟩] w2 fun e w3=>(∃k:Int,e=.returned (.tuple #[.int .i64 k,.nilIface]))/\Hid (Pn w3 B p NV (out++X) path/\PF B w w3)/\w3.cell? ⟨bx,2,none⟩=some (.string ⟨x.tx.toArray⟩)/\w3.cell? ⟨bx,3,none⟩=some (.int .i64 x.nu)):=fun X hX hl w2 hg2=>by
  have g2:w1.grownBy w2 none:=gb_trans (show w1.grownBy w1.drew none from ⟨rfl,rfl,rfl,Nat.le_refl _,fun _ _ _=>rfl⟩) hg2
  refine (bWriteS B p NV out path X w2 (HP1.out.gb g2) hX hl).mono ?_
  rintro e w3 ⟨he,h1,h2⟩
  have hb2:=(g2.block bx (blk_lt HBB.out) (by simp)).trans HBB.out
  have hb3:=(h2.oth _ _ _ _ hb2 (by decide) (by decide)).trans hb2
  exact ⟨he,⟨h1,(HF1.out.two (PF.gb g2 HP1.out.pf)).two h2⟩,by rw [Lib.cell_of_heap hb3];rfl,by rw [Lib.cell_of_heap hb3];rfl⟩
 obtain ⟨KD',hkd⟩:∃z,x.kd=z:=⟨_,rfl⟩
 rw [hkd] at HVV b0 HW1 HBB ⊢
 obtain ⟨T,hT⟩:∃T:ByteArray,⟨x.tx.toArray⟩=T:=⟨_,rfl⟩
 have HT:Hid (T.data.toList=x.tx/\T.size<=1048576):=by
  rw [<-hT]
  exact ⟨by simp,by show x.tx.toArray.size<=_;simpa using htx⟩
 rw [hT] at b2 CW HW1 HBB ⊢
 clear hP hg hk2 hkv hkc hf HVT hV hgA hbx hbxe hw1 E C hx htx1 ht hkd hT
 by_cases h1:KD'=1
 ·have hb1:(KD' == 1)=true:=by simpa using h1
  rw [if_pos h1] at HVV
  rw [HVV.out] at hsz ⊢
  clear h1
  go_enter Tryz.func62,Tryz.ntmps62
  go_upto_region 1 with fail
  rw [HW1.out,HBX.out]
  go_wp2_with (first | (go_at_call 92;refine (CL.out _ HP1.out HG1.out hsz).mono ?_;rintro e w2 ⟨rfl,hp2,hf2⟩))
  refine bodyPost_end (results_none rfl _ _ _) rfl ?_
  exact ⟨rfl,hp2,HF1.out.two hf2⟩
 ·have hb1:(KD' == 1)=false:=by simpa using h1
  rw [if_neg h1] at HVV
  clear h1
  by_cases h3:KD'=3
  ·have hb3':(KD' == 3)=true:=by simpa using h3
   rw [if_pos h3] at HVV
   rw [HVV.out] at hsz ⊢
   have CQ:Hid (Calls Tryz.prog 91 #[.string T] w1.drew fun e w'=>e=.returned (.string ⟨(qt x.tx).toArray⟩)/\w1.drew.grownBy w' none):=by
    have:=tQuote_any T w1.drew HT.out.2
    rw [HT.out.1] at this
    exact this
   have CW1:=CW.out (qt x.tx) (fun e=>by have:=(qt_len x.tx).1;rw [e] at this;simp at this) hsz
   have CW2:Hid (∀w2,w1.drew.grownBy w2 none->Calls Tryz.prog 60 #[.pointer (some ⟨p,1,none⟩),.string ⟨(qt x.tx).toArray⟩] w2 fun e w3=>(∃k:Int,e=.returned (.tuple #[.int .i64 k,.nilIface]))/\Hid (Pn w3 B p NV (out++qt x.tx) path/\PF B w w3)/\w3.cell? ⟨bx,2,none⟩=some (.string T)):=fun w2 h=>(CW1 w2 h).mono fun e w3 ⟨a,b,c,d⟩=>⟨a,b,c⟩
   obtain ⟨QT,hQT⟩:∃Q:ByteArray,⟨(qt x.tx).toArray⟩=Q:=⟨_,rfl⟩
   rw [hQT] at CQ CW2
   clear h3 CW1 CW hQT b3 b4
   go_enter Tryz.func62,Tryz.ntmps62
   go_upto_region 1 with fail
   rw [HW1.out,HBX.out]
   go_wp2
   go_region_held3 (fun u=>u.cell? ⟨bx,2,none⟩=some (.string T)) ((first | assumption | exact World.grownBy.cell (by assumption) (by assumption) (by simp) | go_keep)) (first | (go_at_call 91;refine CQ.out.mono ?_;rintro e w6 ⟨rfl,hg6⟩) | (go_at_call 60;refine (CW2.out _ hg6).mono ?_;rintro e w7 ⟨⟨k7,rfl⟩,hall,hcl⟩))
   go_wp2
   refine bodyPost_end (results_none rfl _ _ _) rfl ?_
   exact ⟨rfl,hall.out.1,hall.out.2⟩
  ·have hb3':(KD' == 3)=false:=by simpa using h3
   rw [if_neg h3] at HVV
   clear h3
   by_cases h4:KD'=4
   ·have hb4':(KD' == 4)=true:=by simpa using h4
    rw [if_pos h4] at HVV
    rw [HVV.out] at hsz ⊢
    have CQ:Hid (Calls Tryz.prog 93 #[.int .i64 x.nu] w1.drew fun e w'=>e=.returned (.string ⟨(Lib.itoa x.nu).toArray⟩)/\w1.drew.grownBy w' none):=itoa_any x.nu w1.drew hnu1 hnu2 (HTB.out _ (gb_drew HG1.out 1))
    have CW1:=CW.out (Lib.itoa x.nu) (itoa_ne _) hsz
    have CW2:Hid (∀w2,w1.drew.grownBy w2 none->Calls Tryz.prog 60 #[.pointer (some ⟨p,1,none⟩),.string ⟨(Lib.itoa x.nu).toArray⟩] w2 fun e w3=>(∃k:Int,e=.returned (.tuple #[.int .i64 k,.nilIface]))/\Hid (Pn w3 B p NV (out++Lib.itoa x.nu) path/\PF B w w3)/\w3.cell? ⟨bx,3,none⟩=some (.int .i64 x.nu)):=fun w2 h=>(CW1 w2 h).mono fun e w3 ⟨a,b,c,d⟩=>⟨a,b,d⟩
    obtain ⟨QT,hQT⟩:∃Q:ByteArray,⟨(Lib.itoa x.nu).toArray⟩=Q:=⟨_,rfl⟩
    rw [hQT] at CQ CW2
    obtain ⟨NU,hNU⟩:∃z,x.nu=z:=⟨_,rfl⟩
    rw [hNU] at CQ b3 HW1 CW2 ⊢
    clear h4 CW1 CW hQT b2 b4 hNU HBB hnu1 hnu2
    go_enter Tryz.func62,Tryz.ntmps62
    go_upto_region 1 with fail
    rw [HW1.out,HBX.out]
    go_wp2
    go_region_held3 (fun u=>u.cell? ⟨bx,3,none⟩=some (.int .i64 NU)) ((first | assumption | exact World.grownBy.cell (by assumption) (by assumption) (by simp) | go_keep)) (first | (go_at_call 93;refine CQ.out.mono ?_;rintro e w6 ⟨rfl,hg6⟩) | (go_at_call 60;refine (CW2.out _ hg6).mono ?_;rintro e w7 ⟨⟨k7,rfl⟩,hall,hcl⟩))
    go_wp2
    refine bodyPost_end (results_none rfl _ _ _) rfl ?_
    exact ⟨rfl,hall.out.1,hall.out.2⟩
   ·have hb4':(KD' == 4)=false:=by simpa using h4
    rw [if_neg h4] at HVV
    clear h4
    by_cases h5:KD'=5
    ·have hb5':(KD' == 5)=true:=by simpa using h5
     rw [if_pos h5] at HVV
     rw [HVV.out] at hsz ⊢
     obtain ⟨bb,hbb⟩:∃bb,decide (x.nu=1)=bb:=⟨_,rfl⟩
     rw [hbb] at hsz ⊢
     have hbq:(x.nu == 1)=bb:=by rw [<-hbb,Bool.eq_iff_iff];simp
     have CQ:Hid (∀w',Calls Tryz.prog 94 #[.bool bb] w' fun e w''=>e=.returned (.string ⟨(Lib.formatBool bb).toArray⟩)/\w''=w'):=fun w'=>Any.strconv_FormatBool Tryz.lays121 bb w'
     have CW1:=CW.out (Lib.formatBool bb) (fb_ne _) hsz _ (gb_refl _ _)
     have CW2:Hid (Calls Tryz.prog 60 #[.pointer (some ⟨p,1,none⟩),.string ⟨(Lib.formatBool bb).toArray⟩] w1.drew fun e w3=>(∃k:Int,e=.returned (.tuple #[.int .i64 k,.nilIface]))/\Hid (Pn w3 B p NV (out++Lib.formatBool bb) path/\PF B w w3)/\w3.cell? ⟨bx,3,none⟩=some (.int .i64 x.nu)):=CW1.mono fun e w3 ⟨a,b,c,d⟩=>⟨a,b,d⟩
     obtain ⟨QT,hQT⟩:∃Q:ByteArray,⟨(Lib.formatBool bb).toArray⟩=Q:=⟨_,rfl⟩
     rw [hQT] at CQ CW2
     obtain ⟨NU,hNU⟩:∃z,x.nu=z:=⟨_,rfl⟩
     rw [hNU] at b3 HW1 CW2 hbq ⊢
     clear h5 CW1 CW hQT b2 b4 hNU HBB hnu1 hnu2 hbb
     go_enter Tryz.func62,Tryz.ntmps62
     go_upto_region 1 with fail
     rw [HW1.out,HBX.out]
     go_wp2
     go_region_held3 (fun u=>u.cell? ⟨bx,3,none⟩=some (.int .i64 NU)) ((first | assumption | exact World.grownBy.cell (by assumption) (by assumption) (by simp) | go_keep)) (first | (go_at_call 94;refine (CQ.out _).mono ?_;rintro e w6 ⟨rfl,rfl⟩) | (go_at_call 60;refine CW2.out.mono ?_;rintro e w7 ⟨⟨k7,rfl⟩,hall,hcl⟩))
     go_wp2
     refine bodyPost_end (results_none rfl _ _ _) rfl ?_
     exact ⟨rfl,hall.out.1,hall.out.2⟩
    ·have hb5':(KD' == 5)=false:=by simpa using h5
     rw [if_neg h5] at HVV
     rw [HVV.out,List.append_nil]
     clear h5 CW
     go_enter Tryz.func62,Tryz.ntmps62
     go_upto_region 1 with fail
     rw [HW1.out,HBX.out]
     go_wp2
     refine bodyPost_end (results_none rfl _ _ _) rfl ?_
     exact ⟨rfl,HP1.out,HF1.out⟩
theorem pVL_any {w0:World} {p N c:Nat} {NV:Value} {ns:List Tn} {own:List Nat} (E:Ev w0 NV N c ns own):∀f,PvC w0 p NV ns f
 | 0=>fun out path t ht k w hf=>absurd hf (by omega)
 | f+1=>pValue_of E f (pList_of E f (pVL_any E f))
def pr1 (ns:List Tn) (q:Nat):List UInt8:=if kdAt ns q=0\/kdAt ns q=2 then [] else kt (kyAt ns q)++[32,61,32]++vT ns ns.length q++[10]
def prT (ns:List Tn) (t:Nat):List UInt8:=(srt ns t).flatMap (pr1 ns)
theorem flat_take {α:Type} (f:α->List UInt8) (l:List α) (i:Nat):((l.take i).flatMap f).length<=(l.flatMap f).length:=by
 conv=>rhs;rw [<-List.take_append_drop i l,List.flatMap_append,List.length_append]
 omega
theorem flat_snoc {α:Type} (f:α->List UInt8) (l:List α) (i:Nat) (h:i < l.length):(l.take (i+1)).flatMap f=(l.take i).flatMap f++f l[i]:=by
 rw [List.take_succ_eq_append_getElem h,List.flatMap_append]
 simp
theorem srt_mem {ns:List Tn} {t q:Nat} (h:q ∈ srt ns t):q ∈ ksAt ns t:=(srt_perm ns t).subset h
set_option maxRecDepth 100000 in
set_option maxHeartbeats 6400000 in
theorem pPairs {w0:World} {p N c:Nat} {NV:Value} {ns:List Tn} {own:List Nat} (E:Ev w0 NV N c ns own) (out path:List UInt8) (t:Nat) (w:World) (ht:t < ns.length) (hkd:KD ns t) (hP:Pn w w0.heap.size p NV out path) (hg:w0.grownBy w none) (hsz:out.length+(prT ns t).length<=70368744177664) :
  Calls Tryz.prog 32 #[.pointer (some ⟨p,0,none⟩),.int .i64 (t:Nat)] w fun e w'=>e=.returned (.tuple #[])/\Pn w' w0.heap.size p NV (out++prT ns t) path/\PF w0.heap.size w w':=by
 have hEl:=E.len
 have hSL:(srt ns t).length<=900000:=by rw [(srt_perm ns t).length_eq];have:=E.wf.len t;omega
 have CS:Hid (Calls Tryz.prog 59 #[.pointer (some ⟨p,0,none⟩),.int .i64 (t:Nat)] w fun e w'=>∃v,e=.returned v/\w'.ownsRow w.heap.size 3 1 v (srt ns t).length ((srt ns t).map fun q=>.int .i64 (q:Nat))/\w.grownBy w' none):=sSorted p N c NV ns own t w hP.base.2.2 (E.nv.grow hg) E.wf ht hkd hEl
 have HMEM:Hid (∀q ∈ srt ns t,q < ns.length):=fun q hq=>E.wf.lt t q (srt_mem hq)
 have hv:=E.nv.val
 obtain ⟨B,hB⟩:∃B,w0.heap.size=B:=⟨_,rfl⟩
 have HUP:Hid (∀w w',w0.grownBy w none->Below B w w'->w0.grownBy w' none):=fun w w' h1 h2=>up_gb h1 (by rw [hB];exact h2)
 have CW:Hid (∀(X Y:List UInt8) w,Pn w B p NV X path->Y ≠ []->X.length+Y.length<=70368744177664->Calls Tryz.prog 60 #[.pointer (some ⟨p,1,none⟩),.string ⟨Y.toArray⟩] w fun e w'=>(∃k:Int,e=.returned (.tuple #[.int .i64 k,.nilIface]))/\Pn w' B p NV (X++Y) path/\PF B w w'):=fun X Y w h h0 hl=>bWriteS B p NV X path Y w h h0 hl
 have CB:Hid (∀(X:List UInt8) (ch:UInt8) w,Pn w B p NV X path->X.length+1<=70368744177664->Calls Tryz.prog 63 #[.pointer (some ⟨p,1,none⟩),.int .u8 (ch.toNat:Int)] w fun e w'=>e=.returned .nilIface/\Pn w' B p NV (X++[ch]) path/\PF B w w'):=fun X ch w h hl=>bWriteB B p NV X path ch w h hl
 have CV:Hid (∀(X:List UInt8) (q:Nat) (hq:q < ns.length) (k:Value) (w:World),Pn w B p NV X path->w0.grownBy w none->NuS w0 k ns[q].ks->X.length+(vT ns ns.length q).length<=70368744177664->Calls Tryz.prog 62 #[.pointer (some ⟨p,0,none⟩),.agg #[.int .i64 ns[q].kd,.string ⟨ns[q].ky.toArray⟩,.string ⟨ns[q].tx.toArray⟩,.int .i64 ns[q].nu,k,.int .i64 (ns[q].pl:Nat)]] w fun e w'=>e=.returned (.tuple #[])/\Pn w' B p NV (X++vT ns ns.length q) path/\PF B w w'):=fun X q hq k w h2 h3 h4 h5=>by
  have:=pVL_any E ns.length X path q hq k w (by omega) (by rw [hB];exact h2) h3 h4 h5
  rw [hB] at this
  exact this
 have HE:Hid (Ev w0 NV N c ns own):=E
 rw [hB] at hP ⊢
 have HP0:Hid (Pn w B p NV out path):=hP
 have HG0:Hid (w0.grownBy w none):=hg
 have hBw:=hP.pf
 obtain ⟨SR,hSR⟩:∃S,srt ns t=S:=⟨_,rfl⟩
 have HPT:Hid (prT ns t=SR.flatMap (pr1 ns)):=by show _=_;unfold prT;rw [hSR]
 rw [hSR] at CS HMEM hSL
 rw [HPT.out] at hsz ⊢
 obtain ⟨n,hn⟩:∃n,SR.length=n:=⟨_,rfl⟩
 have HN:Hid (SR.length=n):=hn
 rw [hn] at CS hSL
 obtain ⟨L,hL⟩:∃L,ns.length=L:=⟨_,rfl⟩
 have HLN:Hid (ns.length=L):=hL
 subst hv
 rw [hL] at ht
 clear hP hg E hkd hB hSR hn hL
 go_enter Tryz.func32,Tryz.ntmps32
 go_wp2_with (first | (go_at_call 59;refine CS.out.mono ?_))
 rintro e w1 ⟨v,rfl,hown1,hg1⟩
 obtain ⟨o1,c1,rfl⟩:=own_slice hown1
 have HO1:Hid (w1.ownsRow w.heap.size 3 1 (.slice o1 n c1) n (SR.map fun q=>.int .i64 (q:Nat))):=hown1
 have HF1:Hid (PF B w w1):=PF.gb hg1 hBw
 have HP1:Hid (Pn w1 B p (.slice (some ⟨N,0,none⟩) ns.length c) out path):=HP0.out.gb hg1
 clear hown1 hg1
 go_wp2
 go_loopw [11] (fun v11 wr=>∃i:Nat,v11=.int .i64 (i:Nat)/\i<=n/\Pn wr B p (.slice (some ⟨N,0,none⟩) ns.length c) (out++(SR.take i).flatMap (pr1 ns)) path/\PF B w1 wr) (fun v11 _=>n - (intOf v11).toNat)
 case atStart=>exact ⟨0,rfl,Nat.zero_le _,by simpa using HP1.out,PF.refl _ _⟩
 case round =>
  obtain ⟨i,rfl,hi,hpr,hfr⟩:=hrel
  have HPR:Hid (Pn wr B p (.slice (some ⟨N,0,none⟩) ns.length c) (out++(SR.take i).flatMap (pr1 ns)) path):=hpr
  have HFR:Hid (PF B w1 wr):=hfr
  have HFW:Hid (PF B w wr):=HF1.out.two hfr
  have HGR:Hid (w0.grownBy wr none):=HUP.out _ _ HG0.out HFW.out.bel
  clear hpr hfr
  by_cases hlt:i < n
  ·have hil:i < SR.length:=by rw [HN.out];exact hlt
   have hI:(i:Int) < (n:Int):=by omega
   obtain ⟨g1,c1',hvf,-,-⟩:=HO1.out.form (by omega)
   injection hvf with ho _ hc
   subst ho hc
   obtain ⟨q,hq⟩:∃q,SR[i]=q:=⟨_,rfl⟩
   have g1c:=(own_block HO1.out fun g cur hh hc=>HFR.out.oth _ _ _ _ hc (by decide) (by decide)).cells (g:=g1) rfl i (.int .i64 (q:Nat)) (by rw [List.getElem?_map,List.getElem?_eq_getElem hil,hq];rfl)
   rw [zero_off] at g1c
   have hqL:q < ns.length:=HMEM.out q (by rw [<-hq];exact List.getElem_mem hil)
   have hqI:(q:Int) < (L:Int):=by have:=HLN.out;omega
   have HTK:Hid ((SR.take (i+1)).flatMap (pr1 ns)=(SR.take i).flatMap (pr1 ns)++pr1 ns q):=by
    show _=_
    rw [flat_snoc (pr1 ns) SR i hil,hq]
   have hle:=flat_take (pr1 ns) SR (i+1)
   rw [HTK.out,List.length_append] at hle
   obtain ⟨acc,hacc⟩:∃acc,(SR.take i).flatMap (pr1 ns)=acc:=⟨_,rfl⟩
   rw [hacc] at HTK HPR hle
   obtain ⟨X,hX⟩:∃X,out++acc=X:=⟨_,rfl⟩
   have hXl:X.length=out.length+acc.length:=by rw [<-hX];simp
   rw [hX] at HPR
   have HX:Hid (out++acc=X):=hX
   obtain ⟨k6,n0,n1,n2,n3,n4,n5,n6⟩:=HE.out.nv.cel q hqL
   have m0:=HGR.out.cell n0 (by simp)
   have m1:=HGR.out.cell n1 (by simp)
   have m2:=HGR.out.cell n2 (by simp)
   have m3:=HGR.out.cell n3 (by simp)
   have m4:=HGR.out.cell n4 (by simp)
   have m5:=HGR.out.cell n5 (by simp)
   have p0:=HPR.out.base.2.2
   rw [HLN.out] at p0
   have CV1:Hid (∀(X:List UInt8) w,Pn w B p (.slice (some ⟨N,0,none⟩) ns.length c) X path->w0.grownBy w none->X.length+(vT ns ns.length q).length<=70368744177664->Calls Tryz.prog 62 #[.pointer (some ⟨p,0,none⟩),.agg #[.int .i64 ns[q].kd,.string ⟨ns[q].ky.toArray⟩,.string ⟨ns[q].tx.toArray⟩,.int .i64 ns[q].nu,k6,.int .i64 (ns[q].pl:Nat)]] w fun e w'=>e=.returned (.tuple #[])/\Pn w' B p (.slice (some ⟨N,0,none⟩) ns.length c) (X++vT ns ns.length q) path/\PF B w w'):=fun X w h1 h2 h3=>CV.out X q hqL k6 w h1 h2 n6 h3
   have HP1q:Hid (pr1 ns q=if ns[q].kd=0\/ns[q].kd=2 then [] else kt ns[q].ky++[32,61,32]++vT ns ns.length q++[10]):=by
    show _=_
    unfold pr1 kdAt
    rw [kyAt_in hqL,List.getElem?_eq_getElem hqL]
   have hky:=(HE.out.txt q hqL).1
   obtain ⟨ok6,ck6,hk6,-⟩:=n6
   subst hk6
   obtain ⟨nk,hnk⟩:∃z,ns[q].ks.length=z:=⟨_,rfl⟩
   rw [hnk] at m4 CV1
   obtain ⟨y,hy⟩:∃y,ns[q]=y:=⟨_,rfl⟩
   rw [hy] at m0 m1 m2 m3 m5 CV1 HP1q hky
   obtain ⟨VT,hVT⟩:∃V,vT ns ns.length q=V:=⟨_,rfl⟩
   rw [hVT] at CV1 HP1q
   obtain ⟨PQ,hPQ⟩:∃P,pr1 ns q=P:=⟨_,rfl⟩
   rw [hPQ] at HTK hle HP1q
   have hbx:=heap_alloc_new wr (.cells #[.int .i64 y.kd,.string ⟨y.ky.toArray⟩,.string ⟨y.tx.toArray⟩,.int .i64 y.nu,.slice ok6 nk ck6,.int .i64 (y.pl:Nat)] 33)
   have hgA:wr.grownBy (wr.alloc (.cells #[.int .i64 y.kd,.string ⟨y.ky.toArray⟩,.string ⟨y.tx.toArray⟩,.int .i64 y.nu,.slice ok6 nk ck6,.int .i64 (y.pl:Nat)] 33)) none:=World.grownBy_alloc _ _ none
   clear hq hacc hX n0 n1 n2 n3 n4 n5 hnk hy hVT hPQ
   go_upto_region 4 with fail
   obtain ⟨bx,hbxe⟩:∃b,wr.heap.size=b:=⟨_,rfl⟩
   obtain ⟨w2,hw2⟩:∃W,wr.alloc (.cells #[.int .i64 y.kd,.string ⟨y.ky.toArray⟩,.string ⟨y.tx.toArray⟩,.int .i64 y.nu,.slice ok6 nk ck6,.int .i64 (y.pl:Nat)] 33)=W:=⟨_,rfl⟩
   rw [hw2] at hbx hgA ⊢
   rw [hbxe] at hbx ⊢
   have HBX:Hid (w2.heap[bx]?=some (.cells #[.int .i64 y.kd,.string ⟨y.ky.toArray⟩,.string ⟨y.tx.toArray⟩,.int .i64 y.nu,.slice ok6 nk ck6,.int .i64 (y.pl:Nat)] 33 (0,0))):=hbx
   have HP2:Hid (Pn w2 B p (.slice (some ⟨N,0,none⟩) ns.length c) X path):=HPR.out.gb hgA
   have HF2:Hid (PF B w1 w2):=HFR.out.two (PF.gb hgA HPR.out.pf)
   have HG2:Hid (w0.grownBy w2 none):=gb_trans HGR.out hgA
   have b0:w2.cell? ⟨bx,0,none⟩=some (.int .i64 y.kd):=by rw [Lib.cell_of_heap hbx];rfl
   have b1:w2.cell? ⟨bx,1,none⟩=some (.string ⟨y.ky.toArray⟩):=by rw [Lib.cell_of_heap hbx];rfl
   clear hgA hbx hbxe hw2 m0 m1 m2 m3 m4 m5 p0 g1c
   obtain ⟨KN,hKN⟩:∃z,y.kd=z:=⟨_,rfl⟩
   rw [hKN] at b0 HP1q
   have HKN:Hid (y.kd=KN):=hKN
   clear hKN
   by_cases hk0:KN=0\/KN=2
   ·rw [if_pos hk0] at HP1q
    have HPN:Hid (Pn w2 B p (.slice (some ⟨N,0,none⟩) ns.length c) (out++(SR.take (i+1)).flatMap (pr1 ns)) path):=by
     show Pn _ _ _ _ _ _
     rw [HTK.out,HP1q.out,List.append_nil,HX.out]
     exact HP2.out
    rcases hk0 with h0 | h2
    ·have hb:(KN == 0)=true:=by simpa using h0
     clear h0
     go_wp2
     go_roundw
     case rel=>exact ⟨i+1,by go_num,by omega,HPN.out,HF2.out⟩
     case measure=>simp [intOf];omega
    ·have hb:(KN == 0)=false:=by rw [h2];rfl
     have hb2:(KN == 2)=true:=by simpa using h2
     clear h2
     go_wp2
     go_roundw
     case rel=>exact ⟨i+1,by go_num,by omega,HPN.out,HF2.out⟩
     case measure=>simp [intOf];omega
   ·rw [if_neg hk0] at HP1q
    have hb:(KN == 0)=false:=by simp;omega
    have hb2:(KN == 2)=false:=by simp;omega
    clear hk0
    have hPl:PQ.length=(kt y.ky).length+3+VT.length+1:=by rw [HP1q.out];simp;omega
    obtain ⟨K,hK⟩:∃K:ByteArray,⟨y.ky.toArray⟩=K:=⟨_,rfl⟩
    have CQ:Hid (Calls Tryz.prog 61 #[.string K] w2.drew fun e w'=>e=.returned (.string ⟨(kt y.ky).toArray⟩)/\w2.drew.grownBy w' none):=by
     have:=tKeyText_any ⟨y.ky.toArray⟩ w2.drew (by show y.ky.toArray.size<=_;simpa using hky)
     rw [hK] at this
     have e:K.data.toList=y.ky:=by rw [<-hK]
     rw [e] at this
     exact this
    have CW2:Hid (∀w3,w2.drew.grownBy w3 none->Calls Tryz.prog 60 #[.pointer (some ⟨p,1,none⟩),.string ⟨(kt y.ky).toArray⟩] w3 fun e w4=>(∃k:Int,e=.returned (.tuple #[.int .i64 k,.nilIface]))/\Hid (Pn w4 B p (.slice (some ⟨N,0,none⟩) ns.length c) (X++kt y.ky) path/\PF B w1 w4/\w4.heap[bx]?=w2.heap[bx]?)/\w4.cell? ⟨bx,1,none⟩=some (.string K)):=fun w3 hg3=>by
     have g3:w2.grownBy w3 none:=gb_trans (show w2.grownBy w2.drew none from ⟨rfl,rfl,rfl,Nat.le_refl _,fun _ _ _=>rfl⟩) hg3
     refine (CW.out X (kt y.ky) w3 (HP2.out.gb g3) (fun e=>by have:=(kt_len y.ky).1;rw [e] at this;simp at this) (by omega)).mono ?_
     rintro e w4 ⟨he,h1,h2⟩
     have hb3:=(g3.block bx (blk_lt HBX.out) (by simp)).trans HBX.out
     have hb4:=(h2.oth _ _ _ _ hb3 (by decide) (by decide)).trans hb3
     exact ⟨he,⟨h1,(HF2.out.two (PF.gb g3 HP2.out.pf)).two h2,hb4.trans HBX.out.symm⟩,by rw [Lib.cell_of_heap hb4,<-hK];rfl⟩
    obtain ⟨QT,hQT⟩:∃Q:ByteArray,⟨(kt y.ky).toArray⟩=Q:=⟨_,rfl⟩
    rw [hQT] at CQ CW2
    rw [hK] at b1
    clear hK hQT
    go_wp2
    go_region_held3 (fun u=>u.cell? ⟨bx,1,none⟩=some (.string K)) ((first | assumption | exact World.grownBy.cell (by assumption) (by assumption) (by simp) | go_keep)) (first | (go_at_call 61;refine CQ.out.mono ?_;rintro e w6 ⟨rfl,hg6⟩) | (go_at_call 60;refine (CW2.out _ hg6).mono ?_;rintro e w7 ⟨⟨k7,rfl⟩,hall,hcl⟩))
    obtain ⟨hp7,hf7,hb7⟩:=hall.out
    have HP7:Hid (Pn w7 B p (.slice (some ⟨N,0,none⟩) ns.length c) (X++kt y.ky) path):=hp7
    have HF7:Hid (PF B w1 w7):=hf7
    have HB7:Hid (w7.heap[bx]?=some (.cells #[.int .i64 y.kd,.string ⟨y.ky.toArray⟩,.string ⟨y.tx.toArray⟩,.int .i64 y.nu,.slice ok6 nk ck6,.int .i64 (y.pl:Nat)] 33 (0,0))):=hb7.trans HBX.out
    clear hp7 hf7 hb7 hall hcl b0 b1
    go_wp2_with (first | (go_at_call 60;refine (CW.out (X++kt y.ky) [32,61,32] _ HP7.out (by simp) (by simp;omega)).mono ?_))
    rintro e w8 ⟨⟨k8,rfl⟩,hp8,hf8⟩
    have HP8:Hid (Pn w8 B p (.slice (some ⟨N,0,none⟩) ns.length c) (X++kt y.ky++[32,61,32]) path):=hp8
    have HF8:Hid (PF B w1 w8):=HF7.out.two hf8
    have HG8:Hid (w0.grownBy w8 none):=HUP.out _ _ HG0.out (HF1.out.two HF8.out).bel
    have hb8:=(hf8.oth _ _ _ _ HB7.out (by decide) (by decide)).trans HB7.out
    have d0:w8.cell? ⟨bx,0,none⟩=some (.int .i64 y.kd):=by rw [Lib.cell_of_heap hb8];rfl
    have d1:w8.cell? ⟨bx,1,none⟩=some (.string ⟨y.ky.toArray⟩):=by rw [Lib.cell_of_heap hb8];rfl
    have d2:w8.cell? ⟨bx,2,none⟩=some (.string ⟨y.tx.toArray⟩):=by rw [Lib.cell_of_heap hb8];rfl
    have d3:w8.cell? ⟨bx,3,none⟩=some (.int .i64 y.nu):=by rw [Lib.cell_of_heap hb8];rfl
    have d4:w8.cell? ⟨bx,4,none⟩=some (.slice ok6 nk ck6):=by rw [Lib.cell_of_heap hb8];rfl
    have d5:w8.cell? ⟨bx,5,none⟩=some (.int .i64 (y.pl:Nat)):=by rw [Lib.cell_of_heap hb8];rfl
    clear hp8 hf8 hb8
    go_wp2_with (first | (go_at_call 62;refine (CV1.out (X++kt y.ky++[32,61,32]) _ HP8.out HG8.out (by simp;omega)).mono ?_))
    first | rintro e w9 rfl hp9 hf9 | rintro e w9 ⟨rfl,hp9,hf9⟩
    have HP9:Hid (Pn w9 B p (.slice (some ⟨N,0,none⟩) ns.length c) (X++kt y.ky++[32,61,32]++VT) path):=hp9
    have HF9:Hid (PF B w1 w9):=HF8.out.two hf9
    clear hp9 hf9 d0 d1 d2 d3 d4 d5
    go_wp2_with (first | (go_at_call 63;refine (CB.out (X++kt y.ky++[32,61,32]++VT) 10 _ HP9.out (by simp;omega)).mono ?_))
    first | rintro e wa rfl hpa hfa | rintro e wa ⟨rfl,hpa,hfa⟩
    have HPN:Hid (Pn wa B p (.slice (some ⟨N,0,none⟩) ns.length c) (out++(SR.take (i+1)).flatMap (pr1 ns)) path):=by
     show Pn _ _ _ _ _ _
     rw [HTK.out,HP1q.out]
     have:=hpa
     rw [<-HX.out] at this
     simpa using this
    have HFN:Hid (PF B w1 wa):=HF9.out.two hfa
    clear hpa hfa
    go_wp2
    go_roundw
    case rel=>exact ⟨i+1,by go_num,by omega,HPN.out,HFN.out⟩
    case measure=>simp [intOf];omega
  ·have hI:¬ (i:Int) < (n:Int):=by omega
   have HPE:Hid (Pn wr B p (.slice (some ⟨N,0,none⟩) ns.length c) (out++SR.flatMap (pr1 ns)) path):=by
    have:=HPR.out
    rw [List.take_of_length_le (by rw [HN.out];omega)] at this
    exact this
   go_wp2
   refine bodyPost_end (results_none rfl _ _ _) rfl ?_
   exact ⟨rfl,HPE.out,HFW.out⟩
def pathN (path:List UInt8) (ab:Nat) (ky:List UInt8):List UInt8:=path.take ab++(if 0 < ab then [46] else [])++kt ky
def hdT (out path:List UInt8) (dbl:Bool):List UInt8:=(if out=[] then [] else [10])++(if dbl then [91,91] else [91])++path++(if dbl then [93,93,10] else [93,10])
theorem wp_str_at {P:Program} {w:World} {o:Oper} {a:Act} {K:Act->World->Prop} {Q:Exit->Act->World->Prop} (sl y:Operand) (t u:TypeId)
  (ho:o.op=.call { callee:=.builtin .append,args:=#[sl,y],argTypes:=#[t,u] })
  (base:Nat) (e:TypeId) (i:TypeInfo) (ht:P.underlying t=some (.slice e)) (hu:P.underlying u=some .string) (hi:P.info? e=some i) (hz:i.zero=some (.int .u8 0)) (hsize:i.size=1) (hby:i.bytes=1)
  (v:Value) (n:Nat) (xs:List Value) (hs:a.eval sl=v) (hown:w.ownsRow base e 1 v n xs) (s:ByteArray) (hy:a.eval y=.string s) (h63:n+s.size<=140737488355328) (hbase:base<=w.heap.size)
  (h:∀v' w',w'.ownsRow base e 1 v' (n+s.size) (xs++Lib.strCells s)->w.grownBy w' v.ownBlock->(v'.ownBlock=v.ownBlock\/v'.ownBlock=some w.heap.size)->K (a.put o.dst v') w'):Oper.wp P o a w K Q:=by
 obtain ⟨v',w',hr,h2,h3,h4⟩:=str_at (P:=P) w base t u o.type e i ht hu hi hz hsize hby v n xs hown s h63 hbase
 unfold Oper.wp execOp
 simp only [ho,resolve,invoke,builtin,Sem.run_bind,Sem.run_pure,Result.andThen_ok,List.map_toArray,List.map_cons,List.map_nil,hs,hy,hr]
 exact h v' w' h2 h3 h4
theorem step_str_at {P:Program} {w:World} {ops:Array Oper} {o:Oper} {a:Act} {K:Act->World->Prop} {Q:Exit->Act->World->Prop} {E:Prop} (hgd:o.guard=none) (sl y:Operand) (t u:TypeId)
  (ho:o.op=.call { callee:=.builtin .append,args:=#[sl,y],argTypes:=#[t,u] })
  (base:Nat) (e:TypeId) (i:TypeInfo) (ht:P.underlying t=some (.slice e)) (hu:P.underlying u=some .string) (hi:P.info? e=some i) (hz:i.zero=some (.int .u8 0)) (hsize:i.size=1) (hby:i.bytes=1)
  (v:Value) (n:Nat) (xs:List Value) (hs:a.eval sl=v) (hown:w.ownsRow base e 1 v n xs) (s:ByteArray) (hy:a.eval y=.string s) (h63:n+s.size<=140737488355328) (hbase:base<=w.heap.size)
  (h:∀v' w',w'.ownsRow base e 1 v' (n+s.size) (xs++Lib.strCells s)->w.grownBy w' v.ownBlock->(v'.ownBlock=v.ownBlock\/v'.ownBlock=some w.heap.size)->K (a.put o.dst v') w') :
  if Region.wanted o (yielded ops a.tmps)=true then Oper.wp P o a w K Q else E:=by
 have hw:Region.wanted o (yielded ops a.tmps)=true:=by simp [Region.wanted,hgd]
 rw [if_pos hw]
 exact wp_str_at sl y t u ho base e i ht hu hi hz hsize hby v n xs hs hown s hy h63 hbase h
theorem own_cut {w:World} {B:Nat} {e:TypeId} {o:Option Addr} {n c:Nat} {xs:List Value} (h:w.ownsRow B e 1 (.slice o n c) n xs) (a:Nat) (ha:a<=n):w.ownsRow B e 1 (.slice o a c) a (xs.take a):=by
 have hl:xs.length=n:=by simpa using h.1
 refine ⟨by rw [List.length_take];omega,?_⟩
 rcases h.2 with ⟨hv,hn⟩ | ⟨g,cap,cur,hv,h1,h2,h3,h4,h5,h6⟩
 ·injection hv with ho _ hc
  subst ho hc
  have:a=0:=by omega
  subst this
  exact Or.inl ⟨rfl,rfl⟩
 ·injection hv with ho _ hc
  subst ho hc
  refine Or.inr ⟨g,c,cur,rfl,h1,h2,by omega,h4,h5,?_⟩
  rw [<-h6,List.take_take]
  congr 1
  omega
theorem cells_take (x:List UInt8) (a:Nat):(Lib.byteCells x).take a=Lib.byteCells (x.take a):=by
 unfold Lib.byteCells
 rw [List.map_take]
theorem Pn.path {w w1 w2:World} {B p:Nat} {NV ad bf pv v':Value} {out path path':List UInt8} (hB:B<=p) (h1:Pb w1 p NV ad bf pv) (had:ad=.pointer none\/ad=.pointer (some ⟨p,1,none⟩)) (hbf:w1.ownsRow B 5 1 bf out.length (Lib.byteCells out)) (hpv:w1.ownsRow B 5 1 pv path.length (Lib.byteCells path)) (hap:∀g,bf.ownBlock=some g->pv.ownBlock ≠ some g) (hnil:out=[]->bf=.slice none 0 0)
  (hv:w2.ownsRow B 5 1 v' path'.length (Lib.byteCells path')) (hg:w1.grownBy w2 pv.ownBlock) (hat:v'.ownBlock=pv.ownBlock\/∃g,v'.ownBlock=some g/\w1.heap.size<=g) (hBw:B<=w1.heap.size) :
  w2.cell? ⟨p,3,none⟩=some pv/\w2.frozen? ⟨p,3,none⟩=false/\Pn (w2.setCell ⟨p,3,none⟩ v') B p NV out path'/\PF B w1 (w2.setCell ⟨p,3,none⟩ v'):=by
 have hp2:Pb w2 p NV ad bf pv:=(hg.block p (blk_lt h1) (fun e=>by
  obtain ⟨-,cc,hcc⟩:=own_typ hpv e.symm
  exact ne_typ h1 hcc (by decide) rfl)).trans h1
 obtain ⟨-,-,-,c3,cf⟩:=hp2.cells
 have hbf2:w2.ownsRow B 5 1 bf out.length (Lib.byteCells out):=own_block hbf fun g cur hh hc=>hg.block g (blk_lt hc) (fun e=>hap g hh e.symm)
 have hset:∀(b:Nat) (cs:Array Value) (t:TypeId) (fz:Nat × Nat),w2.heap[b]?=some (.cells cs t fz)->¬ t=78->(w2.setCell ⟨p,3,none⟩ v').heap[b]?=w2.heap[b]?:=fun b cs t fz hb ht=>heap_setCell_other _ _ _ _ (ne_typ hb hp2 ht)
 refine ⟨c3,cf 3,⟨hB,ad,bf,v',hp2.setP v',had,own_block hbf2 fun g cur _ hc=>hset _ _ _ _ hc (by decide),own_block hv fun g cur _ hc=>hset _ _ _ _ hc (by decide),?_,hnil⟩,?_⟩
 ·intro g hgb hgp
  rcases hat with e | ⟨g',e,hle⟩
  ·exact hap g hgb (e ▸ hgp)
  ·rw [e] at hgp
   cases hgp
   obtain ⟨-,cc,hcc⟩:=own_typ hbf hgb
   have:=blk_lt hcc
   omega
 ·exact (PF.app hpv hg hBw).two (PF.row (gb_setc w2 p 3 v') (Nat.le_trans hBw hg.size) hB hp2 (Or.inl rfl))
theorem gb_wide {w w':World} (h:w.grownBy w' none) (r:Option Nat):w.grownBy w' r:=⟨h.os,h.tape,h.output,h.size,fun k hk _=>h.block k hk (by simp)⟩
theorem gb_drew0 (w:World) (r:Option Nat):w.grownBy w.drew r:=⟨rfl,rfl,rfl,Nat.le_refl _,fun _ _ _=>rfl⟩
end Go.Proofs.YtbgnflcebafjjaaGreatDoor
