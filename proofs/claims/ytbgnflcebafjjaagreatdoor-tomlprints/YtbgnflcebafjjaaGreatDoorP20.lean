import Derived.Test.YtbgnflcebafjjaaGreatDoorP19
import Derived.Test.YtbgnflcebafjjaaGreatDoorP16
import Derived.Lib.LaidTab
import Derived.Deep.RegionHeld3
namespace Go.Proofs.YtbgnflcebafjjaaGreatDoor
open Go.RowKit Go.Maps Go.WideMaps Go.Joins
set_option linter.unusedVariables false
def RdPost (s:ByteArray) (E:Int->TypeId × Value) (r:Rs (List Tn)) (w:World) (e:Ending) (w':World):Prop :=
 (∀ns,r=.ok ns->∃N c M T xs ks now n f,e=.returned (.tuple #[.slice (some ⟨N,0,none⟩) ns.length c,.nilIface])/\TrD w' w.heap.size T ns now N c M xs ks n f) ∧
 (∀c p,r=.error (c,p)->∃v,e=.returned (.tuple #[.slice none 0 0,v])/\((c=1/\v=.iface (E 1).1 (E 1).2)\/FaultE w' v E c p))/\w.grownBy w' none
theorem rdAll_step (l:List UInt8) (f:Nat) (d:Sd):rdAll l (f+1) d=if l.length<=d.i then .ok d else match rdLine l d with | .error e=>.error e | .ok d1=>rdAll l f d1:=rfl
theorem bel_gbn {w w':World} (h:Below w.heap.size w w'):w.grownBy w' none:=⟨h.os,h.tape,h.output,h.size,fun k hk _=>h.block k hk⟩
def rdFin:Rs Sd->Rs (List Tn)
 | .error e=>.error e
 | .ok d=>.ok d.ns
theorem rdToml_eq (l:List UInt8):rdToml l=if 100000 < l.length then .error (1,0) else rdFin (rdAll l (l.length+1) ⟨0,[⟨0,[],[],0,[],0⟩],[],0⟩):=by
 unfold rdToml
 split
 ·rfl
 ·cases rdAll l (l.length+1) ⟨0,[⟨0,[],[],0,[],0⟩],[],0⟩ <;> rfl
set_option maxRecDepth 100000 in
set_option maxHeartbeats 3200000 in
theorem tRead_any (s:ByteArray) (E:Int->TypeId × Value) (w:World) (G:Gl w w.heap.size E) (hlo:w.cell? ⟨0,0,none⟩=some (.iface (E 1).1 (E 1).2)) (hmx:s.size < 2 ^ 62) :
  Calls Tryz.prog 15 #[.string s] w (RdPost s E (rdToml s.data.toList) w):=by
 have hl:s.data.toList.length=s.size:=by simp
 have CNw:Hid (Calls Tryz.prog 22 #[] w fun e w'=>e=.returned (.pointer (some ⟨w.heap.size+2,0,none⟩))/\Tr w' w.heap.size (w.heap.size+2) [⟨0,[],[],0,[],0⟩] [] 0/\w.grownBy w' none):=tNew_any w
 have HE:=rdToml_eq s.data.toList
 rw [hl] at HE
 by_cases hbig:100000 < s.size
 ·rw [if_pos hbig] at HE
  rw [HE]
  have hb:(100000:Int) < (s.size:Int):=by omega
  have HR1:Hid (∀ty pv,(E 1).1=ty->(E 1).2=pv->True):=fun _ _ _ _=>trivial
  obtain ⟨ty,hty⟩:∃ty,(E 1).1=ty:=⟨_,rfl⟩
  obtain ⟨pv,hpv⟩:∃pv,(E 1).2=pv:=⟨_,rfl⟩
  have HTY:Hid ((E 1).1=ty/\(E 1).2=pv):=⟨hty,hpv⟩
  rw [hty,hpv] at hlo
  clear HE CNw G hty hpv HR1 hbig
  go_enter Tryz.func15,Tryz.ntmps15
  go_wp2
  go_quiet (fail)
  go_wp2
  refine bodyPost_ret (results_tmp2 (t:=2) (u:=3) rfl _ _ _) rfl ?_
  exact ⟨fun ns hh=>(by cases hh),fun c p hh=>(by cases hh;exact ⟨_,rfl,Or.inl ⟨rfl,by rw [HTY.out.1,HTY.out.2];rfl⟩⟩),gb_drew (gb_refl w none) _⟩
 ·rw [if_neg hbig] at HE
  rw [HE]
  have hb:(s.size:Int)<=100000:=by omega
  have hs:s.size<=100000:=by omega
  obtain ⟨B,hBe⟩:∃B,w.heap.size=B:=⟨_,rfl⟩
  have CL:Hid (∀R T d wr,Rd wr R s d.i T->Tr wr B T d.ns d.own d.now->B<=R->Below B w wr->Li s.data.toList d->Calls Tryz.prog 23 #[.pointer (some ⟨R,0,none⟩)] wr (LnPost B R T s E (rdLine s.data.toList d) wr)):=fun R T d wr h1 h2 h3 h4 h5=>tLine_any B R T s E d.own d.now d.i d.ns wr h1 h2 ((hBe ▸ G).bel h4) h3 hs h5
  have HLO:Hid (∀d d',Li s.data.toList d->d.i < s.size->rdLine s.data.toList d=.ok d'->Li s.data.toList d'/\d.i < d'.i):=fun d d' a b c=>line_ok s.data.toList d d' a (by omega) c
  obtain ⟨S,hS⟩:∃S,rdAll s.data.toList (s.data.toList.length+1) ⟨0,[⟨0,[],[],0,[],0⟩],[],0⟩=S:=⟨_,rfl⟩
  have HS:Hid (rdAll s.data.toList (s.data.toList.length+1) ⟨0,[⟨0,[],[],0,[],0⟩],[],0⟩=S):=hS
  rw [<-hl,hS]
  have HBE:Hid (w.heap.size=B):=hBe
  rw [hBe] at CNw
  clear HE hbig hS G hlo hBe
  go_enter Tryz.func15,Tryz.ntmps15
  go_wp2_with (first | (go_at_call 22;refine CNw.out.mono ?_))
  rintro e w1 ⟨rfl,ht1,hg1⟩
  obtain ⟨R,hRe⟩:∃R,w1.heap.size=R:=⟨_,rfl⟩
  have hBR:B<=R:=by have:=hg1.size;have:=HBE.out;omega
  have hn:=heap_alloc_new w1 (.cells #[.string s,.int .i64 0,.pointer (some ⟨B+2,0,none⟩)] 60)
  rw [hRe] at hn
  have hgR:=World.grownBy_alloc w1 (.cells #[.string s,.int .i64 0,.pointer (some ⟨B+2,0,none⟩)] 60) none
  obtain ⟨w2,hw2⟩:∃w2,w1.alloc (.cells #[.string s,.int .i64 0,.pointer (some ⟨B+2,0,none⟩)] 60)=w2:=⟨_,rfl⟩
  rw [hw2] at hn hgR
  have HR2:Hid (Rd w2 R s 0 (B+2)):=hn
  have HT2:Hid (Tr w2 B (B+2) [⟨0,[],[],0,[],0⟩] [] 0):=ht1.gb hgR
  have HB2:Hid (Below B w w2):=gb_b (gb_trans hg1 hgR) (by have:=HBE.out;omega)
  clear hn hgR ht1 hg1
  go_wp2
  go_loopw [2,3] (fun v2 v3 wr=>v2=.slice none 0 0/\v3=.nilIface/\∃(d:Sd) (f:Nat),Rd wr R s d.i (B+2)/\Tr wr B (B+2) d.ns d.own d.now/\Li s.data.toList d/\Below B w wr/\rdAll s.data.toList f d=S/\s.size - d.i < f) (fun _ _ wr=>s.size - (match wr.cell? ⟨R,1,none⟩ with | some (.int _ k)=>k.toNat | _=>0))
  case atStart=>exact ⟨rfl,rfl,⟨0,[⟨0,[],[],0,[],0⟩],[],0⟩,s.data.toList.length+1,HR2.out,HT2.out,li_start _,HB2.out,HS.out,by simp⟩
  case round =>
   obtain ⟨rfl,rfl,d,f,hrd,htr,hli,hbe,hra,hf⟩:=hrel
   obtain ⟨f,rfl⟩:∃f',f=f'+1:=⟨f - 1,by omega⟩
   rw [rdAll_step,hl] at hra
   have hdl:d.i<=s.size:=by have:=hli.le;omega
   have HRK:Hid (Rd wr R s d.i (B+2)):=hrd
   have HTK:Hid (Tr wr B (B+2) d.ns d.own d.now):=htr
   have HLK:Hid (Li s.data.toList d):=hli
   have HBK:Hid (Below B w wr):=hbe
   have HME:Hid ((match wr.cell? ⟨R,1,none⟩ with | some (.int _ k)=>k.toNat | _=>0)=d.i):=by show _=_;rw [hrd.cells.2.1];simp
   obtain ⟨c0,c1,c2,-⟩:=hrd.cells
   obtain ⟨k,hk⟩:∃k,d.i=k:=⟨_,rfl⟩
   rw [hk] at c1 hdl hf
   have HKK:Hid (d.i=k):=hk
   by_cases hlt:k < s.size
   ·have hlt':(k:Int) < (s.size:Int):=by omega
    rw [if_neg (by omega)] at hra
    have CL1:=CL.out R (B+2) d wr hrd htr hBR hbe hli
    have HL1:=HLO.out d
    obtain ⟨LR,hLR⟩:∃LR,rdLine s.data.toList d=LR:=⟨_,rfl⟩
    rw [hLR] at CL1 HL1 hra
    have CL2:Hid (Calls Tryz.prog 23 #[.pointer (some ⟨R,0,none⟩)] wr (LnPost B R (B+2) s E LR wr)):=CL1
    have HL2:Hid (∀d',Li s.data.toList d->d.i < s.size->LR=.ok d'->Li s.data.toList d'/\d.i < d'.i):=HL1
    have HRA:Hid (_=S):=hra
    clear hrd htr hli hbe hra CL1 HL1 hLR hk
    go_wp2_with (first | (go_at_call 23;refine CL2.out.mono ?_))
    rintro e w3 ⟨p1,p2,p3⟩
    have HB3:Hid (Below B w w3):=HBK.out.trans p3
    cases LR with
    | error ec =>
     obtain ⟨ec1,ec2⟩:=ec
     obtain ⟨F,rfl,hF⟩:=p2 ec1 ec2 rfl
     have HFV:Hid (FaultE w3 (.iface 65 (.pointer (some ⟨F,0,none⟩))) E ec1 ec2):=hF
     have HSE:Hid (S=.error (ec1,ec2)):=HRA.out.symm
     clear p1 p2 p3 hF c0 c1 c2
     go_wp2
     refine bodyPost_ret (results_tmp2 (t:=2) (u:=3) rfl _ _ _) rfl ?_
     rw [HSE.out]
     exact ⟨fun ns hh=>(by cases hh),fun c p hh=>(by cases hh;exact ⟨_,rfl,Or.inr HFV.out⟩),bel_gbn (by rw [HBE.out];exact HB3.out)⟩
    | ok d1 =>
     obtain ⟨rfl,hr3,ht3⟩:=p1 d1 rfl
     have hkd:d.i < s.size:=by rw [HKK.out];exact hlt
     obtain ⟨hli1,hgo⟩:=HL2.out d1 HLK.out hkd rfl
     have HR3:Hid (Rd w3 R s d1.i (B+2)):=hr3
     have HT3:Hid (Tr w3 B (B+2) d1.ns d1.own d1.now):=ht3
     have HL3:Hid (Li s.data.toList d1):=hli1
     have HSE:Hid (rdAll s.data.toList f d1=S):=HRA.out
     have HGO:Hid (d.i < d1.i):=hgo
     clear p1 p2 p3 hr3 ht3 hli1 hgo c0 c1 c2
     go_wp2
     go_roundw
     case rel=>exact ⟨rfl,rfl,d1,f,HR3.out,HT3.out,HL3.out,HB3.out,HSE.out,by have h1:=HGO.out;have h2:=HKK.out;have h3:=HL3.out.le;omega⟩
     case measure =>
      rw [HME.out,HR3.out.cells.2.1]
      have h1:=HGO.out
      have h2:=HKK.out
      simp
      omega
   ·have hkl:¬ (k:Int) < (s.size:Int):=by omega
    rw [if_pos (by omega)] at hra
    have HSE:Hid (S=.ok d):=hra.symm
    have htr':=htr
    obtain ⟨N,c,M,xs,ks,hD⟩:=htr'
    have t0:=hD.cells.1
    have HD:Hid (TrD wr B (B+2) d.ns d.now N c M xs ks (d.ns.length+d.own.length) (hold d.ns d.own)):=hD
    clear hrd htr hli hbe hra hk hD
    go_wp2
    refine bodyPost_ret (results_tmp2 (t:=2) (u:=3) rfl _ _ _) rfl ?_
    rw [HSE.out]
    exact ⟨fun ns hh=>(by cases hh;exact ⟨N,c,M,B+2,xs,ks,d.now,_,_,rfl,by rw [HBE.out];exact HD.out⟩),fun c p hh=>(by cases hh),bel_gbn (by rw [HBE.out];exact HBK.out)⟩
end Go.Proofs.YtbgnflcebafjjaaGreatDoor
namespace Go.Proofs.YtbgnflcebafjjaaGreatDoor
open Go.RowKit Go.Maps Go.WideMaps Go.Joins
set_option linter.unusedVariables false
def Tab (w:World):Prop:=Lib.TabIs Tryz.prog w "internal/strconv.uint64pow10" .u64 Lib.pow10Tab
theorem tab_grow {w w':World} (h:Tab w) (hg:w.grownBy w' none):Tab w':=by
 unfold Tab Lib.TabIs World.var? at h ⊢
 cases hgn:Tryz.prog.globalNamed "internal/strconv.uint64pow10" with
 | none=>simp [hgn] at h
 | some g =>
  simp only [hgn,Option.bind_some] at h ⊢
  have hlt:g < w.heap.size:=by
   rcases Nat.lt_or_ge g w.heap.size with h' | h'
   ·exact h'
   ·simp [Array.getElem?_eq_none h'] at h
  rw [hg.block g hlt (by simp)]
  exact h
theorem itoa_any (n:Int) (w:World) (h0:-9223372036854775808<=n) (h1:n<=9223372036854775807) (ht:Tab w) :
  Calls Tryz.prog 93 #[.int .i64 n] w fun e w'=>e=.returned (.string ⟨(Lib.itoa n).toArray⟩)/\w.grownBy w' none:=by
 refine Calls.mono (Any.strconv_Itoa Tryz.lays171 n h0 h1 w ht) ?_
 rintro e w' ⟨rfl,k,os,rfl⟩
 refine ⟨rfl,⟨rfl,rfl,rfl,by show w.heap.size<=(w.heap++os).size;simp,fun i hi _=>?_⟩⟩
 show (w.heap++os)[i]?=w.heap[i]?
 rw [Array.getElem?_append_left hi]
theorem itoa_ne (n:Int):Lib.itoa n ≠ []:=by
 unfold Lib.itoa
 split
 ·simp
 ·intro h
  have:=congrArg List.length h
  rw [Lib.decDigits_length] at this
  simp only [List.length_nil] at this
  by_cases hu:n.toNat < 10
  ·rw [Lib.nDigits_small hu] at this;cases this
  ·rw [Lib.nDigits_big hu] at this;cases this
structure Ev (w0:World) (NV:Value) (N c:Nat) (ns:List Tn) (own:List Nat):Prop where
 nv:Nv w0 NV N c ns
 wf:WF ns own
 gt:∀p q,q ∈ ksAt ns p->p < q
 len:ns.length<=900000
 txt:∀i (hi:i < ns.length),ns[i].ky.length<=1048576/\ns[i].tx.length<=1048576
 num:∀i (hi:i < ns.length),-9223372036854775808<=ns[i].nu/\ns[i].nu<=9223372036854775807
 tab:Tab w0
theorem up_gb {w0 w w':World} (h:w0.grownBy w none) (hb:Below w0.heap.size w w'):w0.grownBy w' none:=bel_gbn ((gb_below h).trans hb)
def PvC (w0:World) (p:Nat) (NV:Value) (ns:List Tn) (f:Nat):Prop:=∀(out path:List UInt8) (t:Nat) (ht:t < ns.length) (k:Value) (w:World),ns.length - t<=f->Pn w w0.heap.size p NV out path->w0.grownBy w none->NuS w0 k ns[t].ks->out.length+(vT ns f t).length<=70368744177664 →
 Calls Tryz.prog 62 #[.pointer (some ⟨p,0,none⟩),.agg #[.int .i64 ns[t].kd,.string ⟨ns[t].ky.toArray⟩,.string ⟨ns[t].tx.toArray⟩,.int .i64 ns[t].nu,k,.int .i64 (ns[t].pl:Nat)]] w fun e w'=>e=.returned (.tuple #[])/\Pn w' w0.heap.size p NV (out++vT ns f t) path/\PF w0.heap.size w w'
def PlC (w0:World) (p:Nat) (NV:Value) (ns:List Tn) (f:Nat):Prop:=∀(out path:List UInt8) (l:List Nat) (k:Value) (w:World),(∀q ∈ l,q < ns.length/\ns.length - q<=f)->l.length<=1000000->Pn w w0.heap.size p NV out path->w0.grownBy w none->NuS w0 k l->out.length+(91 :: cm true (l.map (vT ns f))++[93]).length<=70368744177664 →
 Calls Tryz.prog 92 #[.pointer (some ⟨p,0,none⟩),k] w fun e w'=>e=.returned (.tuple #[])/\Pn w' w0.heap.size p NV (out++(91 :: cm true (l.map (vT ns f))++[93])) path/\PF w0.heap.size w w'
theorem cm_le (first:Bool) (l:List (List UInt8)) (i:Nat):(cm first (l.take i)).length<=(cm first l).length:=by
 induction l generalizing first i with
 | nil=>simp
 | cons a r ih =>
  cases i with
  | zero=>simp [cm]
  | succ i =>
   show ((if first=true then [] else [44,32])++a++cm false (r.take i)).length<=((if first=true then [] else [44,32])++a++cm false r).length
   have:=ih false i
   simp only [List.length_append]
   omega
set_option maxRecDepth 100000 in
set_option maxHeartbeats 3200000 in
theorem pList_of {w0:World} {p N c:Nat} {NV:Value} {ns:List Tn} {own:List Nat} (E:Ev w0 NV N c ns own) (f:Nat) (C:PvC w0 p NV ns f):PlC w0 p NV ns f:=by
 intro out path l k w hl hll hP hg hk hsz
 obtain ⟨o,ck,rfl,hkc⟩:=hk
 have hv:=E.nv.val
 have HNV:Hid (∀w',w0.grownBy w' none->w'.cell? ⟨p,0,none⟩=some NV->w'.cell? ⟨p,0,none⟩=some (.slice (some ⟨N,0,none⟩) ns.length c)):=fun w' _ h=>by rw [<-hv];exact h
 obtain ⟨B,hB⟩:∃B,w0.heap.size=B:=⟨_,rfl⟩
 have HB:Hid (w0.heap.size=B):=hB
 have CB:Hid (∀(out:List UInt8) (ch:UInt8) w,Pn w B p NV out path->out.length+1<=70368744177664->Calls Tryz.prog 63 #[.pointer (some ⟨p,1,none⟩),.int .u8 (ch.toNat:Int)] w fun e w'=>e=.returned .nilIface/\Pn w' B p NV (out++[ch]) path/\PF B w w'):=fun out ch w h hl=>bWriteB B p NV out path ch w h hl
 have CS:Hid (∀(out:List UInt8) w,Pn w B p NV out path->out.length+2<=70368744177664->Calls Tryz.prog 60 #[.pointer (some ⟨p,1,none⟩),.string ⟨#[44,32]⟩] w fun e w'=>(∃k:Int,e=.returned (.tuple #[.int .i64 k,.nilIface]))/\Pn w' B p NV (out++[44,32]) path/\PF B w w'):=fun out w h hl=>bWriteS B p NV out path [44,32] w h (by simp) hl
 have CV:Hid (∀(out:List UInt8) (t:Nat) (ht:t < ns.length) (k:Value) (w:World),ns.length - t<=f->Pn w B p NV out path->w0.grownBy w none->NuS w0 k ns[t].ks->out.length+(vT ns f t).length<=70368744177664->Calls Tryz.prog 62 #[.pointer (some ⟨p,0,none⟩),.agg #[.int .i64 ns[t].kd,.string ⟨ns[t].ky.toArray⟩,.string ⟨ns[t].tx.toArray⟩,.int .i64 ns[t].nu,k,.int .i64 (ns[t].pl:Nat)]] w fun e w'=>e=.returned (.tuple #[])/\Pn w' B p NV (out++vT ns f t) path/\PF B w w'):=fun out t ht k w h1 h2 h3 h4 h5=>by
  have:=C out path t ht k w h1 (by rw [hB];exact h2) h3 h4 h5
  rw [hB] at this
  exact this
 rw [hB] at hP ⊢
 have HKC:Hid (∀i (hi:i < l.length),∃g,o=some ⟨g,0,none⟩/\w0.cell? ⟨g,i,none⟩=some (.int .i64 (l[i]:Nat))):=hkc
 have HL:Hid (∀q ∈ l,q < ns.length/\ns.length - q<=f):=hl
 have HP0:Hid (Pn w B p NV out path):=hP
 have HG0:Hid (w0.grownBy w none):=hg
 have HE:Hid (Ev w0 NV N c ns own):=E
 have HUP:Hid (∀w w',w0.grownBy w none->Below B w w'->w0.grownBy w' none):=fun w w' h1 h2=>up_gb h1 (by rw [hB];exact h2)
 have hcl:(91 :: cm true (l.map (vT ns f))++[93]).length=(cm true (l.map (vT ns f))).length+2:=by simp
 rw [hcl] at hsz
 have hol:out.length+2<=70368744177664:=by omega
 obtain ⟨n,hn⟩:∃n,l.length=n:=⟨_,rfl⟩
 have HN:Hid (l.length=n):=hn
 rw [hn] at hll ⊢
 have hEl:=E.len
 obtain ⟨L,hL⟩:∃L,ns.length=L:=⟨_,rfl⟩
 have HLN:Hid (ns.length=L):=hL
 clear hP hg hkc hl E hv hB hcl hn hL C
 go_enter Tryz.func92,Tryz.ntmps92
 go_wp2_with (first | (go_at_call 63;refine (CB.out out 91 _ HP0.out (by omega)).mono ?_))
 first | rintro e w1 rfl hp1 hf1 | rintro e w1 ⟨rfl,hp1,hf1⟩
 have HP1:Hid (Pn w1 B p NV (out++[91]) path):=hp1
 have HF1:Hid (PF B w w1):=hf1
 have HG1:Hid (w0.grownBy w1 none):=HUP.out _ _ HG0.out hf1.bel
 clear hp1 hf1
 go_wp2
 go_loopw [12] (fun v12 wr=>∃i:Nat,v12=.int .i64 (i:Nat)/\i<=n/\Pn wr B p NV (out++[91]++cm true ((l.map (vT ns f)).take i)) path/\PF B w wr/\w0.grownBy wr none) (fun v12 _=>n - (intOf v12).toNat)
 case atStart=>exact ⟨0,rfl,Nat.zero_le _,by simpa [cm] using HP1.out,HF1.out,HG1.out⟩
 case round =>
  obtain ⟨i,rfl,hi,hpr,hfr,hgr⟩:=hrel
  have HPR:Hid (Pn wr B p NV (out++[91]++cm true ((l.map (vT ns f)).take i)) path):=hpr
  have HFR:Hid (PF B w wr):=hfr
  have HGR:Hid (w0.grownBy wr none):=hgr
  clear hpr hfr hgr
  by_cases hlt:i < n
  ·have hil:i < l.length:=by rw [HN.out];exact hlt
   have hI:(i:Int) < (n:Int):=by omega
   obtain ⟨g,hgo,hgc⟩:=HKC.out i hil
   subst hgo
   have g1:=HGR.out.cell hgc (by simp)
   obtain ⟨q,hq⟩:∃q,l[i]=q:=⟨_,rfl⟩
   obtain ⟨hqL,hqf⟩:=HL.out q (by rw [<-hq];exact List.getElem_mem hil)
   rw [hq] at g1
   have HTK:Hid (cm true ((l.map (vT ns f)).take (i+1))=cm true ((l.map (vT ns f)).take i)++((if i=0 then [] else [44,32])++vT ns f q)):=by
    show _=_
    have hil2:i < (l.map (vT ns f)).length:=by simpa using hil
    rw [List.take_succ_eq_append_getElem hil2,cm_snoc,List.getElem_map,hq]
    have e:(true=true/\(l.map (vT ns f)).take i=[]) ↔ i=0:=by
     simp only [true_and,List.take_eq_nil_iff]
     constructor
     ·rintro (h | h)
      ·exact h
      ·rw [h] at hil2;simp at hil2
     ·exact Or.inl
    by_cases h0:i=0
    ·rw [if_pos (e.2 h0),if_pos h0]
    ·rw [if_neg (fun hh=>h0 (e.1 hh)),if_neg h0]
   have hle:=cm_le true (l.map (vT ns f)) (i+1)
   rw [HTK.out] at hle
   simp only [List.length_append] at hle
   obtain ⟨acc,hacc⟩:∃acc,cm true ((l.map (vT ns f)).take i)=acc:=⟨_,rfl⟩
   rw [hacc] at HTK HPR hle
   obtain ⟨X,hX⟩:∃X,out++[91]++acc=X:=⟨_,rfl⟩
   have hXl:X.length=out.length+1+acc.length:=by rw [<-hX];simp;omega
   rw [hX] at HPR
   obtain ⟨k6,n0,n1,n2,n3,n4,n5,n6⟩:=HE.out.nv.cel q hqL
   have HCE:Hid (∀w',w0.grownBy w' none->w'.cell? ⟨N,q * 6,none⟩=some (.int .i64 ns[q].kd)/\w'.cell? ⟨N,q * 6+1,none⟩=some (.string ⟨ns[q].ky.toArray⟩)/\w'.cell? ⟨N,q * 6+2,none⟩=some (.string ⟨ns[q].tx.toArray⟩)/\w'.cell? ⟨N,q * 6+3,none⟩=some (.int .i64 ns[q].nu)/\w'.cell? ⟨N,q * 6+4,none⟩=some k6/\w'.cell? ⟨N,q * 6+5,none⟩=some (.int .i64 (ns[q].pl:Nat))):=fun w' h=>⟨h.cell n0 (by simp),h.cell n1 (by simp),h.cell n2 (by simp),h.cell n3 (by simp),h.cell n4 (by simp),h.cell n5 (by simp)⟩
   have CV1:Hid (∀(X:List UInt8) w,Pn w B p NV X path->w0.grownBy w none->X.length+(vT ns f q).length<=70368744177664->Calls Tryz.prog 62 #[.pointer (some ⟨p,0,none⟩),.agg #[.int .i64 ns[q].kd,.string ⟨ns[q].ky.toArray⟩,.string ⟨ns[q].tx.toArray⟩,.int .i64 ns[q].nu,k6,.int .i64 (ns[q].pl:Nat)]] w fun e w'=>e=.returned (.tuple #[])/\Pn w' B p NV (X++vT ns f q) path/\PF B w w'):=fun X w h1 h2 h3=>CV.out X q hqL k6 w hqf h1 h2 n6 h3
   obtain ⟨VT,hVT⟩:∃V,vT ns f q=V:=⟨_,rfl⟩
   rw [hVT] at CV1 HTK hle
   obtain ⟨y,hy⟩:∃y,ns[q]=y:=⟨_,rfl⟩
   rw [hy] at HCE CV1
   have hqI:(q:Int) < (L:Int):=by have:=HLN.out;omega
   have HX:Hid (out++[91]++acc=X):=hX
   clear hq hacc hX n0 n1 n2 n3 n4 n5 n6 hVT hy hgc hqf
   have fin:Hid (∀w',Pn w' B p NV (X++(if i=0 then [] else [44,32])++VT) path->Pn w' B p NV (out++[91]++cm true ((l.map (vT ns f)).take (i+1))) path):=fun w' h=>by
    rw [HTK.out]
    rw [<-HX.out] at h
    simpa using h
   by_cases h0:i=0
   ·have hgt:¬ (0:Int) < (i:Int):=by omega
    simp only [if_pos h0] at hle fin
    have p0:=HPR.out.base.2.2
    have p0':=HNV.out _ HGR.out p0
    rw [HLN.out] at p0'
    obtain ⟨m0,m1,m2,m3,m4,m5⟩:=HCE.out _ HGR.out
    clear p0 h0
    go_wp2_with (first | (go_at_call 62;refine (CV1.out X _ HPR.out HGR.out (by simp at hle;omega)).mono ?_))
    first | rintro e w3 rfl hp3 hf3 | rintro e w3 ⟨rfl,hp3,hf3⟩
    have HPN:Hid (Pn w3 B p NV (out++[91]++cm true ((l.map (vT ns f)).take (i+1))) path):=fin.out w3 (by simpa using hp3)
    have HFN:Hid (PF B w w3):=HFR.out.two hf3
    have HGN:Hid (w0.grownBy w3 none):=HUP.out _ _ HGR.out hf3.bel
    clear hp3 hf3 m0 m1 m2 m3 m4 m5 p0'
    go_wp2
    go_roundw
    case rel=>exact ⟨i+1,by go_num,by omega,HPN.out,HFN.out,HGN.out⟩
    case measure=>simp [intOf];omega
   ·have hgt:(0:Int) < (i:Int):=by omega
    simp only [if_neg h0] at hle fin
    go_wp2_with (first | (go_at_call 60;refine (CS.out X _ HPR.out (by simp at hle;omega)).mono ?_))
    rintro e w2 ⟨⟨k2,rfl⟩,hp2,hf2⟩
    have HP2:Hid (Pn w2 B p NV (X++[44,32]) path):=hp2
    have HF2:Hid (PF B w w2):=HFR.out.two hf2
    have HG2:Hid (w0.grownBy w2 none):=HUP.out _ _ HGR.out hf2.bel
    have p0:=hp2.base.2.2
    have p0':=HNV.out _ HG2.out p0
    rw [HLN.out] at p0'
    obtain ⟨m0,m1,m2,m3,m4,m5⟩:=HCE.out _ HG2.out
    clear p0 hp2 hf2
    go_wp2_with (first | (go_at_call 62;refine (CV1.out (X++[44,32]) _ HP2.out HG2.out (by simp at hle ⊢;omega)).mono ?_))
    first | rintro e w3 rfl hp3 hf3 | rintro e w3 ⟨rfl,hp3,hf3⟩
    have HPN:Hid (Pn w3 B p NV (out++[91]++cm true ((l.map (vT ns f)).take (i+1))) path):=fin.out w3 (by simpa using hp3)
    have HFN:Hid (PF B w w3):=HF2.out.two hf3
    have HGN:Hid (w0.grownBy w3 none):=HUP.out _ _ HG2.out hf3.bel
    clear hp3 hf3 m0 m1 m2 m3 m4 m5 p0'
    go_wp2
    go_roundw
    case rel=>exact ⟨i+1,by go_num,by omega,HPN.out,HFN.out,HGN.out⟩
    case measure=>simp [intOf];omega
  ·have hI:¬ (i:Int) < (n:Int):=by omega
   have HPE:Hid (Pn wr B p NV (out++[91]++cm true (l.map (vT ns f))) path):=by
    have:=HPR.out
    rw [List.take_of_length_le (by rw [List.length_map,HN.out];omega)] at this
    exact this
   go_wp2_with (first | (go_at_call 63;refine (CB.out (out++[91]++cm true (l.map (vT ns f))) 93 _ HPE.out (by simp;omega)).mono ?_))
   first | rintro e w3 rfl hp3 hf3 | rintro e w3 ⟨rfl,hp3,hf3⟩
   have HPN:Hid (Pn w3 B p NV (out++(91 :: cm true (l.map (vT ns f))++[93])) path):=by show Pn _ _ _ _ _ _;simpa using hp3
   have HFN:Hid (PF B w w3):=HFR.out.two hf3
   clear hp3 hf3
   go_wp2
   refine bodyPost_end (results_none rfl _ _ _) rfl ?_
   exact ⟨rfl,HPN.out,HFN.out⟩
end Go.Proofs.YtbgnflcebafjjaaGreatDoor
namespace Go.Proofs.YtbgnflcebafjjaaGreatDoor
open Go.RowKit Go.Maps Go.WideMaps Go.Joins
set_option linter.unusedVariables false
theorem Pn.pf {w:World} {B p:Nat} {NV:Value} {out path:List UInt8} (h:Pn w B p NV out path):B<=w.heap.size:=by
 have:=h.base
 omega
set_option maxRecDepth 100000 in
set_option maxHeartbeats 3200000 in
theorem pValue_of {w0:World} {p N c:Nat} {NV:Value} {ns:List Tn} {own:List Nat} (E:Ev w0 NV N c ns own) (f:Nat) (C:PlC w0 p NV ns f):PvC w0 p NV ns (f+1):=by
 intro out path t ht k w hf hP hg hk hsz
 have HVT:=vT_step ns f t ht
 obtain ⟨htx1,htx⟩:=E.txt t ht
 obtain ⟨hnu1,hnu2⟩:=E.num t ht
 obtain ⟨ok,ck,hkv,hkc⟩:=hk
 have hk2:NuS w0 k ns[t].ks:=⟨ok,ck,hkv,hkc⟩
 have CL:Hid (∀w',Pn w' w0.heap.size p NV out path->w0.grownBy w' none->out.length+(91 :: cm true (ns[t].ks.map (vT ns f))++[93]).length<=70368744177664->Calls Tryz.prog 92 #[.pointer (some ⟨p,0,none⟩),k] w' fun e w''=>e=.returned (.tuple #[])/\Pn w'' w0.heap.size p NV (out++(91 :: cm true (ns[t].ks.map (vT ns f))++[93])) path/\PF w0.heap.size w' w''):=fun w' h1 h2 h3=>C out path ns[t].ks k w' (fun q hq=>by
  have hq':q ∈ ksAt ns t:=by rw [ksAt_in ht];exact hq
  have a1:=E.gt t q hq'
  have a2:=E.wf.lt t q hq'
  exact ⟨a2,by omega⟩) (by have:=E.wf.len t;rw [ksAt_in ht] at this;have:=E.len;omega) h1 h2 hk2 h3
 obtain ⟨B,hB⟩:∃B,w0.heap.size=B:=⟨_,rfl⟩
 have HUP:Hid (∀w w',w0.grownBy w none->Below B w w'->w0.grownBy w' none):=fun w w' h1 h2=>up_gb h1 (by rw [hB];exact h2)
 have HTB:Hid (∀w',w0.grownBy w' none->Tab w'):=fun w' h=>tab_grow E.tab h
 rw [hB] at CL hP ⊢
 obtain ⟨x,hx⟩:∃x,ns[t]=x:=⟨_,rfl⟩
 rw [hx] at CL HVT htx hnu1 hnu2 ⊢
 obtain ⟨V,hV⟩:∃V,vT ns (f+1) t=V:=⟨_,rfl⟩
 rw [hV] at HVT hsz ⊢
 have HVV:Hid (V=if x.kd=1 then 91 :: cm true (x.ks.map (vT ns f))++[93] else if x.kd=3 then qt x.tx else if x.kd=4 then Lib.itoa x.nu else if x.kd=5 then Lib.formatBool (decide (x.nu=1)) else []):=HVT
 have hgA:w.grownBy (w.alloc (.cells #[.int .i64 x.kd,.string ⟨x.ky.toArray⟩,.string ⟨x.tx.toArray⟩,.int .i64 x.nu,k,.int .i64 (x.pl:Nat)] 33)) none:=World.grownBy_alloc _ _ none
 have hbx:=heap_alloc_new w (.cells #[.int .i64 x.kd,.string ⟨x.ky.toArray⟩,.string ⟨x.tx.toArray⟩,.int .i64 x.nu,k,.int .i64 (x.pl:Nat)] 33)
 have hBw:=hP.pf
 obtain ⟨w1,hw1⟩:∃W,w.alloc (.cells #[.int .i64 x.kd,.string ⟨x.ky.toArray⟩,.string ⟨x.tx.toArray⟩,.int .i64 x.nu,k,.int .i64 (x.pl:Nat)] 33)=W:=⟨_,rfl⟩
 obtain ⟨bx,hbxe⟩:∃b,w.heap.size=b:=⟨_,rfl⟩
 rw [hw1] at hgA hbx
 rw [hbxe] at hbx
 have HW1:Hid (w.alloc (.cells #[.int .i64 x.kd,.string ⟨x.ky.toArray⟩,.string ⟨x.tx.toArray⟩,.int .i64 x.nu,k,.int .i64 (x.pl:Nat)] 33)=w1):=hw1
 have HBX:Hid (w.heap.size=bx):=hbxe
 have HP1:Hid (Pn w1 B p NV out path):=hP.gb hgA
 have HF1:Hid (PF B w w1):=PF.gb hgA hBw
 have HG1:Hid (w0.grownBy w1 none):=gb_trans hg hgA
 have HBB:Hid (w1.heap[bx]?=some (.cells #[.int .i64 x.kd,.string ⟨x.ky.toArray⟩,.string ⟨x.tx.toArray⟩,.int .i64 x.nu,k,.int .i64 (x.pl:Nat)] 33 (0,0))):=hbx
 have b0:w1.cell? ⟨bx,0,none⟩=some (.int .i64 x.kd):=by rw [Lib.cell_of_heap hbx];rfl
 have b2:w1.cell? ⟨bx,2,none⟩=some (.string ⟨x.tx.toArray⟩):=by rw [Lib.cell_of_heap hbx];rfl
 have b3:w1.cell? ⟨bx,3,none⟩=some (.int .i64 x.nu):=by rw [Lib.cell_of_heap hbx];rfl
 have b4:w1.cell? ⟨bx,4,none⟩=some k:=by rw [Lib.cell_of_heap hbx];rfl
 -- a text written behind a call that only grows
 have CW:Hid (∀(X:List UInt8),X ≠ []->out.length+X.length<=70368744177664->∀w2,w1.drew.grownBy w2 none->Calls Tryz.prog 60 #[.pointer (some ⟨p,1,none⟩),.string ⟨X.toArray⟩] w2 fun e w3=>(∃k:Int,e=.returned (.tuple #[.int .i64 k,.nilIface]))/\Hid (Pn w3 B p NV (out++X) path/\PF B w w3)/\w3.cell? ⟨bx,2,none⟩=some (.string ⟨x.tx.toArray⟩)/\w3.cell? ⟨bx,3,none⟩=some (.int .i64 x.nu)):=fun X hX hl w2 hg2=>by
  have g2:w1.grownBy w2 none:=gb_trans (show w1.grownBy w1.drew none from ⟨rfl,rfl,rfl,Nat.le_refl _,fun _ _ _=>rfl⟩) hg2
  refine (bWriteS B p NV out path X w2 (HP1.out.gb g2) hX hl).mono ?_
  rintro e w3 ⟨he,h1,h2⟩
  have hb2:=(g2.block bx (blk_lt HBB.out) (by simp)).trans HBB.out
  have hb3:=(h2.oth _ _ _ _ hb2 (by decide) (by decide)).trans hb2
  exact ⟨he,⟨h1,(HF1.out.two (PF.gb g2 HP1.out.pf)).two h2⟩,by rw [Lib.cell_of_heap hb3];rfl,by rw [Lib.cell_of_heap hb3];rfl⟩
 obtain ⟨KD',hkd⟩:∃z,x.kd=z:=⟨_,rfl⟩
 rw [hkd] at HVV b0 HW1 HBB ⊢
 obtain ⟨T,hT⟩:∃T:ByteArray,⟨x.tx.toArray⟩=T:=⟨_,rfl⟩
 have HT:Hid (T.data.toList=x.tx/\T.size<=1048576):=by
  rw [<-hT]
  exact ⟨by simp,by show x.tx.toArray.size<=_;simpa using htx⟩
 rw [hT] at b2 CW HW1 HBB ⊢
 clear hP hg hk2 hkv hkc hf HVT hV hgA hbx hbxe hw1 E C hx htx1 ht hkd hT
 by_cases h1:KD'=1
 ·have hb1:(KD' == 1)=true:=by simpa using h1
  rw [if_pos h1] at HVV
  rw [HVV.out] at hsz ⊢
  clear h1
  go_enter Tryz.func62,Tryz.ntmps62
  go_upto_region 1 with fail
  rw [HW1.out,HBX.out]
  go_wp2_with (first | (go_at_call 92;refine (CL.out _ HP1.out HG1.out hsz).mono ?_;rintro e w2 ⟨rfl,hp2,hf2⟩))
  refine bodyPost_end (results_none rfl _ _ _) rfl ?_
  exact ⟨rfl,hp2,HF1.out.two hf2⟩
 ·have hb1:(KD' == 1)=false:=by simpa using h1
  rw [if_neg h1] at HVV
  clear h1
  by_cases h3:KD'=3
  ·have hb3':(KD' == 3)=true:=by simpa using h3
   rw [if_pos h3] at HVV
   rw [HVV.out] at hsz ⊢
   have CQ:Hid (Calls Tryz.prog 91 #[.string T] w1.drew fun e w'=>e=.returned (.string ⟨(qt x.tx).toArray⟩)/\w1.drew.grownBy w' none):=by
    have:=tQuote_any T w1.drew HT.out.2
    rw [HT.out.1] at this
    exact this
   have CW1:=CW.out (qt x.tx) (fun e=>by have:=(qt_len x.tx).1;rw [e] at this;simp at this) hsz
   have CW2:Hid (∀w2,w1.drew.grownBy w2 none->Calls Tryz.prog 60 #[.pointer (some ⟨p,1,none⟩),.string ⟨(qt x.tx).toArray⟩] w2 fun e w3=>(∃k:Int,e=.returned (.tuple #[.int .i64 k,.nilIface]))/\Hid (Pn w3 B p NV (out++qt x.tx) path/\PF B w w3)/\w3.cell? ⟨bx,2,none⟩=some (.string T)):=fun w2 h=>(CW1 w2 h).mono fun e w3 ⟨a,b,c,d⟩=>⟨a,b,c⟩
   obtain ⟨QT,hQT⟩:∃Q:ByteArray,⟨(qt x.tx).toArray⟩=Q:=⟨_,rfl⟩
   rw [hQT] at CQ CW2
   clear h3 CW1 CW hQT b3 b4
   go_enter Tryz.func62,Tryz.ntmps62
   go_upto_region 1 with fail
   rw [HW1.out,HBX.out]
   go_wp2
   go_region_held3 (fun u=>u.cell? ⟨bx,2,none⟩=some (.string T)) ((first | assumption | exact World.grownBy.cell (by assumption) (by assumption) (by simp) | go_keep)) (first | (go_at_call 91;refine CQ.out.mono ?_;rintro e w6 ⟨rfl,hg6⟩) | (go_at_call 60;refine (CW2.out _ hg6).mono ?_;rintro e w7 ⟨⟨k7,rfl⟩,hall,hcl⟩))
   go_wp2
   refine bodyPost_end (results_none rfl _ _ _) rfl ?_
   exact ⟨rfl,hall.out.1,hall.out.2⟩
  ·have hb3':(KD' == 3)=false:=by simpa using h3
   rw [if_neg h3] at HVV
   clear h3
   by_cases h4:KD'=4
   ·have hb4':(KD' == 4)=true:=by simpa using h4
    rw [if_pos h4] at HVV
    rw [HVV.out] at hsz ⊢
    have CQ:Hid (Calls Tryz.prog 93 #[.int .i64 x.nu] w1.drew fun e w'=>e=.returned (.string ⟨(Lib.itoa x.nu).toArray⟩)/\w1.drew.grownBy w' none):=itoa_any x.nu w1.drew hnu1 hnu2 (HTB.out _ (gb_drew HG1.out 1))
    have CW1:=CW.out (Lib.itoa x.nu) (itoa_ne _) hsz
    have CW2:Hid (∀w2,w1.drew.grownBy w2 none->Calls Tryz.prog 60 #[.pointer (some ⟨p,1,none⟩),.string ⟨(Lib.itoa x.nu).toArray⟩] w2 fun e w3=>(∃k:Int,e=.returned (.tuple #[.int .i64 k,.nilIface]))/\Hid (Pn w3 B p NV (out++Lib.itoa x.nu) path/\PF B w w3)/\w3.cell? ⟨bx,3,none⟩=some (.int .i64 x.nu)):=fun w2 h=>(CW1 w2 h).mono fun e w3 ⟨a,b,c,d⟩=>⟨a,b,d⟩
    obtain ⟨QT,hQT⟩:∃Q:ByteArray,⟨(Lib.itoa x.nu).toArray⟩=Q:=⟨_,rfl⟩
    rw [hQT] at CQ CW2
    obtain ⟨NU,hNU⟩:∃z,x.nu=z:=⟨_,rfl⟩
    rw [hNU] at CQ b3 HW1 CW2 ⊢
    clear h4 CW1 CW hQT b2 b4 hNU HBB hnu1 hnu2
    go_enter Tryz.func62,Tryz.ntmps62
    go_upto_region 1 with fail
    rw [HW1.out,HBX.out]
    go_wp2
    go_region_held3 (fun u=>u.cell? ⟨bx,3,none⟩=some (.int .i64 NU)) ((first | assumption | exact World.grownBy.cell (by assumption) (by assumption) (by simp) | go_keep)) (first | (go_at_call 93;refine CQ.out.mono ?_;rintro e w6 ⟨rfl,hg6⟩) | (go_at_call 60;refine (CW2.out _ hg6).mono ?_;rintro e w7 ⟨⟨k7,rfl⟩,hall,hcl⟩))
    go_wp2
    refine bodyPost_end (results_none rfl _ _ _) rfl ?_
    exact ⟨rfl,hall.out.1,hall.out.2⟩
   ·have hb4':(KD' == 4)=false:=by simpa using h4
    rw [if_neg h4] at HVV
    clear h4
    by_cases h5:KD'=5
    ·have hb5':(KD' == 5)=true:=by simpa using h5
     rw [if_pos h5] at HVV
     rw [HVV.out] at hsz ⊢
     obtain ⟨bb,hbb⟩:∃bb,decide (x.nu=1)=bb:=⟨_,rfl⟩
     rw [hbb] at hsz ⊢
     have hbq:(x.nu == 1)=bb:=by rw [<-hbb,Bool.eq_iff_iff];simp
     have CQ:Hid (∀w',Calls Tryz.prog 94 #[.bool bb] w' fun e w''=>e=.returned (.string ⟨(Lib.formatBool bb).toArray⟩)/\w''=w'):=fun w'=>Any.strconv_FormatBool Tryz.lays121 bb w'
     have CW1:=CW.out (Lib.formatBool bb) (fb_ne _) hsz _ (gb_refl _ _)
     have CW2:Hid (Calls Tryz.prog 60 #[.pointer (some ⟨p,1,none⟩),.string ⟨(Lib.formatBool bb).toArray⟩] w1.drew fun e w3=>(∃k:Int,e=.returned (.tuple #[.int .i64 k,.nilIface]))/\Hid (Pn w3 B p NV (out++Lib.formatBool bb) path/\PF B w w3)/\w3.cell? ⟨bx,3,none⟩=some (.int .i64 x.nu)):=CW1.mono fun e w3 ⟨a,b,c,d⟩=>⟨a,b,d⟩
     obtain ⟨QT,hQT⟩:∃Q:ByteArray,⟨(Lib.formatBool bb).toArray⟩=Q:=⟨_,rfl⟩
     rw [hQT] at CQ CW2
     obtain ⟨NU,hNU⟩:∃z,x.nu=z:=⟨_,rfl⟩
     rw [hNU] at b3 HW1 CW2 hbq ⊢
     clear h5 CW1 CW hQT b2 b4 hNU HBB hnu1 hnu2 hbb
     go_enter Tryz.func62,Tryz.ntmps62
     go_upto_region 1 with fail
     rw [HW1.out,HBX.out]
     go_wp2
     go_region_held3 (fun u=>u.cell? ⟨bx,3,none⟩=some (.int .i64 NU)) ((first | assumption | exact World.grownBy.cell (by assumption) (by assumption) (by simp) | go_keep)) (first | (go_at_call 94;refine (CQ.out _).mono ?_;rintro e w6 ⟨rfl,rfl⟩) | (go_at_call 60;refine CW2.out.mono ?_;rintro e w7 ⟨⟨k7,rfl⟩,hall,hcl⟩))
     go_wp2
     refine bodyPost_end (results_none rfl _ _ _) rfl ?_
     exact ⟨rfl,hall.out.1,hall.out.2⟩
    ·have hb5':(KD' == 5)=false:=by simpa using h5
     rw [if_neg h5] at HVV
     rw [HVV.out,List.append_nil]
     clear h5 CW
     go_enter Tryz.func62,Tryz.ntmps62
     go_upto_region 1 with fail
     rw [HW1.out,HBX.out]
     go_wp2
     refine bodyPost_end (results_none rfl _ _ _) rfl ?_
     exact ⟨rfl,HP1.out,HF1.out⟩
theorem pVL_any {w0:World} {p N c:Nat} {NV:Value} {ns:List Tn} {own:List Nat} (E:Ev w0 NV N c ns own):∀f,PvC w0 p NV ns f
 | 0=>fun out path t ht k w hf=>absurd hf (by omega)
 | f+1=>pValue_of E f (pList_of E f (pVL_any E f))
end Go.Proofs.YtbgnflcebafjjaaGreatDoor
