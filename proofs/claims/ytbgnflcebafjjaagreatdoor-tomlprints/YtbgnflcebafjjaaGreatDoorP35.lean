import Derived.Test.YtbgnflcebafjjaaGreatDoorP33
namespace Go.Proofs.YtbgnflcebafjjaaGreatDoor
open Go.RowKit Go.Maps Go.WideMaps Go.Joins
set_option linter.unusedVariables false
theorem stp_er {ns:List Tn} {t p:Nat} {k:List UInt8} {c:Int × Nat} (h:stp ns t k p=.error c):c=(5,p):=by
 unfold stp at h
 split at h
 ·cases h
 ·split at h
  ·cases h
  ·split at h
   ·split at h
    ·cases h
    ·cases h;rfl
   ·cases h;rfl
theorem endT_er {ns:List Tn} {own:List Nat} {t p:Nat} {k:List UInt8} {c:Int × Nat} (h:endT ns own t k p=.error c):c=(5,p):=by
 unfold endT at h
 split at h
 ·cases h
 ·split at h
  ·cases h
  ·cases h;rfl
theorem endL_er {ns:List Tn} {t p:Nat} {k:List UInt8} {c:Int × Nat} (h:endL ns t k p=.error c):c=(5,p):=by
 unfold endL at h
 split at h
 ·cases h
 ·split at h
  ·cases h
  ·cases h;rfl
section
variable {w w':World} {B P P' R:Nat} {s:ByteArray} {now de:Nat} {q:Rs Nat} {ns:List Tn} {own:List Nat}
theorem Dt.toP (h:Dt w B P R s now de q ns own) (hP:P' < B):Dt w B P' R s now de q ns own:=by
 have hb:=h.base
 obtain ⟨h1,h2,N,c,O,oc,xs,ks,h3,h4,h5,h6⟩:=h
 have n1:=(own_typ h5.row (g:=N) rfl).1
 have n2:=(own_typ h5.owr (g:=O) rfl).1
 refine ⟨h1,by omega,N,c,O,oc,xs,ks,by omega,by omega,h5.far2 (by omega) fun i hi e=>?_,h6⟩
 have:=(own_typ (h5.kid i hi) e).1
 omega
theorem DFr.toP (h:DFr B P w w') (hP:P' < B):DFr B P' w w':=⟨h.bel,h.oth,h.bel.block P' hP⟩
theorem Fq.toP {e:Int × Nat} (h:Fq w B P R s now de e) (hP:P' < B):Fq w B P' R s now de e:=by
 obtain ⟨L,O,h1,h2,h3,h4⟩:=h
 obtain ⟨i,er,p,hd⟩:=h1.dd
 have:=blk_lt hd
 exact ⟨L,O,h1,h2,by omega,by omega⟩
end
def ksC (l:List (List UInt8 × Nat)):List Value:=l.map fun x=>.string ⟨x.1.toArray⟩
def plC (l:List (List UInt8 × Nat)):List Value:=l.map fun x=>.int .i64 (x.2:Nat)
theorem ksC_app (l:List (List UInt8 × Nat)) (x:List UInt8 × Nat):ksC (l++[x])=ksC l++[.string ⟨x.1.toArray⟩]:=by simp [ksC]
theorem plC_app (l:List (List UInt8 × Nat)) (x:List UInt8 × Nat):plC (l++[x])=plC l++[.int .i64 (x.2:Nat)]:=by simp [plC]
theorem ksC_at (l:List (List UInt8 × Nat)) (i:Nat) (hi:i < l.length):(ksC l)[i]?=some (.string ⟨l[i].1.toArray⟩):=by simp [ksC,hi]
theorem plC_at (l:List (List UInt8 × Nat)) (i:Nat) (hi:i < l.length):(plC l)[i]?=some (.int .i64 (l[i].2:Nat)):=by simp [plC,hi]
theorem Dt.places {w w':World} {B P R:Nat} {s:ByteArray} {now de j j' g:Nat} {ns:List Tn} {own:List Nat} (h:Dt w B P R s now de (.ok j) ns own) (hg:w.grownBy w' (some R)) (hs:∀L O,Ds w R s L O now de (.ok j)->Ds w' R s L O now de (.ok j')) (h1:w.heap.size<=g) (h2:g < w'.heap.size):Dt w' B g R s now de (.ok j') ns own:=by
 have hb:=h.base
 obtain ⟨a1,a2,N,c,O,oc,xs,ks,a3,a4,a5,a6⟩:=h
 obtain ⟨cn,hn⟩:=(own_typ a5.row (g:=N) rfl).2
 obtain ⟨co,ho⟩:=(own_typ a5.owr (g:=O) rfl).2
 have n1:=blk_lt hn
 have n2:=blk_lt ho
 refine ⟨a1,by omega,N,c,O,oc,xs,ks,by omega,by omega,(a5.keepR a6.2 hg).far2 h2 fun i hi e=>?_,hs _ _ a6⟩
 obtain ⟨cc,hcc⟩:=(own_typ (a5.kid i hi) e).2
 have:=blk_lt hcc
 omega
theorem Ds.uni {w:World} {R:Nat} {s:ByteArray} {L O L' O':Value} {now de i:Nat} (h:Ds w R s L O now de (.ok i)) (h':Ds w R s L' O' now de (.ok i)):L=L'/\O=O':=by
 obtain ⟨-,-,a,b,-⟩:=h.2.cells
 obtain ⟨-,-,a',b',-⟩:=h'.2.cells
 rw [a] at a'
 rw [b] at b'
 exact ⟨Option.some.inj a',Option.some.inj b'⟩
theorem Dt.owns {w:World} {B P R:Nat} {s:ByteArray} {now de j:Nat} {ns:List Tn} {own:List Nat} (h:Dt w B P R s now de (.ok j) ns own) (t:Nat) (ht:t < ns.length):∃O oc v,w.cell? ⟨R,3,none⟩=some (.slice (some ⟨O,0,none⟩) ns.length oc)/\w.cell? ⟨O,t,none⟩=some v/\w.frozen? ⟨O,t,none⟩=false ∧
  (w.setCell ⟨O,t,none⟩ (.bool true)).cell? ⟨R,4,none⟩=some (.int .i64 (now:Nat))/\(w.setCell ⟨O,t,none⟩ (.bool true)).frozen? ⟨R,4,none⟩=false ∧
  Dt ((w.setCell ⟨O,t,none⟩ (.bool true)).setCell ⟨R,4,none⟩ (.int .i64 (t:Nat))) B P R s t de (.ok j) ns (t :: own)/\DFr B P w ((w.setCell ⟨O,t,none⟩ (.bool true)).setCell ⟨R,4,none⟩ (.int .i64 (t:Nat))):=by
 obtain ⟨hb1,hb2,hb3⟩:=h.base
 obtain ⟨h1,h2,N,c,O,oc,xs,ks,h3,h4,h5,h6⟩:=h
 obtain ⟨f1,f2⟩:=h5.flagAt t ht
 obtain ⟨-,-,-,c3,-⟩:=h6.2.cells
 obtain ⟨hOB,cu,hO⟩:=own_typ h5.owr (g:=O) rfl
 have hRO:¬ R=O:=ne_typ h6.2 hO (by decide)
 have m5:=h5.mark t ht
 have d6:=h6.other (gb_setc w O t (.bool true)) hRO
 obtain ⟨-,-,-,-,e4,-,-,-,ef⟩:=d6.2.cells
 have fr1:DFr B P w (w.setCell ⟨O,t,none⟩ (.bool true)):=DFr.row (gb_setc w O t (.bool true)) hb1 hb2 hOB h4 hO (Or.inr (Or.inr (Or.inr rfl)))
 have fr2:DFr B P (w.setCell ⟨O,t,none⟩ (.bool true)) ((w.setCell ⟨O,t,none⟩ (.bool true)).setCell ⟨R,4,none⟩ (.int .i64 (t:Nat))):=dfr_R d6 h1 h2 m5.hP (gb_setc _ R 4 _)
 exact ⟨O,oc,_,c3,f1,f2,e4,ef 4,⟨h1,h2,N,c,O,oc,xs,ks,h3,h4,m5.keepR d6.2 (gb_setc _ R 4 _),d6.setN t⟩,fr1.two fr2⟩
end Go.Proofs.YtbgnflcebafjjaaGreatDoor
