import Derived.Test.YtbgnflcebafjjaaGreatDoorA09
namespace Go.Proofs.YtbgnflcebafjjaaGreatDoor
set_option linter.unusedVariables false
theorem gap_blank (l:List UInt8) (f i:Nat) (h:isBl (nx l i)=true):gap l f i=gap l f (i+1)\/f=0:=by
 cases f with
 | zero=>exact Or.inr rfl
 | succ f =>
  left
  have hi:i < l.length:=nx_lt (by unfold isBl at h;have:=of_decide_eq_true h;omega)
  have e:bl l i=bl l (i+1):=toR_step isBl l i hi h
  rw [gap_step,gap_step,e]
theorem gap_nl (l:List UInt8) (f i:Nat) (h:nx l i=10):gap l (f+1) i=gap l f (i+1):=by
 have e:bl l i=i:=toR_stop isBl l i (by rw [h];rfl)
 have e2:cmt l i=(true,i):=cmt_no l i (by rw [h];decide)
 rw [gap_step,e,e2]
 simp only [h]
 rfl
theorem gap_stop (l:List UInt8) (f i:Nat) (h:isBl (nx l i)=false) (h1:¬ nx l i=10) (h2:¬ nx l i=35):gap l (f+1) i=.ok i:=by
 have e:bl l i=i:=toR_stop isBl l i h
 have e2:cmt l i=(true,i):=cmt_no l i h2
 rw [gap_step,e,e2]
 simp [h1]
theorem gap_cmt (l:List UInt8) (f i:Nat) (h:nx l i=35):gap l (f+1) i=(cmtR l i).bind (gap l (f+1)):=by
 have e:bl l i=i:=toR_stop isBl l i (by rw [h];rfl)
 rw [gap_step,e]
 unfold cmtR
 have hc:cmt l i=if nx l (toR inC l i)=10\/nx l (toR inC l i)=-1 then (true,toR inC l i) else (false,toR inC l i):=by unfold cmt;rw [if_pos h]
 rw [hc]
 by_cases h1:nx l (toR inC l i)=10\/nx l (toR inC l i)=-1
 ·simp only [if_pos h1,if_true]
  rw [if_neg (by decide)]
  show _=gap l (f+1) (toR inC l i)
  rcases h1 with h1 | h1
  ·rw [if_pos h1,gap_nl l f _ h1]
  ·rw [if_neg (by rw [h1];decide),gap_stop l f _ (by rw [h1];rfl) (by rw [h1];decide) (by rw [h1];decide)]
 ·simp only [if_neg h1,if_true]
  rw [if_neg (by decide)]
  rfl
theorem cmtR_lt (l:List UInt8) (i j:Nat) (h:nx l i=35) (hj:cmtR l i=.ok j):i < j/\j<=l.length:=by
 have hi:i < l.length:=nx_lt (by omega)
 rw [cmtR_yes l i h,crun_step l i (by rw [h];rfl) (by rw [h];decide) (by rw [h];decide)] at hj
 have:=toR_le inC l (i+1) (by omega)
 unfold crun at hj
 split at hj
 ·injection hj with hj;omega
 ·cases hj
def satN:List UInt8->Nat->Nat
 | [],n=>n
 | c :: r,n=>satN r (if n<=99999999999999999 then 10 * n+(c.toNat - 48) else 1000000000000000000)
theorem satN_top:∀(ds:List UInt8),satN ds 1000000000000000000=1000000000000000000
 | []=>rfl
 | c :: r=>by
  unfold satN
  rw [if_neg (by omega)]
  exact satN_top r
theorem satN_low:∀(ds:List UInt8) (n a:Nat),(∀c ∈ ds,c.toNat<=57)->n < 10 ^ a->a+ds.length<=18->satN ds n=digN ds n/\digN ds n < 10 ^ (a+ds.length)
 | [],n,a,_,hn,_=>⟨rfl,hn⟩
 | c :: r,n,a,hd,hn,hl=>by
  have hc:=hd c (by simp)
  simp only [List.length_cons] at hl ⊢
  have h17:10 ^ a<=10 ^ 17:=Nat.pow_le_pow_right (by omega) (by omega)
  have hle:n<=99999999999999999:=by
   have e:(10:Nat) ^ 17=100000000000000000:=by decide
   omega
  unfold satN digN
  rw [if_pos hle]
  have hn':10 * n+(c.toNat - 48) < 10 ^ (a+1):=by rw [Nat.pow_succ];omega
  have:=satN_low r _ (a+1) (fun x hx=>hd x (by simp [hx])) hn' (by omega)
  rw [show a+1+r.length=a+(r.length+1) by omega] at this
  exact this
theorem satN_high:∀(ds:List UInt8) (n a:Nat),(∀c ∈ ds,c.toNat<=57)->10 ^ a<=n->n<=1000000000000000000->18<=a+ds.length->satN ds n=1000000000000000000
 | [],n,a,_,hn,hm,hl=>by
  have h18:10 ^ 18<=10 ^ a:=Nat.pow_le_pow_right (by omega) (by simpa using hl)
  have e:(10:Nat) ^ 18=1000000000000000000:=by decide
  show n=_
  omega
 | c :: r,n,a,hd,hn,hm,hl=>by
  have hc:=hd c (by simp)
  unfold satN
  by_cases hle:n<=99999999999999999
  ·rw [if_pos hle]
   refine satN_high r _ (a+1) (fun x hx=>hd x (by simp [hx])) (by rw [Nat.pow_succ];omega) (by omega) (by simp only [List.length_cons] at hl;omega)
  ·rw [if_neg hle]
   exact satN_top r
theorem satN_app:∀(a b:List UInt8) (n:Nat),satN (a++b) n=satN b (satN a n)
 | [],b,n=>rfl
 | c :: r,b,n=>by
  show satN (r++b) _=satN b (satN r _)
  rw [satN_app r b]
end Go.Proofs.YtbgnflcebafjjaaGreatDoor
namespace Go.Proofs.YtbgnflcebafjjaaGreatDoor
open Go.RowKit Go.Joins
set_option linter.unusedVariables false
def dE (wr:World) (R:Nat):Int:=match wr.cell? ⟨R,5,none⟩ with | some (.int _ e)=>e | _=>1
theorem dE_eq {w:World} {R:Nat} {s:ByteArray} {L O:Value} {now de i:Nat} {er:Int} {p:Nat} (h:Dd w R s L O now de i er p):dE w R=er:=by unfold dE;rw [h.cells.2.2.2.2.2.1]
def dM (wr:World) (R:Nat) (s:ByteArray):Nat:=if dE wr R=0 then s.size - dI wr R+1 else 0
theorem dM_ok {w:World} {R:Nat} {s:ByteArray} {L O:Value} {now de i:Nat} {p:Nat} (h:Dd w R s L O now de i 0 p):dM w R s=s.size - i+1:=by
 unfold dM;rw [dE_eq h,dI_eq h,if_pos rfl]
theorem dM_no {w:World} {R:Nat} {s:ByteArray} {L O:Value} {now de i:Nat} {er:Int} {p:Nat} (h:Dd w R s L O now de i er p) (he:¬ er=0):dM w R s=0:=by
 unfold dM
 rw [dE_eq h,if_neg he]
theorem byte_at (s:ByteArray) (k:Nat) (hk:k < s.size):nx s.data.toList k=(s[k].toNat:Int):=by
 rw [nx_at _ _ (by simpa using hk)];rfl
set_option maxRecDepth 100000 in
set_option maxHeartbeats 3200000 in
theorem dComment_any (R:Nat) (s:ByteArray) (L O:Value) (now de:Nat) (q:Rs Nat) (w:World) (h:Ds w R s L O now de q) (hs:s.size<=1048576) :
  Calls Tryz.prog 30 #[.pointer (some ⟨R,0,none⟩)] w fun e w'=>e=.returned (.tuple #[])/\Ds w' R s L O now de (q.bind (cmtR s.data.toList))/\w.grownBy w' (some R):=by
 have hl:s.data.toList.length=s.size:=by simp
 have CI:Hid (Calls Tryz.prog 27 #[.pointer (some ⟨R,0,none⟩),.int .u8 35] w fun e w'=>e=.returned (.bool (isQ s.data.toList q 35))/\w.grownBy w' none):=dIs_any R s L O now de q 35 (by decide) w h hs
 have HDS:Hid (Ds w R s L O now de q):=h
 have HC1:Hid (isQ s.data.toList q 35=true->∃k,q=.ok k/\q.bind (cmtR s.data.toList)=crun s.data.toList k):=fun hh=>by
  match q with
  | .error e=>unfold isQ at hh;cases hh
  | .ok k=>exact ⟨k,rfl,cmtR_yes _ k (of_decide_eq_true hh)⟩
 have HC2:Hid (isQ s.data.toList q 35=false->q.bind (cmtR s.data.toList)=q):=fun hh=>by
  match q with
  | .error e=>rfl
  | .ok k=>exact cmtR_no _ k (of_decide_eq_false hh)
 obtain ⟨b,hb⟩:∃b,isQ s.data.toList q 35=b:=⟨_,rfl⟩
 rw [hb] at CI HC1 HC2
 have HX:Hid (∀k (hk:k < s.size),nx s.data.toList k=(s[k].toNat:Int)):=byte_at s
 have HE1:Hid (∀k,nx s.data.toList k=10->crun s.data.toList k=.ok k):=crun_nl _
 have HE2:Hid (∀k,s.size<=k->crun s.data.toList k=.ok k):=fun k hk=>crun_end _ _ (nx_end _ _ (by omega))
 have HE3:Hid (∀k (hk:k < s.size),isBr (s[k].toNat:Int)=true->¬ (s[k].toNat:Int)=10->crun s.data.toList k=.error (2,k)):=fun k hk h1 h2=>crun_bad _ _ (by rw [byte_at s k hk];exact h1) (by rw [byte_at s k hk];exact h2) (by rw [byte_at s k hk];omega)
 have HE4:Hid (∀k (hk:k < s.size),isBr (s[k].toNat:Int)=false->¬ (s[k].toNat:Int)=10->crun s.data.toList k=crun s.data.toList (k+1)):=fun k hk h1 h2=>crun_step _ _ (by rw [byte_at s k hk];exact h1) (by rw [byte_at s k hk];exact h2) (by rw [byte_at s k hk];omega)
 clear h hb
 cases b with
 | false =>
  rw [HC2.out rfl]
  go_enter Tryz.func30,Tryz.ntmps30
  go_wp2_with (first | (go_at_call 27;refine CI.out.mono ?_))
  first | rintro e w1 rfl hg1 | rintro e w1 ⟨rfl,hg1⟩
  have HG1:Hid (w.grownBy w1 none):=hg1
  clear hg1
  go_wp2
  refine bodyPost_ret (results_none rfl _ _ _) rfl ?_
  exact ⟨rfl,HDS.out.grow HG1.out,gb_more (gb_refl w (some R)) HG1.out⟩
 | true =>
  obtain ⟨k0,hq,hcr⟩:=HC1.out rfl
  rw [hcr]
  obtain ⟨Q,hQ⟩:∃Q,crun s.data.toList k0=Q:=⟨_,rfl⟩
  have HQ:Hid (crun s.data.toList k0=Q):=hQ
  rw [hQ]
  have HD0:Hid (k0<=s.size/\Dd w R s L O now de k0 0 0):=by
   have:=HDS.out
   rw [hq] at this
   exact this
  clear hq hcr hQ HC1 HC2 HDS
  go_enter Tryz.func30,Tryz.ntmps30
  go_wp2_with (first | (go_at_call 27;refine CI.out.mono ?_))
  first | rintro e w1 rfl hg1 | rintro e w1 ⟨rfl,hg1⟩
  have HG1:Hid (w.grownBy w1 (some R)):=gb_more (gb_refl w (some R)) hg1
  have HD1:Hid (Dd w1 R s L O now de k0 0 0):=HD0.out.2.grow hg1
  clear hg1
  go_wp2
  go_loopw [] (fun wr=>∃q:Rs Nat,Ds wr R s L O now de q/\q.bind (crun s.data.toList)=Q/\w.grownBy wr (some R)) (fun wr=>dM wr R s)
  case atStart=>exact ⟨.ok k0,⟨HD0.out.1,HD1.out⟩,HQ.out,HG1.out⟩
  case round =>
   obtain ⟨q,hds,hbl,hg⟩:=hrel
   have HG:Hid (w.grownBy wr (some R)):=hg
   clear hg
   match q,hds,hbl with
   | .error (c,p),⟨hc,j,hj,hd⟩,hq =>
    have HQE:Hid (Q=.error (c,p)):=hq.symm
    obtain ⟨c0,c1,-,-,-,c5,-,-,-⟩:=hd.cells
    have hn:(c == 0)=false:=by simpa using hc
    have HD:Hid (Dd wr R s L O now de j c p):=hd
    have HC:Hid (c ≠ 0):=hc
    clear hd hq hc
    by_cases hlt:j < s.size
    ·have hlt':decide ((j:Int) < (s.size:Int))=true:=by simp;omega
     obtain ⟨b,hb⟩:∃b,((s[j].toNat:Int) != 10)=b:=⟨_,rfl⟩
     cases b with
     | true =>
      go_wp2
      go_quiet (fail)
      go_wp2
      refine bodyPost_end (results_none rfl _ _ _) rfl ?_
      rw [HQE.out]
      exact ⟨rfl,⟨HC.out,j,hj,HD.out⟩,⟨HG.out.os,HG.out.tape,HG.out.output,HG.out.size,HG.out.block⟩⟩
     | false =>
      go_wp2
      go_quiet (fail)
      go_wp2
      refine bodyPost_end (results_none rfl _ _ _) rfl ?_
      rw [HQE.out]
      exact ⟨rfl,⟨HC.out,j,hj,HD.out⟩,⟨HG.out.os,HG.out.tape,HG.out.output,HG.out.size,HG.out.block⟩⟩
    ·have hge:decide ((j:Int) < (s.size:Int))=false:=by simp;omega
     go_wp2
     go_quiet (fail)
     go_wp2
     refine bodyPost_end (results_none rfl _ _ _) rfl ?_
     rw [HQE.out]
     exact ⟨rfl,⟨HC.out,j,hj,HD.out⟩,⟨HG.out.os,HG.out.tape,HG.out.output,HG.out.size,HG.out.block⟩⟩
   | .ok k,⟨hk,hd⟩,hq =>
    have HQK:Hid (crun s.data.toList k=Q):=hq
    obtain ⟨c0,c1,-,-,-,c5,-,-,df⟩:=hd.cells
    have df1:=df 1
    have HD:Hid (Dd wr R s L O now de k 0 0):=hd
    have HM:Hid (dM wr R s=s.size - k+1):=dM_ok hd
    clear hd hq df
    by_cases hlt:k < s.size
    ·have hlt':decide ((k:Int) < (s.size:Int))=true:=by simp;omega
     have hu:=s[k].toNat_lt
     have HX1:Hid (nx s.data.toList k=(s[k].toNat:Int)):=HX.out k hlt
     have HE1k:Hid (nx s.data.toList k=10->crun s.data.toList k=.ok k):=HE1.out k
     have HE3k:Hid (isBr (s[k].toNat:Int)=true->¬ (s[k].toNat:Int)=10->crun s.data.toList k=.error (2,k)):=HE3.out k hlt
     have HE4k:Hid (isBr (s[k].toNat:Int)=false->¬ (s[k].toNat:Int)=10->crun s.data.toList k=crun s.data.toList (k+1)):=HE4.out k hlt
     have CC:Hid (∀w,Calls Tryz.prog 58 #[.int .u8 (s[k].toNat:Int)] w fun e w'=>e=.returned (.bool (isBr (s[k].toNat:Int)))/\w'=w):=dControl_any s[k]
     obtain ⟨b,hb⟩:∃b,((s[k].toNat:Int) != 10)=b:=⟨_,rfl⟩
     cases b with
     | false =>
      have HQE:Hid (Q=.ok k):=by
       show _=_
       rw [<-HQK.out,HE1k.out (by rw [HX1.out];simpa using hb)]
      go_wp2
      go_quiet (fail)
      go_wp2
      refine bodyPost_end (results_none rfl _ _ _) rfl ?_
      rw [HQE.out]
      exact ⟨rfl,⟨hk,HD.out⟩,⟨HG.out.os,HG.out.tape,HG.out.output,HG.out.size,HG.out.block⟩⟩
     | true =>
      have HN10:Hid (¬ (s[k].toNat:Int)=10):=by
       show ¬ _
       simpa using hb
      obtain ⟨b2,hb2⟩:∃b,isBr (s[k].toNat:Int)=b:=⟨_,rfl⟩
      rw [hb2] at CC HE3k HE4k
      clear hb2
      cases b2 with
      | true =>
       have HQE:Hid (Q=.error (2,k)):=HQK.out.symm.trans (HE3k.out rfl HN10.out)
       have CF:Hid (∀wx,Dd wx R s L O now de k 0 0->Calls Tryz.prog 55 #[.pointer (some ⟨R,0,none⟩),.int .i64 2,.int .i64 (k:Nat)] wx fun en w'=>en=.returned (.tuple #[])/\Dd w' R s L O now de k 2 k/\wx.grownBy w' (some R)):=fun wx hg=>dFail_yes R s L O now de k 2 k wx hg
       go_wp2
       go_quiet (fail)
       have HDA:Hid (Dd (wr.drewN nq) R s L O now de k 0 0):=HD.out
       have HGA:Hid (w.grownBy (wr.drewN nq) (some R)):=gb_drew HG.out nq
       obtain ⟨wA,hwA⟩:∃W,wr.drewN nq=W:=⟨_,rfl⟩
       rw [hwA] at HDA HGA ⊢
       obtain ⟨d0,d1,-,-,-,d5,-,-,dg⟩:=HDA.out.cells
       have dg1:=dg 1
       clear hwA dg
       go_wp2
       go_quiet (first | (go_at_call 58;exact Calls.quiet_of_same (CC.out _)))
       go_wp2_with (first | (go_at_call 58;refine (CC.out _).mono ?_;rintro e w' ⟨rfl,rfl⟩) | (go_at_call 55;refine (CF.out _ ?_).mono ?_;exact HDA.out;rintro e w2 ⟨rfl,hd2,hg2⟩;obtain ⟨-,d1,-,-,-,-,-,-,dff⟩:=hd2.cells;have dff1:=dff 1))
       refine ⟨⟨.error (2,k),⟨by decide,k+1,by omega,hd2.setI (k+1)⟩,HQE.out.symm,gb_set (gb_two (w1:=wA) HGA.out ⟨hg2.os,hg2.tape,hg2.output,hg2.size,hg2.block⟩) 1 _⟩,?_⟩
       rw [HM.out]
       have e1:=dM_no (hd2.setI (k+1)) (by decide)
       have e2:(w2.setCell ⟨R,1,none⟩ (.int .i64 ((k+1:Nat):Int)))=w2.setCell ⟨R,1,none⟩ (.int .i64 ((k:Int)+1)):=rfl
       rw [e2] at e1
       rw [e1]
       omega
      | false =>
       have HQE:Hid (crun s.data.toList (k+1)=Q):=(HE4k.out rfl HN10.out).symm.trans HQK.out
       go_wp2
       go_quiet (fail)
       have HDA:Hid (Dd (wr.drewN nq) R s L O now de k 0 0):=HD.out
       have HGA:Hid (w.grownBy (wr.drewN nq) (some R)):=gb_drew HG.out nq
       obtain ⟨wA,hwA⟩:∃W,wr.drewN nq=W:=⟨_,rfl⟩
       rw [hwA] at HDA HGA ⊢
       obtain ⟨d0,d1,-,-,-,d5,-,-,dg⟩:=HDA.out.cells
       have dg1:=dg 1
       clear hwA dg
       go_wp2
       go_quiet (first | (go_at_call 58;exact Calls.quiet_of_same (CC.out _)))
       go_wp2_with (first | (go_at_call 58;refine (CC.out _).mono ?_;rintro e w' ⟨rfl,rfl⟩))
       have HS:=HDA.out.setI (k+1)
       refine ⟨⟨.ok (k+1),⟨by omega,HS⟩,HQE.out,?_⟩,?_⟩
       ·exact gb_set (gb_drew HGA.out _) 1 _
       ·rw [HM.out]
        refine Nat.lt_of_le_of_lt (Nat.le_of_eq (dM_ok (i:=k+1) HS)) (by omega)
    ·have hge:decide ((k:Int) < (s.size:Int))=false:=by simp;omega
     have HQE:Hid (Q=.ok k):=HQK.out.symm.trans (HE2.out k (by omega))
     go_wp2
     go_quiet (fail)
     go_wp2
     refine bodyPost_end (results_none rfl _ _ _) rfl ?_
     rw [HQE.out]
     exact ⟨rfl,⟨hk,HD.out⟩,⟨HG.out.os,HG.out.tape,HG.out.output,HG.out.size,HG.out.block⟩⟩
set_option maxRecDepth 100000 in
set_option maxHeartbeats 3200000 in
theorem dSpace_any (R:Nat) (s:ByteArray) (L O:Value) (now de:Nat) (q:Rs Nat) (w:World) (h:Ds w R s L O now de q) (hs:s.size<=1048576) :
  Calls Tryz.prog 109 #[.pointer (some ⟨R,0,none⟩)] w fun e w'=>e=.returned (.tuple #[])/\Ds w' R s L O now de (q.bind (gap s.data.toList (s.data.toList.length+1)))/\w.grownBy w' (some R):=by
 have hl:s.data.toList.length=s.size:=by simp
 have CI:Hid (∀q c w,0<=c->Ds w R s L O now de q->Calls Tryz.prog 27 #[.pointer (some ⟨R,0,none⟩),.int .u8 c] w fun e w'=>e=.returned (.bool (isQ s.data.toList q c))/\w.grownBy w' none):=fun q c w h0 h1=>dIs_any R s L O now de q c h0 w h1 hs
 have CC:Hid (∀q w,Ds w R s L O now de q->Calls Tryz.prog 30 #[.pointer (some ⟨R,0,none⟩)] w fun e w'=>e=.returned (.tuple #[])/\Ds w' R s L O now de (q.bind (cmtR s.data.toList))/\w.grownBy w' (some R)):=fun q w h=>dComment_any R s L O now de q w h hs
 have HLT:Hid (∀k,0<=nx s.data.toList k->k < s.size):=fun k hb=>by rw [<-hl];exact nx_lt hb
 have HX:Hid (∀k (hk:k < s.size),nx s.data.toList k=(s[k].toNat:Int)):=byte_at s
 have HE1:Hid (∀f k,isBl (nx s.data.toList k)=true->gap s.data.toList (f+1) k=gap s.data.toList (f+1) (k+1)):=fun f k hb=>(gap_blank _ (f+1) k hb).resolve_right (by omega)
 have HE2:Hid (∀f k,nx s.data.toList k=10->gap s.data.toList (f+1) k=gap s.data.toList f (k+1)):=gap_nl _
 have HE3:Hid (∀f k,nx s.data.toList k=35->gap s.data.toList (f+1) k=(cmtR s.data.toList k).bind (gap s.data.toList (f+1))):=gap_cmt _
 have HE4:Hid (∀f k,isBl (nx s.data.toList k)=false->¬ nx s.data.toList k=10->¬ nx s.data.toList k=35->gap s.data.toList (f+1) k=.ok k):=gap_stop _
 have HE5:Hid (∀k j,nx s.data.toList k=35->cmtR s.data.toList k=.ok j->k < j/\j<=s.size):=fun k j h1 h2=>by rw [<-hl];exact cmtR_lt _ k j h1 h2
 obtain ⟨G,hG⟩:∃G,q.bind (gap s.data.toList (s.data.toList.length+1))=G:=⟨_,rfl⟩
 have HG0:Hid (q.bind (gap s.data.toList (s.data.toList.length+1))=G):=hG
 have H0:Hid (Ds w R s L O now de q):=h
 rw [hG]
 have HF0:Hid (∀k,q=.ok k->s.size - k < s.data.toList.length+1):=fun k _=>by omega
 clear h hG
 go_enter Tryz.func109,Tryz.ntmps109
 go_wp2
 go_loopw [] (fun wr=>∃(q:Rs Nat) (f:Nat),Ds wr R s L O now de q/\(∀k,q=.ok k->s.size - k < f)/\q.bind (gap s.data.toList f)=G/\w.grownBy wr (some R)) (fun wr=>dM wr R s)
 case atStart=>exact ⟨q,_,H0.out,HF0.out,HG0.out,gb_refl _ _⟩
 case round =>
  obtain ⟨q,f,hds,hf,hgp,hg⟩:=hrel
  have HG:Hid (w.grownBy wr (some R)):=hg
  have HDS:Hid (Ds wr R s L O now de q):=hds
  have C1:Hid (∀c w,0<=c->Ds w R s L O now de q->Calls Tryz.prog 27 #[.pointer (some ⟨R,0,none⟩),.int .u8 c] w fun e w'=>e=.returned (.bool (isQ s.data.toList q c))/\w.grownBy w' none):=CI.out q
  obtain ⟨b1,hb1⟩:∃b,isQ s.data.toList q 32=b:=⟨_,rfl⟩
  obtain ⟨b2,hb2⟩:∃b,isQ s.data.toList q 9=b:=⟨_,rfl⟩
  obtain ⟨b3,hb3⟩:∃b,isQ s.data.toList q 10=b:=⟨_,rfl⟩
  obtain ⟨b4,hb4⟩:∃b,isQ s.data.toList q 35=b:=⟨_,rfl⟩
  have C32:Hid (∀w,Ds w R s L O now de q->Calls Tryz.prog 27 #[.pointer (some ⟨R,0,none⟩),.int .u8 32] w fun e w'=>e=.returned (.bool b1)/\w.grownBy w' none):=fun w h=>by rw [<-hb1];exact C1.out 32 w (by decide) h
  have C9:Hid (∀w,Ds w R s L O now de q->Calls Tryz.prog 27 #[.pointer (some ⟨R,0,none⟩),.int .u8 9] w fun e w'=>e=.returned (.bool b2)/\w.grownBy w' none):=fun w h=>by rw [<-hb2];exact C1.out 9 w (by decide) h
  have C10:Hid (∀w,Ds w R s L O now de q->Calls Tryz.prog 27 #[.pointer (some ⟨R,0,none⟩),.int .u8 10] w fun e w'=>e=.returned (.bool b3)/\w.grownBy w' none):=fun w h=>by rw [<-hb3];exact C1.out 10 w (by decide) h
  have C35:Hid (∀w,Ds w R s L O now de q->Calls Tryz.prog 27 #[.pointer (some ⟨R,0,none⟩),.int .u8 35] w fun e w'=>e=.returned (.bool b4)/\w.grownBy w' none):=fun w h=>by rw [<-hb4];exact C1.out 35 w (by decide) h
  clear hds hg C1 CI
  by_cases hor:b1=true\/b2=true\/b3=true\/b4=true
  ·-- it goes on
   obtain ⟨k,hq⟩:∃k,q=.ok k:=by
    match q with
    | .ok k=>exact ⟨k,rfl⟩
    | .error e =>
     exfalso
     unfold isQ at hb1 hb2 hb3 hb4
     subst hb1 hb2 hb3 hb4
     simp at hor
   rw [hq] at hb1 hb2 hb3 hb4 hgp hf
   obtain ⟨x,hx⟩:∃x,nx s.data.toList k=x:=⟨_,rfl⟩
   have e1:decide (x=32)=b1:=by rw [<-hx];exact hb1
   have e2:decide (x=9)=b2:=by rw [<-hx];exact hb2
   have e3:decide (x=10)=b3:=by rw [<-hx];exact hb3
   have e4:decide (x=35)=b4:=by rw [<-hx];exact hb4
   have hfk:=hf k rfl
   obtain ⟨f,rfl⟩:∃f',f=f'+1:=⟨f - 1,by omega⟩
   have hgp':gap s.data.toList (f+1) k=G:=hgp
   have hd:k<=s.size/\Dd wr R s L O now de k 0 0:=by have:=HDS.out;rw [hq] at this;exact this
   have hxo:x=32\/x=9\/x=10\/x=35:=by
    subst e1 e2 e3 e4
    simpa using hor
   have hkl:k < s.size:=HLT.out k (by rw [hx];omega)
   have HXK:Hid (nx s.data.toList k=(s[k].toNat:Int)):=HX.out k hkl
   have HD:Hid (Dd wr R s L O now de k 0 0):=hd.2
   have HM:Hid (dM wr R s=s.size - k+1):=dM_ok hd.2
   clear hb1 hb2 hb3 hb4 hf hor HE4
   by_cases h35:x=35
   ·-- a comment
    have hb:((s[k].toNat:Int) == 35)=true:=by rw [<-HXK.out,hx];simp [h35]
    have HGC:Hid ((cmtR s.data.toList k).bind (gap s.data.toList (f+1))=G):=by
     show _=_
     rw [<-HE3.out f k (by rw [hx,h35]),hgp']
    have HLC:Hid (∀j,cmtR s.data.toList k=.ok j->k < j/\j<=s.size):=fun j=>HE5.out k j (by rw [hx,h35])
    have CCk:Hid (∀w',wr.grownBy w' none->Calls Tryz.prog 30 #[.pointer (some ⟨R,0,none⟩)] w' fun e w''=>e=.returned (.tuple #[])/\Ds w'' R s L O now de (cmtR s.data.toList k)/\w'.grownBy w'' (some R)):=fun w' hg=>CC.out (.ok k) w' ⟨hd.1,hd.2.grow hg⟩
    obtain rfl:b1=false:=by rw [<-e1,h35];rfl
    obtain rfl:b2=false:=by rw [<-e2,h35];rfl
    obtain rfl:b3=false:=by rw [<-e3,h35];rfl
    obtain rfl:b4=true:=by rw [<-e4,h35];rfl
    clear e1 e2 e3 e4 hx hxo h35 hgp hgp' hq hd
    go_wp2_with (first | (go_at_call 27;refine (C32.out _ HDS.out).mono ?_))
    first | rintro e w1 rfl hg1 | rintro e w1 ⟨rfl,hg1⟩
    have HG1:Hid (wr.grownBy w1 none):=hg1
    clear hg1
    go_wp2_with (first | (go_at_call 27;refine (C9.out _ (HDS.out.grow HG1.out)).mono ?_))
    first | rintro e w2 rfl hg2 | rintro e w2 ⟨rfl,hg2⟩
    have HG2:Hid (wr.grownBy w2 none):=gb_trans HG1.out hg2
    clear hg2
    go_wp2_with (first | (go_at_call 27;refine (C10.out _ (HDS.out.grow HG2.out)).mono ?_))
    first | rintro e w3 rfl hg3 | rintro e w3 ⟨rfl,hg3⟩
    have HG3:Hid (wr.grownBy w3 none):=gb_trans HG2.out hg3
    clear hg3
    go_wp2_with (first | (go_at_call 27;refine (C35.out _ (HDS.out.grow HG3.out)).mono ?_))
    first | rintro e w4 rfl hg4 | rintro e w4 ⟨rfl,hg4⟩
    have HG4:Hid (wr.grownBy w4 none):=gb_trans HG3.out hg4
    obtain ⟨c0,c1,-⟩:=(HD.out.grow HG4.out).cells
    clear hg4
    go_wp2
    go_quiet (fail)
    go_wp2_with (first | (go_at_call 30;refine (CCk.out _ ?_).mono ?_;exact gb_drew HG4.out _;rintro e w5 ⟨rfl,hd5,hg5⟩))
    have HG5:Hid (w.grownBy w5 (some R)):=gb_two (gb_more HG.out HG4.out) ⟨hg5.os,hg5.tape,hg5.output,hg5.size,hg5.block⟩
    have HD5:Hid (Ds w5 R s L O now de (cmtR s.data.toList k)):=hd5
    obtain ⟨u,hu⟩:∃u,cmtR s.data.toList k=u:=⟨_,rfl⟩
    rw [hu] at HD5 HLC HGC
    clear hd5 hg5 hu
    go_wp2
    match u,HD5.out,HLC.out,HGC.out with
    | .error (c,p),hh,_,hgc =>
     obtain ⟨hc,j,hj,hd⟩:=hh
     refine ⟨⟨.error (c,p),f+1,⟨hc,j,hj,hd⟩,fun _ hh=>(by cases hh),hgc,HG5.out⟩,?_⟩
     rw [HM.out,dM_no hd hc]
     omega
    | .ok j,hh,hlc,hgc =>
     have:=hlc j rfl
     refine ⟨⟨.ok j,f+1,hh,fun _ hh=>(by cases hh;omega),hgc,HG5.out⟩,?_⟩
     rw [HM.out,dM_ok hh.2]
     omega
   ·have hb:((s[k].toNat:Int) == 35)=false:=by rw [<-HXK.out,hx];simpa using h35
    have HGN:Hid (∃f',s.size - (k+1) < f'/\gap s.data.toList f' (k+1)=G):=by
     by_cases h10:x=10
     ·exact ⟨f,by omega,by rw [<-HE2.out f k (by rw [hx,h10])];exact hgp'⟩
     ·refine ⟨f+1,by omega,?_⟩
      rw [<-HE1.out f k (by rw [hx];unfold isBl;simp;omega)];exact hgp'
    have fin:∀wx:World,wr.grownBy wx none->(∃(q:Rs Nat) (f:Nat),Ds (wx.setCell ⟨R,1,none⟩ (.int .i64 ((k:Int)+1))) R s L O now de q/\(∀k,q=.ok k->s.size - k < f)/\q.bind (gap s.data.toList f)=G/\w.grownBy (wx.setCell ⟨R,1,none⟩ (.int .i64 ((k:Int)+1))) (some R))/\dM (wx.setCell ⟨R,1,none⟩ (.int .i64 ((k:Int)+1))) R s < dM wr R s:=fun wx hg=>by
     obtain ⟨f',hf',hgg⟩:=HGN.out
     have hdd:=(HD.out.grow hg).setI (k+1)
     refine ⟨⟨.ok (k+1),f',⟨by omega,hdd⟩,fun _ hh=>(by cases hh;omega),hgg,gb_set (gb_more HG.out hg) 1 _⟩,?_⟩
     have e1:=dM_ok hdd
     have e2:(wx.setCell ⟨R,1,none⟩ (.int .i64 ((k+1:Nat):Int)))=wx.setCell ⟨R,1,none⟩ (.int .i64 ((k:Int)+1)):=rfl
     rw [e2] at e1
     rw [e1,HM.out]
     omega
    have HFIN:Hid (∀wx:World,wr.grownBy wx none->(∃(q:Rs Nat) (f:Nat),Ds (wx.setCell ⟨R,1,none⟩ (.int .i64 ((k:Int)+1))) R s L O now de q/\(∀k,q=.ok k->s.size - k < f)/\q.bind (gap s.data.toList f)=G/\w.grownBy (wx.setCell ⟨R,1,none⟩ (.int .i64 ((k:Int)+1))) (some R))/\dM (wx.setCell ⟨R,1,none⟩ (.int .i64 ((k:Int)+1))) R s < dM wr R s):=fin
    clear fin
    have HBS:Hid (b1=true\/(b1=false/\b2=true)\/(b1=false/\b2=false/\b3=true)):=by
     show _\/_
     subst e1 e2 e3
     rcases hxo with h | h | h | h
     ·left;simp [h]
     ·right;left;simp [h]
     ·right;right;simp [h]
     ·exact (h35 h).elim
    clear e1 e2 e3 e4 hx hxo h35 hgp hgp' hq hd
    go_wp2_with (first | (go_at_call 27;refine (C32.out _ HDS.out).mono ?_))
    first | rintro e w1 rfl hg1 | rintro e w1 ⟨rfl,hg1⟩
    have HG1:Hid (wr.grownBy w1 none):=hg1
    clear hg1
    rcases HBS.out with rfl | ⟨rfl,rfl⟩ | ⟨rfl,rfl,rfl⟩
    ·obtain ⟨c0,c1,-,-,-,-,-,-,df⟩:=(HD.out.grow HG1.out).cells
     have df1:=df 1
     clear df
     go_wp2
     go_quiet (fail)
     go_wp2
     exact HFIN.out _ (gb_trans HG1.out ⟨rfl,rfl,rfl,Nat.le_refl _,fun _ _ _=>rfl⟩)
    ·go_wp2_with (first | (go_at_call 27;refine (C9.out _ (HDS.out.grow HG1.out)).mono ?_))
     first | rintro e w2 rfl hg2 | rintro e w2 ⟨rfl,hg2⟩
     have HG2:Hid (wr.grownBy w2 none):=gb_trans HG1.out hg2
     obtain ⟨c0,c1,-,-,-,-,-,-,df⟩:=(HD.out.grow HG2.out).cells
     have df1:=df 1
     clear df hg2
     go_wp2
     go_quiet (fail)
     go_wp2
     exact HFIN.out _ (gb_trans HG2.out ⟨rfl,rfl,rfl,Nat.le_refl _,fun _ _ _=>rfl⟩)
    ·go_wp2_with (first | (go_at_call 27;refine (C9.out _ (HDS.out.grow HG1.out)).mono ?_))
     first | rintro e w2 rfl hg2 | rintro e w2 ⟨rfl,hg2⟩
     have HG2:Hid (wr.grownBy w2 none):=gb_trans HG1.out hg2
     clear hg2
     go_wp2_with (first | (go_at_call 27;refine (C10.out _ (HDS.out.grow HG2.out)).mono ?_))
     first | rintro e w3 rfl hg3 | rintro e w3 ⟨rfl,hg3⟩
     have HG3:Hid (wr.grownBy w3 none):=gb_trans HG2.out hg3
     obtain ⟨c0,c1,-,-,-,-,-,-,df⟩:=(HD.out.grow HG3.out).cells
     have df1:=df 1
     clear df hg3
     go_wp2
     go_quiet (fail)
     go_wp2
     exact HFIN.out _ (gb_trans HG3.out ⟨rfl,rfl,rfl,Nat.le_refl _,fun _ _ _=>rfl⟩)
  ·-- nothing of the kind
   have HQG:Hid (q=G):=by
    show q=G
    rw [<-hgp]
    match q with
    | .error e=>rfl
    | .ok k =>
     have hfk:=hf k rfl
     obtain ⟨f,rfl⟩:∃f',f=f'+1:=⟨f - 1,by omega⟩
     unfold isQ at hb1 hb2 hb3 hb4
     subst hb1 hb2 hb3 hb4
     simp only [decide_eq_true_eq,not_or] at hor
     refine (HE4.out f k ?_ hor.2.2.1 hor.2.2.2).symm
     unfold isBl;simp [hor.1,hor.2.1]
   obtain rfl:b1=false:=by cases b1 <;> simp at hor ⊢
   obtain rfl:b2=false:=by cases b2 <;> simp at hor ⊢
   obtain rfl:b3=false:=by cases b3 <;> simp at hor ⊢
   obtain rfl:b4=false:=by cases b4 <;> simp at hor ⊢
   clear hb1 hb2 hb3 hb4 hf hor hgp
   go_wp2_with (first | (go_at_call 27;refine (C32.out _ HDS.out).mono ?_))
   first | rintro e w1 rfl hg1 | rintro e w1 ⟨rfl,hg1⟩
   have HG1:Hid (wr.grownBy w1 none):=hg1
   clear hg1
   go_wp2_with (first | (go_at_call 27;refine (C9.out _ (HDS.out.grow HG1.out)).mono ?_))
   first | rintro e w2 rfl hg2 | rintro e w2 ⟨rfl,hg2⟩
   have HG2:Hid (wr.grownBy w2 none):=gb_trans HG1.out hg2
   clear hg2
   go_wp2_with (first | (go_at_call 27;refine (C10.out _ (HDS.out.grow HG2.out)).mono ?_))
   first | rintro e w3 rfl hg3 | rintro e w3 ⟨rfl,hg3⟩
   have HG3:Hid (wr.grownBy w3 none):=gb_trans HG2.out hg3
   clear hg3
   go_wp2_with (first | (go_at_call 27;refine (C35.out _ (HDS.out.grow HG3.out)).mono ?_))
   first | rintro e w4 rfl hg4 | rintro e w4 ⟨rfl,hg4⟩
   have HG4:Hid (wr.grownBy w4 none):=gb_trans HG3.out hg4
   clear hg4
   go_wp2
   refine bodyPost_end (results_none rfl _ _ _) rfl ⟨rfl,?_,gb_more HG.out HG4.out⟩
   rw [<-HQG.out];exact HDS.out.grow HG4.out
end Go.Proofs.YtbgnflcebafjjaaGreatDoor
