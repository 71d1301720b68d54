import Derived.Test.YtbgnflcebafjjaaGreatDoorA19
import Derived.Test.YtbgnflcebafjjaaGreatDoorA03
import Derived.Test.YtbgnflcebafjjaaGreatDoorA12
namespace Go.Proofs.YtbgnflcebafjjaaGreatDoor
open Go.RowKit Go.Joins
set_option linter.unusedVariables false
set_option maxRecDepth 100000 in
set_option maxHeartbeats 6400000 in
theorem dQuoted_any (R:Nat) (s:ByteArray) (L O:Value) (now de i:Nat) (w:World) (h:Dd w R s L O now de i 0 0) (hi:i < s.size) (hq:nx s.data.toList i=34) (hs:s.size<=1048576) :
  Calls Tryz.prog 82 #[.pointer (some ⟨R,0,none⟩)] w (TxPost (4 * s.size+4) R s L O now de (str s.data.toList (s.data.toList.length+1) (i+1) []) w):=by
 have hl:s.data.toList.length=s.size:=by simp
 have CM:Hid (∀q w,Ds w R s L O now de q->Calls Tryz.prog 31 #[.pointer (some ⟨R,0,none⟩),.int .u8 34] w fun e w'=>e=.returned (.tuple #[])/\Ds w' R s L O now de (q.bind fun i=>must s.data.toList i 34)/\w.grownBy w' (some R)):=fun q w h=>dMust_any R s L O now de q 34 (by decide) w h hs
 have CI:Hid (∀q w,Ds w R s L O now de q->Calls Tryz.prog 27 #[.pointer (some ⟨R,0,none⟩),.int .u8 34] w fun e w'=>e=.returned (.bool (isQ s.data.toList q 34))/\w.grownBy w' none):=fun q w h=>dIs_any R s L O now de q 34 (by decide) w h hs
 have CE:Hid (∀k w,Dd w R s L O now de k 0 0->k < s.size->Calls Tryz.prog 107 #[.pointer (some ⟨R,0,none⟩)] w (TxPost 3 R s L O now de (esc s.data.toList k) w)):=fun k w h hk=>dEsc_any R s L O now de k w h hk hs
 have CSq:Hid (∀k w,k < s.size->Calls Tryz.prog 108 #[.string s,.int .i64 (k:Nat)] w fun e w'=>e=.returned (.int .i64 (seqN s.data.toList k:Nat))/\w'=w):=fun k w hk=>dSeq_any s k hk w hs
 have HST:Hid (∀f i acc,str s.data.toList (f+1) i acc =
  if nx s.data.toList i=34 then .ok (acc,i+1)
  else if nx s.data.toList i=92 then (match esc s.data.toList i with | .error e=>.error e | .ok (b,j)=>str s.data.toList f j (acc++b))
  else if nx s.data.toList i=-1\/isBr (nx s.data.toList i)=true then .error (2,i)
  else if seqN s.data.toList i=0 then .error (2,i)
  else str s.data.toList f (i+seqN s.data.toList i) (acc++subT s.data.toList i (seqN s.data.toList i))):=str_step _
 have HLT:Hid (∀k,0<=nx s.data.toList k->k < s.size):=fun k hb=>by rw [<-hl];exact nx_lt hb
 have HEO:Hid (∀k b j,k < s.size->esc s.data.toList k=.ok (b,j)->b.length<=3/\k+2<=j/\j<=s.size):=fun k b j hk he=>by
  rw [esc_escN] at he
  cases hN:escN s.data.toList k with
  | error e=>rw [hN] at he;cases he
  | ok q =>
   obtain ⟨n,j'⟩:=q
   rw [hN] at he
   have:=escN_ok _ k n j' (by omega) hN
   have e1:(Except.ok (wrt n,j'):Rs (List UInt8 × Nat))=.ok (b,j):=he
   injection e1 with e1
   injection e1 with e1 e2
   have:=wrt_len n
   subst e1 e2
   omega
 have HSO:Hid (∀k,k<=s.size->k+seqN s.data.toList k<=s.size):=fun k hk=>by rw [<-hl];exact seqN_ok _ k (by omega)
 have HSL:Hid (∀k,(subT s.data.toList k (seqN s.data.toList k)).length<=3 * seqN s.data.toList k):=fun k=>by
  have:(subT s.data.toList k (seqN s.data.toList k)).length<=seqN s.data.toList k:=by unfold subT;rw [List.length_take];omega
  show _<=_
  omega
 have HX:Hid (∀k (hk:k < s.size),nx s.data.toList k=(s[k].toNat:Int)):=byte_at s
 have HXE:Hid (∀k,nx s.data.toList k=-1->s.size<=k):=fun k hk=>by rw [<-hl];exact nx_end' hk
 obtain ⟨G,hG⟩:∃G,str s.data.toList (s.data.toList.length+1) (i+1) []=G:=⟨_,rfl⟩
 have HG0:Hid (str s.data.toList (s.data.toList.length+1) (i+1) []=G):=hG
 have HM0:Hid ((Except.bind (.ok i) fun i=>must s.data.toList i 34:Rs Nat)=.ok (i+1)):=by
  show must s.data.toList i 34=_
  unfold must;rw [if_pos hq]
 rw [hG]
 have H0:Hid (Ds w R s L O now de (.ok i)):=⟨by omega,h⟩
 clear h hG hq
 go_enter Tryz.func82,Tryz.ntmps82
 go_wp2_with (first | (go_at_call 31;refine (CM.out _ _ H0.out).mono ?_;rintro e w1 ⟨rfl,hd1,hg1⟩))
 rw [HM0.out] at hd1
 have HD1:Hid (Ds w1 R s L O now de (.ok (i+1))):=hd1
 have HG1:Hid (w.grownBy w1 (some R)):=hg1
 clear hd1 hg1 H0 HM0
 go_loopw [3] (fun vo wr=>∃(q:Rs Nat) (f:Nat) (acc:List UInt8),vo=.string ⟨acc.toArray⟩/\Ds wr R s L O now de q/\(∀k,q=.ok k->s.size - k < f/\str s.data.toList f k acc=G/\acc.length<=3 * k)/\(∀c p,q=.error (c,p)->G=.error (c,p)/\acc.length<=3 * s.size+3)/\w.grownBy wr (some R)) (fun _ wr=>dM wr R s)
 case atStart=>exact ⟨.ok (i+1),s.data.toList.length+1,[],rfl,HD1.out,fun k hk=>(by cases hk;exact ⟨by omega,HG0.out,by simp⟩),fun c p hk=>(by cases hk),HG1.out⟩
 case round =>
  obtain ⟨q,f,acc,rfl,hds,hok,her,hg⟩:=hrel
  have HG:Hid (w.grownBy _ (some R)):=hg
  clear hg
  match q,hds,hok,her with
  | .error (c,p),hds,_,her =>
   obtain ⟨hGE,hacc⟩:=her c p rfl
   have HGE:Hid (G=.error (c,p)):=hGE
   obtain ⟨hc,j,hj,hd⟩:=hds
   obtain ⟨-,-,-,-,-,c5,-⟩:=hd.cells
   have hn:(c == 0)=false:=by simpa using hc
   have HDS:Hid (Ds _ R s L O now de (.error (c,p))):=⟨hc,j,hj,hd⟩
   have HAC:Hid (acc.length<=3 * s.size+3):=hacc
   clear hd her hGE hc hj hacc
   go_wp2_with (first | (go_at_call 31;refine (CM.out _ _ HDS.out).mono ?_;rintro e w2 ⟨rfl,hd2,hg2⟩))
   refine bodyPost_ret (results_tmp (t:=2) rfl _ _ _) rfl ?_
   rw [HGE.out]
   exact ⟨fun t k hh=>(by cases hh),fun c p hh=>(by cases hh;exact ⟨⟨acc,by have:=HAC.out;omega,rfl⟩,hd2⟩),gb_two HG.out hg2⟩
  | .ok k,hds,hok,_ =>
   obtain ⟨hf,hstr,hacc⟩:=hok k rfl
   obtain ⟨hk,hd⟩:=hds
   obtain ⟨f,rfl⟩:∃f',f=f'+1:=⟨f - 1,by omega⟩
   rw [HST.out] at hstr
   obtain ⟨c0,c1,-,-,-,c5,-,-,df⟩:=hd.cells
   have df1:=df 1
   have HD:Hid (Dd _ R s L O now de k 0 0):=hd
   have HDS:Hid (Ds _ R s L O now de (.ok k)):=⟨hk,hd⟩
   have HM:Hid (dM _ R s=s.size - k+1):=dM_ok hd
   have CI1:Hid (∀w,Ds w R s L O now de (.ok k)->Calls Tryz.prog 27 #[.pointer (some ⟨R,0,none⟩),.int .u8 34] w fun e w'=>e=.returned (.bool (decide (nx s.data.toList k=34)))/\w.grownBy w' none):=fun w h=>CI.out (.ok k) w h
   have CF:Hid (∀wx,Dd wx R s L O now de k 0 0->Calls Tryz.prog 55 #[.pointer (some ⟨R,0,none⟩),.int .i64 2,.int .i64 (k:Nat)] wx fun en w'=>en=.returned (.tuple #[])/\Dd w' R s L O now de k 2 k/\wx.grownBy w' (some R)):=fun wx hg=>dFail_yes R s L O now de k 2 k wx hg
   have HKL:Hid (0<=nx s.data.toList k->k < s.size):=HLT.out k
   have HXE1:Hid (nx s.data.toList k=-1->s.size<=k):=HXE.out k
   have HXB:Hid (-1<=nx s.data.toList k):=(nx_bound s.data.toList k).1
   have HXK:Hid (∀(hk:k < s.size),nx s.data.toList k=(s[k].toNat:Int)):=HX.out k
   have HMU:Hid (nx s.data.toList k=34->(Except.bind (.ok k) fun i=>must s.data.toList i 34:Rs Nat)=.ok (k+1)):=fun h=>by
    show must s.data.toList k 34=_
    unfold must;rw [if_pos h]
   obtain ⟨x,hx⟩:∃x,nx s.data.toList k=x:=⟨_,rfl⟩
   rw [hx] at CI1 HKL HXE1 HXB HXK HMU hstr
   have HSX:Hid ((if x=34 then .ok (acc,k+1)
    else if x=92 then (match esc s.data.toList k with | .error e=>.error e | .ok (b,j)=>str s.data.toList f j (acc++b))
    else if x=-1\/isBr x=true then .error (2,k)
    else if seqN s.data.toList k=0 then .error (2,k)
    else str s.data.toList f (k+seqN s.data.toList k) (acc++subT s.data.toList k (seqN s.data.toList k)))=G):=hstr
   clear hd hx hstr hok df
   by_cases h34:x=34
   ·rw [decide_eq_true h34] at CI1
    have HGG:Hid (G=.ok (acc,k+1)):=by
     have:=HSX.out
     rw [if_pos h34] at this
     exact this.symm
    have HM1:=HMU.out h34
    have HM2:Hid ((Except.bind (.ok k) fun i=>must s.data.toList i 34:Rs Nat)=.ok (k+1)):=HM1
    clear h34 HM1
    go_wp2_with (first | (go_at_call 27;refine (CI1.out _ HDS.out).mono ?_;rintro e w2 ⟨rfl,hg2⟩) | (go_at_call 31;refine (CM.out _ _ (HDS.out.grow hg2)).mono ?_;rintro e w3 ⟨rfl,hd3,hg3⟩))
    refine bodyPost_ret (results_tmp (t:=2) rfl _ _ _) rfl ?_
    rw [HGG.out]
    rw [HM2.out] at hd3
    exact ⟨fun t k hh=>(by cases hh;exact ⟨rfl,hd3⟩),fun c p hh=>(by cases hh),gb_two (gb_more HG.out hg2) hg3⟩
   ·rw [decide_eq_false h34] at CI1
    go_wp2_with (first | (go_at_call 27;refine (CI1.out _ HDS.out).mono ?_;rintro e w2 ⟨rfl,hg2⟩))
    have HD2:Hid (Dd w2 R s L O now de k 0 0):=HD.out.grow hg2
    have HG2:Hid (w.grownBy w2 (some R)):=gb_more HG.out hg2
    obtain ⟨e0,e1,-,-,-,e5,-,-,ef⟩:=HD2.out.cells
    have ef1:=ef 1
    clear hg2 ef c0 c1 c5 df1
    by_cases hm1:x=-1
    ·have hge:=HXE1.out hm1
     have hgd:decide ((s.size:Int)<=(k:Int))=true:=by simp;omega
     have HGG:Hid (G=.error (2,k)):=by
      have:=HSX.out
      rw [if_neg h34,if_neg (by omega),if_pos (Or.inl hm1)] at this
      exact this.symm
     clear h34 hm1
     go_quiet (fail)
     go_wp2_with (first | (go_at_call 55;refine (CF.out _ ?_).mono ?_;exact HD2.out;rintro e w3 ⟨rfl,hd3,hg3⟩))
     refine bodyPost_ret (results_tmp (t:=2) rfl _ _ _) rfl ?_
     rw [HGG.out]
     exact ⟨fun t k hh=>(by cases hh),fun c p hh=>(by cases hh;exact ⟨⟨[],by simp,rfl⟩,by decide,k,hk,hd3⟩),gb_two (w1:=w2) HG2.out ⟨hg3.os,hg3.tape,hg3.output,hg3.size,hg3.block⟩⟩
    ·have hkl:k < s.size:=HKL.out (by have:=HXB.out;omega)
     have hgd:decide ((s.size:Int)<=(k:Int))=false:=by simp;omega
     have hgp:¬ (s.size:Int)<=(k:Int):=by omega
     have HXX:Hid (x=(s[k].toNat:Int)):=HXK.out hkl
     have CC:Hid (∀w,Calls Tryz.prog 58 #[.int .u8 (s[k].toNat:Int)] w fun e w'=>e=.returned (.bool (isBr x))/\w'=w):=fun w=>by rw [HXX.out];exact dControl_any s[k] w
     obtain ⟨bb,hbb⟩:∃b,isBr x=b:=⟨_,rfl⟩
     have HBB:Hid (isBr x=bb):=hbb
     rw [hbb] at CC
     clear hbb
     cases bb with
     | true =>
      have HGG:Hid (G=.error (2,k)):=by
       have:=HSX.out
       rw [if_neg h34,if_neg (fun e=>by have:=HBB.out;rw [e] at this;cases this),if_pos (Or.inr HBB.out)] at this
       exact this.symm
      clear h34 hm1
      go_quiet (first | (go_at_call 58;exact Calls.quiet_of_same (CC.out _)))
      go_wp2_with (first | (go_at_call 55;refine (CF.out _ ?_).mono ?_;exact HD2.out;rintro e w3 ⟨rfl,hd3,hg3⟩))
      refine bodyPost_ret (results_tmp (t:=2) rfl _ _ _) rfl ?_
      rw [HGG.out]
      exact ⟨fun t k hh=>(by cases hh),fun c p hh=>(by cases hh;exact ⟨⟨[],by simp,rfl⟩,by decide,k,hk,hd3⟩),gb_two (w1:=w2) HG2.out ⟨hg3.os,hg3.tape,hg3.output,hg3.size,hg3.block⟩⟩
     | false =>
      go_quiet (first | (go_at_call 58;exact Calls.quiet_of_same (CC.out _)))
      have HD3:Hid (Dd (w2.drewN nq) R s L O now de k 0 0):=HD2.out
      have HG3:Hid (w.grownBy (w2.drewN nq) (some R)):=gb_drew HG2.out nq
      obtain ⟨w3,hw3⟩:∃W,w2.drewN nq=W:=⟨_,rfl⟩
      rw [hw3] at HD3 HG3 ⊢
      obtain ⟨f0,f1,-,-,-,f5,-,-,ff⟩:=HD3.out.cells
      have ff1:=ff 1
      clear hw3 ff e0 e1 e5 ef1
      by_cases h92:x=92
      ·have hb92:((s[k].toNat:Int) == 92)=true:=by rw [<-HXX.out,h92];rfl
       have HSE:Hid ((match esc s.data.toList k with | .error e=>.error e | .ok (b,j)=>str s.data.toList f j (acc++b))=G):=by
        have:=HSX.out
        rw [if_neg h34,if_pos h92] at this
        exact this
       have CE1:Hid (∀w,Dd w R s L O now de k 0 0->Calls Tryz.prog 107 #[.pointer (some ⟨R,0,none⟩)] w (TxPost 3 R s L O now de (esc s.data.toList k) w)):=fun w h=>CE.out k w h hkl
       have HE1:Hid (∀b j,esc s.data.toList k=.ok (b,j)->b.length<=3/\k+2<=j/\j<=s.size):=fun b j h=>HEO.out k b j hkl h
       obtain ⟨q,hq⟩:∃q,esc s.data.toList k=q:=⟨_,rfl⟩
       rw [hq] at HSE CE1 HE1
       clear h34 h92 hm1 hq
       go_wp2
       go_quiet (fail)
       go_wp2_with (first | (go_at_call 107;refine (CE1.out _ ?_).mono ?_;exact HD3.out))
       rintro e w4 ⟨h1,h2,hg4⟩
       have HG4:Hid (w.grownBy w4 (some R)):=gb_two (w1:=w3) HG3.out ⟨hg4.os,hg4.tape,hg4.output,hg4.size,hg4.block⟩
       clear hg4
       match q,h1,h2,HSE,HE1 with
       | .error (c,p),_,h2,HSE,_ =>
        obtain ⟨⟨t,ht,rfl⟩,hd4⟩:=h2 c p rfl
        have HD4:Hid (Ds w4 R s L O now de (.error (c,p))):=hd4
        have HGG:Hid (G=.error (c,p)):=HSE.out.symm
        have ka:∀wx,(Op.stringOp .add ⟨acc.toArray⟩ ⟨t.toArray⟩).run Tryz.prog wx=.ok (.string ⟨(acc++t).toArray⟩) wx:=fun wx=>add_str acc t wx (by omega)
        have HT:Hid ((acc++t).length<=3 * s.size+3):=by
         show _<=_
         rw [List.length_append]
         omega
        clear h2 hd4
        go_wp2
        refine ⟨⟨.error (c,p),f,acc++t,rfl,HD4.out,fun k hk=>(by cases hk),fun c p hk=>(by cases hk;exact ⟨HGG.out,HT.out⟩),HG4.out⟩,?_⟩
        obtain ⟨hc,j,hj,hd⟩:=HD4.out
        rw [HM.out,dM_no hd hc]
        omega
       | .ok (b,j),h1,_,HSE,HE1 =>
        obtain ⟨rfl,hd4⟩:=h1 b j rfl
        obtain ⟨hb3,hj1,hj2⟩:=HE1.out b j rfl
        have HD4:Hid (Ds w4 R s L O now de (.ok j)):=hd4
        have HGG:Hid (str s.data.toList f j (acc++b)=G):=HSE.out
        have ka:∀wx,(Op.stringOp .add ⟨acc.toArray⟩ ⟨b.toArray⟩).run Tryz.prog wx=.ok (.string ⟨(acc++b).toArray⟩) wx:=fun wx=>add_str acc b wx (by omega)
        have HT:Hid ((acc++b).length<=3 * j):=by
         show _<=_
         rw [List.length_append]
         omega
        clear h1 hd4
        go_wp2
        refine ⟨⟨.ok j,f,acc++b,rfl,HD4.out,fun k hk=>(by cases hk;exact ⟨by omega,HGG.out,HT.out⟩),fun c p hk=>(by cases hk),HG4.out⟩,?_⟩
        rw [HM.out,dM_ok HD4.out.2]
        omega
      ·have hb92:((s[k].toNat:Int) == 92)=false:=by rw [<-HXX.out];simpa using h92
       have HSY:Hid ((if seqN s.data.toList k=0 then .error (2,k) else str s.data.toList f (k+seqN s.data.toList k) (acc++subT s.data.toList k (seqN s.data.toList k)))=G):=by
        have:=HSX.out
        rw [if_neg h34,if_neg h92,if_neg (by rintro (h | h);exact hm1 h;rw [HBB.out] at h;cases h)] at this
        exact this
       have CSk:Hid (∀w,Calls Tryz.prog 108 #[.string s,.int .i64 (k:Nat)] w fun e w'=>e=.returned (.int .i64 (seqN s.data.toList k:Nat))/\w'=w):=fun w=>CSq.out k w hkl
       have hso:=HSO.out k hk
       have HSLk:Hid ((subT s.data.toList k (seqN s.data.toList k)).length<=3 * seqN s.data.toList k):=HSL.out k
       obtain ⟨n,hn⟩:∃n,seqN s.data.toList k=n:=⟨_,rfl⟩
       rw [hn] at HSY CSk hso HSLk
       clear h34 h92 hm1 hn
       go_wp2
       go_quiet (fail)
       have HD4:Hid (Dd (w3.drewN nq) R s L O now de k 0 0):=HD3.out
       have HG4:Hid (w.grownBy (w3.drewN nq) (some R)):=gb_drew HG3.out nq
       obtain ⟨w4,hw4⟩:∃W,w3.drewN nq=W:=⟨_,rfl⟩
       rw [hw4] at HD4 HG4 ⊢
       obtain ⟨g0,g1,-,-,-,g5,-,-,gg⟩:=HD4.out.cells
       have gg1:=gg 1
       clear hw4 gg f0 f1 f5 ff1
       go_wp2
       go_quiet (first | (go_at_call 108;exact Calls.quiet_of_same (CSk.out _)))
       have HD5:Hid (Dd (w4.drewN nq) R s L O now de k 0 0):=HD4.out
       have HG5:Hid (w.grownBy (w4.drewN nq) (some R)):=gb_drew HG4.out nq
       obtain ⟨w5,hw5⟩:∃W,w4.drewN nq=W:=⟨_,rfl⟩
       rw [hw5] at HD5 HG5 ⊢
       obtain ⟨k0,k1,-,-,-,k5,-,-,kf⟩:=HD5.out.cells
       have kf1:=kf 1
       clear hw5 kf g0 g1 g5 gg1
       by_cases hn0:n=0
       ·have hz:((n:Int) == 0)=true:=by simp [hn0]
        have HGG:Hid (G=.error (2,k)):=by
         have:=HSY.out
         rw [if_pos hn0] at this
         exact this.symm
        clear hn0
        go_wp2_with (first | (go_at_call 55;refine (CF.out _ HD5.out).mono ?_;rintro e w6 ⟨rfl,hd6,hg6⟩))
        refine bodyPost_ret (results_tmp (t:=2) rfl _ _ _) rfl ?_
        rw [HGG.out]
        exact ⟨fun t k hh=>(by cases hh),fun c p hh=>(by cases hh;exact ⟨⟨[],by simp,rfl⟩,by decide,k,hk,hd6⟩),gb_two HG5.out hg6⟩
       ·have hz:((n:Int) == 0)=false:=by rw [beq_eq_false_iff_ne];omega
        have HGG:Hid (str s.data.toList f (k+n) (acc++subT s.data.toList k n)=G):=by
         have:=HSY.out
         rw [if_neg hn0] at this
         exact this
        obtain ⟨X,hX⟩:∃X:List UInt8,subT s.data.toList k n=X:=⟨_,rfl⟩
        have hwr:IntKind.i64.wrap ((k:Int)+(n:Int))=(k:Int)+(n:Int):=by rw [IntKind.wrap_i64];omega
        have sl:∀wx,(Instr.slice 9 (.string s) (some (.int .i64 (k:Int))) (some (.int .i64 ((k:Int)+(n:Int)))) none).run Tryz.prog wx=.ok (.string ⟨X.toArray⟩) wx:=fun wx=>by
         rw [<-hX]
         have:=run_sub s k (k+n) (by omega) hso wx
         rw [show k+n - k=n by omega,show ((k+n:Nat):Int)=(k:Int)+(n:Int) by omega] at this
         exact this
        rw [hX] at HGG HSLk
        have ka:∀wx,(Op.stringOp .add ⟨acc.toArray⟩ ⟨X.toArray⟩).run Tryz.prog wx=.ok (.string ⟨(acc++X).toArray⟩) wx:=fun wx=>add_str acc X wx (by have:=HSLk.out;omega)
        have HT:Hid ((acc++X).length<=3 * (k+n)):=by
         show _<=_
         rw [List.length_append]
         have:=HSLk.out
         omega
        clear hX
        go_wp2
        go_quiet (fail)
        have HD6:Hid (Dd (w5.drewN nq) R s L O now de k 0 0):=HD5.out
        have HG6:Hid (w.grownBy (w5.drewN nq) (some R)):=gb_drew HG5.out nq
        obtain ⟨w6,hw6⟩:∃W,w5.drewN nq=W:=⟨_,rfl⟩
        rw [hw6] at HD6 HG6 ⊢
        obtain ⟨m0,m1,-,-,-,m5,-,-,mf⟩:=HD6.out.cells
        have mf1:=mf 1
        clear hw6 mf k0 k1 k5 kf1
        have HD7:Hid (Dd (w6.setCell ⟨R,1,none⟩ (.int .i64 ((k:Int)+(n:Int)))) R s L O now de (k+n) 0 0):=HD6.out.setI (k+n)
        go_wp2
        refine ⟨⟨.ok (k+n),f,acc++X,rfl,⟨hso,HD7.out⟩,fun k hk=>(by cases hk;exact ⟨by omega,HGG.out,HT.out⟩),fun c p hk=>(by cases hk),gb_set HG6.out 1 _⟩,?_⟩
        rw [HM.out,dM_ok HD7.out]
        omega
def DkPost (i M R:Nat) (s:ByteArray) (L O:Value) (now de:Nat) (g:Rs (List UInt8 × Nat)) (w:World) (e:Ending) (w':World):Prop:=(∀t j,g=.ok (t,j)->e=.returned (.tuple #[.string ⟨t.toArray⟩,.int .i64 (i:Nat)])/\Ds w' R s L O now de (.ok j))/\(∀c p,g=.error (c,p)->(∃t:List UInt8,t.length<=M/\e=.returned (.tuple #[.string ⟨t.toArray⟩,.int .i64 (i:Nat)]))/\Ds w' R s L O now de (.error (c,p)))/\w.grownBy w' (some R)
theorem rdKey_q (l:List UInt8) (i:Nat) (h:nx l i=34):rdKey l i=str l (l.length+1) (i+1) []:=by unfold rdKey;rw [if_pos h]
theorem rdKey_b (l:List UInt8) (i:Nat) (h:¬ nx l i=34):rdKey l i=if toR isBa l i=i then .error (2,i) else .ok (subT l i (toR isBa l i - i),toR isBa l i):=by unfold rdKey;rw [if_neg h]
set_option maxRecDepth 100000 in
set_option maxHeartbeats 3200000 in
theorem dKey_any (R:Nat) (s:ByteArray) (L O:Value) (now de i:Nat) (w:World) (h:Dd w R s L O now de i 0 0) (hi:i<=s.size) (hs:s.size<=1048576) :
  Calls Tryz.prog 52 #[.pointer (some ⟨R,0,none⟩)] w (DkPost i (4 * s.size+4) R s L O now de (rdKey s.data.toList i) w):=by
 have hl:s.data.toList.length=s.size:=by simp
 have CI:Hid (Calls Tryz.prog 27 #[.pointer (some ⟨R,0,none⟩),.int .u8 34] w fun e w'=>e=.returned (.bool (decide (nx s.data.toList i=34)))/\w.grownBy w' none):=dIs_any R s L O now de (.ok i) 34 (by decide) w ⟨hi,h⟩ hs
 have HD:Hid (Dd w R s L O now de i 0 0):=h
 by_cases h34:nx s.data.toList i=34
 ·have HK:Hid (rdKey s.data.toList i=str s.data.toList (s.data.toList.length+1) (i+1) []):=rdKey_q _ _ h34
  have hlt:i < s.size:=by rw [<-hl];exact nx_lt (by omega)
  rw [decide_eq_true h34] at CI
  have CQ:Hid (∀w,Dd w R s L O now de i 0 0->Calls Tryz.prog 82 #[.pointer (some ⟨R,0,none⟩)] w (TxPost (4 * s.size+4) R s L O now de (str s.data.toList (s.data.toList.length+1) (i+1) []) w)):=fun w h=>dQuoted_any R s L O now de i w h hlt h34 hs
  rw [HK.out]
  obtain ⟨G,hG⟩:∃G,str s.data.toList (s.data.toList.length+1) (i+1) []=G:=⟨_,rfl⟩
  rw [hG] at CQ ⊢
  obtain ⟨c0,c1,-⟩:=h.cells
  clear h h34 hG HK
  go_enter Tryz.func52,Tryz.ntmps52
  go_wp2_with (first | (go_at_call 27;refine CI.out.mono ?_;rintro e w1 ⟨rfl,hg1⟩) | (go_at_call 82;refine (CQ.out _ (HD.out.grow hg1)).mono ?_))
  rintro e w2 ⟨h1,h2,hg2⟩
  have HG2:Hid (w.grownBy w2 (some R)):=gb_two (gb_more (gb_refl w (some R)) hg1) hg2
  clear hg1 hg2
  match G,h1,h2 with
  | .error (c,p),_,h2 =>
   obtain ⟨⟨t,ht,rfl⟩,hd⟩:=h2 c p rfl
   have HDE:Hid (Ds w2 R s L O now de (.error (c,p))):=hd
   have HT:Hid (t.length<=4 * s.size+4):=ht
   clear h2 hd ht
   go_wp2
   refine bodyPost_ret (results_tmp2 (t:=2) (u:=3) rfl _ _ _) rfl ?_
   exact ⟨fun t k hh=>(by cases hh),fun c' p' hh=>(by injection hh with hh;injection hh with e1 e2;subst e1 e2;exact ⟨⟨t,HT.out,rfl⟩,HDE.out⟩),HG2.out⟩
  | .ok (t,j),h1,_ =>
   obtain ⟨rfl,hd⟩:=h1 t j rfl
   have HDE:Hid (Ds w2 R s L O now de (.ok j)):=hd
   clear h1 hd
   go_wp2
   refine bodyPost_ret (results_tmp2 (t:=2) (u:=3) rfl _ _ _) rfl ?_
   exact ⟨fun t' k' hh=>(by injection hh with hh;injection hh with e1 e2;subst e1 e2;exact ⟨rfl,HDE.out⟩),fun c' p' hh=>(by cases hh),HG2.out⟩
 ·have HK:Hid (rdKey s.data.toList i=if toR isBa s.data.toList i=i then .error (2,i) else .ok (subT s.data.toList i (toR isBa s.data.toList i - i),toR isBa s.data.toList i)):=rdKey_b _ _ h34
  rw [decide_eq_false h34] at CI
  rw [HK.out]
  have HX:Hid (∀k (hk:k < s.size),nx s.data.toList k=(s[k].toNat:Int)):=byte_at s
  have HST:Hid (∀k (hk:k < s.size),isBa (s[k].toNat:Int)=true->toR isBa s.data.toList k=toR isBa s.data.toList (k+1)):=fun k hk hb=>toR_step isBa _ k (by omega) (by rw [byte_at s k hk];exact hb)
  have HSP:Hid (∀k (hk:k < s.size),isBa (s[k].toNat:Int)=false->toR isBa s.data.toList k=k):=fun k hk hb=>toR_stop isBa _ k (by rw [byte_at s k hk];exact hb)
  have HEN:Hid (∀k,s.size<=k->toR isBa s.data.toList k=k):=fun k hk=>toR_end isBa _ k (by omega)
  obtain ⟨J,hJ⟩:∃J,toR isBa s.data.toList i=J:=⟨_,rfl⟩
  have HJ:Hid (toR isBa s.data.toList i=J):=hJ
  have hJ1:=toR_le isBa s.data.toList i (by omega)
  rw [hJ,hl] at hJ1
  rw [hJ]
  obtain ⟨G,hG⟩:∃G:Rs (List UInt8 × Nat),(if J=i then .error (2,i) else .ok (subT s.data.toList i (J - i),J))=G:=⟨_,rfl⟩
  have HGJ:Hid ((if J=i then .error (2,i) else .ok (subT s.data.toList i (J - i),J):Rs (List UInt8 × Nat))=G):=hG
  rw [hG]
  obtain ⟨c0,c1,-⟩:=h.cells
  clear h h34 hG HK hJ
  go_enter Tryz.func52,Tryz.ntmps52
  go_wp2_with (first | (go_at_call 27;refine CI.out.mono ?_;rintro e w1 ⟨rfl,hg1⟩))
  have HD1:Hid (Dd w1 R s L O now de i 0 0):=HD.out.grow hg1
  have HG1:Hid (w.grownBy w1 (some R)):=gb_more (gb_refl w (some R)) hg1
  clear hg1 c0 c1
  go_loopw [] (fun wr=>∃k:Nat,Dd wr R s L O now de k 0 0/\i<=k/\k<=s.size/\toR isBa s.data.toList k=J/\w.grownBy wr (some R)) (fun wr=>s.size - dI wr R)
  case atStart=>exact ⟨i,HD1.out,by omega,hi,HJ.out,HG1.out⟩
  case round =>
   obtain ⟨k,hd,hik,hk,hto,hg⟩:=hrel
   have HDK:Hid (Dd wr R s L O now de k 0 0):=hd
   have HGK:Hid (w.grownBy wr (some R)):=hg
   have HME:Hid (dI wr R=k):=dI_eq hd
   have HTO:Hid (toR isBa s.data.toList k=J):=hto
   obtain ⟨c0,c1,-,-,-,c5,-,-,df⟩:=hd.cells
   have df1:=df 1
   clear hd hg hto df
   by_cases hlt:k < s.size
   ·have hlt':decide ((k:Int) < (s.size:Int))=true:=by simp;omega
    have CB:Hid (∀w,Calls Tryz.prog 67 #[.int .u8 (s[k].toNat:Int)] w fun e w'=>e=.returned (.bool (isBa (s[k].toNat:Int)))/\w'=w):=dBare_any s[k]
    have H1:Hid (isBa (s[k].toNat:Int)=true->toR isBa s.data.toList k=toR isBa s.data.toList (k+1)):=HST.out k hlt
    have H2:Hid (isBa (s[k].toNat:Int)=false->toR isBa s.data.toList k=k):=HSP.out k hlt
    obtain ⟨b,hb⟩:∃b,isBa (s[k].toNat:Int)=b:=⟨_,rfl⟩
    rw [hb] at CB H1 H2
    clear hb
    cases b with
    | true =>
     have HN:Hid (toR isBa s.data.toList (k+1)=J):=(H1.out rfl).symm.trans HTO.out
     go_wp2
     go_quiet (first | (go_at_call 67;exact Calls.quiet_of_same (CB.out _)))
     have HDA:Hid (Dd (wr.drewN nq) R s L O now de k 0 0):=HDK.out
     have HGA:Hid (w.grownBy (wr.drewN nq) (some R)):=gb_drew HGK.out nq
     obtain ⟨wA,hwA⟩:∃W,wr.drewN nq=W:=⟨_,rfl⟩
     rw [hwA] at HDA HGA ⊢
     obtain ⟨d0,d1,-,-,-,d5,-,-,dg⟩:=HDA.out.cells
     have dg1:=dg 1
     have HS:=HDA.out.setI (k+1)
     have HSS:Hid (Dd (wA.setCell ⟨R,1,none⟩ (.int .i64 ((k:Int)+1))) R s L O now de (k+1) 0 0):=HS
     clear hwA dg HS
     go_wp2
     refine ⟨⟨k+1,HSS.out,by omega,by omega,HN.out,gb_set HGA.out 1 _⟩,?_⟩
     rw [HME.out,dI_eq HSS.out]
     omega
    | false =>
     have HJK:Hid (J=k):=HTO.out.symm.trans (H2.out rfl)
     go_wp2
     go_quiet (first | (go_at_call 67;exact Calls.quiet_of_same (CB.out _)))
     have HDA:Hid (Dd (wr.drewN nq) R s L O now de k 0 0):=HDK.out
     have HGA:Hid (w.grownBy (wr.drewN nq) (some R)):=gb_drew HGK.out nq
     obtain ⟨wA,hwA⟩:∃W,wr.drewN nq=W:=⟨_,rfl⟩
     rw [hwA] at HDA HGA ⊢
     obtain ⟨d0,d1,-,-,-,d5,-,-,dg⟩:=HDA.out.cells
     clear hwA dg
     by_cases hki:k=i
     ·have hb:((k:Int) == (i:Int))=true:=by simp [hki]
      have HGG:Hid (G=.error (2,i)):=by
       have:=HGJ.out
       rw [if_pos (HJK.out.trans hki)] at this
       exact this.symm
      have CF:Hid (∀wx,Dd wx R s L O now de k 0 0->Calls Tryz.prog 55 #[.pointer (some ⟨R,0,none⟩),.int .i64 2,.int .i64 (i:Nat)] wx fun en w'=>en=.returned (.tuple #[])/\Dd w' R s L O now de k 2 i/\wx.grownBy w' (some R)):=fun wx hg=>dFail_yes R s L O now de k 2 i wx hg
      have hik':i<=k:=hik
      have sl:∀wx,(Instr.slice 9 (.string s) (some (.int .i64 (i:Int))) (some (.int .i64 (k:Int))) none).run Tryz.prog wx=.ok (.string ⟨(subT s.data.toList i (k - i)).toArray⟩) wx:=fun wx=>run_sub s i k hik hk wx
      have HSL:Hid ((subT s.data.toList i (k - i)).length<=4 * s.size+4):=by
       show _<=_
       unfold subT
       rw [List.length_take]
       omega
      obtain ⟨X,hX⟩:∃X,subT s.data.toList i (k - i)=X:=⟨_,rfl⟩
      rw [hX] at sl HSL
      clear hki hX
      go_wp2_with (first | (go_at_call 55;refine (CF.out _ HDA.out).mono ?_;rintro e w2 ⟨rfl,hd2,hg2⟩;obtain ⟨e0,e1,-⟩:=hd2.cells))
      go_quiet (fail)
      go_wp2
      refine bodyPost_ret (results_tmp2 (t:=2) (u:=3) rfl _ _ _) rfl ?_
      rw [HGG.out]
      exact ⟨fun t k hh=>(by cases hh),fun c p hh=>(by cases hh;exact ⟨⟨X,HSL.out,rfl⟩,by decide,k,hk,hd2⟩),gb_drew (gb_two HGA.out hg2) _⟩
     ·have hb:((k:Int) == (i:Int))=false:=by rw [beq_eq_false_iff_ne];omega
      have HGG:Hid (G=.ok (subT s.data.toList i (k - i),k)):=by
       have:=HGJ.out
       rw [HJK.out,if_neg hki] at this
       exact this.symm
      have sl:∀wx,(Instr.slice 9 (.string s) (some (.int .i64 (i:Int))) (some (.int .i64 (k:Int))) none).run Tryz.prog wx=.ok (.string ⟨(subT s.data.toList i (k - i)).toArray⟩) wx:=fun wx=>run_sub s i k hik hk wx
      obtain ⟨X,hX⟩:∃X,subT s.data.toList i (k - i)=X:=⟨_,rfl⟩
      rw [hX] at sl HGG
      clear hki hX
      go_wp2
      go_quiet (fail)
      go_wp2
      refine bodyPost_ret (results_tmp2 (t:=2) (u:=3) rfl _ _ _) rfl ?_
      rw [HGG.out]
      exact ⟨fun t j hh=>(by cases hh;exact ⟨rfl,hk,HDA.out⟩),fun c p hh=>(by cases hh),gb_drew HGA.out _⟩
   ·have hge:decide ((k:Int) < (s.size:Int))=false:=by simp;omega
    have HJK:Hid (J=k):=HTO.out.symm.trans (HEN.out k (by omega))
    go_wp2
    go_quiet (fail)
    have HDA:Hid (Dd (wr.drewN nq) R s L O now de k 0 0):=HDK.out
    have HGA:Hid (w.grownBy (wr.drewN nq) (some R)):=gb_drew HGK.out nq
    obtain ⟨wA,hwA⟩:∃W,wr.drewN nq=W:=⟨_,rfl⟩
    rw [hwA] at HDA HGA ⊢
    obtain ⟨d0,d1,-,-,-,d5,-,-,dg⟩:=HDA.out.cells
    clear hwA dg
    by_cases hki:k=i
    ·have hb:((k:Int) == (i:Int))=true:=by simp [hki]
     have HGG:Hid (G=.error (2,i)):=by
      have:=HGJ.out
      rw [if_pos (HJK.out.trans hki)] at this
      exact this.symm
     have CF:Hid (∀wx,Dd wx R s L O now de k 0 0->Calls Tryz.prog 55 #[.pointer (some ⟨R,0,none⟩),.int .i64 2,.int .i64 (i:Nat)] wx fun en w'=>en=.returned (.tuple #[])/\Dd w' R s L O now de k 2 i/\wx.grownBy w' (some R)):=fun wx hg=>dFail_yes R s L O now de k 2 i wx hg
     have hik':i<=k:=hik
     have sl:∀wx,(Instr.slice 9 (.string s) (some (.int .i64 (i:Int))) (some (.int .i64 (k:Int))) none).run Tryz.prog wx=.ok (.string ⟨(subT s.data.toList i (k - i)).toArray⟩) wx:=fun wx=>run_sub s i k hik hk wx
     have HSL:Hid ((subT s.data.toList i (k - i)).length<=4 * s.size+4):=by
      show _<=_
      unfold subT
      rw [List.length_take]
      omega
     obtain ⟨X,hX⟩:∃X,subT s.data.toList i (k - i)=X:=⟨_,rfl⟩
     rw [hX] at sl HSL
     clear hki hX
     go_wp2_with (first | (go_at_call 55;refine (CF.out _ HDA.out).mono ?_;rintro e w2 ⟨rfl,hd2,hg2⟩;obtain ⟨e0,e1,-⟩:=hd2.cells))
     go_quiet (fail)
     go_wp2
     refine bodyPost_ret (results_tmp2 (t:=2) (u:=3) rfl _ _ _) rfl ?_
     rw [HGG.out]
     exact ⟨fun t k hh=>(by cases hh),fun c p hh=>(by cases hh;exact ⟨⟨X,HSL.out,rfl⟩,by decide,k,hk,hd2⟩),gb_drew (gb_two HGA.out hg2) _⟩
    ·have hb:((k:Int) == (i:Int))=false:=by rw [beq_eq_false_iff_ne];omega
     have HGG:Hid (G=.ok (subT s.data.toList i (k - i),k)):=by
      have:=HGJ.out
      rw [HJK.out,if_neg hki] at this
      exact this.symm
     have sl:∀wx,(Instr.slice 9 (.string s) (some (.int .i64 (i:Int))) (some (.int .i64 (k:Int))) none).run Tryz.prog wx=.ok (.string ⟨(subT s.data.toList i (k - i)).toArray⟩) wx:=fun wx=>run_sub s i k hik hk wx
     obtain ⟨X,hX⟩:∃X,subT s.data.toList i (k - i)=X:=⟨_,rfl⟩
     rw [hX] at sl HGG
     clear hki hX
     go_wp2
     go_quiet (fail)
     go_wp2
     refine bodyPost_ret (results_tmp2 (t:=2) (u:=3) rfl _ _ _) rfl ?_
     rw [HGG.out]
     exact ⟨fun t j hh=>(by cases hh;exact ⟨rfl,hk,HDA.out⟩),fun c p hh=>(by cases hh),gb_drew HGA.out _⟩
def InPost (R:Nat) (s:ByteArray) (L O:Value) (now de:Nat) (g:Rs (Int × Nat)) (w:World) (e:Ending) (w':World):Prop:=(∀n j,g=.ok (n,j)->e=.returned (.int .i64 n)/\Ds w' R s L O now de (.ok j))/\(∀c p,g=.error (c,p)->(∃n:Int,e=.returned (.int .i64 n))/\Ds w' R s L O now de (.error (c,p)))/\w.grownBy w' (some R)
def intF (l:List UInt8) (i a:Nat) (m:Bool):Rs (Int × Nat) :=
 if toR isDg l a=a\/(1 < toR isDg l a - a/\nx l a=48) then .error (2,a)
 else if 18 < toR isDg l a - a then .error (3,i)
 else .ok (if m=true then -(digN (subT l a (toR isDg l a - a)) 0:Int) else (digN (subT l a (toR isDg l a - a)) 0:Int),toR isDg l a)
theorem rdInt_f (l:List UInt8) (i:Nat):rdInt l i=intF l i (if isDg (nx l i)=true then i else i+1) (decide (nx l i=45)):=by
 unfold rdInt intF
 by_cases h:nx l i=45
 ·rw [decide_eq_true h];simp only [if_pos h,if_true]
 ·rw [decide_eq_false h];simp [if_neg h]
theorem subT_succ (l:List UInt8) (a k:Nat) (ha:a<=k) (hk:k < l.length):subT l a (k+1 - a)=subT l a (k - a)++[l[k]]:=by
 unfold subT
 rw [show k+1 - a=(k - a)+1 by omega,List.take_add_one,List.getElem?_drop,show a+(k - a)=k by omega,List.getElem?_eq_getElem hk]
 rfl
theorem dig_sub (l:List UInt8) (a k:Nat) (h:∀c ∈ subT l a (k - a),c.toNat<=57) (ha:a<=k) (hk:k < l.length) (hd:l[k].toNat<=57):∀c ∈ subT l a (k+1 - a),c.toNat<=57:=by
 rw [subT_succ l a k ha hk]
 intro c hc
 rcases List.mem_append.1 hc with h1 | h1
 ·exact h c h1
 ·rw [List.mem_singleton.1 h1];exact hd
theorem sat_sub (l:List UInt8) (a k n:Nat) (h:satN (subT l a (k - a)) 0=n) (ha:a<=k) (hk:k < l.length):satN (subT l a (k+1 - a)) 0=if n<=99999999999999999 then 10 * n+(l[k].toNat - 48) else 1000000000000000000:=by
 rw [subT_succ l a k ha hk,satN_app,h]
 rfl
theorem subk_len (l:List UInt8) (a k:Nat) (ha:a<=k) (hk:k<=l.length):(subT l a (k - a)).length=k - a:=by
 unfold subT
 rw [List.length_take,List.length_drop];omega
theorem int_low (l:List UInt8) (a k:Nat) (h:∀c ∈ subT l a (k - a),c.toNat<=57) (ha:a<=k) (hk:k<=l.length) (h18:k - a<=18):satN (subT l a (k - a)) 0=digN (subT l a (k - a)) 0/\digN (subT l a (k - a)) 0<=999999999999999999:=by
 have:=satN_low (subT l a (k - a)) 0 0 h (by decide) (by rw [subk_len l a k ha hk];omega)
 refine ⟨this.1,?_⟩
 have h2:=this.2
 have h3:(10:Nat) ^ (0+(subT l a (k - a)).length)<=10 ^ 18:=Nat.pow_le_pow_right (by omega) (by rw [subk_len l a k ha hk];omega)
 have e:(10:Nat) ^ 18=1000000000000000000:=by decide
 omega
theorem int_high (l:List UInt8) (a k:Nat) (h:∀c ∈ subT l a (k - a),c.toNat<=57) (ha:a<=k) (hk:k<=l.length) (h18:18 < k - a) (h49:49<=nx l a):satN (subT l a (k - a)) 0=1000000000000000000:=by
 have hal:a < l.length:=by omega
 have e:subT l a (k - a)=l[a] :: subT l (a+1) (k - (a+1)):=by
  unfold subT
  rw [List.drop_eq_getElem_cons hal,show k - a=(k - (a+1))+1 by omega,List.take_succ_cons]
 rw [nx_at l a hal] at h49
 have hlen:=subk_len l (a+1) k (by omega) hk
 rw [e] at h ⊢
 have hc:=h l[a] (by simp)
 show satN (subT l (a+1) (k - (a+1))) (if 0<=99999999999999999 then 10 * 0+(l[a].toNat - 48) else 1000000000000000000)=_
 rw [if_pos (by omega)]
 exact satN_high _ _ 0 (fun c hc=>h c (by simp [hc])) (by show 1<=_;omega) (by omega) (by omega)
theorem dg_nx (l:List UInt8) (a:Nat) (h:¬ toR isDg l a=a):48<=nx l a/\nx l a<=57:=by
 apply Classical.byContradiction
 intro hn
 exact h (toR_stop isDg l a (by unfold isDg;exact decide_eq_false hn))
theorem nx_drop (l:List UInt8) (i k:Nat):nx l (i+k)=nx (l.drop i) k:=by unfold nx;rw [List.getElem?_drop]
theorem nx_cons {l:List UInt8} {i:Nat} {c:UInt8} {r:List UInt8} (h:l.drop i=c :: r):nx l i=(c.toNat:Int):=by
 have:=nx_drop l i 0
 rw [h] at this
 simpa [nx] using this
theorem nx_hd {l:List UInt8} {i:Nat} {r:List UInt8} (h:l.drop i=r):nx l i=nx r 0:=by
 have:=nx_drop l i 0
 rw [h] at this
 simpa using this
theorem drop_more {l:List UInt8} {i:Nat} {a r:List UInt8} (h:l.drop i=a++r):l.drop (i+a.length)=r:=by
 rw [<-List.drop_drop,h,List.drop_left' rfl]
theorem sub_at {l:List UInt8} {i:Nat} {a r:List UInt8} (h:l.drop i=a++r):subT l i a.length=a:=by
 unfold subT
 rw [h,List.take_left' rfl]
theorem toR_run {p:Int->Bool} {l:List UInt8} {i:Nat} {a r:List UInt8} (h:l.drop i=a++r) (ha:∀c ∈ a,p (c.toNat:Int)=true) (hr:p (nx r 0)=false):toR p l i=i+a.length:=by
 unfold toR runN
 rw [h,List.takeWhile_append_of_pos ha,List.length_append]
 have:(r.takeWhile fun c=>p (c.toNat:Int))=[]:=by
  match r,hr with
  | [],_=>rfl
  | c :: r,hr =>
   rw [List.takeWhile_cons]
   have hc:p (c.toNat:Int)=false:=hr
   simp [hc]
 rw [this]
 simp
theorem bl_no {l:List UInt8} {i:Nat} {r:List UInt8} (h:l.drop i=r) (hr:isBl (nx r 0)=false):bl l i=i:=toR_stop isBl l i (by rw [nx_hd h];exact hr)
theorem bl_one {l:List UInt8} {i:Nat} {r:List UInt8} (h:l.drop i=32 :: r) (hr:isBl (nx r 0)=false):bl l i=i+1:=toR_run (a:=[32]) h (by intro c hc;rw [List.mem_singleton.1 hc];decide) hr
def sq4 (c a b d:Int):Nat :=
 if c < 0 then 0
 else if c < 128 then 1
 else if c < 194\/244 < c then 0
 else if decide ((if c=224 then 160 else if c=240 then 144 else 128)<=a/\a<=(if c=237 then 159 else if c=244 then 143 else 191))=false then 0
 else if c < 224 then 2
 else if decide (128<=b/\b<=191)=false then 0
 else if c < 240 then 3
 else if decide (128<=d/\d<=191)=false then 0
 else 4
set_option maxRecDepth 20000 in
theorem seqN_sq (l:List UInt8) (i:Nat):seqN l i=sq4 (nx l i) (nx l (i+1)) (nx l (i+2)) (nx l (i+3)):=rfl
set_option maxRecDepth 20000 in
theorem sq4_eq {a b c d a' b' c' d':Int} (h1:a=a') (h2:b=b') (h3:c=c') (h4:d=d'):sq4 a b c d=sq4 a' b' c' d':=by subst h1 h2 h3 h4;rfl
theorem seqN_drop (l:List UInt8) (i:Nat):seqN l i=seqN (l.drop i) 0:=sq4_eq (nx_drop l i 0) (nx_drop l i 1) (nx_drop l i 2) (nx_drop l i 3)
set_option maxRecDepth 20000 in
theorem seqN_c (c:UInt8) (s:List UInt8):seqN (c :: s) 0=if (c.toNat:Int) < 128 then 1
 else if (c.toNat:Int) < 194\/244 < (c.toNat:Int) then 0
 else if decide ((if (c.toNat:Int)=224 then 160 else if (c.toNat:Int)=240 then 144 else 128)<=nx s 0/\nx s 0<=(if (c.toNat:Int)=237 then 159 else if (c.toNat:Int)=244 then 143 else 191))=false then 0
 else if (c.toNat:Int) < 224 then 2
 else if decide (128<=nx s 1/\nx s 1<=191)=false then 0
 else if (c.toNat:Int) < 240 then 3
 else if decide (128<=nx s 2/\nx s 2<=191)=false then 0
 else 4:=by
 have e:seqN (c :: s) 0=sq4 (c.toNat:Int) (nx s 0) (nx s 1) (nx s 2):=seqN_sq _ _
 rw [e,sq4,if_neg (by omega)]
set_option maxRecDepth 20000 in
theorem seqN_cut (s:List UInt8) (h:0 < seqN s 0):∃q r,s=q++r/\q.length=seqN s 0/\(∀r',seqN (q++r') 0=q.length)/\((∃c,q=[c]/\c.toNat < 128)\/∃c q',q=c :: q'/\128<=c.toNat/\∀b ∈ q,128<=b.toNat):=by
 match s,h with
 | [],h=>exact absurd h (by decide)
 | c :: s,h =>
  rw [seqN_c] at h ⊢
  by_cases h1:(c.toNat:Int) < 128
  ·exact ⟨[c],s,rfl,by rw [if_pos h1];rfl,fun r'=>by show seqN (c :: r') 0=1;rw [seqN_c,if_pos h1],Or.inl ⟨c,rfl,by omega⟩⟩
  ·rw [if_neg h1] at h ⊢
   by_cases h2:(c.toNat:Int) < 194\/244 < (c.toNat:Int)
   ·rw [if_pos h2] at h;exact absurd h (by decide)
   ·rw [if_neg h2] at h ⊢
    match s,h with
    | [],h =>
     rw [if_pos] at h
     ·exact absurd h (by decide)
     ·apply decide_eq_false
      intro hh
      have:nx [] 0=-1:=rfl
      rw [this] at hh
      have:=hh.1
      split at this
      ·omega
      ·split at this <;> omega
    | b :: s,h =>
     have e0:∀r,nx (b :: r) 0=(b.toNat:Int):=fun _=>rfl
     rw [e0] at h ⊢
     by_cases h3:decide ((if (c.toNat:Int)=224 then 160 else if (c.toNat:Int)=240 then 144 else 128)<=(b.toNat:Int)/\(b.toNat:Int)<=(if (c.toNat:Int)=237 then 159 else if (c.toNat:Int)=244 then 143 else 191))=false
     ·rw [if_pos h3] at h;exact absurd h (by decide)
     ·rw [if_neg h3] at h ⊢
      have hb:128<=b.toNat:=by
       have:=(of_decide_eq_true ((Bool.not_eq_false _).mp h3)).1
       split at this
       ·omega
       ·split at this <;> omega
      by_cases h4:(c.toNat:Int) < 224
      ·refine ⟨[c,b],s,rfl,by rw [if_pos h4];rfl,fun r'=>?_,Or.inr ⟨c,[b],rfl,by omega,?_⟩⟩
       ·show seqN (c :: (b :: r')) 0=2
        rw [seqN_c,if_neg h1,if_neg h2,e0,if_neg h3,if_pos h4]
       ·intro x hx
        simp only [List.mem_cons,List.not_mem_nil,or_false] at hx
        rcases hx with rfl | rfl <;> omega
      ·rw [if_neg h4] at h ⊢
       match s,h with
       | [],h =>
        rw [if_pos] at h
        ·exact absurd h (by decide)
        ·apply decide_eq_false
         intro hh
         have:nx [b] 1=-1:=rfl
         omega
       | d :: s,h =>
        have e1:∀r,nx (b :: d :: r) 1=(d.toNat:Int):=fun _=>rfl
        rw [e1] at h ⊢
        by_cases h5:decide (128<=(d.toNat:Int)/\(d.toNat:Int)<=191)=false
        ·rw [if_pos h5] at h;exact absurd h (by decide)
        ·rw [if_neg h5] at h ⊢
         have hd:128<=d.toNat:=by
          have:=(of_decide_eq_true ((Bool.not_eq_false _).mp h5)).1
          omega
         by_cases h6:(c.toNat:Int) < 240
         ·refine ⟨[c,b,d],s,rfl,by rw [if_pos h6];rfl,fun r'=>?_,Or.inr ⟨c,[b,d],rfl,by omega,?_⟩⟩
          ·show seqN (c :: (b :: d :: r')) 0=3
           rw [seqN_c,if_neg h1,if_neg h2,e0,if_neg h3,if_neg h4,e1,if_neg h5,if_pos h6]
          ·intro x hx
           simp only [List.mem_cons,List.not_mem_nil,or_false] at hx
           rcases hx with rfl | rfl | rfl <;> omega
         ·rw [if_neg h6] at h ⊢
          match s,h with
          | [],h =>
           rw [if_pos] at h
           ·exact absurd h (by decide)
           ·apply decide_eq_false
            intro hh
            have:nx [b,d] 2=-1:=rfl
            omega
          | x :: s,h =>
           have e2:∀r,nx (b :: d :: x :: r) 2=(x.toNat:Int):=fun _=>rfl
           rw [e2] at h ⊢
           by_cases h7:decide (128<=(x.toNat:Int)/\(x.toNat:Int)<=191)=false
           ·rw [if_pos h7] at h;exact absurd h (by decide)
           ·rw [if_neg h7] at h ⊢
            have hx':128<=x.toNat:=by
             have:=(of_decide_eq_true ((Bool.not_eq_false _).mp h7)).1
             omega
            refine ⟨[c,b,d,x],s,rfl,rfl,fun r'=>?_,Or.inr ⟨c,[b,d,x],rfl,by omega,?_⟩⟩
            ·show seqN (c :: (b :: d :: x :: r')) 0=4
             rw [seqN_c,if_neg h1,if_neg h2,e0,if_neg h3,if_neg h4,e1,if_neg h5,if_neg h6,e2,if_neg h7]
            ·intro y hy
             simp only [List.mem_cons,List.not_mem_nil,or_false] at hy
             rcases hy with rfl | rfl | rfl | rfl <;> omega
inductive Us:List UInt8->Prop
 | nil:Us []
 | cons (q r:List UInt8):0 < q.length->(∀r',seqN (q++r') 0=q.length)->((∃c,q=[c]/\c.toNat < 128)\/∃c q',q=c :: q'/\128<=c.toNat/\∀b ∈ q,128<=b.toNat)->Us r->Us (q++r)
theorem Us.app {a b:List UInt8} (ha:Us a) (hb:Us b):Us (a++b):=by
 induction ha with
 | nil=>exact hb
 | cons q r h1 h2 h3 _ ih=>rw [List.append_assoc];exact Us.cons q _ h1 h2 h3 ih
theorem us_seq (s:List UInt8) (h:0 < seqN s 0):Us (s.take (seqN s 0)):=by
 obtain ⟨q,r,h1,h2,h3,h4⟩:=seqN_cut s h
 rw [<-h2,h1,List.take_left' rfl]
 have:=Us.cons q [] (by omega) h3 h4 Us.nil
 simpa using this
theorem us_one (c:UInt8) (h:c.toNat < 128):Us [c]:=Us.cons [c] [] (by simp) (fun r'=>by show seqN (c :: r') 0=1;rw [seqN_c,if_pos (by omega)]) (Or.inl ⟨c,rfl,h⟩) Us.nil
theorem us_of (s:List UInt8) (h:seqN s 0=s.length) (h0:0 < s.length):Us s:=by
 have:=us_seq s (by omega)
 rw [h,List.take_length] at this
 exact this
theorem us_wrt (n:Nat) (h:n < 65536) (hs:¬ (55296<=n/\n<=57343)):Us (wrt n):=by
 unfold wrt
 have tn:∀m,m < 256->((UInt8.ofNat m).toNat:Int)=(m:Int):=fun m hm=>by
  rw [UInt8.toNat_ofNat_of_lt' (by simpa using hm)]
 split
 ·exact us_one _ (by rw [UInt8.toNat_ofNat_of_lt' (by show n < 256;omega)];assumption)
 ·split
  ·refine us_of _ ?_ (by simp)
   rw [seqN_c,tn _ (by omega),if_neg (by omega),if_neg (by omega),if_neg,if_pos (by omega)]
   ·rfl
   ·rw [decide_eq_false_iff_not,Classical.not_not]
    have e:nx [UInt8.ofNat (128+n % 64)] 0=((UInt8.ofNat (128+n % 64)).toNat:Int):=rfl
    rw [e,tn _ (by omega),if_neg (by omega),if_neg (by omega),if_neg (by omega),if_neg (by omega)]
    omega
  ·refine us_of _ ?_ (by simp)
   have e0:∀r,nx (UInt8.ofNat (128+n / 64 % 64) :: r) 0=((UInt8.ofNat (128+n / 64 % 64)).toNat:Int):=fun _=>rfl
   have e1:∀b,nx [b,UInt8.ofNat (128+n % 64)] 1=((UInt8.ofNat (128+n % 64)).toNat:Int):=fun _=>rfl
   rw [seqN_c,tn _ (by omega),if_neg (by omega),if_neg (by omega),if_neg,if_neg (by omega),if_neg,if_pos (by omega)]
   ·rfl
   ·rw [decide_eq_false_iff_not,Classical.not_not,e1,tn _ (by omega)]
    omega
   ·rw [decide_eq_false_iff_not,Classical.not_not,e0,tn _ (by omega)]
    split
    ·rw [if_neg (by omega)]
     rw [if_neg (by omega)]
     omega
    ·rw [if_neg (by omega)]
     split
     ·omega
     ·rw [if_neg (by omega)]
      omega
theorem esc_us (l:List UInt8) (i:Nat) (b:List UInt8) (j:Nat) (h:esc l i=.ok (b,j)):Us b:=by
 unfold esc at h
 have one:∀c:UInt8,c.toNat < 128->∀m,(Except.ok ([c],m):Rs (List UInt8 × Nat))=.ok (b,j)->Us b:=fun c hc m hh=>by
  injection hh with hh
  injection hh with h1 h2
  rw [<-h1]
  exact us_one c hc
 split at h
 ·rename_i hu
  have hl:i+1 < l.length:=nx_lt (by omega)
  split at h
  ·cases h
  ·rename_i n m hf
   split at h
   ·cases h
   ·rename_i hs
    injection h with h
    injection h with h1 h2
    rw [<-h1]
    have:=(four_ok l 4 (i+2) 0 n m (by omega) hf).2.2
    exact us_wrt n (by omega) hs
 ·split at h
  ·exact one _ (by decide) _ h
  ·split at h
   ·exact one _ (by decide) _ h
   ·split at h
    ·exact one _ (by decide) _ h
    ·split at h
     ·exact one _ (by decide) _ h
     ·split at h
      ·exact one _ (by decide) _ h
      ·split at h
       ·exact one _ (by decide) _ h
       ·split at h
        ·exact one _ (by decide) _ h
        ·cases h
theorem str_us (l:List UInt8):∀(f i:Nat) (acc t:List UInt8) (j:Nat),Us acc->str l f i acc=.ok (t,j)->Us t
 | 0,i,acc,t,j,_,h=>by cases h
 | f+1,i,acc,t,j,ha,h=>by
  rw [str_step] at h
  split at h
  ·injection h with h
   injection h with h1 h2
   rw [<-h1];exact ha
  ·split at h
   ·split at h
    ·cases h
    ·rename_i b k he
     exact str_us l f k _ t j (ha.app (esc_us l i b k he)) h
   ·split at h
    ·cases h
    ·split at h
     ·cases h
     ·rename_i hs
      refine str_us l f _ _ t j (ha.app ?_) h
      have h0:seqN l i=seqN (l.drop i) 0:=seqN_drop l i
      unfold subT
      rw [h0]
      exact us_seq _ (by omega)
set_option maxRecDepth 100000 in
theorem qc_big (b:UInt8) (h:128<=b.toNat):qc b=[b]:=by
 have key:∀n:Fin 256,128<=n.val->qc (UInt8.ofNat n.val)=[UInt8.ofNat n.val]:=by decide
 have:=key ⟨b.toNat,b.toNat_lt⟩ h
 simpa using this
set_option maxRecDepth 100000 in
theorem qc_low (c:UInt8) (h:c.toNat < 128):(qc c=[c]/\c.toNat ≠ 34/\c.toNat ≠ 92/\isCt (c.toNat:Int)=false)\/(qc c=[92,117,48,48,hexS.getD (c.toNat / 16) 0,hexS.getD (c.toNat % 16) 0]/\hexV ((hexS.getD (c.toNat / 16) 0).toNat:Int)=(c.toNat / 16:Nat)/\hexV ((hexS.getD (c.toNat % 16) 0).toNat:Int)=(c.toNat % 16:Nat)/\wrt c.toNat=[c])\/∃x,qc c=[92,x]/\((c=8/\x=98)\/(c=9/\x=116)\/(c=10/\x=110)\/(c=12/\x=102)\/(c=13/\x=114)\/(c=34/\x=34)\/(c=92/\x=92)):=by
 have key:∀n:Fin 128,(let c:=UInt8.ofNat n.val;(qc c=[c]/\c.toNat ≠ 34/\c.toNat ≠ 92/\isCt (c.toNat:Int)=false)\/(qc c=[92,117,48,48,hexS.getD (c.toNat / 16) 0,hexS.getD (c.toNat % 16) 0]/\hexV ((hexS.getD (c.toNat / 16) 0).toNat:Int)=(c.toNat / 16:Nat)/\hexV ((hexS.getD (c.toNat % 16) 0).toNat:Int)=(c.toNat % 16:Nat)/\wrt c.toNat=[c])\/(qc c=[92,letL.getD (Lib.indexByte escL c).toNat 0]/\((c=8/\letL.getD (Lib.indexByte escL c).toNat 0=98)\/(c=9/\letL.getD (Lib.indexByte escL c).toNat 0=116)\/(c=10/\letL.getD (Lib.indexByte escL c).toNat 0=110)\/(c=12/\letL.getD (Lib.indexByte escL c).toNat 0=102)\/(c=13/\letL.getD (Lib.indexByte escL c).toNat 0=114)\/(c=34/\letL.getD (Lib.indexByte escL c).toNat 0=34)\/(c=92/\letL.getD (Lib.indexByte escL c).toNat 0=92)))):=by decide
 have:=key ⟨c.toNat,h⟩
 simp only [UInt8.ofNat_toNat] at this
 rcases this with h1 | h1 | h1
 ·exact Or.inl h1
 ·exact Or.inr (Or.inl h1)
 ·exact Or.inr (Or.inr ⟨_,h1⟩)
theorem esc_two {l:List UInt8} {i:Nat} {c x:UInt8} {r:List UInt8} (h:l.drop i=92 :: x :: r) (hc:(c=8/\x=98)\/(c=9/\x=116)\/(c=10/\x=110)\/(c=12/\x=102)\/(c=13/\x=114)\/(c=34/\x=34)\/(c=92/\x=92)):esc l i=.ok ([c],i+2):=by
 have h1:nx l (i+1)=(x.toNat:Int):=nx_cons (drop_more (a:=[92]) h)
 unfold esc
 rw [h1]
 rcases hc with ⟨rfl,rfl⟩ | ⟨rfl,rfl⟩ | ⟨rfl,rfl⟩ | ⟨rfl,rfl⟩ | ⟨rfl,rfl⟩ | ⟨rfl,rfl⟩ | ⟨rfl,rfl⟩ <;> rfl
theorem four_cons (l:List UInt8) (k i n:Nat) (c:UInt8) (r:List UInt8) (m:Nat) (h:l.drop i=c :: r) (hv:hexV (c.toNat:Int)=(m:Nat)):four l (k+1) i n=four l k (i+1) (16 * n+m):=by
 show (if hexV (nx l i) < 0 then _ else _)=_
 rw [nx_cons h,hv,if_neg (by omega)]
 rfl
theorem esc_uu {l:List UInt8} {i:Nat} {x y:UInt8} {r:List UInt8} {a b:Nat} (h:l.drop i=92 :: 117 :: 48 :: 48 :: x :: y :: r) (hx:hexV (x.toNat:Int)=(a:Nat)) (hy:hexV (y.toNat:Int)=(b:Nat)) (hn:16 * a+b < 128):esc l i=.ok (wrt (16 * a+b),i+6):=by
 have d1:l.drop (i+1)=_:=drop_more (a:=[92]) h
 have d2:l.drop (i+2)=_:=drop_more (a:=[92,117]) h
 have d3:l.drop (i+2+1)=_:=drop_more (a:=[92,117,48]) h
 have d4:l.drop (i+2+1+1)=_:=drop_more (a:=[92,117,48,48]) h
 have d5:l.drop (i+2+1+1+1)=_:=drop_more (a:=[92,117,48,48,x]) h
 have h1:nx l (i+1)=117:=nx_cons d1
 have hf:four l 4 (i+2) 0=.ok (16 * a+b,i+6):=by
  rw [four_cons l 3 (i+2) 0 48 _ 0 d2 (by decide),four_cons l 2 _ _ 48 _ 0 d3 (by decide),four_cons l 1 _ _ x _ a d4 hx,four_cons l 0 _ _ y _ b d5 hy]
  show Except.ok (_,_)=_
  simp
 unfold esc
 rw [if_pos h1,hf]
 show (if 55296<=_/\_ then _ else _)=_
 rw [if_neg (by omega)]
theorem str_back (l:List UInt8) (s:List UInt8) (hs:Us s):∀(f i:Nat) (acc r:List UInt8),l.drop i=s.flatMap qc++34 :: r->(s.flatMap qc).length < f->str l f i acc=.ok (acc++s,i+(s.flatMap qc).length+1):=by
 induction hs with
 | nil =>
  intro f i acc r h hf
  match f,hf with
  | f+1,_ =>
   have h0:nx l i=34:=nx_cons (c:=34) (r:=r) h
   rw [str_step,if_pos h0]
   simp
 | cons q s h1 h2 h3 hs ih =>
  intro f i acc r h hf
  match f,hf with
  | 0,hf=>exact absurd hf (by omega)
  | f+1,hf =>
   rw [List.flatMap_append,List.append_assoc] at h
   rw [List.flatMap_append,List.length_append] at hf ⊢
   rw [str_step]
   rcases h3 with ⟨c,rfl,hc⟩ | ⟨c,q',hq,hc,hall⟩
   ·have e1:List.flatMap qc [c]=qc c:=by simp
    rw [e1] at h hf ⊢
    rcases qc_low c hc with ⟨e,n1,n2,n3⟩ | ⟨e,x1,x2,x3⟩ | ⟨x,e,hx⟩
    ·rw [e] at h hf ⊢
     have h0:nx l i=(c.toNat:Int):=nx_cons (c:=c) h
     rw [h0,if_neg (by omega),if_neg (by omega),if_neg,if_neg]
     ·have hq:seqN l i=1:=by rw [seqN_drop,h];exact h2 _
      rw [hq]
      have hd:=drop_more (a:=[c]) h
      have hsub:subT l i 1=[c]:=sub_at (a:=[c]) h
      rw [hsub,ih f (i+1) _ r hd (by simp only [List.length_cons,List.length_nil] at hf;omega)]
      simp only [List.append_assoc,List.length_cons,List.length_nil]
      congr 2
      omega
     ·have hq:seqN l i=1:=by rw [seqN_drop,h];exact h2 _
      omega
     ·rintro (hh | hh)
      ·omega
      ·unfold isBr at hh
       rw [n3] at hh
       cases hh
    ·rw [e] at h hf ⊢
     have h0:nx l i=92:=nx_cons (c:=92) h
     rw [h0,if_neg (by decide),if_pos rfl]
     have he:=esc_uu (l:=l) (i:=i) h x1 x2 (by omega)
     rw [show 16 * (c.toNat / 16)+c.toNat % 16=c.toNat by omega,x3] at he
     rw [he]
     show str l f (i+6) _=_
     rw [ih f (i+6) _ r (drop_more (a:=[92,117,48,48,_,_]) h) (by simp only [List.length_cons,List.length_nil] at hf;omega)]
     simp only [List.append_assoc,List.length_cons,List.length_nil]
     congr 2
     omega
    ·rw [e] at h hf ⊢
     have h0:nx l i=92:=nx_cons (c:=92) h
     rw [h0,if_neg (by decide),if_pos rfl,esc_two (l:=l) (i:=i) h hx]
     show str l f (i+2) _=_
     rw [ih f (i+2) _ r (drop_more (a:=[92,x]) h) (by simp only [List.length_cons,List.length_nil] at hf;omega)]
     simp only [List.append_assoc,List.length_cons,List.length_nil]
     congr 2
     omega
   ·have e1:List.flatMap qc q=q:=by
     have:∀m:List UInt8,(∀b ∈ m,128<=b.toNat)->m.flatMap qc=m:=fun m=>by
      induction m with
      | nil=>intro _;rfl
      | cons a m ihm =>
       intro hm
       rw [List.flatMap_cons,qc_big a (hm a (by simp)),ihm (fun b hb=>hm b (by simp [hb]))]
       rfl
     exact this q hall
    rw [e1] at h hf ⊢
    have hn:seqN l i=q.length:=by rw [seqN_drop,h];exact h2 _
    have h0:nx l i=(c.toNat:Int):=by rw [hq] at h;exact nx_cons (c:=c) h
    rw [h0,if_neg (by omega),if_neg (by omega),if_neg,if_neg (by omega),hn,sub_at h,ih f _ _ r (drop_more h) (by omega)]
    ·simp only [List.append_assoc]
     congr 2
     omega
    ·rintro (hh | hh)
     ·omega
     ·unfold isBr isCt at hh
      simp at hh
      omega
end Go.Proofs.YtbgnflcebafjjaaGreatDoor
