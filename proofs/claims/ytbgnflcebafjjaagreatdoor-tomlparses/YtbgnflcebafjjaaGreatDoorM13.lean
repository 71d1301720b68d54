import Derived.Test.YtbgnflcebafjjaaGreatDoorM11
import Derived.Test.YtbgnflcebafjjaaGreatDoorM12
import Derived.Test.YtbgnflcebafjjaaGreatDoorM01
import Derived.Test.YtbgnflcebafjjaaGreatDoorM04
namespace Go.Proofs.YtbgnflcebafjjaaGreatDoor
open Go.RowKit Go.Joins
set_option linter.unusedVariables false
set_option maxRecDepth 100000 in
set_option maxHeartbeats 6400000 in
theorem dInt_d (R:Nat) (s:ByteArray) (L O:Value) (now de i:Nat) (w:World) (h:Dd w R s L O now de i 0 0) (hi:i < s.size) (hs:s.size<=1048576) (hx:¬ nx s.data.toList i=45) (hy:¬ nx s.data.toList i=43) :
  Calls Tryz.prog 85 #[.pointer (some ⟨R,0,none⟩)] w (InPost R s L O now de (intF s.data.toList i (i) false) w):=by
 have hl:s.data.toList.length=s.size:=by simp
 have CI:Hid (∀c w,0<=c->Ds w R s L O now de (.ok i)->Calls Tryz.prog 27 #[.pointer (some ⟨R,0,none⟩),.int .u8 c] w fun e w'=>e=.returned (.bool (decide (nx s.data.toList i=c)))/\w.grownBy w' none):=fun c w h0 h1=>dIs_any R s L O now de (.ok i) c h0 w h1 hs
 have CI45:Hid (∀w,Ds w R s L O now de (.ok i)->Calls Tryz.prog 27 #[.pointer (some ⟨R,0,none⟩),.int .u8 45] w fun e w'=>e=.returned (.bool false)/\w.grownBy w' none):=fun w h=>by
  have:=CI.out 45 w (by decide) h
  rw [decide_eq_false hx] at this
  exact this
 have CI43:Hid (∀w,Ds w R s L O now de (.ok i)->Calls Tryz.prog 27 #[.pointer (some ⟨R,0,none⟩),.int .u8 43] w fun e w'=>e=.returned (.bool false)/\w.grownBy w' none):=fun w h=>by
  have:=CI.out 43 w (by decide) h
  rw [decide_eq_false hy] at this
  exact this
 have HD:Hid (Dd w R s L O now de i 0 0):=h
 have hai:i<=s.size:=by omega
 have hai1:i<=i+1:=by omega
 obtain ⟨G,hG⟩:∃G,intF s.data.toList i (i) false=G:=⟨_,rfl⟩
 rw [hG]
 have HG0:Hid ((if toR isDg s.data.toList i=i\/(1 < toR isDg s.data.toList i - i/\nx s.data.toList i=48) then .error (2,i)
  else if 18 < toR isDg s.data.toList i - i then .error (3,i)
  else .ok (if false=true then -(digN (subT s.data.toList i (toR isDg s.data.toList i - i)) 0:Int) else (digN (subT s.data.toList i (toR isDg s.data.toList i - i)) 0:Int),toR isDg s.data.toList i))=G):=hG
 obtain ⟨c0,c1,-,-,-,c5,-,-,df⟩:=h.cells
 have df1:=df 1
 have HST:Hid (∀k (hk:k < s.size),isDg (s[k].toNat:Int)=true->toR isDg s.data.toList k=toR isDg s.data.toList (k+1)):=fun k hk hb=>toR_step isDg _ k (by omega) (by rw [byte_at s k hk];exact hb)
 have HSP:Hid (∀k (hk:k < s.size),isDg (s[k].toNat:Int)=false->toR isDg s.data.toList k=k):=fun k hk hb=>toR_stop isDg _ k (by rw [byte_at s k hk];exact hb)
 have HEN:Hid (∀k,s.size<=k->toR isDg s.data.toList k=k):=fun k hk=>toR_end isDg _ k (by omega)
 have HSS:Hid (∀k n,satN (subT s.data.toList i (k - i)) 0=n->i<=k->(hk:k < s.size)->satN (subT s.data.toList i (k+1 - i)) 0=if n<=99999999999999999 then 10 * n+(s[k].toNat - 48) else 1000000000000000000):=fun k n h1 h2 h3=>sat_sub s.data.toList i k n h1 h2 (by omega)
 have HDS:Hid (∀k,(∀c ∈ subT s.data.toList i (k - i),c.toNat<=57)->i<=k->(hk:k < s.size)->s[k].toNat<=57->∀c ∈ subT s.data.toList i (k+1 - i),c.toNat<=57):=fun k h1 h2 h3 h4=>dig_sub s.data.toList i k h1 h2 (by omega) h4
 have HLO:Hid (∀k,(∀c ∈ subT s.data.toList i (k - i),c.toNat<=57)->i<=k->k<=s.size->k - i<=18->satN (subT s.data.toList i (k - i)) 0=digN (subT s.data.toList i (k - i)) 0/\digN (subT s.data.toList i (k - i)) 0<=999999999999999999):=fun k h1 h2 h3 h4=>int_low s.data.toList i k h1 h2 (by omega) h4
 have HHI:Hid (∀k,(∀c ∈ subT s.data.toList i (k - i),c.toNat<=57)->i<=k->k<=s.size->18 < k - i->49<=nx s.data.toList i->satN (subT s.data.toList i (k - i)) 0=1000000000000000000):=fun k h1 h2 h3 h4 h5=>int_high s.data.toList i k h1 h2 (by omega) h4 h5
 have HNX:Hid (¬ toR isDg s.data.toList i=i->48<=nx s.data.toList i/\nx s.data.toList i<=57):=dg_nx s.data.toList i
 have HXB:Hid (∀k (hk:k < s.size),nx s.data.toList k=(s[k].toNat:Int)):=byte_at s
 have HDI:Hid (Ds w R s L O now de (.ok i)):=⟨by omega,h⟩
 clear h hG df hx hy
 go_enter Tryz.func85,Tryz.ntmps85
 go_wp2_with (first | (go_at_call 27;refine (CI45.out _ HDI.out).mono ?_))
 first | rintro e w1 rfl hg1 | rintro e w1 ⟨rfl,hg1⟩
 have HG1:Hid (w.grownBy w1 none):=hg1
 clear hg1
 go_wp2_with (first | (go_at_call 27;refine (CI43.out _ (HDI.out.grow HG1.out)).mono ?_))
 first | rintro e w2 rfl hg2 | rintro e w2 ⟨rfl,hg2⟩
 have HG2:Hid (w.grownBy w2 none):=gb_trans HG1.out hg2
 clear hg2
 obtain ⟨e0,e1,-,-,-,e5,-,-,ef⟩:=(HD.out.grow HG2.out).cells
 have ef1:=ef 1
 clear ef
 have HDA:Hid (Dd w2 R s L O now de i 0 0):=by
  exact HD.out.grow HG2.out
 have HGA:Hid (w.grownBy w2 (some R)):=gb_more (gb_refl w (some R)) HG2.out
 go_wp2
 obtain ⟨wA,hwA⟩:∃W,w2=W:=⟨_,rfl⟩
 rw [hwA] at HDA HGA ⊢
 clear hwA
 go_loopw [6] (fun vn wr=>∃k n:Nat,vn=.int .i64 (n:Nat)/\Dd wr R s L O now de k 0 0/\i<=k/\k<=s.size/\toR isDg s.data.toList k=toR isDg s.data.toList i/\satN (subT s.data.toList i (k - i)) 0=n/\n<=1000000000000000000/\(∀c ∈ subT s.data.toList i (k - i),c.toNat<=57)/\w.grownBy wr (some R)) (fun _ wr=>s.size - dI wr R)
 case atStart=>exact ⟨i,0,rfl,HDA.out,by omega,hai,rfl,by rw [Nat.sub_self];rfl,by omega,fun c hc=>(by rw [Nat.sub_self] at hc;unfold subT at hc;rw [List.take_zero] at hc;cases hc),HGA.out⟩
 case round =>
  obtain ⟨k,n,rfl,hd,hak,hk,hto,hsat,hn18,hall,hg⟩:=hrel
  have HDK:Hid (Dd _ R s L O now de k 0 0):=hd
  have HGK:Hid (w.grownBy _ (some R)):=hg
  have HME:Hid (dI _ R=k):=dI_eq hd
  have HTO:Hid (toR isDg s.data.toList k=toR isDg s.data.toList i):=hto
  have HSA:Hid (satN (subT s.data.toList i (k - i)) 0=n):=hsat
  have HAL:Hid (∀c ∈ subT s.data.toList i (k - i),c.toNat<=57):=hall
  obtain ⟨c0,c1,-,-,-,c5,-,-,df⟩:=hd.cells
  have df1:=df 1
  clear hd hg hto hsat hall df
  by_cases hlt:k < s.size
  ·have hlt':decide ((k:Int) < (s.size:Int))=true:=by simp;omega
   have CB:Hid (∀w,Calls Tryz.prog 84 #[.int .u8 (s[k].toNat:Int)] w fun e w'=>e=.returned (.bool (isDg (s[k].toNat:Int)))/\w'=w):=dDigit_any s[k]
   have H1:Hid (isDg (s[k].toNat:Int)=true->toR isDg s.data.toList k=toR isDg s.data.toList (k+1)):=HST.out k hlt
   have H2:Hid (isDg (s[k].toNat:Int)=false->toR isDg s.data.toList k=k):=HSP.out k hlt
   have H3:Hid (isDg (s[k].toNat:Int)=true->48<=s[k].toNat/\s[k].toNat<=57):=fun hh=>by
    unfold isDg at hh
    have:=of_decide_eq_true hh
    omega
   have H4:Hid (satN (subT s.data.toList i (k+1 - i)) 0=if n<=99999999999999999 then 10 * n+(s[k].toNat - 48) else 1000000000000000000):=HSS.out k n HSA.out hak hlt
   have H5:Hid (s[k].toNat<=57->∀c ∈ subT s.data.toList i (k+1 - i),c.toNat<=57):=HDS.out k HAL.out hak hlt
   obtain ⟨b,hb⟩:∃b,isDg (s[k].toNat:Int)=b:=⟨_,rfl⟩
   rw [hb] at CB H1 H2 H3
   clear hb
   cases b with
   | true =>
    have HN:Hid (toR isDg s.data.toList (k+1)=toR isDg s.data.toList i):=(H1.out rfl).symm.trans HTO.out
    obtain ⟨h48,h57⟩:=H3.out rfl
    have HAN:=H5.out h57
    have HAN':Hid (∀c ∈ subT s.data.toList i (k+1 - i),c.toNat<=57):=HAN
    clear HAN
    go_wp2
    go_quiet (first | (go_at_call 84;exact Calls.quiet_of_same (CB.out _)))
    have HDB:Hid (Dd (wr.drewN nq) R s L O now de k 0 0):=HDK.out
    have HGB:Hid (w.grownBy (wr.drewN nq) (some R)):=gb_drew HGK.out nq
    obtain ⟨wB,hwB⟩:∃W,wr.drewN nq=W:=⟨_,rfl⟩
    rw [hwB] at HDB HGB ⊢
    obtain ⟨d0,d1,-,-,-,d5,-,-,dg⟩:=HDB.out.cells
    have dg1:=dg 1
    have HSB:Hid (Dd (wB.setCell ⟨R,1,none⟩ (.int .i64 ((k:Int)+1))) R s L O now de (k+1) 0 0):=HDB.out.setI (k+1)
    clear hwB dg
    by_cases hsm:n<=99999999999999999
    ·have hsmI:(n:Int)<=99999999999999999:=by omega
     have HSN:Hid (satN (subT s.data.toList i (k+1 - i)) 0=10 * n+(s[k].toNat - 48)):=by
      have:=H4.out
      rw [if_pos hsm] at this
      exact this
     have HCV:Hid (10 * (n:Int)+(s[k].toNat:Int) - 48=((10 * n+(s[k].toNat - 48):Nat):Int)):=by show _=_;omega
     go_wp2
     go_quiet (fail)
     have HDC:Hid (Dd (wB.drewN nq) R s L O now de k 0 0):=HDB.out
     have HGC:Hid (w.grownBy (wB.drewN nq) (some R)):=gb_drew HGB.out nq
     obtain ⟨wC,hwC⟩:∃W,wB.drewN nq=W:=⟨_,rfl⟩
     rw [hwC] at HDC HGC ⊢
     obtain ⟨f0,f1,-,-,-,f5,-,-,fg⟩:=HDC.out.cells
     have fg1:=fg 1
     have HSC:Hid (Dd (wC.setCell ⟨R,1,none⟩ (.int .i64 ((k:Int)+1))) R s L O now de (k+1) 0 0):=HDC.out.setI (k+1)
     clear hwC fg
     go_wp2
     refine ⟨⟨k+1,10 * n+(s[k].toNat - 48),by first | rfl | rw [HCV.out] | (congr 1;have:=HCV.out;omega),HSC.out,by omega,by omega,HN.out,HSN.out,by omega,HAN'.out,gb_set HGC.out 1 _⟩,?_⟩
     rw [HME.out,dI_eq HSC.out]
     omega
    ·have hsmI:¬ (n:Int)<=99999999999999999:=by omega
     have hsmJ:(99999999999999999:Int) < (n:Int):=by omega
     have HSN:Hid (satN (subT s.data.toList i (k+1 - i)) 0=1000000000000000000):=by
      have:=H4.out
      rw [if_neg hsm] at this
      exact this
     go_wp2
     refine ⟨⟨k+1,1000000000000000000,rfl,HSB.out,by omega,by omega,HN.out,HSN.out,by omega,HAN'.out,gb_set HGB.out 1 _⟩,?_⟩
     rw [HME.out,dI_eq HSB.out]
     omega
   | false =>
    have HJ:Hid (toR isDg s.data.toList i=k):=HTO.out.symm.trans (H2.out rfl)
    clear H1 H2 H3 H4 H5
    go_wp2
    go_quiet (first | (go_at_call 84;exact Calls.quiet_of_same (CB.out _)))
    have HDB:Hid (Dd (wr.drewN nq) R s L O now de k 0 0):=HDK.out
    have HGB:Hid (w.grownBy (wr.drewN nq) (some R)):=gb_drew HGK.out nq
    obtain ⟨wB,hwB⟩:∃W,wr.drewN nq=W:=⟨_,rfl⟩
    rw [hwB] at HDB HGB ⊢
    obtain ⟨d0,d1,-,-,-,d5,-,-,dg⟩:=HDB.out.cells
    clear hwB dg
    have HG9:=HG0.out
    rw [HJ.out] at HG9
    have HGJ:Hid ((if k=i\/(1 < k - i/\nx s.data.toList i=48) then .error (2,i)
     else if 18 < k - i then .error (3,i)
     else .ok (if false=true then -(digN (subT s.data.toList i (k - i)) 0:Int) else (digN (subT s.data.toList i (k - i)) 0:Int),k))=G):=HG9
    have HNJ:Hid (¬ k=i->48<=nx s.data.toList i/\nx s.data.toList i<=57):=fun hh=>HNX.out (by rw [HJ.out];exact hh)
    have hsub:IntKind.i64.wrap ((k:Int) - (i:Int))=(k:Int) - (i:Int):=by rw [IntKind.wrap_i64];omega
    clear HG9
    have CF2:Hid (∀wx,Dd wx R s L O now de k 0 0->Calls Tryz.prog 55 #[.pointer (some ⟨R,0,none⟩),.int .i64 2,.int .i64 (i:Nat)] wx fun en w'=>en=.returned (.tuple #[])/\Dd w' R s L O now de k 2 i/\wx.grownBy w' (some R)):=fun wx hg=>dFail_yes R s L O now de k 2 i wx hg
    have CF3:Hid (∀wx,Dd wx R s L O now de k 0 0->Calls Tryz.prog 55 #[.pointer (some ⟨R,0,none⟩),.int .i64 3,.int .i64 (i:Nat)] wx fun en w'=>en=.returned (.tuple #[])/\Dd w' R s L O now de k 3 i/\wx.grownBy w' (some R)):=fun wx hg=>dFail_yes R s L O now de k 3 i wx hg
    have CFN:Hid (∀wx,Dd wx R s L O now de k 2 i->Calls Tryz.prog 55 #[.pointer (some ⟨R,0,none⟩),.int .i64 3,.int .i64 (i:Nat)] wx fun en w'=>en=.returned (.tuple #[])/\w'=wx):=fun wx hg=>dFail_no R s L O now de k 2 i 3 i wx hg (by decide)
    by_cases hka:k=i
    ·have HGG:Hid (G=.error (2,i)):=by
      have:=HGJ.out
      rw [if_pos (Or.inl hka)] at this
      exact this.symm
     have hn0:n=0:=by
      have:=HSA.out
      rw [hka,Nat.sub_self] at this
      unfold subT at this
      rw [List.take_zero] at this
      exact this.symm
     have hbk:((k:Int) == (i:Int))=true:=by simp [hka]
     have hmx:(n:Int)<=999999999999999999:=by omega
     clear hka hn0
     go_wp2_with (first | (go_at_call 55;refine (CF2.out _ HDB.out).mono ?_;rintro e w3 ⟨rfl,hd3,hg3⟩))
     refine bodyPost_ret (results_tmp (t:=2) rfl _ _ _) rfl ?_
     rw [HGG.out]
     exact ⟨fun n j hh=>(by cases hh),fun c p hh=>(by cases hh;exact ⟨⟨_,rfl⟩,by decide,k,hk,hd3⟩),gb_two HGB.out hg3⟩
    ·have hbk:((k:Int) == (i:Int))=false:=by rw [beq_eq_false_iff_ne];omega
     have hal:i < s.size:=by omega
     have hxa:=HXB.out i hal
     obtain ⟨hn1,hn2⟩:=HNJ.out hka
     by_cases hlz:1 < k - i/\nx s.data.toList i=48
     ·have HGG:Hid (G=.error (2,i)):=by
       have:=HGJ.out
       rw [if_pos (Or.inr hlz)] at this
       exact this.symm
      have h1k:(1:Int) < (k:Int) - (i:Int):=by omega
      have hb48:((s[i].toNat:Int) == 48)=true:=by rw [<-hxa,hlz.2];rfl
      clear hlz hxa hn1 hn2
      by_cases hmx:n<=999999999999999999
      ·have hmI:(n:Int)<=999999999999999999:=by omega
       clear hka
       go_wp2_with (first | (go_at_call 55;refine (CF2.out _ HDB.out).mono ?_;rintro e w3 ⟨rfl,hd3,hg3⟩))
       refine bodyPost_ret (results_tmp (t:=2) rfl _ _ _) rfl ?_
       rw [HGG.out]
       exact ⟨fun n j hh=>(by cases hh),fun c p hh=>(by cases hh;exact ⟨⟨_,rfl⟩,by decide,k,hk,hd3⟩),gb_two HGB.out hg3⟩
      ·have hmI:(999999999999999999:Int) < (n:Int):=by omega
       clear hka
       go_wp2_with (first | (go_at_call 55;refine (CF2.out _ HDB.out).mono ?_))
       first | rintro e w3 rfl hd3 hg3 | rintro e w3 ⟨rfl,hd3,hg3⟩
       have HD3:Hid (Dd w3 R s L O now de k 2 i):=hd3
       have HG3:Hid (w.grownBy w3 (some R)):=gb_two HGB.out hg3
       clear hd3 hg3
       go_wp2_with (first | (go_at_call 55;refine (CFN.out _ HD3.out).mono ?_))
       first | rintro e w' rfl rfl | rintro e w' ⟨rfl,rfl⟩
       go_wp2
       refine bodyPost_ret (results_tmp (t:=2) rfl _ _ _) rfl ?_
       rw [HGG.out]
       exact ⟨fun n j hh=>(by cases hh),fun c p hh=>(by cases hh;exact ⟨⟨_,rfl⟩,by decide,k,hk,HD3.out⟩),HG3.out⟩
     ·have hno:¬ (k=i\/(1 < k - i/\nx s.data.toList i=48)):=by rintro (h | h);exact hka h;exact hlz h
      have hgd:((1:Int) < (k:Int) - (i:Int))->((s[i].toNat:Int) == 48)=false:=fun hh=>by
       rw [beq_eq_false_iff_ne,<-hxa]
       intro e
       exact hlz ⟨by omega,e⟩
      by_cases h18:18 < k - i
      ·have HGG:Hid (G=.error (3,i)):=by
        have:=HGJ.out
        rw [if_neg hno,if_pos h18] at this
        exact this.symm
       have hnn:n=1000000000000000000:=by rw [<-HSA.out];exact HHI.out k HAL.out hak hk h18 (by
        have:¬ nx s.data.toList i=48:=fun e=>hlz ⟨by omega,e⟩
        omega)
       have hmI:(999999999999999999:Int) < (n:Int):=by omega
       have h1k:(1:Int) < (k:Int) - (i:Int):=by omega
       have hb48:=hgd h1k
       clear hka hlz hno hgd h18 hnn hxa hn1 hn2
       go_wp2_with (first | (go_at_call 55;refine (CF3.out _ HDB.out).mono ?_;rintro e w3 ⟨rfl,hd3,hg3⟩))
       refine bodyPost_ret (results_tmp (t:=2) rfl _ _ _) rfl ?_
       rw [HGG.out]
       exact ⟨fun n j hh=>(by cases hh),fun c p hh=>(by cases hh;exact ⟨⟨_,rfl⟩,by decide,k,hk,hd3⟩),gb_two HGB.out hg3⟩
      ·obtain ⟨hlo1,hlo2⟩:=HLO.out k HAL.out hak hk (by omega)
       have hnd:digN (subT s.data.toList i (k - i)) 0=n:=hlo1.symm.trans HSA.out
       have HGG:Hid (G=.ok ((n:Int),k)):=by
        have:=HGJ.out
        rw [if_neg hno,if_neg h18,hnd] at this
        exact this.symm
       have hmI:(n:Int)<=999999999999999999:=by omega
       by_cases h1k:(1:Int) < (k:Int) - (i:Int)
       ·have hb48:=hgd h1k
        clear hka hlz hno hgd h18 hlo1 hlo2 hnd hxa hn1 hn2
        go_wp2
        refine bodyPost_ret (results_tmp (t:=2) rfl _ _ _) rfl ?_
        rw [HGG.out]
        exact ⟨fun n j hh=>(by cases hh;exact ⟨rfl,hk,HDB.out⟩),fun c p hh=>(by cases hh),HGB.out⟩
       ·have h1l:(k:Int) - (i:Int)<=1:=by omega
        clear hka hlz hno hgd h18 hlo1 hlo2 hnd hxa hn1 hn2
        go_wp2
        refine bodyPost_ret (results_tmp (t:=2) rfl _ _ _) rfl ?_
        rw [HGG.out]
        exact ⟨fun n j hh=>(by cases hh;exact ⟨rfl,hk,HDB.out⟩),fun c p hh=>(by cases hh),HGB.out⟩
  ·have hge:decide ((k:Int) < (s.size:Int))=false:=by simp;omega
   have HJ:Hid (toR isDg s.data.toList i=k):=HTO.out.symm.trans (HEN.out k (by omega))
   go_wp2
   go_quiet (fail)
   have HDB:Hid (Dd (wr.drewN nq) R s L O now de k 0 0):=HDK.out
   have HGB:Hid (w.grownBy (wr.drewN nq) (some R)):=gb_drew HGK.out nq
   obtain ⟨wB,hwB⟩:∃W,wr.drewN nq=W:=⟨_,rfl⟩
   rw [hwB] at HDB HGB ⊢
   obtain ⟨d0,d1,-,-,-,d5,-,-,dg⟩:=HDB.out.cells
   clear hwB dg
   have HG9:=HG0.out
   rw [HJ.out] at HG9
   have HGJ:Hid ((if k=i\/(1 < k - i/\nx s.data.toList i=48) then .error (2,i)
    else if 18 < k - i then .error (3,i)
    else .ok (if false=true then -(digN (subT s.data.toList i (k - i)) 0:Int) else (digN (subT s.data.toList i (k - i)) 0:Int),k))=G):=HG9
   have HNJ:Hid (¬ k=i->48<=nx s.data.toList i/\nx s.data.toList i<=57):=fun hh=>HNX.out (by rw [HJ.out];exact hh)
   have hsub:IntKind.i64.wrap ((k:Int) - (i:Int))=(k:Int) - (i:Int):=by rw [IntKind.wrap_i64];omega
   clear HG9
   have CF2:Hid (∀wx,Dd wx R s L O now de k 0 0->Calls Tryz.prog 55 #[.pointer (some ⟨R,0,none⟩),.int .i64 2,.int .i64 (i:Nat)] wx fun en w'=>en=.returned (.tuple #[])/\Dd w' R s L O now de k 2 i/\wx.grownBy w' (some R)):=fun wx hg=>dFail_yes R s L O now de k 2 i wx hg
   have CF3:Hid (∀wx,Dd wx R s L O now de k 0 0->Calls Tryz.prog 55 #[.pointer (some ⟨R,0,none⟩),.int .i64 3,.int .i64 (i:Nat)] wx fun en w'=>en=.returned (.tuple #[])/\Dd w' R s L O now de k 3 i/\wx.grownBy w' (some R)):=fun wx hg=>dFail_yes R s L O now de k 3 i wx hg
   have CFN:Hid (∀wx,Dd wx R s L O now de k 2 i->Calls Tryz.prog 55 #[.pointer (some ⟨R,0,none⟩),.int .i64 3,.int .i64 (i:Nat)] wx fun en w'=>en=.returned (.tuple #[])/\w'=wx):=fun wx hg=>dFail_no R s L O now de k 2 i 3 i wx hg (by decide)
   by_cases hka:k=i
   ·have HGG:Hid (G=.error (2,i)):=by
     have:=HGJ.out
     rw [if_pos (Or.inl hka)] at this
     exact this.symm
    have hn0:n=0:=by
     have:=HSA.out
     rw [hka,Nat.sub_self] at this
     unfold subT at this
     rw [List.take_zero] at this
     exact this.symm
    have hbk:((k:Int) == (i:Int))=true:=by simp [hka]
    have hmx:(n:Int)<=999999999999999999:=by omega
    clear hka hn0
    go_wp2_with (first | (go_at_call 55;refine (CF2.out _ HDB.out).mono ?_;rintro e w3 ⟨rfl,hd3,hg3⟩))
    refine bodyPost_ret (results_tmp (t:=2) rfl _ _ _) rfl ?_
    rw [HGG.out]
    exact ⟨fun n j hh=>(by cases hh),fun c p hh=>(by cases hh;exact ⟨⟨_,rfl⟩,by decide,k,hk,hd3⟩),gb_two HGB.out hg3⟩
   ·have hbk:((k:Int) == (i:Int))=false:=by rw [beq_eq_false_iff_ne];omega
    have hal:i < s.size:=by omega
    have hxa:=HXB.out i hal
    obtain ⟨hn1,hn2⟩:=HNJ.out hka
    by_cases hlz:1 < k - i/\nx s.data.toList i=48
    ·have HGG:Hid (G=.error (2,i)):=by
      have:=HGJ.out
      rw [if_pos (Or.inr hlz)] at this
      exact this.symm
     have h1k:(1:Int) < (k:Int) - (i:Int):=by omega
     have hb48:((s[i].toNat:Int) == 48)=true:=by rw [<-hxa,hlz.2];rfl
     clear hlz hxa hn1 hn2
     by_cases hmx:n<=999999999999999999
     ·have hmI:(n:Int)<=999999999999999999:=by omega
      clear hka
      go_wp2_with (first | (go_at_call 55;refine (CF2.out _ HDB.out).mono ?_;rintro e w3 ⟨rfl,hd3,hg3⟩))
      refine bodyPost_ret (results_tmp (t:=2) rfl _ _ _) rfl ?_
      rw [HGG.out]
      exact ⟨fun n j hh=>(by cases hh),fun c p hh=>(by cases hh;exact ⟨⟨_,rfl⟩,by decide,k,hk,hd3⟩),gb_two HGB.out hg3⟩
     ·have hmI:(999999999999999999:Int) < (n:Int):=by omega
      clear hka
      go_wp2_with (first | (go_at_call 55;refine (CF2.out _ HDB.out).mono ?_))
      first | rintro e w3 rfl hd3 hg3 | rintro e w3 ⟨rfl,hd3,hg3⟩
      have HD3:Hid (Dd w3 R s L O now de k 2 i):=hd3
      have HG3:Hid (w.grownBy w3 (some R)):=gb_two HGB.out hg3
      clear hd3 hg3
      go_wp2_with (first | (go_at_call 55;refine (CFN.out _ HD3.out).mono ?_))
      first | rintro e w' rfl rfl | rintro e w' ⟨rfl,rfl⟩
      go_wp2
      refine bodyPost_ret (results_tmp (t:=2) rfl _ _ _) rfl ?_
      rw [HGG.out]
      exact ⟨fun n j hh=>(by cases hh),fun c p hh=>(by cases hh;exact ⟨⟨_,rfl⟩,by decide,k,hk,HD3.out⟩),HG3.out⟩
    ·have hno:¬ (k=i\/(1 < k - i/\nx s.data.toList i=48)):=by rintro (h | h);exact hka h;exact hlz h
     have hgd:((1:Int) < (k:Int) - (i:Int))->((s[i].toNat:Int) == 48)=false:=fun hh=>by
      rw [beq_eq_false_iff_ne,<-hxa]
      intro e
      exact hlz ⟨by omega,e⟩
     by_cases h18:18 < k - i
     ·have HGG:Hid (G=.error (3,i)):=by
       have:=HGJ.out
       rw [if_neg hno,if_pos h18] at this
       exact this.symm
      have hnn:n=1000000000000000000:=by rw [<-HSA.out];exact HHI.out k HAL.out hak hk h18 (by
       have:¬ nx s.data.toList i=48:=fun e=>hlz ⟨by omega,e⟩
       omega)
      have hmI:(999999999999999999:Int) < (n:Int):=by omega
      have h1k:(1:Int) < (k:Int) - (i:Int):=by omega
      have hb48:=hgd h1k
      clear hka hlz hno hgd h18 hnn hxa hn1 hn2
      go_wp2_with (first | (go_at_call 55;refine (CF3.out _ HDB.out).mono ?_;rintro e w3 ⟨rfl,hd3,hg3⟩))
      refine bodyPost_ret (results_tmp (t:=2) rfl _ _ _) rfl ?_
      rw [HGG.out]
      exact ⟨fun n j hh=>(by cases hh),fun c p hh=>(by cases hh;exact ⟨⟨_,rfl⟩,by decide,k,hk,hd3⟩),gb_two HGB.out hg3⟩
     ·obtain ⟨hlo1,hlo2⟩:=HLO.out k HAL.out hak hk (by omega)
      have hnd:digN (subT s.data.toList i (k - i)) 0=n:=hlo1.symm.trans HSA.out
      have HGG:Hid (G=.ok ((n:Int),k)):=by
       have:=HGJ.out
       rw [if_neg hno,if_neg h18,hnd] at this
       exact this.symm
      have hmI:(n:Int)<=999999999999999999:=by omega
      by_cases h1k:(1:Int) < (k:Int) - (i:Int)
      ·have hb48:=hgd h1k
       clear hka hlz hno hgd h18 hlo1 hlo2 hnd hxa hn1 hn2
       go_wp2
       refine bodyPost_ret (results_tmp (t:=2) rfl _ _ _) rfl ?_
       rw [HGG.out]
       exact ⟨fun n j hh=>(by cases hh;exact ⟨rfl,hk,HDB.out⟩),fun c p hh=>(by cases hh),HGB.out⟩
      ·have h1l:(k:Int) - (i:Int)<=1:=by omega
       clear hka hlz hno hgd h18 hlo1 hlo2 hnd hxa hn1 hn2
       go_wp2
       refine bodyPost_ret (results_tmp (t:=2) rfl _ _ _) rfl ?_
       rw [HGG.out]
       exact ⟨fun n j hh=>(by cases hh;exact ⟨rfl,hk,HDB.out⟩),fun c p hh=>(by cases hh),HGB.out⟩
end Go.Proofs.YtbgnflcebafjjaaGreatDoor
namespace Go.Proofs.YtbgnflcebafjjaaGreatDoor
open Go.RowKit Go.Joins
set_option linter.unusedVariables false
theorem dInt_any (R:Nat) (s:ByteArray) (L O:Value) (now de i:Nat) (w:World) (h:Dd w R s L O now de i 0 0) (hi:i < s.size) (hs:s.size<=1048576) (hx:nx s.data.toList i=43\/nx s.data.toList i=45\/isDg (nx s.data.toList i)=true) :
  Calls Tryz.prog 85 #[.pointer (some ⟨R,0,none⟩)] w (InPost R s L O now de (rdInt s.data.toList i) w):=by
 rw [rdInt_f]
 by_cases h45:nx s.data.toList i=45
 ·rw [decide_eq_true h45,if_neg (by rw [h45];decide)]
  exact dInt_m R s L O now de i w h hi hs h45
 ·rw [decide_eq_false h45]
  by_cases h43:nx s.data.toList i=43
  ·rw [if_neg (by rw [h43];decide)]
   exact dInt_p R s L O now de i w h hi hs h45 h43
  ·rw [if_pos (by rcases hx with h | h | h;exact (h43 h).elim;exact (h45 h).elim;exact h)]
   exact dInt_d R s L O now de i w h hi hs h45 h43
set_option linter.unusedVariables false
structure Jt (ns:List Tn) (own:List Nat) (t:Nat):Prop where
 wf:WF ns own
 wt:WT ns
 lt:t < ns.length
 kd:kdAt ns t=0
theorem kdAt_lt {ns:List Tn} {t:Nat} {z:Int} (h:kdAt ns t=z) (hz:0<=z):t < ns.length:=by
 apply Classical.byContradiction
 intro hn
 unfold kdAt at h
 rw [List.getElem?_eq_none (by omega)] at h
 simp only [] at h
 omega
theorem wt_add (ns:List Tn) (own:List Nat) (W:WF ns own) (up:Nat) (n:Tn) (hu:up < ns.length) (h:WT ns) (h1:¬ n.kd=2) (h2:¬ kdAt ns up=2\/n.kd=0):WT (addN ns up n):=by
 intro q hq
 rw [kdAt_addN ns up n hu] at hq
 by_cases hn:q=ns.length
 ·rw [if_pos hn] at hq;exact absurd hq h1
 ·rw [if_neg hn] at hq
  obtain ⟨a,b⟩:=h q hq
  rw [ksAt_addN ns up n hu,if_neg hn]
  by_cases hqu:q=up
  ·subst hqu
   rw [if_pos rfl]
   refine ⟨by simp,fun x hx=>?_⟩
   rw [kdAt_addN ns q n hu]
   rcases List.mem_append.1 hx with hx | hx
   ·have:=W.lt _ _ hx
    rw [if_neg (by omega)]
    exact b x hx
   ·rw [if_pos (by simpa using hx)]
    rcases h2 with h2 | h2
    ·exact absurd hq h2
    ·exact h2
  ·rw [if_neg hqu]
   refine ⟨a,fun x hx=>?_⟩
   have:=W.lt _ _ hx
   rw [kdAt_addN ns up n hu,if_neg (by omega)]
   exact b x hx
theorem jt_add {ns:List Tn} {own:List Nat} {t:Nat} (J:Jt ns own t) (n:Tn) (hn:n.ks=[]) (h0:n.kd=0):Jt (addN ns t n) own ns.length:=by
 refine ⟨wf_add ns own t n hn J.lt J.wf,wt_add ns own J.wf t n J.lt J.wt (by rw [h0];decide) (Or.inr h0),by rw [addN_len];omega,?_⟩
 rw [kdAt_addN ns t n J.lt,if_pos rfl];exact h0
theorem stp_ok {ns ns':List Tn} {own:List Nat} {t t' p:Nat} {k:List UInt8} (J:Jt ns own t) (h:stp ns t k p=.ok (t',ns')):Jt ns' own t'/\ns.length<=ns'.length/\ns'.length<=ns.length+1:=by
 unfold stp at h
 cases hq:kidO ns t k with
 | none =>
  rw [hq] at h
  cases h
  exact ⟨jt_add J _ rfl rfl,by rw [addN_len];omega,by rw [addN_len];omega⟩
 | some q =>
  rw [hq] at h
  simp only [] at h
  by_cases h0:kdAt ns q=0
  ·rw [if_pos h0] at h
   cases h
   exact ⟨⟨J.wf,J.wt,kdAt_lt h0 (by omega),h0⟩,by omega,by omega⟩
  ·rw [if_neg h0] at h
   by_cases h2:kdAt ns q=2
   ·have hl:=kdAt_lt h2 (by omega)
    rw [if_pos h2,List.getElem?_eq_getElem hl] at h
    simp only [] at h
    obtain ⟨a,b⟩:=J.wt q h2
    have hks:ksAt ns q=ns[q].ks:=by unfold ksAt;rw [List.getElem?_eq_getElem hl]
    rw [hks] at a b
    have hm:ns[q].ks.getLastD 0 ∈ ns[q].ks:=by
     rw [List.getLastD_eq_getLast?,List.getLast?_eq_some_getLast a]
     exact List.getLast_mem a
    have hkd:=b _ hm
    cases h
    exact ⟨⟨J.wf,J.wt,kdAt_lt hkd (by omega),hkd⟩,by omega,by omega⟩
   ·rw [if_neg h2] at h;cases h
theorem endT_ok {ns ns':List Tn} {own:List Nat} {t t' p:Nat} {k:List UInt8} (J:Jt ns own t) (h:endT ns own t k p=.ok (t',ns')):Jt ns' (t' :: own) t'/\ns.length<=ns'.length/\ns'.length<=ns.length+2:=by
 unfold endT at h
 have fin:∀{n:List Tn} {q:Nat},Jt n own q->Jt n (q :: own) q:=fun j=>⟨wf_own _ _ j.wf _ j.lt,j.wt,j.lt,j.kd⟩
 cases hq:kidO ns t k with
 | none =>
  rw [hq] at h
  cases h
  exact ⟨fin (jt_add J _ rfl rfl),by rw [addN_len];omega,by rw [addN_len];omega⟩
 | some q =>
  rw [hq] at h
  simp only [] at h
  by_cases h0:kdAt ns q=0/\¬ q ∈ own
  ·rw [if_pos h0] at h
   cases h
   exact ⟨fin ⟨J.wf,J.wt,kdAt_lt h0.1 (by omega),h0.1⟩,by omega,by omega⟩
  ·rw [if_neg h0] at h;cases h
theorem endL_ok {ns ns':List Tn} {own:List Nat} {t t' p:Nat} {k:List UInt8} (J:Jt ns own t) (h:endL ns t k p=.ok (t',ns')):Jt ns' (t' :: own) t'/\ns.length<=ns'.length/\ns'.length<=ns.length+2:=by
 unfold endL at h
 have fin:∀{n:List Tn} {q:Nat},Jt n own q->Jt n (q :: own) q:=fun j=>⟨wf_own _ _ j.wf _ j.lt,j.wt,j.lt,j.kd⟩
 cases hq:kidO ns t k with
 | none =>
  rw [hq] at h
  cases h
  have hu:ns.length < (addN ns t ⟨2,k,[],0,[],p⟩).length:=by rw [addN_len];omega
  have w1:=wf_add ns own t ⟨2,k,[],0,[],p⟩ rfl J.lt J.wf
  have w2:=wf_add _ own ns.length ⟨0,[],[],0,[],p⟩ rfl hu w1
  have hl:(addN ns t ⟨2,k,[],0,[],p⟩).length=ns.length+1:=addN_len _ _ _
  refine ⟨fin ⟨w2,?_,by rw [addN_len,addN_len];omega,?_⟩,by rw [addN_len,addN_len];omega,by rw [addN_len,addN_len];omega⟩
  ·intro q h2
   rw [kdAt_addN _ _ _ hu,hl] at h2
   by_cases e1:q=ns.length+1
   ·rw [if_pos e1] at h2;exact absurd (show (0:Int)=2 from h2) (by decide)
   ·rw [if_neg e1,kdAt_addN _ _ _ J.lt] at h2
    rw [ksAt_addN _ _ _ hu,hl,if_neg e1]
    by_cases e2:q=ns.length
    ·rw [if_pos e2]
     refine ⟨by simp,fun x hx=>?_⟩
     rw [ksAt_addN _ _ _ J.lt,if_pos rfl] at hx
     simp only [List.nil_append,List.mem_singleton] at hx
     rw [kdAt_addN _ _ _ hu,hl,if_pos hx]
    ·rw [if_neg e2] at h2
     rw [if_neg e2]
     obtain ⟨a,b⟩:=J.wt q h2
     have hqt:¬ q=t:=fun e=>by rw [e,J.kd] at h2;exact absurd h2 (by decide)
     rw [ksAt_addN _ _ _ J.lt,if_neg e2,if_neg hqt]
     refine ⟨a,fun x hx=>?_⟩
     have:=J.wf.lt _ _ hx
     rw [kdAt_addN _ _ _ hu,hl,if_neg (by omega),kdAt_addN _ _ _ J.lt,if_neg (by omega)]
     exact b x hx
  ·rw [kdAt_addN _ _ _ hu,hl,if_pos rfl]
 | some q =>
  rw [hq] at h
  simp only [] at h
  by_cases h2:kdAt ns q=2
  ·rw [if_pos h2] at h
   cases h
   have hu:=kdAt_lt h2 (by omega)
   refine ⟨fin ⟨wf_add ns own q _ rfl hu J.wf,wt_add ns own J.wf q _ hu J.wt (fun e=>absurd (show (0:Int)=2 from e) (by decide)) (Or.inr rfl),by rw [addN_len];omega,?_⟩,by rw [addN_len];omega,by rw [addN_len];omega⟩
   rw [kdAt_addN _ _ _ hu,if_pos rfl]
  ·rw [if_neg h2] at h;cases h
theorem way_one (many:Bool) (own:List Nat) (k:List UInt8) (p t:Nat) (ns:List Tn):way many own [(k,p)] t ns=if many=true then endL ns t k p else endT ns own t k p:=rfl
theorem way_more (many:Bool) (own:List Nat) (k:List UInt8) (p:Nat) (b:List UInt8 × Nat) (r:List (List UInt8 × Nat)) (t:Nat) (ns:List Tn):way many own ((k,p) :: b :: r) t ns=match stp ns t k p with | .error e=>.error e | .ok (t1,ns1)=>way many own (b :: r) t1 ns1:=rfl
theorem way_ok (many:Bool) (own:List Nat):∀(l:List (List UInt8 × Nat)) (t:Nat) (ns ns':List Tn) (t':Nat),l ≠ []->Jt ns own t->way many own l t ns=.ok (t',ns')->Jt ns' (t' :: own) t'/\ns.length<=ns'.length/\ns'.length<=ns.length+l.length+1
 | [],_,_,_,_,hl,_,_=>absurd rfl hl
 | [(k,p)],t,ns,ns',t',_,J,h=>by
  rw [way_one] at h
  split at h
  ·obtain ⟨a,b,c⟩:=endL_ok J h
   exact ⟨a,b,by simp;omega⟩
  ·obtain ⟨a,b,c⟩:=endT_ok J h
   exact ⟨a,b,by simp;omega⟩
 | (k,p) :: b :: r,t,ns,ns',t',_,J,h=>by
  rw [way_more] at h
  cases hs:stp ns t k p with
  | error e=>rw [hs] at h;cases h
  | ok q =>
   obtain ⟨t1,ns1⟩:=q
   rw [hs] at h
   obtain ⟨a,b',c⟩:=stp_ok J hs
   obtain ⟨a2,b2,c2⟩:=way_ok many own (b :: r) t1 ns1 ns' t' (by simp) a h
   refine ⟨a2,by omega,?_⟩
   simp only [List.length_cons] at c2 ⊢
   omega
end Go.Proofs.YtbgnflcebafjjaaGreatDoor
namespace Go.Proofs.YtbgnflcebafjjaaGreatDoor
open Go.RowKit Go.Joins
set_option linter.unusedVariables false
theorem esc_len (l:List UInt8) (i n j:Nat) (hi:i < l.length) (h:escN l i=.ok (n,j)):(wrt n).length+i<=j:=by
 have h0:=h
 unfold escN at h
 split at h
 ·rename_i hx
  have hlt:i+1 < l.length:=nx_lt (by rw [hx];decide)
  unfold numB at h
  cases hf:four l 4 (i+2) 0 with
  | error e=>rw [hf] at h;cases h
  | ok q =>
   obtain ⟨m,k⟩:=q
   rw [hf] at h
   have h2:(if sur m=true then Except.error (2,i) else Except.ok (m,k):Rs (Nat × Nat))=.ok (n,j):=h
   split at h2
   ·cases h2
   ·cases h2
    obtain ⟨h3,h4,h5⟩:=four_ok l 4 (i+2) 0 n j (by omega) hf
    have:=wrt_len n
    omega
 ·cases hc:escC (nx l (i+1)) with
  | none=>rw [hc] at h;cases h
  | some m =>
   rw [hc] at h
   cases h
   obtain ⟨h1,h2⟩:=escC_small _ _ hc
   unfold wrt
   rw [if_pos h1]
   simp;omega
theorem str_ok (l:List UInt8):∀(f i:Nat) (acc t:List UInt8) (j:Nat),i<=l.length->str l f i acc=.ok (t,j)->i < j/\j<=l.length/\t.length+i<=acc.length+j:=by
 intro f
 induction f with
 | zero=>intro i acc t j hi h;cases h
 | succ f ih =>
  intro i acc t j hi h
  rw [str_step] at h
  split at h
  ·rename_i hx
   have:=nx_lt (l:=l) (i:=i) (by rw [hx];decide)
   cases h
   exact ⟨by omega,by omega,by omega⟩
  ·split at h
   ·rename_i hx
    have hlt:=nx_lt (l:=l) (i:=i) (by rw [hx];decide)
    rw [esc_escN] at h
    cases he:escN l i with
    | error e=>rw [he] at h;cases h
    | ok q =>
     obtain ⟨n,k⟩:=q
     rw [he] at h
     have h2:str l f k (acc++wrt n)=.ok (t,j):=h
     obtain ⟨-,-,e3,e4⟩:=escN_ok l i n k hlt he
     have e5:=esc_len l i n k hlt he
     obtain ⟨a,b,c⟩:=ih k _ t j e4 h2
     rw [List.length_append] at c
     exact ⟨by omega,b,by omega⟩
   ·split at h
    ·cases h
    ·split at h
     ·cases h
     ·rename_i hs
      have hk:=seqN_ok l i hi
      obtain ⟨a,b,c⟩:=ih (i+seqN l i) _ t j hk h
      have hl:(subT l i (seqN l i)).length<=seqN l i:=by
       unfold subT
       simp
       omega
      rw [List.length_append] at c
      exact ⟨by omega,b,by omega⟩
theorem rdKey_ok (l:List UInt8) (i:Nat) (k:List UInt8) (j:Nat) (hi:i<=l.length) (h:rdKey l i=.ok (k,j)):i < j/\j<=l.length/\k.length<=l.length:=by
 unfold rdKey at h
 split at h
 ·rename_i hx
  have hlt:=nx_lt (l:=l) (i:=i) (by rw [hx];decide)
  obtain ⟨a,b,c⟩:=str_ok l _ (i+1) [] k j (by omega) h
  simp at c
  exact ⟨by omega,b,by omega⟩
 ·split at h
  ·cases h
  ·rename_i hn
   have:=toR_le isBa l i hi
   cases h
   refine ⟨by omega,by omega,?_⟩
   unfold subT
   simp
   omega
end Go.Proofs.YtbgnflcebafjjaaGreatDoor
namespace Go.Proofs.YtbgnflcebafjjaaGreatDoor
open Go.RowKit Go.Joins
set_option linter.unusedVariables false
theorem gap_ok (l:List UInt8):∀(f i j:Nat),i<=l.length->gap l f i=.ok j->i<=j/\j<=l.length:=by
 intro f
 induction f with
 | zero=>intro i j hi h;cases h
 | succ f ih =>
  intro i j hi h
  rw [gap_step] at h
  have h1:=bl_le l i hi
  have h2:=cmt_le l (bl l i) h1.2
  split at h
  ·cases h
  ·split at h
   ·rename_i hx
    have h3:=nx_lt (l:=l) (i:=(cmt l (bl l i)).2) (by rw [hx];decide)
    have:=ih _ j (by omega) h
    omega
   ·cases h
    omega
theorem rdInt_ok (l:List UInt8) (i:Nat) (n:Int) (j:Nat) (hi:i < l.length) (h:rdInt l i=.ok (n,j)):i < j/\j<=l.length:=by
 unfold rdInt at h
 simp only [] at h
 have ha:i<=(if isDg (nx l i)=true then i else i+1)/\(if isDg (nx l i)=true then i else i+1)<=l.length:=by split <;> omega
 generalize (if isDg (nx l i)=true then i else i+1)=a at h ha
 have hj:=toR_le isDg l a ha.2
 split at h
 ·cases h
 ·rename_i hn
  split at h
  ·cases h
  ·have hne:¬ toR isDg l a=a:=fun e=>hn (Or.inl e)
   cases h
   omega
theorem rdTru_ok (l:List UInt8) (i:Nat) (n:Int) (j:Nat) (hi:i<=l.length) (h:rdTru l i=.ok (n,j)):i < j/\j<=l.length:=by
 rw [rdTru_eq] at h
 have hj:=toR_le isSm l i hi
 have key:∀t:List UInt8,subT l i (toR isSm l i - i)=t->t ≠ []->i < toR isSm l i:=fun t e ht=>by
  apply Classical.byContradiction
  intro hn
  apply ht
  rw [<-e]
  unfold subT
  rw [show toR isSm l i - i=0 by omega]
  simp
 split at h
 ·rename_i e
  have:=key _ e (by simp)
  cases h
  omega
 ·split at h
  ·rename_i e
   have:=key _ e (by simp)
   cases h
   omega
  ·cases h
structure Ad (ns ns':List Tn) (own:List Nat) (i j n:Nat):Prop where
 wf:WF ns' own
 wt:WT ns'
 lo:ns.length<=ns'.length
 hi:ns'.length+i<=ns.length+j
 kd:∀q,q < ns.length->kdAt ns' q=kdAt ns q
 fw:i < j
 en:j<=n
theorem ad_one {ns:List Tn} {own:List Nat} {up i j n:Nat} {x:Tn} (W:WF ns own) (V:WT ns) (hu:up < ns.length) (h2:¬ kdAt ns up=2) (hx:x.ks=[]) (hk:¬ x.kd=2) (hij:i < j) (hjn:j<=n):Ad ns (addN ns up x) own i j n :=
 ⟨wf_add ns own up x hx hu W,wt_add ns own W up x hu V hk (Or.inl h2),by rw [addN_len];omega,by rw [addN_len];omega,fun q hq=>by rw [kdAt_addN ns up x hu,if_neg (by omega)],hij,hjn⟩
theorem Ad.trans {a b c:List Tn} {own:List Nat} {i j k n:Nat} (h:Ad a b own i j n) (h':Ad b c own j k n):Ad a c own i k n :=
 ⟨h'.wf,h'.wt,Nat.le_trans h.lo h'.lo,by have:=h.hi;have:=h'.hi;omega,fun q hq=>(h'.kd q (Nat.lt_of_lt_of_le hq h.lo)).trans (h.kd q hq),Nat.lt_trans h.fw h'.fw,h'.en⟩
theorem val_step (l:List UInt8) (f i up:Nat) (k:List UInt8) (p d:Nat) (ns:List Tn):val l (f+1) i up k p d ns =
  if nx l i=34 then (match str l (l.length+1) (i+1) [] with | .error e=>.error e | .ok (t,j)=>.ok (j,addN ns up ⟨3,k,t,0,[],p⟩))
  else if nx l i=43\/nx l i=45\/isDg (nx l i)=true then (match rdInt l i with | .error e=>.error e | .ok (n,j)=>.ok (j,addN ns up ⟨4,k,[],n,[],p⟩))
  else if nx l i=116\/nx l i=102 then (match rdTru l i with | .error e=>.error e | .ok (n,j)=>.ok (j,addN ns up ⟨5,k,[],n,[],p⟩))
  else if nx l i=91 then (if d=8 then .error (4,i) else lst l f (i+1) ns.length (d+1) (addN ns up ⟨1,k,[],0,[],p⟩))
  else .error (2,i):=by
 rw [val]
 rfl
theorem lst_step (l:List UInt8) (f i up d:Nat) (ns:List Tn):lst l (f+1) i up d ns =
  match gap l (l.length+1) i with
  | .error e=>.error e
  | .ok j =>
   if nx l j=93 then .ok (j+1,ns)
   else match val l f j up [] j d ns with
    | .error e=>.error e
    | .ok (j1,ns1)=>match gap l (l.length+1) j1 with
     | .error e=>.error e
     | .ok j2=>if nx l j2=44 then lst l f (j2+1) up d ns1 else if nx l j2=93 then .ok (j2+1,ns1) else .error (2,j2):=by
 rw [lst]
 rfl
theorem val_lst_ok (l:List UInt8) (own:List Nat):∀f:Nat,(∀i up k p d ns j ns',i<=l.length->WF ns own->WT ns->up < ns.length->¬ kdAt ns up=2->val l f i up k p d ns=.ok (j,ns')->Ad ns ns' own i j l.length)/\(∀i up d ns j ns',i<=l.length->WF ns own->WT ns->up < ns.length->¬ kdAt ns up=2->lst l f i up d ns=.ok (j,ns')->WF ns' own/\WT ns'/\ns.length<=ns'.length/\ns'.length+i<=ns.length+j/\(∀q,q < ns.length->kdAt ns' q=kdAt ns q)/\i < j/\j<=l.length):=by
 intro f
 induction f with
 | zero =>
  refine ⟨fun i up k p d ns j ns' _ _ _ _ _ h=>?_,fun i up d ns j ns' _ _ _ _ _ h=>?_⟩
  ·rw [val] at h;cases h
  ·rw [lst] at h;cases h
 | succ f ih =>
  refine ⟨fun i up k p d ns j ns' hi W V hu h2 h=>?_,fun i up d ns j ns' hi W V hu h2 h=>?_⟩
  ·rw [val_step] at h
   split at h
   ·rename_i hx
    have hlt:=nx_lt (l:=l) (i:=i) (by rw [hx];decide)
    cases hs:str l (l.length+1) (i+1) [] with
    | error e=>rw [hs] at h;cases h
    | ok q =>
     obtain ⟨t,j'⟩:=q
     rw [hs] at h
     obtain ⟨a,b,-⟩:=str_ok l _ (i+1) [] t j' (by omega) hs
     cases h
     exact ad_one W V hu h2 rfl (fun e=>absurd (show (3:Int)=2 from e) (by decide)) (by omega) b
   ·split at h
    ·rename_i hx
     have hlt:i < l.length:=by
      apply nx_lt
      rcases hx with hx | hx | hx
      ·rw [hx];decide
      ·rw [hx];decide
      ·have:=of_decide_eq_true hx;omega
     cases hs:rdInt l i with
     | error e=>rw [hs] at h;cases h
     | ok q =>
      obtain ⟨t,j'⟩:=q
      rw [hs] at h
      obtain ⟨a,b⟩:=rdInt_ok l i t j' hlt hs
      cases h
      exact ad_one W V hu h2 rfl (fun e=>absurd (show (4:Int)=2 from e) (by decide)) a b
    ·split at h
     ·cases hs:rdTru l i with
      | error e=>rw [hs] at h;cases h
      | ok q =>
       obtain ⟨t,j'⟩:=q
       rw [hs] at h
       obtain ⟨a,b⟩:=rdTru_ok l i t j' hi hs
       cases h
       exact ad_one W V hu h2 rfl (fun e=>absurd (show (5:Int)=2 from e) (by decide)) a b
     ·split at h
      ·rename_i hx
       have hlt:=nx_lt (l:=l) (i:=i) (by rw [hx];decide)
       split at h
       ·cases h
       ·have A:=ad_one (i:=i) (j:=i+1) (n:=l.length) (x:=⟨1,k,[],0,[],p⟩) W V hu h2 rfl (fun e=>absurd (show (1:Int)=2 from e) (by decide)) (by omega) (by omega)
        obtain ⟨a1,a2,a3,a4,a5,a6,a7⟩:=ih.2 (i+1) ns.length (d+1) _ j ns' (by omega) A.wf A.wt (by rw [addN_len];omega) (by rw [kdAt_addN ns up _ hu,if_pos rfl];exact fun e=>absurd (show (1:Int)=2 from e) (by decide)) h
        have e1:=A.hi
        have e2:=A.lo
        exact ⟨a1,a2,by omega,by omega,fun q hq=>(a5 q (by omega)).trans (A.kd q hq),by omega,a7⟩
      ·cases h
  ·rw [lst_step] at h
   cases hg:gap l (l.length+1) i with
   | error e=>rw [hg] at h;cases h
   | ok j0 =>
    rw [hg] at h
    simp only [] at h
    obtain ⟨g1,g2⟩:=gap_ok l _ i j0 hi hg
    split at h
    ·rename_i hx
     have hlt:=nx_lt (l:=l) (i:=j0) (by rw [hx];decide)
     cases h
     exact ⟨W,V,Nat.le_refl _,by omega,fun _ _=>rfl,by omega,by omega⟩
    ·cases hv:val l f j0 up [] j0 d ns with
     | error e=>rw [hv] at h;cases h
     | ok q =>
      obtain ⟨j1,ns1⟩:=q
      rw [hv] at h
      simp only [] at h
      have A:=ih.1 j0 up [] j0 d ns j1 ns1 g2 W V hu h2 hv
      have e1:=A.hi
      have e2:=A.lo
      have e3:=A.fw
      have e4:=A.en
      cases hg2:gap l (l.length+1) j1 with
      | error e=>rw [hg2] at h;cases h
      | ok j2 =>
       rw [hg2] at h
       simp only [] at h
       obtain ⟨g3,g4⟩:=gap_ok l _ j1 j2 A.en hg2
       split at h
       ·rename_i hx
        have hlt:=nx_lt (l:=l) (i:=j2) (by rw [hx];decide)
        obtain ⟨a1,a2,a3,a4,a5,a6,a7⟩:=ih.2 (j2+1) up d ns1 j ns' (by omega) A.wf A.wt (by omega) (by rw [A.kd up hu];exact h2) h
        exact ⟨a1,a2,by omega,by omega,fun q hq=>(a5 q (by omega)).trans (A.kd q hq),by omega,a7⟩
       ·split at h
        ·rename_i hx
         have hlt:=nx_lt (l:=l) (i:=j2) (by rw [hx];decide)
         cases h
         exact ⟨A.wf,A.wt,A.lo,by omega,A.kd,by omega,by omega⟩
        ·cases h
end Go.Proofs.YtbgnflcebafjjaaGreatDoor
