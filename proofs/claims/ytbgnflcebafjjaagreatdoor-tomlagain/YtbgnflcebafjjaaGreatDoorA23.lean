import Derived.Test.YtbgnflcebafjjaaGreatDoorA20
import Derived.Test.YtbgnflcebafjjaaGreatDoorA22
import Derived.Test.YtbgnflcebafjjaaGreatDoorA21
import Derived.Test.YtbgnflcebafjjaaGreatDoorA07
namespace Go.Proofs.YtbgnflcebafjjaaGreatDoor
open Go.RowKit Go.Joins
set_option linter.unusedVariables false
set_option maxRecDepth 100000 in
set_option maxHeartbeats 6400000 in
theorem dInt_d (R:Nat) (s:ByteArray) (L O:Value) (now de i:Nat) (w:World) (h:Dd w R s L O now de i 0 0) (hi:i < s.size) (hs:s.size<=1048576) (hx:¬ nx s.data.toList i=45) (hy:¬ nx s.data.toList i=43) :
  Calls Tryz.prog 85 #[.pointer (some ⟨R,0,none⟩)] w (InPost R s L O now de (intF s.data.toList i (i) false) w):=by
 have hl:s.data.toList.length=s.size:=by simp
 have CI:Hid (∀c w,0<=c->Ds w R s L O now de (.ok i)->Calls Tryz.prog 27 #[.pointer (some ⟨R,0,none⟩),.int .u8 c] w fun e w'=>e=.returned (.bool (decide (nx s.data.toList i=c)))/\w.grownBy w' none):=fun c w h0 h1=>dIs_any R s L O now de (.ok i) c h0 w h1 hs
 have CI45:Hid (∀w,Ds w R s L O now de (.ok i)->Calls Tryz.prog 27 #[.pointer (some ⟨R,0,none⟩),.int .u8 45] w fun e w'=>e=.returned (.bool false)/\w.grownBy w' none):=fun w h=>by
  have:=CI.out 45 w (by decide) h
  rw [decide_eq_false hx] at this
  exact this
 have CI43:Hid (∀w,Ds w R s L O now de (.ok i)->Calls Tryz.prog 27 #[.pointer (some ⟨R,0,none⟩),.int .u8 43] w fun e w'=>e=.returned (.bool false)/\w.grownBy w' none):=fun w h=>by
  have:=CI.out 43 w (by decide) h
  rw [decide_eq_false hy] at this
  exact this
 have HD:Hid (Dd w R s L O now de i 0 0):=h
 have hai:i<=s.size:=by omega
 have hai1:i<=i+1:=by omega
 obtain ⟨G,hG⟩:∃G,intF s.data.toList i (i) false=G:=⟨_,rfl⟩
 rw [hG]
 have HG0:Hid ((if toR isDg s.data.toList i=i\/(1 < toR isDg s.data.toList i - i/\nx s.data.toList i=48) then .error (2,i)
  else if 18 < toR isDg s.data.toList i - i then .error (3,i)
  else .ok (if false=true then -(digN (subT s.data.toList i (toR isDg s.data.toList i - i)) 0:Int) else (digN (subT s.data.toList i (toR isDg s.data.toList i - i)) 0:Int),toR isDg s.data.toList i))=G):=hG
 obtain ⟨c0,c1,-,-,-,c5,-,-,df⟩:=h.cells
 have df1:=df 1
 have HST:Hid (∀k (hk:k < s.size),isDg (s[k].toNat:Int)=true->toR isDg s.data.toList k=toR isDg s.data.toList (k+1)):=fun k hk hb=>toR_step isDg _ k (by omega) (by rw [byte_at s k hk];exact hb)
 have HSP:Hid (∀k (hk:k < s.size),isDg (s[k].toNat:Int)=false->toR isDg s.data.toList k=k):=fun k hk hb=>toR_stop isDg _ k (by rw [byte_at s k hk];exact hb)
 have HEN:Hid (∀k,s.size<=k->toR isDg s.data.toList k=k):=fun k hk=>toR_end isDg _ k (by omega)
 have HSS:Hid (∀k n,satN (subT s.data.toList i (k - i)) 0=n->i<=k->(hk:k < s.size)->satN (subT s.data.toList i (k+1 - i)) 0=if n<=99999999999999999 then 10 * n+(s[k].toNat - 48) else 1000000000000000000):=fun k n h1 h2 h3=>sat_sub s.data.toList i k n h1 h2 (by omega)
 have HDS:Hid (∀k,(∀c ∈ subT s.data.toList i (k - i),c.toNat<=57)->i<=k->(hk:k < s.size)->s[k].toNat<=57->∀c ∈ subT s.data.toList i (k+1 - i),c.toNat<=57):=fun k h1 h2 h3 h4=>dig_sub s.data.toList i k h1 h2 (by omega) h4
 have HLO:Hid (∀k,(∀c ∈ subT s.data.toList i (k - i),c.toNat<=57)->i<=k->k<=s.size->k - i<=18->satN (subT s.data.toList i (k - i)) 0=digN (subT s.data.toList i (k - i)) 0/\digN (subT s.data.toList i (k - i)) 0<=999999999999999999):=fun k h1 h2 h3 h4=>int_low s.data.toList i k h1 h2 (by omega) h4
 have HHI:Hid (∀k,(∀c ∈ subT s.data.toList i (k - i),c.toNat<=57)->i<=k->k<=s.size->18 < k - i->49<=nx s.data.toList i->satN (subT s.data.toList i (k - i)) 0=1000000000000000000):=fun k h1 h2 h3 h4 h5=>int_high s.data.toList i k h1 h2 (by omega) h4 h5
 have HNX:Hid (¬ toR isDg s.data.toList i=i->48<=nx s.data.toList i/\nx s.data.toList i<=57):=dg_nx s.data.toList i
 have HXB:Hid (∀k (hk:k < s.size),nx s.data.toList k=(s[k].toNat:Int)):=byte_at s
 have HDI:Hid (Ds w R s L O now de (.ok i)):=⟨by omega,h⟩
 clear h hG df hx hy
 go_enter Tryz.func85,Tryz.ntmps85
 go_wp2_with (first | (go_at_call 27;refine (CI45.out _ HDI.out).mono ?_))
 first | rintro e w1 rfl hg1 | rintro e w1 ⟨rfl,hg1⟩
 have HG1:Hid (w.grownBy w1 none):=hg1
 clear hg1
 go_wp2_with (first | (go_at_call 27;refine (CI43.out _ (HDI.out.grow HG1.out)).mono ?_))
 first | rintro e w2 rfl hg2 | rintro e w2 ⟨rfl,hg2⟩
 have HG2:Hid (w.grownBy w2 none):=gb_trans HG1.out hg2
 clear hg2
 obtain ⟨e0,e1,-,-,-,e5,-,-,ef⟩:=(HD.out.grow HG2.out).cells
 have ef1:=ef 1
 clear ef
 have HDA:Hid (Dd w2 R s L O now de i 0 0):=by
  exact HD.out.grow HG2.out
 have HGA:Hid (w.grownBy w2 (some R)):=gb_more (gb_refl w (some R)) HG2.out
 go_wp2
 obtain ⟨wA,hwA⟩:∃W,w2=W:=⟨_,rfl⟩
 rw [hwA] at HDA HGA ⊢
 clear hwA
 go_loopw [6] (fun vn wr=>∃k n:Nat,vn=.int .i64 (n:Nat)/\Dd wr R s L O now de k 0 0/\i<=k/\k<=s.size/\toR isDg s.data.toList k=toR isDg s.data.toList i/\satN (subT s.data.toList i (k - i)) 0=n/\n<=1000000000000000000/\(∀c ∈ subT s.data.toList i (k - i),c.toNat<=57)/\w.grownBy wr (some R)) (fun _ wr=>s.size - dI wr R)
 case atStart=>exact ⟨i,0,rfl,HDA.out,by omega,hai,rfl,by rw [Nat.sub_self];rfl,by omega,fun c hc=>(by rw [Nat.sub_self] at hc;unfold subT at hc;rw [List.take_zero] at hc;cases hc),HGA.out⟩
 case round =>
  obtain ⟨k,n,rfl,hd,hak,hk,hto,hsat,hn18,hall,hg⟩:=hrel
  have HDK:Hid (Dd _ R s L O now de k 0 0):=hd
  have HGK:Hid (w.grownBy _ (some R)):=hg
  have HME:Hid (dI _ R=k):=dI_eq hd
  have HTO:Hid (toR isDg s.data.toList k=toR isDg s.data.toList i):=hto
  have HSA:Hid (satN (subT s.data.toList i (k - i)) 0=n):=hsat
  have HAL:Hid (∀c ∈ subT s.data.toList i (k - i),c.toNat<=57):=hall
  obtain ⟨c0,c1,-,-,-,c5,-,-,df⟩:=hd.cells
  have df1:=df 1
  clear hd hg hto hsat hall df
  by_cases hlt:k < s.size
  ·have hlt':decide ((k:Int) < (s.size:Int))=true:=by simp;omega
   have CB:Hid (∀w,Calls Tryz.prog 84 #[.int .u8 (s[k].toNat:Int)] w fun e w'=>e=.returned (.bool (isDg (s[k].toNat:Int)))/\w'=w):=dDigit_any s[k]
   have H1:Hid (isDg (s[k].toNat:Int)=true->toR isDg s.data.toList k=toR isDg s.data.toList (k+1)):=HST.out k hlt
   have H2:Hid (isDg (s[k].toNat:Int)=false->toR isDg s.data.toList k=k):=HSP.out k hlt
   have H3:Hid (isDg (s[k].toNat:Int)=true->48<=s[k].toNat/\s[k].toNat<=57):=fun hh=>by
    unfold isDg at hh
    have:=of_decide_eq_true hh
    omega
   have H4:Hid (satN (subT s.data.toList i (k+1 - i)) 0=if n<=99999999999999999 then 10 * n+(s[k].toNat - 48) else 1000000000000000000):=HSS.out k n HSA.out hak hlt
   have H5:Hid (s[k].toNat<=57->∀c ∈ subT s.data.toList i (k+1 - i),c.toNat<=57):=HDS.out k HAL.out hak hlt
   obtain ⟨b,hb⟩:∃b,isDg (s[k].toNat:Int)=b:=⟨_,rfl⟩
   rw [hb] at CB H1 H2 H3
   clear hb
   cases b with
   | true =>
    have HN:Hid (toR isDg s.data.toList (k+1)=toR isDg s.data.toList i):=(H1.out rfl).symm.trans HTO.out
    obtain ⟨h48,h57⟩:=H3.out rfl
    have HAN:=H5.out h57
    have HAN':Hid (∀c ∈ subT s.data.toList i (k+1 - i),c.toNat<=57):=HAN
    clear HAN
    go_wp2
    go_quiet (first | (go_at_call 84;exact Calls.quiet_of_same (CB.out _)))
    have HDB:Hid (Dd (wr.drewN nq) R s L O now de k 0 0):=HDK.out
    have HGB:Hid (w.grownBy (wr.drewN nq) (some R)):=gb_drew HGK.out nq
    obtain ⟨wB,hwB⟩:∃W,wr.drewN nq=W:=⟨_,rfl⟩
    rw [hwB] at HDB HGB ⊢
    obtain ⟨d0,d1,-,-,-,d5,-,-,dg⟩:=HDB.out.cells
    have dg1:=dg 1
    have HSB:Hid (Dd (wB.setCell ⟨R,1,none⟩ (.int .i64 ((k:Int)+1))) R s L O now de (k+1) 0 0):=HDB.out.setI (k+1)
    clear hwB dg
    by_cases hsm:n<=99999999999999999
    ·have hsmI:(n:Int)<=99999999999999999:=by omega
     have HSN:Hid (satN (subT s.data.toList i (k+1 - i)) 0=10 * n+(s[k].toNat - 48)):=by
      have:=H4.out
      rw [if_pos hsm] at this
      exact this
     have HCV:Hid (10 * (n:Int)+(s[k].toNat:Int) - 48=((10 * n+(s[k].toNat - 48):Nat):Int)):=by show _=_;omega
     go_wp2
     go_quiet (fail)
     have HDC:Hid (Dd (wB.drewN nq) R s L O now de k 0 0):=HDB.out
     have HGC:Hid (w.grownBy (wB.drewN nq) (some R)):=gb_drew HGB.out nq
     obtain ⟨wC,hwC⟩:∃W,wB.drewN nq=W:=⟨_,rfl⟩
     rw [hwC] at HDC HGC ⊢
     obtain ⟨f0,f1,-,-,-,f5,-,-,fg⟩:=HDC.out.cells
     have fg1:=fg 1
     have HSC:Hid (Dd (wC.setCell ⟨R,1,none⟩ (.int .i64 ((k:Int)+1))) R s L O now de (k+1) 0 0):=HDC.out.setI (k+1)
     clear hwC fg
     go_wp2
     refine ⟨⟨k+1,10 * n+(s[k].toNat - 48),by first | rfl | rw [HCV.out] | (congr 1;have:=HCV.out;omega),HSC.out,by omega,by omega,HN.out,HSN.out,by omega,HAN'.out,gb_set HGC.out 1 _⟩,?_⟩
     rw [HME.out,dI_eq HSC.out]
     omega
    ·have hsmI:¬ (n:Int)<=99999999999999999:=by omega
     have hsmJ:(99999999999999999:Int) < (n:Int):=by omega
     have HSN:Hid (satN (subT s.data.toList i (k+1 - i)) 0=1000000000000000000):=by
      have:=H4.out
      rw [if_neg hsm] at this
      exact this
     go_wp2
     refine ⟨⟨k+1,1000000000000000000,rfl,HSB.out,by omega,by omega,HN.out,HSN.out,by omega,HAN'.out,gb_set HGB.out 1 _⟩,?_⟩
     rw [HME.out,dI_eq HSB.out]
     omega
   | false =>
    have HJ:Hid (toR isDg s.data.toList i=k):=HTO.out.symm.trans (H2.out rfl)
    clear H1 H2 H3 H4 H5
    go_wp2
    go_quiet (first | (go_at_call 84;exact Calls.quiet_of_same (CB.out _)))
    have HDB:Hid (Dd (wr.drewN nq) R s L O now de k 0 0):=HDK.out
    have HGB:Hid (w.grownBy (wr.drewN nq) (some R)):=gb_drew HGK.out nq
    obtain ⟨wB,hwB⟩:∃W,wr.drewN nq=W:=⟨_,rfl⟩
    rw [hwB] at HDB HGB ⊢
    obtain ⟨d0,d1,-,-,-,d5,-,-,dg⟩:=HDB.out.cells
    clear hwB dg
    have HG9:=HG0.out
    rw [HJ.out] at HG9
    have HGJ:Hid ((if k=i\/(1 < k - i/\nx s.data.toList i=48) then .error (2,i)
     else if 18 < k - i then .error (3,i)
     else .ok (if false=true then -(digN (subT s.data.toList i (k - i)) 0:Int) else (digN (subT s.data.toList i (k - i)) 0:Int),k))=G):=HG9
    have HNJ:Hid (¬ k=i->48<=nx s.data.toList i/\nx s.data.toList i<=57):=fun hh=>HNX.out (by rw [HJ.out];exact hh)
    have hsub:IntKind.i64.wrap ((k:Int) - (i:Int))=(k:Int) - (i:Int):=by rw [IntKind.wrap_i64];omega
    clear HG9
    have CF2:Hid (∀wx,Dd wx R s L O now de k 0 0->Calls Tryz.prog 55 #[.pointer (some ⟨R,0,none⟩),.int .i64 2,.int .i64 (i:Nat)] wx fun en w'=>en=.returned (.tuple #[])/\Dd w' R s L O now de k 2 i/\wx.grownBy w' (some R)):=fun wx hg=>dFail_yes R s L O now de k 2 i wx hg
    have CF3:Hid (∀wx,Dd wx R s L O now de k 0 0->Calls Tryz.prog 55 #[.pointer (some ⟨R,0,none⟩),.int .i64 3,.int .i64 (i:Nat)] wx fun en w'=>en=.returned (.tuple #[])/\Dd w' R s L O now de k 3 i/\wx.grownBy w' (some R)):=fun wx hg=>dFail_yes R s L O now de k 3 i wx hg
    have CFN:Hid (∀wx,Dd wx R s L O now de k 2 i->Calls Tryz.prog 55 #[.pointer (some ⟨R,0,none⟩),.int .i64 3,.int .i64 (i:Nat)] wx fun en w'=>en=.returned (.tuple #[])/\w'=wx):=fun wx hg=>dFail_no R s L O now de k 2 i 3 i wx hg (by decide)
    by_cases hka:k=i
    ·have HGG:Hid (G=.error (2,i)):=by
      have:=HGJ.out
      rw [if_pos (Or.inl hka)] at this
      exact this.symm
     have hn0:n=0:=by
      have:=HSA.out
      rw [hka,Nat.sub_self] at this
      unfold subT at this
      rw [List.take_zero] at this
      exact this.symm
     have hbk:((k:Int) == (i:Int))=true:=by simp [hka]
     have hmx:(n:Int)<=999999999999999999:=by omega
     clear hka hn0
     go_wp2_with (first | (go_at_call 55;refine (CF2.out _ HDB.out).mono ?_;rintro e w3 ⟨rfl,hd3,hg3⟩))
     refine bodyPost_ret (results_tmp (t:=2) rfl _ _ _) rfl ?_
     rw [HGG.out]
     exact ⟨fun n j hh=>(by cases hh),fun c p hh=>(by cases hh;exact ⟨⟨_,rfl⟩,by decide,k,hk,hd3⟩),gb_two HGB.out hg3⟩
    ·have hbk:((k:Int) == (i:Int))=false:=by rw [beq_eq_false_iff_ne];omega
     have hal:i < s.size:=by omega
     have hxa:=HXB.out i hal
     obtain ⟨hn1,hn2⟩:=HNJ.out hka
     by_cases hlz:1 < k - i/\nx s.data.toList i=48
     ·have HGG:Hid (G=.error (2,i)):=by
       have:=HGJ.out
       rw [if_pos (Or.inr hlz)] at this
       exact this.symm
      have h1k:(1:Int) < (k:Int) - (i:Int):=by omega
      have hb48:((s[i].toNat:Int) == 48)=true:=by rw [<-hxa,hlz.2];rfl
      clear hlz hxa hn1 hn2
      by_cases hmx:n<=999999999999999999
      ·have hmI:(n:Int)<=999999999999999999:=by omega
       clear hka
       go_wp2_with (first | (go_at_call 55;refine (CF2.out _ HDB.out).mono ?_;rintro e w3 ⟨rfl,hd3,hg3⟩))
       refine bodyPost_ret (results_tmp (t:=2) rfl _ _ _) rfl ?_
       rw [HGG.out]
       exact ⟨fun n j hh=>(by cases hh),fun c p hh=>(by cases hh;exact ⟨⟨_,rfl⟩,by decide,k,hk,hd3⟩),gb_two HGB.out hg3⟩
      ·have hmI:(999999999999999999:Int) < (n:Int):=by omega
       clear hka
       go_wp2_with (first | (go_at_call 55;refine (CF2.out _ HDB.out).mono ?_))
       first | rintro e w3 rfl hd3 hg3 | rintro e w3 ⟨rfl,hd3,hg3⟩
       have HD3:Hid (Dd w3 R s L O now de k 2 i):=hd3
       have HG3:Hid (w.grownBy w3 (some R)):=gb_two HGB.out hg3
       clear hd3 hg3
       go_wp2_with (first | (go_at_call 55;refine (CFN.out _ HD3.out).mono ?_))
       first | rintro e w' rfl rfl | rintro e w' ⟨rfl,rfl⟩
       go_wp2
       refine bodyPost_ret (results_tmp (t:=2) rfl _ _ _) rfl ?_
       rw [HGG.out]
       exact ⟨fun n j hh=>(by cases hh),fun c p hh=>(by cases hh;exact ⟨⟨_,rfl⟩,by decide,k,hk,HD3.out⟩),HG3.out⟩
     ·have hno:¬ (k=i\/(1 < k - i/\nx s.data.toList i=48)):=by rintro (h | h);exact hka h;exact hlz h
      have hgd:((1:Int) < (k:Int) - (i:Int))->((s[i].toNat:Int) == 48)=false:=fun hh=>by
       rw [beq_eq_false_iff_ne,<-hxa]
       intro e
       exact hlz ⟨by omega,e⟩
      by_cases h18:18 < k - i
      ·have HGG:Hid (G=.error (3,i)):=by
        have:=HGJ.out
        rw [if_neg hno,if_pos h18] at this
        exact this.symm
       have hnn:n=1000000000000000000:=by rw [<-HSA.out];exact HHI.out k HAL.out hak hk h18 (by
        have:¬ nx s.data.toList i=48:=fun e=>hlz ⟨by omega,e⟩
        omega)
       have hmI:(999999999999999999:Int) < (n:Int):=by omega
       have h1k:(1:Int) < (k:Int) - (i:Int):=by omega
       have hb48:=hgd h1k
       clear hka hlz hno hgd h18 hnn hxa hn1 hn2
       go_wp2_with (first | (go_at_call 55;refine (CF3.out _ HDB.out).mono ?_;rintro e w3 ⟨rfl,hd3,hg3⟩))
       refine bodyPost_ret (results_tmp (t:=2) rfl _ _ _) rfl ?_
       rw [HGG.out]
       exact ⟨fun n j hh=>(by cases hh),fun c p hh=>(by cases hh;exact ⟨⟨_,rfl⟩,by decide,k,hk,hd3⟩),gb_two HGB.out hg3⟩
      ·obtain ⟨hlo1,hlo2⟩:=HLO.out k HAL.out hak hk (by omega)
       have hnd:digN (subT s.data.toList i (k - i)) 0=n:=hlo1.symm.trans HSA.out
       have HGG:Hid (G=.ok ((n:Int),k)):=by
        have:=HGJ.out
        rw [if_neg hno,if_neg h18,hnd] at this
        exact this.symm
       have hmI:(n:Int)<=999999999999999999:=by omega
       by_cases h1k:(1:Int) < (k:Int) - (i:Int)
       ·have hb48:=hgd h1k
        clear hka hlz hno hgd h18 hlo1 hlo2 hnd hxa hn1 hn2
        go_wp2
        refine bodyPost_ret (results_tmp (t:=2) rfl _ _ _) rfl ?_
        rw [HGG.out]
        exact ⟨fun n j hh=>(by cases hh;exact ⟨rfl,hk,HDB.out⟩),fun c p hh=>(by cases hh),HGB.out⟩
       ·have h1l:(k:Int) - (i:Int)<=1:=by omega
        clear hka hlz hno hgd h18 hlo1 hlo2 hnd hxa hn1 hn2
        go_wp2
        refine bodyPost_ret (results_tmp (t:=2) rfl _ _ _) rfl ?_
        rw [HGG.out]
        exact ⟨fun n j hh=>(by cases hh;exact ⟨rfl,hk,HDB.out⟩),fun c p hh=>(by cases hh),HGB.out⟩
  ·have hge:decide ((k:Int) < (s.size:Int))=false:=by simp;omega
   have HJ:Hid (toR isDg s.data.toList i=k):=HTO.out.symm.trans (HEN.out k (by omega))
   go_wp2
   go_quiet (fail)
   have HDB:Hid (Dd (wr.drewN nq) R s L O now de k 0 0):=HDK.out
   have HGB:Hid (w.grownBy (wr.drewN nq) (some R)):=gb_drew HGK.out nq
   obtain ⟨wB,hwB⟩:∃W,wr.drewN nq=W:=⟨_,rfl⟩
   rw [hwB] at HDB HGB ⊢
   obtain ⟨d0,d1,-,-,-,d5,-,-,dg⟩:=HDB.out.cells
   clear hwB dg
   have HG9:=HG0.out
   rw [HJ.out] at HG9
   have HGJ:Hid ((if k=i\/(1 < k - i/\nx s.data.toList i=48) then .error (2,i)
    else if 18 < k - i then .error (3,i)
    else .ok (if false=true then -(digN (subT s.data.toList i (k - i)) 0:Int) else (digN (subT s.data.toList i (k - i)) 0:Int),k))=G):=HG9
   have HNJ:Hid (¬ k=i->48<=nx s.data.toList i/\nx s.data.toList i<=57):=fun hh=>HNX.out (by rw [HJ.out];exact hh)
   have hsub:IntKind.i64.wrap ((k:Int) - (i:Int))=(k:Int) - (i:Int):=by rw [IntKind.wrap_i64];omega
   clear HG9
   have CF2:Hid (∀wx,Dd wx R s L O now de k 0 0->Calls Tryz.prog 55 #[.pointer (some ⟨R,0,none⟩),.int .i64 2,.int .i64 (i:Nat)] wx fun en w'=>en=.returned (.tuple #[])/\Dd w' R s L O now de k 2 i/\wx.grownBy w' (some R)):=fun wx hg=>dFail_yes R s L O now de k 2 i wx hg
   have CF3:Hid (∀wx,Dd wx R s L O now de k 0 0->Calls Tryz.prog 55 #[.pointer (some ⟨R,0,none⟩),.int .i64 3,.int .i64 (i:Nat)] wx fun en w'=>en=.returned (.tuple #[])/\Dd w' R s L O now de k 3 i/\wx.grownBy w' (some R)):=fun wx hg=>dFail_yes R s L O now de k 3 i wx hg
   have CFN:Hid (∀wx,Dd wx R s L O now de k 2 i->Calls Tryz.prog 55 #[.pointer (some ⟨R,0,none⟩),.int .i64 3,.int .i64 (i:Nat)] wx fun en w'=>en=.returned (.tuple #[])/\w'=wx):=fun wx hg=>dFail_no R s L O now de k 2 i 3 i wx hg (by decide)
   by_cases hka:k=i
   ·have HGG:Hid (G=.error (2,i)):=by
     have:=HGJ.out
     rw [if_pos (Or.inl hka)] at this
     exact this.symm
    have hn0:n=0:=by
     have:=HSA.out
     rw [hka,Nat.sub_self] at this
     unfold subT at this
     rw [List.take_zero] at this
     exact this.symm
    have hbk:((k:Int) == (i:Int))=true:=by simp [hka]
    have hmx:(n:Int)<=999999999999999999:=by omega
    clear hka hn0
    go_wp2_with (first | (go_at_call 55;refine (CF2.out _ HDB.out).mono ?_;rintro e w3 ⟨rfl,hd3,hg3⟩))
    refine bodyPost_ret (results_tmp (t:=2) rfl _ _ _) rfl ?_
    rw [HGG.out]
    exact ⟨fun n j hh=>(by cases hh),fun c p hh=>(by cases hh;exact ⟨⟨_,rfl⟩,by decide,k,hk,hd3⟩),gb_two HGB.out hg3⟩
   ·have hbk:((k:Int) == (i:Int))=false:=by rw [beq_eq_false_iff_ne];omega
    have hal:i < s.size:=by omega
    have hxa:=HXB.out i hal
    obtain ⟨hn1,hn2⟩:=HNJ.out hka
    by_cases hlz:1 < k - i/\nx s.data.toList i=48
    ·have HGG:Hid (G=.error (2,i)):=by
      have:=HGJ.out
      rw [if_pos (Or.inr hlz)] at this
      exact this.symm
     have h1k:(1:Int) < (k:Int) - (i:Int):=by omega
     have hb48:((s[i].toNat:Int) == 48)=true:=by rw [<-hxa,hlz.2];rfl
     clear hlz hxa hn1 hn2
     by_cases hmx:n<=999999999999999999
     ·have hmI:(n:Int)<=999999999999999999:=by omega
      clear hka
      go_wp2_with (first | (go_at_call 55;refine (CF2.out _ HDB.out).mono ?_;rintro e w3 ⟨rfl,hd3,hg3⟩))
      refine bodyPost_ret (results_tmp (t:=2) rfl _ _ _) rfl ?_
      rw [HGG.out]
      exact ⟨fun n j hh=>(by cases hh),fun c p hh=>(by cases hh;exact ⟨⟨_,rfl⟩,by decide,k,hk,hd3⟩),gb_two HGB.out hg3⟩
     ·have hmI:(999999999999999999:Int) < (n:Int):=by omega
      clear hka
      go_wp2_with (first | (go_at_call 55;refine (CF2.out _ HDB.out).mono ?_))
      first | rintro e w3 rfl hd3 hg3 | rintro e w3 ⟨rfl,hd3,hg3⟩
      have HD3:Hid (Dd w3 R s L O now de k 2 i):=hd3
      have HG3:Hid (w.grownBy w3 (some R)):=gb_two HGB.out hg3
      clear hd3 hg3
      go_wp2_with (first | (go_at_call 55;refine (CFN.out _ HD3.out).mono ?_))
      first | rintro e w' rfl rfl | rintro e w' ⟨rfl,rfl⟩
      go_wp2
      refine bodyPost_ret (results_tmp (t:=2) rfl _ _ _) rfl ?_
      rw [HGG.out]
      exact ⟨fun n j hh=>(by cases hh),fun c p hh=>(by cases hh;exact ⟨⟨_,rfl⟩,by decide,k,hk,HD3.out⟩),HG3.out⟩
    ·have hno:¬ (k=i\/(1 < k - i/\nx s.data.toList i=48)):=by rintro (h | h);exact hka h;exact hlz h
     have hgd:((1:Int) < (k:Int) - (i:Int))->((s[i].toNat:Int) == 48)=false:=fun hh=>by
      rw [beq_eq_false_iff_ne,<-hxa]
      intro e
      exact hlz ⟨by omega,e⟩
     by_cases h18:18 < k - i
     ·have HGG:Hid (G=.error (3,i)):=by
       have:=HGJ.out
       rw [if_neg hno,if_pos h18] at this
       exact this.symm
      have hnn:n=1000000000000000000:=by rw [<-HSA.out];exact HHI.out k HAL.out hak hk h18 (by
       have:¬ nx s.data.toList i=48:=fun e=>hlz ⟨by omega,e⟩
       omega)
      have hmI:(999999999999999999:Int) < (n:Int):=by omega
      have h1k:(1:Int) < (k:Int) - (i:Int):=by omega
      have hb48:=hgd h1k
      clear hka hlz hno hgd h18 hnn hxa hn1 hn2
      go_wp2_with (first | (go_at_call 55;refine (CF3.out _ HDB.out).mono ?_;rintro e w3 ⟨rfl,hd3,hg3⟩))
      refine bodyPost_ret (results_tmp (t:=2) rfl _ _ _) rfl ?_
      rw [HGG.out]
      exact ⟨fun n j hh=>(by cases hh),fun c p hh=>(by cases hh;exact ⟨⟨_,rfl⟩,by decide,k,hk,hd3⟩),gb_two HGB.out hg3⟩
     ·obtain ⟨hlo1,hlo2⟩:=HLO.out k HAL.out hak hk (by omega)
      have hnd:digN (subT s.data.toList i (k - i)) 0=n:=hlo1.symm.trans HSA.out
      have HGG:Hid (G=.ok ((n:Int),k)):=by
       have:=HGJ.out
       rw [if_neg hno,if_neg h18,hnd] at this
       exact this.symm
      have hmI:(n:Int)<=999999999999999999:=by omega
      by_cases h1k:(1:Int) < (k:Int) - (i:Int)
      ·have hb48:=hgd h1k
       clear hka hlz hno hgd h18 hlo1 hlo2 hnd hxa hn1 hn2
       go_wp2
       refine bodyPost_ret (results_tmp (t:=2) rfl _ _ _) rfl ?_
       rw [HGG.out]
       exact ⟨fun n j hh=>(by cases hh;exact ⟨rfl,hk,HDB.out⟩),fun c p hh=>(by cases hh),HGB.out⟩
      ·have h1l:(k:Int) - (i:Int)<=1:=by omega
       clear hka hlz hno hgd h18 hlo1 hlo2 hnd hxa hn1 hn2
       go_wp2
       refine bodyPost_ret (results_tmp (t:=2) rfl _ _ _) rfl ?_
       rw [HGG.out]
       exact ⟨fun n j hh=>(by cases hh;exact ⟨rfl,hk,HDB.out⟩),fun c p hh=>(by cases hh),HGB.out⟩
theorem dInt_any (R:Nat) (s:ByteArray) (L O:Value) (now de i:Nat) (w:World) (h:Dd w R s L O now de i 0 0) (hi:i < s.size) (hs:s.size<=1048576) (hx:nx s.data.toList i=43\/nx s.data.toList i=45\/isDg (nx s.data.toList i)=true) :
  Calls Tryz.prog 85 #[.pointer (some ⟨R,0,none⟩)] w (InPost R s L O now de (rdInt s.data.toList i) w):=by
 rw [rdInt_f]
 by_cases h45:nx s.data.toList i=45
 ·rw [decide_eq_true h45,if_neg (by rw [h45];decide)]
  exact dInt_m R s L O now de i w h hi hs h45
 ·rw [decide_eq_false h45]
  by_cases h43:nx s.data.toList i=43
  ·rw [if_neg (by rw [h43];decide)]
   exact dInt_p R s L O now de i w h hi hs h45 h43
  ·rw [if_pos (by rcases hx with h | h | h;exact (h43 h).elim;exact (h45 h).elim;exact h)]
   exact dInt_d R s L O now de i w h hi hs h45 h43
end Go.Proofs.YtbgnflcebafjjaaGreatDoor
namespace Go.Proofs.YtbgnflcebafjjaaGreatDoor
open Go.RowKit Go.Maps Go.WideMaps Go.Joins
set_option linter.unusedVariables false
def Fq (w:World) (B P R:Nat) (s:ByteArray) (now de:Nat) (e:Int × Nat):Prop:=∃L O,Ds w R s L O now de (.error e)/\B<=R/\¬ P=R/\P < w.heap.size
def Dq (w:World) (B P R:Nat) (s:ByteArray) (now de:Nat) (q:Rs Nat) (ns:List Tn) (own:List Nat):Prop:=match q with | .ok i=>Dt w B P R s now de (.ok i) ns own | .error e=>Fq w B P R s now de e
section
variable {w w':World} {B P R:Nat} {s:ByteArray} {now de:Nat} {q q':Rs Nat} {ns:List Tn} {own:List Nat}
theorem Dt.fq {e:Int × Nat} (h:Dt w B P R s now de (.error e) ns own):Fq w B P R s now de e:=by
 obtain ⟨h1,h2,N,c,O,oc,xs,ks,h3,h4,h5,h6⟩:=h
 exact ⟨_,_,h6,h1,h2,h5.hP⟩
theorem Dt.dq (h:Dt w B P R s now de q ns own):Dq w B P R s now de q ns own:=by
 match q,h with
 | .ok i,h=>exact h
 | .error e,h=>exact h.fq
theorem Dt.base (h:Dt w B P R s now de q ns own):B<=w.heap.size/\P < w.heap.size/\R < w.heap.size:=by
 obtain ⟨h1,h2,N,c,O,oc,xs,ks,h3,h4,h5,h6⟩:=h
 obtain ⟨i,er,p,hd⟩:=h6.dd
 exact ⟨Nat.le_of_lt (Nat.lt_of_le_of_lt h1 (blk_lt hd)),h5.hP,blk_lt hd⟩
theorem dfr_R {L O:Value} (hd:Ds w R s L O now de q) (hB:B<=R) (hP:¬ P=R) (hPs:P < w.heap.size) (hg:w.grownBy w' (some R)):DFr B P w w':=by
 obtain ⟨i,er,p,hdd⟩:=hd.dd
 exact DFr.row hg (Nat.le_of_lt (Nat.lt_of_le_of_lt hB (blk_lt hdd))) hPs hB hP hdd (Or.inl rfl)
theorem Dt.keep (h:Dt w B P R s now de q ns own) (hs:∀L O,Ds w R s L O now de q->Ds w' R s L O now de q') (hg:w.grownBy w' (some R)):Dt w' B P R s now de q' ns own/\DFr B P w w':=by
 obtain ⟨h1,h2,N,c,O,oc,xs,ks,h3,h4,h5,h6⟩:=h
 obtain ⟨i,er,p,hdd⟩:=h6.dd
 exact ⟨⟨h1,h2,N,c,O,oc,xs,ks,h3,h4,h5.keepR hdd hg,hs _ _ h6⟩,dfr_R h6 h1 h2 h5.hP hg⟩
end
theorem lift_R {B P R:Nat} {s:ByteArray} {now de:Nat} {ns:List Tn} {own:List Nat} {fn:Nat} {args:Array Value} (F:Rs Nat->Rs Nat) (hF:∀e,F (.error e)=.error e) (C:∀L O w q,Ds w R s L O now de q->Calls Tryz.prog fn args w fun e w'=>e=.returned (.tuple #[])/\Ds w' R s L O now de (F q)/\w.grownBy w' (some R)) (q:Rs Nat) (w:World) (h:Dq w B P R s now de q ns own) :
  Calls Tryz.prog fn args w fun e w'=>e=.returned (.tuple #[])/\Dq w' B P R s now de (F q) ns own/\DFr B P w w':=by
 match q,h with
 | .error e,⟨L,O,h1,h2,h3,h4⟩ =>
  refine (C L O w _ h1).mono ?_
  rintro e' w' ⟨rfl,a,b⟩
  rw [hF] at a ⊢
  exact ⟨rfl,⟨L,O,a,h2,h3,Nat.lt_of_lt_of_le h4 b.size⟩,dfr_R h1 h2 h3 h4 b⟩
 | .ok i,h =>
  obtain ⟨h1,h2,N,c,O,oc,xs,ks,h3,h4,h5,h6⟩:=h
  refine (C _ _ w _ h6).mono ?_
  rintro e' w' ⟨rfl,a,b⟩
  obtain ⟨ii,er,p,hdd⟩:=h6.dd
  exact ⟨rfl,Dt.dq ⟨h1,h2,N,c,O,oc,xs,ks,h3,h4,h5.keepR hdd b,a⟩,dfr_R h6 h1 h2 h5.hP b⟩
section
variable (B P R:Nat) (s:ByteArray) (now de:Nat) (ns:List Tn) (own:List Nat) (q:Rs Nat) (w:World) (h:Dq w B P R s now de q ns own) (hs:s.size<=100000)
include h hs
theorem qMust (c:Int) (hc:0<=c):Calls Tryz.prog 31 #[.pointer (some ⟨R,0,none⟩),.int .u8 c] w fun e w'=>e=.returned (.tuple #[])/\Dq w' B P R s now de (q.bind fun i=>must s.data.toList i c) ns own/\DFr B P w w' :=
 lift_R (fun q=>q.bind fun i=>must s.data.toList i c) (fun _=>rfl) (fun L O w q h=>dMust_any R s L O now de q c hc w h (by omega)) q w h
theorem qBlanks:Calls Tryz.prog 26 #[.pointer (some ⟨R,0,none⟩)] w fun e w'=>e=.returned (.tuple #[])/\Dq w' B P R s now de (q.bind fun i=>.ok (bl s.data.toList i)) ns own/\DFr B P w w' :=
 lift_R (fun q=>q.bind fun i=>.ok (bl s.data.toList i)) (fun _=>rfl) (fun L O w q h=>dBlanks_any R s L O now de q w h (by omega)) q w h
theorem qComment:Calls Tryz.prog 30 #[.pointer (some ⟨R,0,none⟩)] w fun e w'=>e=.returned (.tuple #[])/\Dq w' B P R s now de (q.bind (cmtR s.data.toList)) ns own/\DFr B P w w' :=
 lift_R (fun q=>q.bind (cmtR s.data.toList)) (fun _=>rfl) (fun L O w q h=>dComment_any R s L O now de q w h (by omega)) q w h
theorem qSpace:Calls Tryz.prog 109 #[.pointer (some ⟨R,0,none⟩)] w fun e w'=>e=.returned (.tuple #[])/\Dq w' B P R s now de (q.bind (gap s.data.toList (s.data.toList.length+1))) ns own/\DFr B P w w' :=
 lift_R (fun q=>q.bind (gap s.data.toList (s.data.toList.length+1))) (fun _=>rfl) (fun L O w q h=>dSpace_any R s L O now de q w h (by omega)) q w h
theorem qIs (c:Int) (hc:0<=c):Calls Tryz.prog 27 #[.pointer (some ⟨R,0,none⟩),.int .u8 c] w fun e w'=>e=.returned (.bool (isQ s.data.toList q c))/\Dq w' B P R s now de q ns own/\DFr B P w w':=by
 match q,h with
 | .error e,⟨L,O,h1,h2,h3,h4⟩ =>
  refine (dIs_any R s L O now de _ c hc w h1 (by omega)).mono ?_
  rintro e' w' ⟨rfl,b⟩
  obtain ⟨ii,er,p,hdd⟩:=h1.dd
  exact ⟨rfl,⟨L,O,h1.grow b,h2,h3,Nat.lt_of_lt_of_le h4 b.size⟩,DFr.gb b (Nat.le_of_lt (Nat.lt_of_le_of_lt h2 (blk_lt hdd))) h4⟩
 | .ok i,h =>
  obtain ⟨h1,h2,N,c',O,oc,xs,ks,h3,h4,h5,h6⟩:=h
  refine (dIs_any R s _ _ now de _ c hc w h6 (by omega)).mono ?_
  rintro e' w' ⟨rfl,b⟩
  obtain ⟨ii,er,p,hdd⟩:=h6.dd
  exact ⟨rfl,⟨h1,h2,N,c',O,oc,xs,ks,h3,h4,h5.gb b,h6.grow b⟩,DFr.gb b (Nat.le_of_lt (Nat.lt_of_le_of_lt h1 (blk_lt hdd))) h5.hP⟩
end
theorem qFail (B P R:Nat) (s:ByteArray) (now de:Nat) (ns:List Tn) (own:List Nat) (i:Nat) (w:World) (h:Dt w B P R s now de (.ok i) ns own) (c:Int) (hc:c ≠ 0) (a:Nat) :
  Calls Tryz.prog 55 #[.pointer (some ⟨R,0,none⟩),.int .i64 c,.int .i64 (a:Nat)] w fun e w'=>e=.returned (.tuple #[])/\Dt w' B P R s now de (.error (c,a)) ns own/\DFr B P w w':=by
 have h0:=h
 obtain ⟨h1,h2,N,c',O,oc,xs,ks,h3,h4,h5,h6⟩:=h
 refine (dFail_yes R s _ _ now de i c a w h6.2).mono ?_
 rintro e' w' ⟨rfl,a1,b⟩
 exact ⟨rfl,⟨h1,h2,N,c',O,oc,xs,ks,h3,h4,h5.keepR h6.2 b,⟨hc,i,h6.1,a1⟩⟩,dfr_R h6 h1 h2 h5.hP b⟩
def DvPost (B P R:Nat) (s:ByteArray) (now de:Nat) (own:List Nat) (g:Rs (Nat × List Tn)) (w:World) (e:Ending) (w':World):Prop:=e=.returned (.tuple #[])/\(∀j ns',g=.ok (j,ns')->Dt w' B P R s now de (.ok j) ns' own)/\(∀c,g=.error c->Fq w' B P R s now de c)/\DFr B P w w'
def DvC (f:Nat):Prop:=∀(B P R:Nat) (s:ByteArray) (own:List Nat) (now i up:Nat) (k:List UInt8) (p d:Nat) (ns:List Tn) (w:World),Dt w B P R s now d (.ok i) ns own->s.size<=100000->WF ns own->WT ns->up < ns.length->¬ kdAt ns up=2->d<=8->ns.length+(s.size - i)<=700000->2 * (s.size - i)+1<=f →
 Calls Tryz.prog 57 #[.pointer (some ⟨R,0,none⟩),.int .i64 (up:Nat),.string ⟨k.toArray⟩,.int .i64 (p:Nat)] w (DvPost B P R s now d own (val s.data.toList f i up k p d ns) w)
def DlC (f:Nat):Prop:=∀(B P R:Nat) (s:ByteArray) (own:List Nat) (now i up:Nat) (k:List UInt8) (p d:Nat) (ns:List Tn) (w:World),Dt w B P R s now d (.ok i) ns own->s.size<=100000->nx s.data.toList i=91->WF ns own->WT ns->up < ns.length->¬ kdAt ns up=2->d<=8->ns.length+(s.size - i)<=700000->2 * (s.size - i)<=f →
 Calls Tryz.prog 83 #[.pointer (some ⟨R,0,none⟩),.int .i64 (up:Nat),.string ⟨k.toArray⟩,.int .i64 (p:Nat)] w (DvPost B P R s now d own (if d=8 then .error (4,i) else lst s.data.toList f (i+1) ns.length (d+1) (addN ns up ⟨1,k,[],0,[],p⟩)) w)
def TqPost (B P R:Nat) (s:ByteArray) (now de:Nat) (ns:List Tn) (own:List Nat) (g:Rs (List UInt8 × Nat)) (w:World) (e:Ending) (w':World):Prop:=(∀t j,g=.ok (t,j)->e=.returned (.string ⟨t.toArray⟩)/\Dt w' B P R s now de (.ok j) ns own)/\(∀c,g=.error c->∃t:List UInt8,e=.returned (.string ⟨t.toArray⟩)/\Dt w' B P R s now de (.error c) ns own)/\DFr B P w w'
theorem qQuoted (B P R:Nat) (s:ByteArray) (now de i:Nat) (ns:List Tn) (own:List Nat) (w:World) (h:Dt w B P R s now de (.ok i) ns own) (hx:nx s.data.toList i=34) (hs:s.size<=100000) :
  Calls Tryz.prog 82 #[.pointer (some ⟨R,0,none⟩)] w (TqPost B P R s now de ns own (str s.data.toList (s.data.toList.length+1) (i+1) []) w):=by
 have hlt:i < s.size:=by have:=nx_lt (l:=s.data.toList) (i:=i) (by omega);simpa using this
 obtain ⟨h1,h2,N,c,O,oc,xs,ks,h3,h4,h5,h6⟩:=h
 refine (dQuoted_any R s _ _ now de i w h6.2 hlt hx (by omega)).mono ?_
 rintro e w' ⟨a1,a2,a3⟩
 refine ⟨fun t j hg=>?_,fun c hg=>?_,dfr_R h6 h1 h2 h5.hP a3⟩
 ·obtain ⟨b1,b2⟩:=a1 t j hg
  exact ⟨b1,h1,h2,N,_,O,oc,xs,ks,h3,h4,h5.keepR h6.2 a3,b2⟩
 ·obtain ⟨⟨t,-,b1⟩,b2⟩:=a2 c.1 c.2 hg
  exact ⟨t,b1,h1,h2,N,_,O,oc,xs,ks,h3,h4,h5.keepR h6.2 a3,b2⟩
def IqPost (B P R:Nat) (s:ByteArray) (now de:Nat) (ns:List Tn) (own:List Nat) (g:Rs (Int × Nat)) (w:World) (e:Ending) (w':World):Prop:=(∀n j,g=.ok (n,j)->e=.returned (.int .i64 n)/\Dt w' B P R s now de (.ok j) ns own)/\(∀c,g=.error c->∃n:Int,e=.returned (.int .i64 n)/\Dt w' B P R s now de (.error c) ns own)/\DFr B P w w'
theorem qInt (B P R:Nat) (s:ByteArray) (now de i:Nat) (ns:List Tn) (own:List Nat) (w:World) (h:Dt w B P R s now de (.ok i) ns own) (hi:i < s.size) (hx:nx s.data.toList i=43\/nx s.data.toList i=45\/isDg (nx s.data.toList i)=true) (hs:s.size<=100000) :
  Calls Tryz.prog 85 #[.pointer (some ⟨R,0,none⟩)] w (IqPost B P R s now de ns own (rdInt s.data.toList i) w):=by
 obtain ⟨h1,h2,N,c,O,oc,xs,ks,h3,h4,h5,h6⟩:=h
 refine (dInt_any R s _ _ now de i w h6.2 hi (by omega) hx).mono ?_
 rintro e w' ⟨a1,a2,a3⟩
 refine ⟨fun t j hg=>?_,fun c hg=>?_,dfr_R h6 h1 h2 h5.hP a3⟩
 ·obtain ⟨b1,b2⟩:=a1 t j hg
  exact ⟨b1,h1,h2,N,_,O,oc,xs,ks,h3,h4,h5.keepR h6.2 a3,b2⟩
 ·obtain ⟨⟨t,b1⟩,b2⟩:=a2 c.1 c.2 hg
  exact ⟨t,b1,h1,h2,N,_,O,oc,xs,ks,h3,h4,h5.keepR h6.2 a3,b2⟩
theorem Dt.cells {w:World} {B P R:Nat} {s:ByteArray} {now de i:Nat} {ns:List Tn} {own:List Nat} (h:Dt w B P R s now de (.ok i) ns own):w.cell? ⟨R,0,none⟩=some (.string s)/\w.cell? ⟨R,1,none⟩=some (.int .i64 (i:Nat))/\w.cell? ⟨R,5,none⟩=some (.int .i64 0)/\w.cell? ⟨R,7,none⟩=some (.int .i64 (de:Nat))/\w.cell? ⟨R,4,none⟩=some (.int .i64 (now:Nat))/\i<=s.size/\∀k,w.frozen? ⟨R,k,none⟩=false:=by
 obtain ⟨h1,h2,N,c,O,oc,xs,ks,h3,h4,h5,h6⟩:=h
 obtain ⟨c0,c1,c2,c3,c4,c5,c6,c7,cf⟩:=h6.2.cells
 exact ⟨c0,c1,c5,c7,c4,h6.1,cf⟩
theorem Dt.drew {w:World} {B P R:Nat} {s:ByteArray} {now de:Nat} {q:Rs Nat} {ns:List Tn} {own:List Nat} (h:Dt w B P R s now de q ns own) (n:Nat):Dt (w.drewN n) B P R s now de q ns own/\DFr B P w (w.drewN n):=by
 have hb:=h.base
 obtain ⟨h1,h2,N,c,O,oc,xs,ks,h3,h4,h5,h6⟩:=h
 have g:w.grownBy (w.drewN n) none:=gb_drew (gb_refl w none) n
 exact ⟨⟨h1,h2,N,c,O,oc,xs,ks,h3,h4,h5.gb g,h6.grow g⟩,DFr.gb g hb.1 hb.2.1⟩
theorem Fq.err {w:World} {B P R:Nat} {s:ByteArray} {now de:Nat} {e:Int × Nat} (h:Fq w B P R s now de e):w.cell? ⟨R,5,none⟩=some (.int .i64 e.1)/\(e.1 == 0)=false:=by
 obtain ⟨L,O,⟨h1,j,h2,h3⟩,-⟩:=h
 exact ⟨h3.cells.2.2.2.2.2.1,by simpa using h1⟩
def vFin {α:Type} (F:α->List Tn):Rs (α × Nat)->Rs (Nat × List Tn)
 | .error e=>.error e
 | .ok (t,j)=>.ok (j,F t)
theorem val_q (l:List UInt8) (f i up:Nat) (k:List UInt8) (p d:Nat) (ns:List Tn) (h:nx l i=34):val l (f+1) i up k p d ns=vFin (fun t=>addN ns up ⟨3,k,t,0,[],p⟩) (str l (l.length+1) (i+1) []):=by
 rw [val_step,if_pos h]
 cases str l (l.length+1) (i+1) [] <;> rfl
theorem val_i (l:List UInt8) (f i up:Nat) (k:List UInt8) (p d:Nat) (ns:List Tn) (h0:¬ nx l i=34) (h:nx l i=43\/nx l i=45\/isDg (nx l i)=true):val l (f+1) i up k p d ns=vFin (fun n=>addN ns up ⟨4,k,[],n,[],p⟩) (rdInt l i):=by
 rw [val_step,if_neg h0,if_pos h]
 cases rdInt l i <;> rfl
theorem val_t (l:List UInt8) (f i up:Nat) (k:List UInt8) (p d:Nat) (ns:List Tn) (h:nx l i=116\/nx l i=102):val l (f+1) i up k p d ns=vFin (fun n=>addN ns up ⟨5,k,[],n,[],p⟩) (rdTru l i):=by
 rw [val_step,if_neg (by rcases h with h | h <;> rw [h] <;> decide),if_neg (by rcases h with h | h <;> rw [h] <;> decide),if_pos h]
 cases rdTru l i <;> rfl
theorem Dt.err {w:World} {B P R:Nat} {s:ByteArray} {now de:Nat} {ns:List Tn} {own:List Nat} {e:Int × Nat} (h:Dt w B P R s now de (.error e) ns own):w.cell? ⟨R,5,none⟩=some (.int .i64 e.1)/\(e.1 == 0)=false:=h.fq.err
set_option maxRecDepth 100000 in
set_option maxHeartbeats 3200000 in
theorem dVal_end (f:Nat) (B P R:Nat) (s:ByteArray) (own:List Nat) (now i up:Nat) (k:List UInt8) (p d:Nat) (ns:List Tn) (w:World) (h:Dt w B P R s now d (.ok i) ns own) (hs:s.size<=100000) (W:WF ns own) (V:WT ns) (hu:up < ns.length) (hk2:¬ kdAt ns up=2) (hd:d<=8) (hsz:ns.length+(s.size - i)<=700000) (hf:2 * (s.size - i)+1<=f+1) (he:s.size<=i) :
  Calls Tryz.prog 57 #[.pointer (some ⟨R,0,none⟩),.int .i64 (up:Nat),.string ⟨k.toArray⟩,.int .i64 (p:Nat)] w (DvPost B P R s now d own (val s.data.toList (f+1) i up k p d ns) w):=by
 have hl:s.data.toList.length=s.size:=by simp
 obtain ⟨c0,c1,c5,-,-,hi,-⟩:=h.cells
 have HD:Hid (Dt w B P R s now d (.ok i) ns own):=h
 rw [val_step]
 have hn:nx s.data.toList i=-1:=nx_end _ _ (by omega)
 rw [if_neg (by rw [hn];decide),if_neg (by rw [hn];decide),if_neg (by rw [hn];decide),if_neg (by rw [hn];decide)]
 have hge:decide ((s.size:Int)<=(i:Int))=true:=by simp;omega
 have hge2:(s.size:Int)<=(i:Int):=by omega
 have CF:Hid (∀w,Dt w B P R s now d (.ok i) ns own->Calls Tryz.prog 55 #[.pointer (some ⟨R,0,none⟩),.int .i64 2,.int .i64 (i:Nat)] w fun e w'=>e=.returned (.tuple #[])/\Dt w' B P R s now d (.error (2,i)) ns own/\DFr B P w w'):=fun w h=>qFail B P R s now d ns own i w h 2 (by decide) i
 clear h hn he V W hk2
 go_enter Tryz.func57,Tryz.ntmps57
 go_wp2
 go_quiet (fail)
 have HDA:=HD.out.drew nq
 have HDA1:Hid (Dt (w.drewN nq) B P R s now d (.ok i) ns own):=HDA.1
 have HFA:Hid (DFr B P w (w.drewN nq)):=HDA.2
 obtain ⟨wA,hwA⟩:∃W,w.drewN nq=W:=⟨_,rfl⟩
 rw [hwA] at HDA1 HFA ⊢
 obtain ⟨d0,d1,d5,-,-,-,-⟩:=HDA1.out.cells
 clear hwA HDA c0 c1 c5
 go_wp2_with (first | (go_at_call 55;refine (CF.out _ HDA1.out).mono ?_;rintro e w2 ⟨rfl,hd2,hf2⟩;have e5:=hd2.err.1))
 refine bodyPost_ret (results_none rfl _ _ _) rfl ?_
 exact ⟨rfl,fun j ns' hh=>(by cases hh),fun c hh=>(by cases hh;exact hd2.fq),HFA.out.two hf2⟩
set_option maxRecDepth 100000 in
set_option maxHeartbeats 3200000 in
theorem dVal_q (f:Nat) (B P R:Nat) (s:ByteArray) (own:List Nat) (now i up:Nat) (k:List UInt8) (p d:Nat) (ns:List Tn) (w:World) (h:Dt w B P R s now d (.ok i) ns own) (hs:s.size<=100000) (W:WF ns own) (V:WT ns) (hu:up < ns.length) (hk2:¬ kdAt ns up=2) (hd:d<=8) (hsz:ns.length+(s.size - i)<=700000) (hf:2 * (s.size - i)+1<=f+1) (hx:nx s.data.toList i=34) :
  Calls Tryz.prog 57 #[.pointer (some ⟨R,0,none⟩),.int .i64 (up:Nat),.string ⟨k.toArray⟩,.int .i64 (p:Nat)] w (DvPost B P R s now d own (val s.data.toList (f+1) i up k p d ns) w):=by
 have hl:s.data.toList.length=s.size:=by simp
 obtain ⟨c0,c1,c5,-,-,hi,-⟩:=h.cells
 have HD:Hid (Dt w B P R s now d (.ok i) ns own):=h
 rw [val_q _ _ _ _ _ _ _ _ hx]
 have hlt0:i < s.size:=by have:=nx_lt (l:=s.data.toList) (i:=i) (by omega);omega
 have hlt:i < s.size:=hlt0
 have hge:decide ((s.size:Int)<=(i:Int))=false:=by simp;omega
 have hge2:¬ (s.size:Int)<=(i:Int):=by omega
 have HXX:Hid (nx s.data.toList i=(s[i].toNat:Int)):=byte_at s i hlt
 have q34:((s[i].toNat:Int) == 34)=true:=by rw [<-HXX.out,hx];rfl
 have CQ:Hid (∀w,Dt w B P R s now d (.ok i) ns own->Calls Tryz.prog 82 #[.pointer (some ⟨R,0,none⟩)] w (TqPost B P R s now d ns own (str s.data.toList (s.data.toList.length+1) (i+1) []) w)):=fun w h=>qQuoted B P R s now d i ns own w h hx hs
 have CA:Hid (∀(q:Rs Nat) (t:List UInt8) w,Dt w B P R s now d q ns own->Calls Tryz.prog 17 #[.pointer (some ⟨R,0,none⟩),.int .i64 (up:Nat),.agg #[.int .i64 3,.string ⟨k.toArray⟩,.string ⟨t.toArray⟩,.int .i64 0,.slice none 0 0,.int .i64 (p:Nat)]] w (DaPost B P R s now d q ns own (addN ns up ⟨3,k,t,0,[],p⟩) w)):=fun q t w h=>dAdd_any B P R s now d q ns own up 3 0 k t p w h W hu (by omega)
 obtain ⟨G,hG⟩:∃G,str s.data.toList (s.data.toList.length+1) (i+1) []=G:=⟨_,rfl⟩
 rw [hG] at CQ ⊢
 obtain ⟨Q,hQ⟩:∃Q:Rs (Nat × List Tn),(vFin (fun t=>addN ns up ⟨3,k,t,0,[],p⟩) G)=Q:=⟨_,rfl⟩
 have HQ:Hid ((vFin (fun t=>addN ns up ⟨3,k,t,0,[],p⟩) G)=Q):=hQ
 rw [hQ]
 clear h hx hG hQ V W hk2 HXX
 go_enter Tryz.func57,Tryz.ntmps57
 go_wp2
 go_quiet (fail)
 have HDA:=HD.out.drew nq
 have HDA1:Hid (Dt (w.drewN nq) B P R s now d (.ok i) ns own):=HDA.1
 have HFA:Hid (DFr B P w (w.drewN nq)):=HDA.2
 obtain ⟨wA,hwA⟩:∃W,w.drewN nq=W:=⟨_,rfl⟩
 rw [hwA] at HDA1 HFA ⊢
 obtain ⟨d0,d1,d5,-,-,-,-⟩:=HDA1.out.cells
 clear hwA HDA c0 c1 c5
 go_wp2
 go_quiet (fail)
 have HDB:=HDA1.out.drew nq
 have HDB1:Hid (Dt (wA.drewN nq) B P R s now d (.ok i) ns own):=HDB.1
 have HFB:Hid (DFr B P w (wA.drewN nq)):=HFA.out.two HDB.2
 obtain ⟨wB,hwB⟩:∃W,wA.drewN nq=W:=⟨_,rfl⟩
 rw [hwB] at HDB1 HFB ⊢
 obtain ⟨g0,g1,g5,-,-,-,-⟩:=HDB1.out.cells
 clear hwB HDB d0 d1 d5
 go_wp2_with (first | (go_at_call 82;refine (CQ.out _ HDB1.out).mono ?_))
 rintro e w2 ⟨h1,h2,hf2⟩
 have HF2:Hid (DFr B P w w2):=HFB.out.two hf2
 clear hf2
 match G,h1,h2,HQ with
 | .error c,_,h2,HQ =>
  obtain ⟨t,rfl,hd2⟩:=h2 c rfl
  have HD2:Hid (Dt w2 B P R s now d (.error c) ns own):=hd2
  have HQ2:Hid (Q=.error c):=HQ.out.symm
  clear h2 hd2
  go_wp2_with (first | (go_at_call 17;refine (CA.out _ t _ HD2.out).mono ?_;rintro e w3 ⟨rfl,hd3,hf3⟩))
  refine bodyPost_end (results_none rfl _ _ _) rfl ?_
  rw [HQ2.out]
  exact ⟨rfl,fun j ns' hh=>(by cases hh),fun c' hh=>(by injection hh with hh;subst hh;exact hd3.fq),HF2.out.two hf3⟩
 | .ok (t,j),h1,_,HQ =>
  obtain ⟨rfl,hd2⟩:=h1 t j rfl
  have HD2:Hid (Dt w2 B P R s now d (.ok j) ns own):=hd2
  have HQ2:Hid (Q=.ok (j,addN ns up ⟨3,k,t,0,[],p⟩)):=HQ.out.symm
  clear h1 hd2
  go_wp2_with (first | (go_at_call 17;refine (CA.out _ t _ HD2.out).mono ?_;rintro e w3 ⟨rfl,hd3,hf3⟩))
  refine bodyPost_end (results_none rfl _ _ _) rfl ?_
  rw [HQ2.out]
  exact ⟨rfl,fun j ns' hh=>(by cases hh;exact hd3),fun c' hh=>(by cases hh),HF2.out.two hf3⟩
set_option maxRecDepth 100000 in
set_option maxHeartbeats 3200000 in
theorem dVal_i (f:Nat) (B P R:Nat) (s:ByteArray) (own:List Nat) (now i up:Nat) (k:List UInt8) (p d:Nat) (ns:List Tn) (w:World) (h:Dt w B P R s now d (.ok i) ns own) (hs:s.size<=100000) (W:WF ns own) (V:WT ns) (hu:up < ns.length) (hk2:¬ kdAt ns up=2) (hd:d<=8) (hsz:ns.length+(s.size - i)<=700000) (hf:2 * (s.size - i)+1<=f+1) (hx:nx s.data.toList i=43\/nx s.data.toList i=45\/isDg (nx s.data.toList i)=true) :
  Calls Tryz.prog 57 #[.pointer (some ⟨R,0,none⟩),.int .i64 (up:Nat),.string ⟨k.toArray⟩,.int .i64 (p:Nat)] w (DvPost B P R s now d own (val s.data.toList (f+1) i up k p d ns) w):=by
 have hl:s.data.toList.length=s.size:=by simp
 obtain ⟨c0,c1,c5,-,-,hi,-⟩:=h.cells
 have HD:Hid (Dt w B P R s now d (.ok i) ns own):=h
 have hx34:¬ nx s.data.toList i=34:=fun e=>by rw [e] at hx;revert hx;decide
 have hx91:¬ nx s.data.toList i=91:=fun e=>by rw [e] at hx;revert hx;decide
 rw [val_i _ _ _ _ _ _ _ _ hx34 hx]
 have hlt0:i < s.size:=by
  have:=nx_lt (l:=s.data.toList) (i:=i) (by
   rcases hx with h | h | h
   ·rw [h];decide
   ·rw [h];decide
   ·have:=of_decide_eq_true h;omega)
  omega
 have hlt:i < s.size:=hlt0
 have hge:decide ((s.size:Int)<=(i:Int))=false:=by simp;omega
 have hge2:¬ (s.size:Int)<=(i:Int):=by omega
 have HXX:Hid (nx s.data.toList i=(s[i].toNat:Int)):=byte_at s i hlt
 have q34:((s[i].toNat:Int) == 34)=false:=by rw [beq_eq_false_iff_ne,<-HXX.out];exact hx34
 have q91:((s[i].toNat:Int) == 91)=false:=by rw [beq_eq_false_iff_ne,<-HXX.out];exact hx91
 have CD:Hid (∀w,Calls Tryz.prog 84 #[.int .u8 (s[i].toNat:Int)] w fun e w'=>e=.returned (.bool (isDg (s[i].toNat:Int)))/\w'=w):=dDigit_any s[i]
 have HOR:Hid (((s[i].toNat:Int) == 43)=true\/(((s[i].toNat:Int) == 43)=false/\((s[i].toNat:Int) == 45)=true)\/(((s[i].toNat:Int) == 43)=false/\((s[i].toNat:Int) == 45)=false/\isDg (s[i].toNat:Int)=true)):=by
  show _\/_
  rw [HXX.out] at hx
  by_cases h1:(s[i].toNat:Int)=43
  ·left;simpa using h1
  ·by_cases h2:(s[i].toNat:Int)=45
   ·right;left;exact ⟨by simpa using h1,by simpa using h2⟩
   ·right;right
    exact ⟨by simpa using h1,by simpa using h2,by rcases hx with h | h | h;exact (h1 h).elim;exact (h2 h).elim;exact h⟩
 have CQ:Hid (∀w,Dt w B P R s now d (.ok i) ns own->Calls Tryz.prog 85 #[.pointer (some ⟨R,0,none⟩)] w (IqPost B P R s now d ns own (rdInt s.data.toList i) w)):=fun w h=>qInt B P R s now d i ns own w h hlt hx hs
 have CA:Hid (∀(q:Rs Nat) (t:Int) w,Dt w B P R s now d q ns own->Calls Tryz.prog 17 #[.pointer (some ⟨R,0,none⟩),.int .i64 (up:Nat),.agg #[.int .i64 4,.string ⟨k.toArray⟩,.string ⟨#[]⟩,.int .i64 t,.slice none 0 0,.int .i64 (p:Nat)]] w (DaPost B P R s now d q ns own (addN ns up ⟨4,k,[],t,[],p⟩) w)):=fun q t w h=>dAdd_any B P R s now d q ns own up 4 t k [] p w h W hu (by omega)
 obtain ⟨G,hG⟩:∃G,rdInt s.data.toList i=G:=⟨_,rfl⟩
 rw [hG] at CQ ⊢
 obtain ⟨Q,hQ⟩:∃Q:Rs (Nat × List Tn),(vFin (fun n=>addN ns up ⟨4,k,[],n,[],p⟩) G)=Q:=⟨_,rfl⟩
 have HQ:Hid ((vFin (fun n=>addN ns up ⟨4,k,[],n,[],p⟩) G)=Q):=hQ
 rw [hQ]
 obtain ⟨bd,hbd⟩:∃b,isDg (s[i].toNat:Int)=b:=⟨_,rfl⟩
 rw [hbd] at CD HOR
 clear h hx hG hQ V W hk2 HXX hx34 hx91 hbd
 go_enter Tryz.func57,Tryz.ntmps57
 go_wp2
 go_quiet (fail)
 have HDA:=HD.out.drew nq
 have HDA1:Hid (Dt (w.drewN nq) B P R s now d (.ok i) ns own):=HDA.1
 have HFA:Hid (DFr B P w (w.drewN nq)):=HDA.2
 obtain ⟨wA,hwA⟩:∃W,w.drewN nq=W:=⟨_,rfl⟩
 rw [hwA] at HDA1 HFA ⊢
 obtain ⟨d0,d1,d5,-,-,-,-⟩:=HDA1.out.cells
 clear hwA HDA c0 c1 c5
 go_wp2
 go_quiet (fail)
 have HDB:=HDA1.out.drew nq
 have HDB1:Hid (Dt (wA.drewN nq) B P R s now d (.ok i) ns own):=HDB.1
 have HFB:Hid (DFr B P w (wA.drewN nq)):=HFA.out.two HDB.2
 obtain ⟨wB,hwB⟩:∃W,wA.drewN nq=W:=⟨_,rfl⟩
 rw [hwB] at HDB1 HFB ⊢
 obtain ⟨g0,g1,g5,-,-,-,-⟩:=HDB1.out.cells
 clear hwB HDB d0 d1 d5
 rcases HOR.out with q43 | ⟨q43,q45⟩ | ⟨q43,q45,rfl⟩
 ·go_wp2_with (first | (go_at_call 85;refine (CQ.out _ HDB1.out).mono ?_))
  rintro e w2 ⟨h1,h2,hf2⟩
  have HF2:Hid (DFr B P w w2):=HFB.out.two hf2
  clear hf2
  match G,h1,h2,HQ with
  | .error c,_,h2,HQ =>
   obtain ⟨t,rfl,hd2⟩:=h2 c rfl
   have HD2:Hid (Dt w2 B P R s now d (.error c) ns own):=hd2
   have HQ2:Hid (Q=.error c):=HQ.out.symm
   clear h2 hd2
   go_wp2_with (first | (go_at_call 17;refine (CA.out _ t _ HD2.out).mono ?_;rintro e w3 ⟨rfl,hd3,hf3⟩))
   refine bodyPost_end (results_none rfl _ _ _) rfl ?_
   rw [HQ2.out]
   exact ⟨rfl,fun j ns' hh=>(by cases hh),fun c' hh=>(by injection hh with hh;subst hh;exact hd3.fq),HF2.out.two hf3⟩
  | .ok (t,j),h1,_,HQ =>
   obtain ⟨rfl,hd2⟩:=h1 t j rfl
   have HD2:Hid (Dt w2 B P R s now d (.ok j) ns own):=hd2
   have HQ2:Hid (Q=.ok (j,addN ns up ⟨4,k,[],t,[],p⟩)):=HQ.out.symm
   clear h1 hd2
   go_wp2_with (first | (go_at_call 17;refine (CA.out _ t _ HD2.out).mono ?_;rintro e w3 ⟨rfl,hd3,hf3⟩))
   refine bodyPost_end (results_none rfl _ _ _) rfl ?_
   rw [HQ2.out]
   exact ⟨rfl,fun j ns' hh=>(by cases hh;exact hd3),fun c' hh=>(by cases hh),HF2.out.two hf3⟩
 ·go_wp2_with (first | (go_at_call 85;refine (CQ.out _ HDB1.out).mono ?_))
  rintro e w2 ⟨h1,h2,hf2⟩
  have HF2:Hid (DFr B P w w2):=HFB.out.two hf2
  clear hf2
  match G,h1,h2,HQ with
  | .error c,_,h2,HQ =>
   obtain ⟨t,rfl,hd2⟩:=h2 c rfl
   have HD2:Hid (Dt w2 B P R s now d (.error c) ns own):=hd2
   have HQ2:Hid (Q=.error c):=HQ.out.symm
   clear h2 hd2
   go_wp2_with (first | (go_at_call 17;refine (CA.out _ t _ HD2.out).mono ?_;rintro e w3 ⟨rfl,hd3,hf3⟩))
   refine bodyPost_end (results_none rfl _ _ _) rfl ?_
   rw [HQ2.out]
   exact ⟨rfl,fun j ns' hh=>(by cases hh),fun c' hh=>(by injection hh with hh;subst hh;exact hd3.fq),HF2.out.two hf3⟩
  | .ok (t,j),h1,_,HQ =>
   obtain ⟨rfl,hd2⟩:=h1 t j rfl
   have HD2:Hid (Dt w2 B P R s now d (.ok j) ns own):=hd2
   have HQ2:Hid (Q=.ok (j,addN ns up ⟨4,k,[],t,[],p⟩)):=HQ.out.symm
   clear h1 hd2
   go_wp2_with (first | (go_at_call 17;refine (CA.out _ t _ HD2.out).mono ?_;rintro e w3 ⟨rfl,hd3,hf3⟩))
   refine bodyPost_end (results_none rfl _ _ _) rfl ?_
   rw [HQ2.out]
   exact ⟨rfl,fun j ns' hh=>(by cases hh;exact hd3),fun c' hh=>(by cases hh),HF2.out.two hf3⟩
 ·go_wp2_with (first | (go_at_call 85;refine (CQ.out _ HDB1.out).mono ?_) | (go_at_call 84;refine (CD.out _).mono ?_;rintro e w' ⟨rfl,rfl⟩))
  rintro e w2 ⟨h1,h2,hf2⟩
  have HF2:Hid (DFr B P w w2):=HFB.out.two hf2
  clear hf2
  match G,h1,h2,HQ with
  | .error c,_,h2,HQ =>
   obtain ⟨t,rfl,hd2⟩:=h2 c rfl
   have HD2:Hid (Dt w2 B P R s now d (.error c) ns own):=hd2
   have HQ2:Hid (Q=.error c):=HQ.out.symm
   clear h2 hd2
   go_wp2_with (first | (go_at_call 17;refine (CA.out _ t _ HD2.out).mono ?_;rintro e w3 ⟨rfl,hd3,hf3⟩))
   refine bodyPost_end (results_none rfl _ _ _) rfl ?_
   rw [HQ2.out]
   exact ⟨rfl,fun j ns' hh=>(by cases hh),fun c' hh=>(by injection hh with hh;subst hh;exact hd3.fq),HF2.out.two hf3⟩
  | .ok (t,j),h1,_,HQ =>
   obtain ⟨rfl,hd2⟩:=h1 t j rfl
   have HD2:Hid (Dt w2 B P R s now d (.ok j) ns own):=hd2
   have HQ2:Hid (Q=.ok (j,addN ns up ⟨4,k,[],t,[],p⟩)):=HQ.out.symm
   clear h1 hd2
   go_wp2_with (first | (go_at_call 17;refine (CA.out _ t _ HD2.out).mono ?_;rintro e w3 ⟨rfl,hd3,hf3⟩))
   refine bodyPost_end (results_none rfl _ _ _) rfl ?_
   rw [HQ2.out]
   exact ⟨rfl,fun j ns' hh=>(by cases hh;exact hd3),fun c' hh=>(by cases hh),HF2.out.two hf3⟩
end Go.Proofs.YtbgnflcebafjjaaGreatDoor
