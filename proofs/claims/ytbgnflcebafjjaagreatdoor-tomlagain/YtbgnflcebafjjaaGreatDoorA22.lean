import Derived.Test.YtbgnflcebafjjaaGreatDoorA20
namespace Go.Proofs.YtbgnflcebafjjaaGreatDoor
open Go.RowKit Go.Joins
set_option linter.unusedVariables false
set_option maxRecDepth 100000 in
set_option maxHeartbeats 6400000 in
theorem dInt_m (R:Nat) (s:ByteArray) (L O:Value) (now de i:Nat) (w:World) (h:Dd w R s L O now de i 0 0) (hi:i < s.size) (hs:s.size<=1048576) (hx:nx s.data.toList i=45) :
  Calls Tryz.prog 85 #[.pointer (some ⟨R,0,none⟩)] w (InPost R s L O now de (intF s.data.toList i (i+1) true) w):=by
 have hl:s.data.toList.length=s.size:=by simp
 have CI:Hid (∀c w,0<=c->Ds w R s L O now de (.ok i)->Calls Tryz.prog 27 #[.pointer (some ⟨R,0,none⟩),.int .u8 c] w fun e w'=>e=.returned (.bool (decide (nx s.data.toList i=c)))/\w.grownBy w' none):=fun c w h0 h1=>dIs_any R s L O now de (.ok i) c h0 w h1 hs
 have CI45:Hid (∀w,Ds w R s L O now de (.ok i)->Calls Tryz.prog 27 #[.pointer (some ⟨R,0,none⟩),.int .u8 45] w fun e w'=>e=.returned (.bool true)/\w.grownBy w' none):=fun w h=>by
  have:=CI.out 45 w (by decide) h
  rw [decide_eq_true hx] at this
  exact this
 have HD:Hid (Dd w R s L O now de i 0 0):=h
 obtain ⟨a,ha⟩:∃a,i+1=a:=⟨_,rfl⟩
 have hai:a<=s.size:=by omega
 have hai1:a<=i+1:=by omega
 obtain ⟨G,hG⟩:∃G,intF s.data.toList i (i+1) true=G:=⟨_,rfl⟩
 rw [hG]
 rw [ha] at hG
 have HG0:Hid ((if toR isDg s.data.toList a=a\/(1 < toR isDg s.data.toList a - a/\nx s.data.toList a=48) then .error (2,a)
  else if 18 < toR isDg s.data.toList a - a then .error (3,i)
  else .ok (if true=true then -(digN (subT s.data.toList a (toR isDg s.data.toList a - a)) 0:Int) else (digN (subT s.data.toList a (toR isDg s.data.toList a - a)) 0:Int),toR isDg s.data.toList a))=G):=hG
 obtain ⟨c0,c1,-,-,-,c5,-,-,df⟩:=h.cells
 have df1:=df 1
 have HA:Hid (i+1=a):=ha
 have HST:Hid (∀k (hk:k < s.size),isDg (s[k].toNat:Int)=true->toR isDg s.data.toList k=toR isDg s.data.toList (k+1)):=fun k hk hb=>toR_step isDg _ k (by omega) (by rw [byte_at s k hk];exact hb)
 have HSP:Hid (∀k (hk:k < s.size),isDg (s[k].toNat:Int)=false->toR isDg s.data.toList k=k):=fun k hk hb=>toR_stop isDg _ k (by rw [byte_at s k hk];exact hb)
 have HEN:Hid (∀k,s.size<=k->toR isDg s.data.toList k=k):=fun k hk=>toR_end isDg _ k (by omega)
 have HSS:Hid (∀k n,satN (subT s.data.toList a (k - a)) 0=n->a<=k->(hk:k < s.size)->satN (subT s.data.toList a (k+1 - a)) 0=if n<=99999999999999999 then 10 * n+(s[k].toNat - 48) else 1000000000000000000):=fun k n h1 h2 h3=>sat_sub s.data.toList a k n h1 h2 (by omega)
 have HDS:Hid (∀k,(∀c ∈ subT s.data.toList a (k - a),c.toNat<=57)->a<=k->(hk:k < s.size)->s[k].toNat<=57->∀c ∈ subT s.data.toList a (k+1 - a),c.toNat<=57):=fun k h1 h2 h3 h4=>dig_sub s.data.toList a k h1 h2 (by omega) h4
 have HLO:Hid (∀k,(∀c ∈ subT s.data.toList a (k - a),c.toNat<=57)->a<=k->k<=s.size->k - a<=18->satN (subT s.data.toList a (k - a)) 0=digN (subT s.data.toList a (k - a)) 0/\digN (subT s.data.toList a (k - a)) 0<=999999999999999999):=fun k h1 h2 h3 h4=>int_low s.data.toList a k h1 h2 (by omega) h4
 have HHI:Hid (∀k,(∀c ∈ subT s.data.toList a (k - a),c.toNat<=57)->a<=k->k<=s.size->18 < k - a->49<=nx s.data.toList a->satN (subT s.data.toList a (k - a)) 0=1000000000000000000):=fun k h1 h2 h3 h4 h5=>int_high s.data.toList a k h1 h2 (by omega) h4 h5
 have HNX:Hid (¬ toR isDg s.data.toList a=a->48<=nx s.data.toList a/\nx s.data.toList a<=57):=dg_nx s.data.toList a
 have HXB:Hid (∀k (hk:k < s.size),nx s.data.toList k=(s[k].toNat:Int)):=byte_at s
 have HDI:Hid (Ds w R s L O now de (.ok i)):=⟨by omega,h⟩
 clear h hG ha df hx
 go_enter Tryz.func85,Tryz.ntmps85
 go_wp2_with (first | (go_at_call 27;refine (CI45.out _ HDI.out).mono ?_))
 first | rintro e w1 rfl hg1 | rintro e w1 ⟨rfl,hg1⟩
 have HG1:Hid (w.grownBy w1 none):=hg1
 clear hg1
 obtain ⟨e0,e1,-,-,-,e5,-,-,ef⟩:=(HD.out.grow HG1.out).cells
 have ef1:=ef 1
 clear ef
 have HDA:Hid (Dd (w1.setCell ⟨R,1,none⟩ (.int .i64 ((i:Int)+1))) R s L O now de (i+1) 0 0):=(HD.out.grow HG1.out).setI (i+1)
 have HGA:Hid (w.grownBy (w1.setCell ⟨R,1,none⟩ (.int .i64 ((i:Int)+1))) (some R)):=gb_set (gb_more (gb_refl w (some R)) HG1.out) 1 _
 go_wp2
 obtain ⟨wA,hwA⟩:∃W,w1.setCell ⟨R,1,none⟩ (.int .i64 ((i:Int)+1))=W:=⟨_,rfl⟩
 rw [hwA] at HDA HGA ⊢
 rw [HA.out] at HDA
 have hcast:((i:Int)+1)=(a:Int):=by have:=HA.out;omega
 simp only [hcast]
 clear hwA hcast
 go_loopw [6] (fun vn wr=>∃k n:Nat,vn=.int .i64 (n:Nat)/\Dd wr R s L O now de k 0 0/\a<=k/\k<=s.size/\toR isDg s.data.toList k=toR isDg s.data.toList a/\satN (subT s.data.toList a (k - a)) 0=n/\n<=1000000000000000000/\(∀c ∈ subT s.data.toList a (k - a),c.toNat<=57)/\w.grownBy wr (some R)) (fun _ wr=>s.size - dI wr R)
 case atStart=>exact ⟨a,0,rfl,HDA.out,by omega,hai,rfl,by rw [Nat.sub_self];rfl,by omega,fun c hc=>(by rw [Nat.sub_self] at hc;unfold subT at hc;rw [List.take_zero] at hc;cases hc),HGA.out⟩
 case round =>
  obtain ⟨k,n,rfl,hd,hak,hk,hto,hsat,hn18,hall,hg⟩:=hrel
  have HDK:Hid (Dd _ R s L O now de k 0 0):=hd
  have HGK:Hid (w.grownBy _ (some R)):=hg
  have HME:Hid (dI _ R=k):=dI_eq hd
  have HTO:Hid (toR isDg s.data.toList k=toR isDg s.data.toList a):=hto
  have HSA:Hid (satN (subT s.data.toList a (k - a)) 0=n):=hsat
  have HAL:Hid (∀c ∈ subT s.data.toList a (k - a),c.toNat<=57):=hall
  obtain ⟨c0,c1,-,-,-,c5,-,-,df⟩:=hd.cells
  have df1:=df 1
  clear hd hg hto hsat hall df
  by_cases hlt:k < s.size
  ·have hlt':decide ((k:Int) < (s.size:Int))=true:=by simp;omega
   have CB:Hid (∀w,Calls Tryz.prog 84 #[.int .u8 (s[k].toNat:Int)] w fun e w'=>e=.returned (.bool (isDg (s[k].toNat:Int)))/\w'=w):=dDigit_any s[k]
   have H1:Hid (isDg (s[k].toNat:Int)=true->toR isDg s.data.toList k=toR isDg s.data.toList (k+1)):=HST.out k hlt
   have H2:Hid (isDg (s[k].toNat:Int)=false->toR isDg s.data.toList k=k):=HSP.out k hlt
   have H3:Hid (isDg (s[k].toNat:Int)=true->48<=s[k].toNat/\s[k].toNat<=57):=fun hh=>by
    unfold isDg at hh
    have:=of_decide_eq_true hh
    omega
   have H4:Hid (satN (subT s.data.toList a (k+1 - a)) 0=if n<=99999999999999999 then 10 * n+(s[k].toNat - 48) else 1000000000000000000):=HSS.out k n HSA.out hak hlt
   have H5:Hid (s[k].toNat<=57->∀c ∈ subT s.data.toList a (k+1 - a),c.toNat<=57):=HDS.out k HAL.out hak hlt
   obtain ⟨b,hb⟩:∃b,isDg (s[k].toNat:Int)=b:=⟨_,rfl⟩
   rw [hb] at CB H1 H2 H3
   clear hb
   cases b with
   | true =>
    have HN:Hid (toR isDg s.data.toList (k+1)=toR isDg s.data.toList a):=(H1.out rfl).symm.trans HTO.out
    obtain ⟨h48,h57⟩:=H3.out rfl
    have HAN:=H5.out h57
    have HAN':Hid (∀c ∈ subT s.data.toList a (k+1 - a),c.toNat<=57):=HAN
    clear HAN
    go_wp2
    go_quiet (first | (go_at_call 84;exact Calls.quiet_of_same (CB.out _)))
    have HDB:Hid (Dd (wr.drewN nq) R s L O now de k 0 0):=HDK.out
    have HGB:Hid (w.grownBy (wr.drewN nq) (some R)):=gb_drew HGK.out nq
    obtain ⟨wB,hwB⟩:∃W,wr.drewN nq=W:=⟨_,rfl⟩
    rw [hwB] at HDB HGB ⊢
    obtain ⟨d0,d1,-,-,-,d5,-,-,dg⟩:=HDB.out.cells
    have dg1:=dg 1
    have HSB:Hid (Dd (wB.setCell ⟨R,1,none⟩ (.int .i64 ((k:Int)+1))) R s L O now de (k+1) 0 0):=HDB.out.setI (k+1)
    clear hwB dg
    by_cases hsm:n<=99999999999999999
    ·have hsmI:(n:Int)<=99999999999999999:=by omega
     have HSN:Hid (satN (subT s.data.toList a (k+1 - a)) 0=10 * n+(s[k].toNat - 48)):=by
      have:=H4.out
      rw [if_pos hsm] at this
      exact this
     have HCV:Hid (10 * (n:Int)+(s[k].toNat:Int) - 48=((10 * n+(s[k].toNat - 48):Nat):Int)):=by show _=_;omega
     go_wp2
     go_quiet (fail)
     have HDC:Hid (Dd (wB.drewN nq) R s L O now de k 0 0):=HDB.out
     have HGC:Hid (w.grownBy (wB.drewN nq) (some R)):=gb_drew HGB.out nq
     obtain ⟨wC,hwC⟩:∃W,wB.drewN nq=W:=⟨_,rfl⟩
     rw [hwC] at HDC HGC ⊢
     obtain ⟨f0,f1,-,-,-,f5,-,-,fg⟩:=HDC.out.cells
     have fg1:=fg 1
     have HSC:Hid (Dd (wC.setCell ⟨R,1,none⟩ (.int .i64 ((k:Int)+1))) R s L O now de (k+1) 0 0):=HDC.out.setI (k+1)
     clear hwC fg
     go_wp2
     refine ⟨⟨k+1,10 * n+(s[k].toNat - 48),by first | rfl | rw [HCV.out] | (congr 1;have:=HCV.out;omega),HSC.out,by omega,by omega,HN.out,HSN.out,by omega,HAN'.out,gb_set HGC.out 1 _⟩,?_⟩
     rw [HME.out,dI_eq HSC.out]
     omega
    ·have hsmI:¬ (n:Int)<=99999999999999999:=by omega
     have hsmJ:(99999999999999999:Int) < (n:Int):=by omega
     have HSN:Hid (satN (subT s.data.toList a (k+1 - a)) 0=1000000000000000000):=by
      have:=H4.out
      rw [if_neg hsm] at this
      exact this
     go_wp2
     refine ⟨⟨k+1,1000000000000000000,rfl,HSB.out,by omega,by omega,HN.out,HSN.out,by omega,HAN'.out,gb_set HGB.out 1 _⟩,?_⟩
     rw [HME.out,dI_eq HSB.out]
     omega
   | false =>
    have HJ:Hid (toR isDg s.data.toList a=k):=HTO.out.symm.trans (H2.out rfl)
    clear H1 H2 H3 H4 H5
    go_wp2
    go_quiet (first | (go_at_call 84;exact Calls.quiet_of_same (CB.out _)))
    have HDB:Hid (Dd (wr.drewN nq) R s L O now de k 0 0):=HDK.out
    have HGB:Hid (w.grownBy (wr.drewN nq) (some R)):=gb_drew HGK.out nq
    obtain ⟨wB,hwB⟩:∃W,wr.drewN nq=W:=⟨_,rfl⟩
    rw [hwB] at HDB HGB ⊢
    obtain ⟨d0,d1,-,-,-,d5,-,-,dg⟩:=HDB.out.cells
    clear hwB dg
    have HG9:=HG0.out
    rw [HJ.out] at HG9
    have HGJ:Hid ((if k=a\/(1 < k - a/\nx s.data.toList a=48) then .error (2,a)
     else if 18 < k - a then .error (3,i)
     else .ok (if true=true then -(digN (subT s.data.toList a (k - a)) 0:Int) else (digN (subT s.data.toList a (k - a)) 0:Int),k))=G):=HG9
    have HNJ:Hid (¬ k=a->48<=nx s.data.toList a/\nx s.data.toList a<=57):=fun hh=>HNX.out (by rw [HJ.out];exact hh)
    have hsub:IntKind.i64.wrap ((k:Int) - (a:Int))=(k:Int) - (a:Int):=by rw [IntKind.wrap_i64];omega
    clear HG9
    have CF2:Hid (∀wx,Dd wx R s L O now de k 0 0->Calls Tryz.prog 55 #[.pointer (some ⟨R,0,none⟩),.int .i64 2,.int .i64 (a:Nat)] wx fun en w'=>en=.returned (.tuple #[])/\Dd w' R s L O now de k 2 a/\wx.grownBy w' (some R)):=fun wx hg=>dFail_yes R s L O now de k 2 a wx hg
    have CF3:Hid (∀wx,Dd wx R s L O now de k 0 0->Calls Tryz.prog 55 #[.pointer (some ⟨R,0,none⟩),.int .i64 3,.int .i64 (i:Nat)] wx fun en w'=>en=.returned (.tuple #[])/\Dd w' R s L O now de k 3 i/\wx.grownBy w' (some R)):=fun wx hg=>dFail_yes R s L O now de k 3 i wx hg
    have CFN:Hid (∀wx,Dd wx R s L O now de k 2 a->Calls Tryz.prog 55 #[.pointer (some ⟨R,0,none⟩),.int .i64 3,.int .i64 (i:Nat)] wx fun en w'=>en=.returned (.tuple #[])/\w'=wx):=fun wx hg=>dFail_no R s L O now de k 2 a 3 i wx hg (by decide)
    by_cases hka:k=a
    ·have HGG:Hid (G=.error (2,a)):=by
      have:=HGJ.out
      rw [if_pos (Or.inl hka)] at this
      exact this.symm
     have hn0:n=0:=by
      have:=HSA.out
      rw [hka,Nat.sub_self] at this
      unfold subT at this
      rw [List.take_zero] at this
      exact this.symm
     have hbk:((k:Int) == (a:Int))=true:=by simp [hka]
     have hmx:(n:Int)<=999999999999999999:=by omega
     clear hka hn0
     go_wp2_with (first | (go_at_call 55;refine (CF2.out _ HDB.out).mono ?_;rintro e w3 ⟨rfl,hd3,hg3⟩))
     refine bodyPost_ret (results_tmp (t:=2) rfl _ _ _) rfl ?_
     rw [HGG.out]
     exact ⟨fun n j hh=>(by cases hh),fun c p hh=>(by cases hh;exact ⟨⟨_,rfl⟩,by decide,k,hk,hd3⟩),gb_two HGB.out hg3⟩
    ·have hbk:((k:Int) == (a:Int))=false:=by rw [beq_eq_false_iff_ne];omega
     have hal:a < s.size:=by omega
     have hxa:=HXB.out a hal
     obtain ⟨hn1,hn2⟩:=HNJ.out hka
     by_cases hlz:1 < k - a/\nx s.data.toList a=48
     ·have HGG:Hid (G=.error (2,a)):=by
       have:=HGJ.out
       rw [if_pos (Or.inr hlz)] at this
       exact this.symm
      have h1k:(1:Int) < (k:Int) - (a:Int):=by omega
      have hb48:((s[a].toNat:Int) == 48)=true:=by rw [<-hxa,hlz.2];rfl
      clear hlz hxa hn1 hn2
      by_cases hmx:n<=999999999999999999
      ·have hmI:(n:Int)<=999999999999999999:=by omega
       clear hka
       go_wp2_with (first | (go_at_call 55;refine (CF2.out _ HDB.out).mono ?_;rintro e w3 ⟨rfl,hd3,hg3⟩))
       refine bodyPost_ret (results_tmp (t:=2) rfl _ _ _) rfl ?_
       rw [HGG.out]
       exact ⟨fun n j hh=>(by cases hh),fun c p hh=>(by cases hh;exact ⟨⟨_,rfl⟩,by decide,k,hk,hd3⟩),gb_two HGB.out hg3⟩
      ·have hmI:(999999999999999999:Int) < (n:Int):=by omega
       clear hka
       go_wp2_with (first | (go_at_call 55;refine (CF2.out _ HDB.out).mono ?_))
       first | rintro e w3 rfl hd3 hg3 | rintro e w3 ⟨rfl,hd3,hg3⟩
       have HD3:Hid (Dd w3 R s L O now de k 2 a):=hd3
       have HG3:Hid (w.grownBy w3 (some R)):=gb_two HGB.out hg3
       clear hd3 hg3
       go_wp2_with (first | (go_at_call 55;refine (CFN.out _ HD3.out).mono ?_))
       first | rintro e w' rfl rfl | rintro e w' ⟨rfl,rfl⟩
       go_wp2
       refine bodyPost_ret (results_tmp (t:=2) rfl _ _ _) rfl ?_
       rw [HGG.out]
       exact ⟨fun n j hh=>(by cases hh),fun c p hh=>(by cases hh;exact ⟨⟨_,rfl⟩,by decide,k,hk,HD3.out⟩),HG3.out⟩
     ·have hno:¬ (k=a\/(1 < k - a/\nx s.data.toList a=48)):=by rintro (h | h);exact hka h;exact hlz h
      have hgd:((1:Int) < (k:Int) - (a:Int))->((s[a].toNat:Int) == 48)=false:=fun hh=>by
       rw [beq_eq_false_iff_ne,<-hxa]
       intro e
       exact hlz ⟨by omega,e⟩
      by_cases h18:18 < k - a
      ·have HGG:Hid (G=.error (3,i)):=by
        have:=HGJ.out
        rw [if_neg hno,if_pos h18] at this
        exact this.symm
       have hnn:n=1000000000000000000:=by rw [<-HSA.out];exact HHI.out k HAL.out hak hk h18 (by
        have:¬ nx s.data.toList a=48:=fun e=>hlz ⟨by omega,e⟩
        omega)
       have hmI:(999999999999999999:Int) < (n:Int):=by omega
       have h1k:(1:Int) < (k:Int) - (a:Int):=by omega
       have hb48:=hgd h1k
       clear hka hlz hno hgd h18 hnn hxa hn1 hn2
       go_wp2_with (first | (go_at_call 55;refine (CF3.out _ HDB.out).mono ?_;rintro e w3 ⟨rfl,hd3,hg3⟩))
       refine bodyPost_ret (results_tmp (t:=2) rfl _ _ _) rfl ?_
       rw [HGG.out]
       exact ⟨fun n j hh=>(by cases hh),fun c p hh=>(by cases hh;exact ⟨⟨_,rfl⟩,by decide,k,hk,hd3⟩),gb_two HGB.out hg3⟩
      ·obtain ⟨hlo1,hlo2⟩:=HLO.out k HAL.out hak hk (by omega)
       have hnd:digN (subT s.data.toList a (k - a)) 0=n:=hlo1.symm.trans HSA.out
       have HGG:Hid (G=.ok (-(n:Int),k)):=by
        have:=HGJ.out
        rw [if_neg hno,if_neg h18,hnd] at this
        exact this.symm
       have hmI:(n:Int)<=999999999999999999:=by omega
       by_cases h1k:(1:Int) < (k:Int) - (a:Int)
       ·have hb48:=hgd h1k
        clear hka hlz hno hgd h18 hlo1 hlo2 hnd hxa hn1 hn2
        go_wp2
        refine bodyPost_ret (results_tmp (t:=2) rfl _ _ _) rfl ?_
        rw [HGG.out]
        exact ⟨fun n j hh=>(by cases hh;exact ⟨rfl,hk,HDB.out⟩),fun c p hh=>(by cases hh),HGB.out⟩
       ·have h1l:(k:Int) - (a:Int)<=1:=by omega
        clear hka hlz hno hgd h18 hlo1 hlo2 hnd hxa hn1 hn2
        go_wp2
        refine bodyPost_ret (results_tmp (t:=2) rfl _ _ _) rfl ?_
        rw [HGG.out]
        exact ⟨fun n j hh=>(by cases hh;exact ⟨rfl,hk,HDB.out⟩),fun c p hh=>(by cases hh),HGB.out⟩
  ·have hge:decide ((k:Int) < (s.size:Int))=false:=by simp;omega
   have HJ:Hid (toR isDg s.data.toList a=k):=HTO.out.symm.trans (HEN.out k (by omega))
   go_wp2
   go_quiet (fail)
   have HDB:Hid (Dd (wr.drewN nq) R s L O now de k 0 0):=HDK.out
   have HGB:Hid (w.grownBy (wr.drewN nq) (some R)):=gb_drew HGK.out nq
   obtain ⟨wB,hwB⟩:∃W,wr.drewN nq=W:=⟨_,rfl⟩
   rw [hwB] at HDB HGB ⊢
   obtain ⟨d0,d1,-,-,-,d5,-,-,dg⟩:=HDB.out.cells
   clear hwB dg
   have HG9:=HG0.out
   rw [HJ.out] at HG9
   have HGJ:Hid ((if k=a\/(1 < k - a/\nx s.data.toList a=48) then .error (2,a)
    else if 18 < k - a then .error (3,i)
    else .ok (if true=true then -(digN (subT s.data.toList a (k - a)) 0:Int) else (digN (subT s.data.toList a (k - a)) 0:Int),k))=G):=HG9
   have HNJ:Hid (¬ k=a->48<=nx s.data.toList a/\nx s.data.toList a<=57):=fun hh=>HNX.out (by rw [HJ.out];exact hh)
   have hsub:IntKind.i64.wrap ((k:Int) - (a:Int))=(k:Int) - (a:Int):=by rw [IntKind.wrap_i64];omega
   clear HG9
   have CF2:Hid (∀wx,Dd wx R s L O now de k 0 0->Calls Tryz.prog 55 #[.pointer (some ⟨R,0,none⟩),.int .i64 2,.int .i64 (a:Nat)] wx fun en w'=>en=.returned (.tuple #[])/\Dd w' R s L O now de k 2 a/\wx.grownBy w' (some R)):=fun wx hg=>dFail_yes R s L O now de k 2 a wx hg
   have CF3:Hid (∀wx,Dd wx R s L O now de k 0 0->Calls Tryz.prog 55 #[.pointer (some ⟨R,0,none⟩),.int .i64 3,.int .i64 (i:Nat)] wx fun en w'=>en=.returned (.tuple #[])/\Dd w' R s L O now de k 3 i/\wx.grownBy w' (some R)):=fun wx hg=>dFail_yes R s L O now de k 3 i wx hg
   have CFN:Hid (∀wx,Dd wx R s L O now de k 2 a->Calls Tryz.prog 55 #[.pointer (some ⟨R,0,none⟩),.int .i64 3,.int .i64 (i:Nat)] wx fun en w'=>en=.returned (.tuple #[])/\w'=wx):=fun wx hg=>dFail_no R s L O now de k 2 a 3 i wx hg (by decide)
   by_cases hka:k=a
   ·have HGG:Hid (G=.error (2,a)):=by
     have:=HGJ.out
     rw [if_pos (Or.inl hka)] at this
     exact this.symm
    have hn0:n=0:=by
     have:=HSA.out
     rw [hka,Nat.sub_self] at this
     unfold subT at this
     rw [List.take_zero] at this
     exact this.symm
    have hbk:((k:Int) == (a:Int))=true:=by simp [hka]
    have hmx:(n:Int)<=999999999999999999:=by omega
    clear hka hn0
    go_wp2_with (first | (go_at_call 55;refine (CF2.out _ HDB.out).mono ?_;rintro e w3 ⟨rfl,hd3,hg3⟩))
    refine bodyPost_ret (results_tmp (t:=2) rfl _ _ _) rfl ?_
    rw [HGG.out]
    exact ⟨fun n j hh=>(by cases hh),fun c p hh=>(by cases hh;exact ⟨⟨_,rfl⟩,by decide,k,hk,hd3⟩),gb_two HGB.out hg3⟩
   ·have hbk:((k:Int) == (a:Int))=false:=by rw [beq_eq_false_iff_ne];omega
    have hal:a < s.size:=by omega
    have hxa:=HXB.out a hal
    obtain ⟨hn1,hn2⟩:=HNJ.out hka
    by_cases hlz:1 < k - a/\nx s.data.toList a=48
    ·have HGG:Hid (G=.error (2,a)):=by
      have:=HGJ.out
      rw [if_pos (Or.inr hlz)] at this
      exact this.symm
     have h1k:(1:Int) < (k:Int) - (a:Int):=by omega
     have hb48:((s[a].toNat:Int) == 48)=true:=by rw [<-hxa,hlz.2];rfl
     clear hlz hxa hn1 hn2
     by_cases hmx:n<=999999999999999999
     ·have hmI:(n:Int)<=999999999999999999:=by omega
      clear hka
      go_wp2_with (first | (go_at_call 55;refine (CF2.out _ HDB.out).mono ?_;rintro e w3 ⟨rfl,hd3,hg3⟩))
      refine bodyPost_ret (results_tmp (t:=2) rfl _ _ _) rfl ?_
      rw [HGG.out]
      exact ⟨fun n j hh=>(by cases hh),fun c p hh=>(by cases hh;exact ⟨⟨_,rfl⟩,by decide,k,hk,hd3⟩),gb_two HGB.out hg3⟩
     ·have hmI:(999999999999999999:Int) < (n:Int):=by omega
      clear hka
      go_wp2_with (first | (go_at_call 55;refine (CF2.out _ HDB.out).mono ?_))
      first | rintro e w3 rfl hd3 hg3 | rintro e w3 ⟨rfl,hd3,hg3⟩
      have HD3:Hid (Dd w3 R s L O now de k 2 a):=hd3
      have HG3:Hid (w.grownBy w3 (some R)):=gb_two HGB.out hg3
      clear hd3 hg3
      go_wp2_with (first | (go_at_call 55;refine (CFN.out _ HD3.out).mono ?_))
      first | rintro e w' rfl rfl | rintro e w' ⟨rfl,rfl⟩
      go_wp2
      refine bodyPost_ret (results_tmp (t:=2) rfl _ _ _) rfl ?_
      rw [HGG.out]
      exact ⟨fun n j hh=>(by cases hh),fun c p hh=>(by cases hh;exact ⟨⟨_,rfl⟩,by decide,k,hk,HD3.out⟩),HG3.out⟩
    ·have hno:¬ (k=a\/(1 < k - a/\nx s.data.toList a=48)):=by rintro (h | h);exact hka h;exact hlz h
     have hgd:((1:Int) < (k:Int) - (a:Int))->((s[a].toNat:Int) == 48)=false:=fun hh=>by
      rw [beq_eq_false_iff_ne,<-hxa]
      intro e
      exact hlz ⟨by omega,e⟩
     by_cases h18:18 < k - a
     ·have HGG:Hid (G=.error (3,i)):=by
       have:=HGJ.out
       rw [if_neg hno,if_pos h18] at this
       exact this.symm
      have hnn:n=1000000000000000000:=by rw [<-HSA.out];exact HHI.out k HAL.out hak hk h18 (by
       have:¬ nx s.data.toList a=48:=fun e=>hlz ⟨by omega,e⟩
       omega)
      have hmI:(999999999999999999:Int) < (n:Int):=by omega
      have h1k:(1:Int) < (k:Int) - (a:Int):=by omega
      have hb48:=hgd h1k
      clear hka hlz hno hgd h18 hnn hxa hn1 hn2
      go_wp2_with (first | (go_at_call 55;refine (CF3.out _ HDB.out).mono ?_;rintro e w3 ⟨rfl,hd3,hg3⟩))
      refine bodyPost_ret (results_tmp (t:=2) rfl _ _ _) rfl ?_
      rw [HGG.out]
      exact ⟨fun n j hh=>(by cases hh),fun c p hh=>(by cases hh;exact ⟨⟨_,rfl⟩,by decide,k,hk,hd3⟩),gb_two HGB.out hg3⟩
     ·obtain ⟨hlo1,hlo2⟩:=HLO.out k HAL.out hak hk (by omega)
      have hnd:digN (subT s.data.toList a (k - a)) 0=n:=hlo1.symm.trans HSA.out
      have HGG:Hid (G=.ok (-(n:Int),k)):=by
       have:=HGJ.out
       rw [if_neg hno,if_neg h18,hnd] at this
       exact this.symm
      have hmI:(n:Int)<=999999999999999999:=by omega
      by_cases h1k:(1:Int) < (k:Int) - (a:Int)
      ·have hb48:=hgd h1k
       clear hka hlz hno hgd h18 hlo1 hlo2 hnd hxa hn1 hn2
       go_wp2
       refine bodyPost_ret (results_tmp (t:=2) rfl _ _ _) rfl ?_
       rw [HGG.out]
       exact ⟨fun n j hh=>(by cases hh;exact ⟨rfl,hk,HDB.out⟩),fun c p hh=>(by cases hh),HGB.out⟩
      ·have h1l:(k:Int) - (a:Int)<=1:=by omega
       clear hka hlz hno hgd h18 hlo1 hlo2 hnd hxa hn1 hn2
       go_wp2
       refine bodyPost_ret (results_tmp (t:=2) rfl _ _ _) rfl ?_
       rw [HGG.out]
       exact ⟨fun n j hh=>(by cases hh;exact ⟨rfl,hk,HDB.out⟩),fun c p hh=>(by cases hh),HGB.out⟩
set_option maxRecDepth 100000 in
set_option maxHeartbeats 6400000 in
theorem dInt_p (R:Nat) (s:ByteArray) (L O:Value) (now de i:Nat) (w:World) (h:Dd w R s L O now de i 0 0) (hi:i < s.size) (hs:s.size<=1048576) (hx:¬ nx s.data.toList i=45) (hy:nx s.data.toList i=43) :
  Calls Tryz.prog 85 #[.pointer (some ⟨R,0,none⟩)] w (InPost R s L O now de (intF s.data.toList i (i+1) false) w):=by
 have hl:s.data.toList.length=s.size:=by simp
 have CI:Hid (∀c w,0<=c->Ds w R s L O now de (.ok i)->Calls Tryz.prog 27 #[.pointer (some ⟨R,0,none⟩),.int .u8 c] w fun e w'=>e=.returned (.bool (decide (nx s.data.toList i=c)))/\w.grownBy w' none):=fun c w h0 h1=>dIs_any R s L O now de (.ok i) c h0 w h1 hs
 have CI45:Hid (∀w,Ds w R s L O now de (.ok i)->Calls Tryz.prog 27 #[.pointer (some ⟨R,0,none⟩),.int .u8 45] w fun e w'=>e=.returned (.bool false)/\w.grownBy w' none):=fun w h=>by
  have:=CI.out 45 w (by decide) h
  rw [decide_eq_false hx] at this
  exact this
 have CI43:Hid (∀w,Ds w R s L O now de (.ok i)->Calls Tryz.prog 27 #[.pointer (some ⟨R,0,none⟩),.int .u8 43] w fun e w'=>e=.returned (.bool true)/\w.grownBy w' none):=fun w h=>by
  have:=CI.out 43 w (by decide) h
  rw [decide_eq_true hy] at this
  exact this
 have HD:Hid (Dd w R s L O now de i 0 0):=h
 obtain ⟨a,ha⟩:∃a,i+1=a:=⟨_,rfl⟩
 have hai:a<=s.size:=by omega
 have hai1:a<=i+1:=by omega
 obtain ⟨G,hG⟩:∃G,intF s.data.toList i (i+1) false=G:=⟨_,rfl⟩
 rw [hG]
 rw [ha] at hG
 have HG0:Hid ((if toR isDg s.data.toList a=a\/(1 < toR isDg s.data.toList a - a/\nx s.data.toList a=48) then .error (2,a)
  else if 18 < toR isDg s.data.toList a - a then .error (3,i)
  else .ok (if false=true then -(digN (subT s.data.toList a (toR isDg s.data.toList a - a)) 0:Int) else (digN (subT s.data.toList a (toR isDg s.data.toList a - a)) 0:Int),toR isDg s.data.toList a))=G):=hG
 obtain ⟨c0,c1,-,-,-,c5,-,-,df⟩:=h.cells
 have df1:=df 1
 have HA:Hid (i+1=a):=ha
 have HST:Hid (∀k (hk:k < s.size),isDg (s[k].toNat:Int)=true->toR isDg s.data.toList k=toR isDg s.data.toList (k+1)):=fun k hk hb=>toR_step isDg _ k (by omega) (by rw [byte_at s k hk];exact hb)
 have HSP:Hid (∀k (hk:k < s.size),isDg (s[k].toNat:Int)=false->toR isDg s.data.toList k=k):=fun k hk hb=>toR_stop isDg _ k (by rw [byte_at s k hk];exact hb)
 have HEN:Hid (∀k,s.size<=k->toR isDg s.data.toList k=k):=fun k hk=>toR_end isDg _ k (by omega)
 have HSS:Hid (∀k n,satN (subT s.data.toList a (k - a)) 0=n->a<=k->(hk:k < s.size)->satN (subT s.data.toList a (k+1 - a)) 0=if n<=99999999999999999 then 10 * n+(s[k].toNat - 48) else 1000000000000000000):=fun k n h1 h2 h3=>sat_sub s.data.toList a k n h1 h2 (by omega)
 have HDS:Hid (∀k,(∀c ∈ subT s.data.toList a (k - a),c.toNat<=57)->a<=k->(hk:k < s.size)->s[k].toNat<=57->∀c ∈ subT s.data.toList a (k+1 - a),c.toNat<=57):=fun k h1 h2 h3 h4=>dig_sub s.data.toList a k h1 h2 (by omega) h4
 have HLO:Hid (∀k,(∀c ∈ subT s.data.toList a (k - a),c.toNat<=57)->a<=k->k<=s.size->k - a<=18->satN (subT s.data.toList a (k - a)) 0=digN (subT s.data.toList a (k - a)) 0/\digN (subT s.data.toList a (k - a)) 0<=999999999999999999):=fun k h1 h2 h3 h4=>int_low s.data.toList a k h1 h2 (by omega) h4
 have HHI:Hid (∀k,(∀c ∈ subT s.data.toList a (k - a),c.toNat<=57)->a<=k->k<=s.size->18 < k - a->49<=nx s.data.toList a->satN (subT s.data.toList a (k - a)) 0=1000000000000000000):=fun k h1 h2 h3 h4 h5=>int_high s.data.toList a k h1 h2 (by omega) h4 h5
 have HNX:Hid (¬ toR isDg s.data.toList a=a->48<=nx s.data.toList a/\nx s.data.toList a<=57):=dg_nx s.data.toList a
 have HXB:Hid (∀k (hk:k < s.size),nx s.data.toList k=(s[k].toNat:Int)):=byte_at s
 have HDI:Hid (Ds w R s L O now de (.ok i)):=⟨by omega,h⟩
 clear h hG ha df hx hy
 go_enter Tryz.func85,Tryz.ntmps85
 go_wp2_with (first | (go_at_call 27;refine (CI45.out _ HDI.out).mono ?_))
 first | rintro e w1 rfl hg1 | rintro e w1 ⟨rfl,hg1⟩
 have HG1:Hid (w.grownBy w1 none):=hg1
 clear hg1
 go_wp2_with (first | (go_at_call 27;refine (CI43.out _ (HDI.out.grow HG1.out)).mono ?_))
 first | rintro e w2 rfl hg2 | rintro e w2 ⟨rfl,hg2⟩
 have HG2:Hid (w.grownBy w2 none):=gb_trans HG1.out hg2
 clear hg2
 obtain ⟨e0,e1,-,-,-,e5,-,-,ef⟩:=(HD.out.grow HG2.out).cells
 have ef1:=ef 1
 clear ef
 have HDA:Hid (Dd (w2.setCell ⟨R,1,none⟩ (.int .i64 ((i:Int)+1))) R s L O now de (i+1) 0 0):=(HD.out.grow HG2.out).setI (i+1)
 have HGA:Hid (w.grownBy (w2.setCell ⟨R,1,none⟩ (.int .i64 ((i:Int)+1))) (some R)):=gb_set (gb_more (gb_refl w (some R)) HG2.out) 1 _
 go_wp2
 obtain ⟨wA,hwA⟩:∃W,w2.setCell ⟨R,1,none⟩ (.int .i64 ((i:Int)+1))=W:=⟨_,rfl⟩
 rw [hwA] at HDA HGA ⊢
 rw [HA.out] at HDA
 have hcast:((i:Int)+1)=(a:Int):=by have:=HA.out;omega
 simp only [hcast]
 clear hwA hcast
 go_loopw [6] (fun vn wr=>∃k n:Nat,vn=.int .i64 (n:Nat)/\Dd wr R s L O now de k 0 0/\a<=k/\k<=s.size/\toR isDg s.data.toList k=toR isDg s.data.toList a/\satN (subT s.data.toList a (k - a)) 0=n/\n<=1000000000000000000/\(∀c ∈ subT s.data.toList a (k - a),c.toNat<=57)/\w.grownBy wr (some R)) (fun _ wr=>s.size - dI wr R)
 case atStart=>exact ⟨a,0,rfl,HDA.out,by omega,hai,rfl,by rw [Nat.sub_self];rfl,by omega,fun c hc=>(by rw [Nat.sub_self] at hc;unfold subT at hc;rw [List.take_zero] at hc;cases hc),HGA.out⟩
 case round =>
  obtain ⟨k,n,rfl,hd,hak,hk,hto,hsat,hn18,hall,hg⟩:=hrel
  have HDK:Hid (Dd _ R s L O now de k 0 0):=hd
  have HGK:Hid (w.grownBy _ (some R)):=hg
  have HME:Hid (dI _ R=k):=dI_eq hd
  have HTO:Hid (toR isDg s.data.toList k=toR isDg s.data.toList a):=hto
  have HSA:Hid (satN (subT s.data.toList a (k - a)) 0=n):=hsat
  have HAL:Hid (∀c ∈ subT s.data.toList a (k - a),c.toNat<=57):=hall
  obtain ⟨c0,c1,-,-,-,c5,-,-,df⟩:=hd.cells
  have df1:=df 1
  clear hd hg hto hsat hall df
  by_cases hlt:k < s.size
  ·have hlt':decide ((k:Int) < (s.size:Int))=true:=by simp;omega
   have CB:Hid (∀w,Calls Tryz.prog 84 #[.int .u8 (s[k].toNat:Int)] w fun e w'=>e=.returned (.bool (isDg (s[k].toNat:Int)))/\w'=w):=dDigit_any s[k]
   have H1:Hid (isDg (s[k].toNat:Int)=true->toR isDg s.data.toList k=toR isDg s.data.toList (k+1)):=HST.out k hlt
   have H2:Hid (isDg (s[k].toNat:Int)=false->toR isDg s.data.toList k=k):=HSP.out k hlt
   have H3:Hid (isDg (s[k].toNat:Int)=true->48<=s[k].toNat/\s[k].toNat<=57):=fun hh=>by
    unfold isDg at hh
    have:=of_decide_eq_true hh
    omega
   have H4:Hid (satN (subT s.data.toList a (k+1 - a)) 0=if n<=99999999999999999 then 10 * n+(s[k].toNat - 48) else 1000000000000000000):=HSS.out k n HSA.out hak hlt
   have H5:Hid (s[k].toNat<=57->∀c ∈ subT s.data.toList a (k+1 - a),c.toNat<=57):=HDS.out k HAL.out hak hlt
   obtain ⟨b,hb⟩:∃b,isDg (s[k].toNat:Int)=b:=⟨_,rfl⟩
   rw [hb] at CB H1 H2 H3
   clear hb
   cases b with
   | true =>
    have HN:Hid (toR isDg s.data.toList (k+1)=toR isDg s.data.toList a):=(H1.out rfl).symm.trans HTO.out
    obtain ⟨h48,h57⟩:=H3.out rfl
    have HAN:=H5.out h57
    have HAN':Hid (∀c ∈ subT s.data.toList a (k+1 - a),c.toNat<=57):=HAN
    clear HAN
    go_wp2
    go_quiet (first | (go_at_call 84;exact Calls.quiet_of_same (CB.out _)))
    have HDB:Hid (Dd (wr.drewN nq) R s L O now de k 0 0):=HDK.out
    have HGB:Hid (w.grownBy (wr.drewN nq) (some R)):=gb_drew HGK.out nq
    obtain ⟨wB,hwB⟩:∃W,wr.drewN nq=W:=⟨_,rfl⟩
    rw [hwB] at HDB HGB ⊢
    obtain ⟨d0,d1,-,-,-,d5,-,-,dg⟩:=HDB.out.cells
    have dg1:=dg 1
    have HSB:Hid (Dd (wB.setCell ⟨R,1,none⟩ (.int .i64 ((k:Int)+1))) R s L O now de (k+1) 0 0):=HDB.out.setI (k+1)
    clear hwB dg
    by_cases hsm:n<=99999999999999999
    ·have hsmI:(n:Int)<=99999999999999999:=by omega
     have HSN:Hid (satN (subT s.data.toList a (k+1 - a)) 0=10 * n+(s[k].toNat - 48)):=by
      have:=H4.out
      rw [if_pos hsm] at this
      exact this
     have HCV:Hid (10 * (n:Int)+(s[k].toNat:Int) - 48=((10 * n+(s[k].toNat - 48):Nat):Int)):=by show _=_;omega
     go_wp2
     go_quiet (fail)
     have HDC:Hid (Dd (wB.drewN nq) R s L O now de k 0 0):=HDB.out
     have HGC:Hid (w.grownBy (wB.drewN nq) (some R)):=gb_drew HGB.out nq
     obtain ⟨wC,hwC⟩:∃W,wB.drewN nq=W:=⟨_,rfl⟩
     rw [hwC] at HDC HGC ⊢
     obtain ⟨f0,f1,-,-,-,f5,-,-,fg⟩:=HDC.out.cells
     have fg1:=fg 1
     have HSC:Hid (Dd (wC.setCell ⟨R,1,none⟩ (.int .i64 ((k:Int)+1))) R s L O now de (k+1) 0 0):=HDC.out.setI (k+1)
     clear hwC fg
     go_wp2
     refine ⟨⟨k+1,10 * n+(s[k].toNat - 48),by first | rfl | rw [HCV.out] | (congr 1;have:=HCV.out;omega),HSC.out,by omega,by omega,HN.out,HSN.out,by omega,HAN'.out,gb_set HGC.out 1 _⟩,?_⟩
     rw [HME.out,dI_eq HSC.out]
     omega
    ·have hsmI:¬ (n:Int)<=99999999999999999:=by omega
     have hsmJ:(99999999999999999:Int) < (n:Int):=by omega
     have HSN:Hid (satN (subT s.data.toList a (k+1 - a)) 0=1000000000000000000):=by
      have:=H4.out
      rw [if_neg hsm] at this
      exact this
     go_wp2
     refine ⟨⟨k+1,1000000000000000000,rfl,HSB.out,by omega,by omega,HN.out,HSN.out,by omega,HAN'.out,gb_set HGB.out 1 _⟩,?_⟩
     rw [HME.out,dI_eq HSB.out]
     omega
   | false =>
    have HJ:Hid (toR isDg s.data.toList a=k):=HTO.out.symm.trans (H2.out rfl)
    clear H1 H2 H3 H4 H5
    go_wp2
    go_quiet (first | (go_at_call 84;exact Calls.quiet_of_same (CB.out _)))
    have HDB:Hid (Dd (wr.drewN nq) R s L O now de k 0 0):=HDK.out
    have HGB:Hid (w.grownBy (wr.drewN nq) (some R)):=gb_drew HGK.out nq
    obtain ⟨wB,hwB⟩:∃W,wr.drewN nq=W:=⟨_,rfl⟩
    rw [hwB] at HDB HGB ⊢
    obtain ⟨d0,d1,-,-,-,d5,-,-,dg⟩:=HDB.out.cells
    clear hwB dg
    have HG9:=HG0.out
    rw [HJ.out] at HG9
    have HGJ:Hid ((if k=a\/(1 < k - a/\nx s.data.toList a=48) then .error (2,a)
     else if 18 < k - a then .error (3,i)
     else .ok (if false=true then -(digN (subT s.data.toList a (k - a)) 0:Int) else (digN (subT s.data.toList a (k - a)) 0:Int),k))=G):=HG9
    have HNJ:Hid (¬ k=a->48<=nx s.data.toList a/\nx s.data.toList a<=57):=fun hh=>HNX.out (by rw [HJ.out];exact hh)
    have hsub:IntKind.i64.wrap ((k:Int) - (a:Int))=(k:Int) - (a:Int):=by rw [IntKind.wrap_i64];omega
    clear HG9
    have CF2:Hid (∀wx,Dd wx R s L O now de k 0 0->Calls Tryz.prog 55 #[.pointer (some ⟨R,0,none⟩),.int .i64 2,.int .i64 (a:Nat)] wx fun en w'=>en=.returned (.tuple #[])/\Dd w' R s L O now de k 2 a/\wx.grownBy w' (some R)):=fun wx hg=>dFail_yes R s L O now de k 2 a wx hg
    have CF3:Hid (∀wx,Dd wx R s L O now de k 0 0->Calls Tryz.prog 55 #[.pointer (some ⟨R,0,none⟩),.int .i64 3,.int .i64 (i:Nat)] wx fun en w'=>en=.returned (.tuple #[])/\Dd w' R s L O now de k 3 i/\wx.grownBy w' (some R)):=fun wx hg=>dFail_yes R s L O now de k 3 i wx hg
    have CFN:Hid (∀wx,Dd wx R s L O now de k 2 a->Calls Tryz.prog 55 #[.pointer (some ⟨R,0,none⟩),.int .i64 3,.int .i64 (i:Nat)] wx fun en w'=>en=.returned (.tuple #[])/\w'=wx):=fun wx hg=>dFail_no R s L O now de k 2 a 3 i wx hg (by decide)
    by_cases hka:k=a
    ·have HGG:Hid (G=.error (2,a)):=by
      have:=HGJ.out
      rw [if_pos (Or.inl hka)] at this
      exact this.symm
     have hn0:n=0:=by
      have:=HSA.out
      rw [hka,Nat.sub_self] at this
      unfold subT at this
      rw [List.take_zero] at this
      exact this.symm
     have hbk:((k:Int) == (a:Int))=true:=by simp [hka]
     have hmx:(n:Int)<=999999999999999999:=by omega
     clear hka hn0
     go_wp2_with (first | (go_at_call 55;refine (CF2.out _ HDB.out).mono ?_;rintro e w3 ⟨rfl,hd3,hg3⟩))
     refine bodyPost_ret (results_tmp (t:=2) rfl _ _ _) rfl ?_
     rw [HGG.out]
     exact ⟨fun n j hh=>(by cases hh),fun c p hh=>(by cases hh;exact ⟨⟨_,rfl⟩,by decide,k,hk,hd3⟩),gb_two HGB.out hg3⟩
    ·have hbk:((k:Int) == (a:Int))=false:=by rw [beq_eq_false_iff_ne];omega
     have hal:a < s.size:=by omega
     have hxa:=HXB.out a hal
     obtain ⟨hn1,hn2⟩:=HNJ.out hka
     by_cases hlz:1 < k - a/\nx s.data.toList a=48
     ·have HGG:Hid (G=.error (2,a)):=by
       have:=HGJ.out
       rw [if_pos (Or.inr hlz)] at this
       exact this.symm
      have h1k:(1:Int) < (k:Int) - (a:Int):=by omega
      have hb48:((s[a].toNat:Int) == 48)=true:=by rw [<-hxa,hlz.2];rfl
      clear hlz hxa hn1 hn2
      by_cases hmx:n<=999999999999999999
      ·have hmI:(n:Int)<=999999999999999999:=by omega
       clear hka
       go_wp2_with (first | (go_at_call 55;refine (CF2.out _ HDB.out).mono ?_;rintro e w3 ⟨rfl,hd3,hg3⟩))
       refine bodyPost_ret (results_tmp (t:=2) rfl _ _ _) rfl ?_
       rw [HGG.out]
       exact ⟨fun n j hh=>(by cases hh),fun c p hh=>(by cases hh;exact ⟨⟨_,rfl⟩,by decide,k,hk,hd3⟩),gb_two HGB.out hg3⟩
      ·have hmI:(999999999999999999:Int) < (n:Int):=by omega
       clear hka
       go_wp2_with (first | (go_at_call 55;refine (CF2.out _ HDB.out).mono ?_))
       first | rintro e w3 rfl hd3 hg3 | rintro e w3 ⟨rfl,hd3,hg3⟩
       have HD3:Hid (Dd w3 R s L O now de k 2 a):=hd3
       have HG3:Hid (w.grownBy w3 (some R)):=gb_two HGB.out hg3
       clear hd3 hg3
       go_wp2_with (first | (go_at_call 55;refine (CFN.out _ HD3.out).mono ?_))
       first | rintro e w' rfl rfl | rintro e w' ⟨rfl,rfl⟩
       go_wp2
       refine bodyPost_ret (results_tmp (t:=2) rfl _ _ _) rfl ?_
       rw [HGG.out]
       exact ⟨fun n j hh=>(by cases hh),fun c p hh=>(by cases hh;exact ⟨⟨_,rfl⟩,by decide,k,hk,HD3.out⟩),HG3.out⟩
     ·have hno:¬ (k=a\/(1 < k - a/\nx s.data.toList a=48)):=by rintro (h | h);exact hka h;exact hlz h
      have hgd:((1:Int) < (k:Int) - (a:Int))->((s[a].toNat:Int) == 48)=false:=fun hh=>by
       rw [beq_eq_false_iff_ne,<-hxa]
       intro e
       exact hlz ⟨by omega,e⟩
      by_cases h18:18 < k - a
      ·have HGG:Hid (G=.error (3,i)):=by
        have:=HGJ.out
        rw [if_neg hno,if_pos h18] at this
        exact this.symm
       have hnn:n=1000000000000000000:=by rw [<-HSA.out];exact HHI.out k HAL.out hak hk h18 (by
        have:¬ nx s.data.toList a=48:=fun e=>hlz ⟨by omega,e⟩
        omega)
       have hmI:(999999999999999999:Int) < (n:Int):=by omega
       have h1k:(1:Int) < (k:Int) - (a:Int):=by omega
       have hb48:=hgd h1k
       clear hka hlz hno hgd h18 hnn hxa hn1 hn2
       go_wp2_with (first | (go_at_call 55;refine (CF3.out _ HDB.out).mono ?_;rintro e w3 ⟨rfl,hd3,hg3⟩))
       refine bodyPost_ret (results_tmp (t:=2) rfl _ _ _) rfl ?_
       rw [HGG.out]
       exact ⟨fun n j hh=>(by cases hh),fun c p hh=>(by cases hh;exact ⟨⟨_,rfl⟩,by decide,k,hk,hd3⟩),gb_two HGB.out hg3⟩
      ·obtain ⟨hlo1,hlo2⟩:=HLO.out k HAL.out hak hk (by omega)
       have hnd:digN (subT s.data.toList a (k - a)) 0=n:=hlo1.symm.trans HSA.out
       have HGG:Hid (G=.ok ((n:Int),k)):=by
        have:=HGJ.out
        rw [if_neg hno,if_neg h18,hnd] at this
        exact this.symm
       have hmI:(n:Int)<=999999999999999999:=by omega
       by_cases h1k:(1:Int) < (k:Int) - (a:Int)
       ·have hb48:=hgd h1k
        clear hka hlz hno hgd h18 hlo1 hlo2 hnd hxa hn1 hn2
        go_wp2
        refine bodyPost_ret (results_tmp (t:=2) rfl _ _ _) rfl ?_
        rw [HGG.out]
        exact ⟨fun n j hh=>(by cases hh;exact ⟨rfl,hk,HDB.out⟩),fun c p hh=>(by cases hh),HGB.out⟩
       ·have h1l:(k:Int) - (a:Int)<=1:=by omega
        clear hka hlz hno hgd h18 hlo1 hlo2 hnd hxa hn1 hn2
        go_wp2
        refine bodyPost_ret (results_tmp (t:=2) rfl _ _ _) rfl ?_
        rw [HGG.out]
        exact ⟨fun n j hh=>(by cases hh;exact ⟨rfl,hk,HDB.out⟩),fun c p hh=>(by cases hh),HGB.out⟩
  ·have hge:decide ((k:Int) < (s.size:Int))=false:=by simp;omega
   have HJ:Hid (toR isDg s.data.toList a=k):=HTO.out.symm.trans (HEN.out k (by omega))
   go_wp2
   go_quiet (fail)
   have HDB:Hid (Dd (wr.drewN nq) R s L O now de k 0 0):=HDK.out
   have HGB:Hid (w.grownBy (wr.drewN nq) (some R)):=gb_drew HGK.out nq
   obtain ⟨wB,hwB⟩:∃W,wr.drewN nq=W:=⟨_,rfl⟩
   rw [hwB] at HDB HGB ⊢
   obtain ⟨d0,d1,-,-,-,d5,-,-,dg⟩:=HDB.out.cells
   clear hwB dg
   have HG9:=HG0.out
   rw [HJ.out] at HG9
   have HGJ:Hid ((if k=a\/(1 < k - a/\nx s.data.toList a=48) then .error (2,a)
    else if 18 < k - a then .error (3,i)
    else .ok (if false=true then -(digN (subT s.data.toList a (k - a)) 0:Int) else (digN (subT s.data.toList a (k - a)) 0:Int),k))=G):=HG9
   have HNJ:Hid (¬ k=a->48<=nx s.data.toList a/\nx s.data.toList a<=57):=fun hh=>HNX.out (by rw [HJ.out];exact hh)
   have hsub:IntKind.i64.wrap ((k:Int) - (a:Int))=(k:Int) - (a:Int):=by rw [IntKind.wrap_i64];omega
   clear HG9
   have CF2:Hid (∀wx,Dd wx R s L O now de k 0 0->Calls Tryz.prog 55 #[.pointer (some ⟨R,0,none⟩),.int .i64 2,.int .i64 (a:Nat)] wx fun en w'=>en=.returned (.tuple #[])/\Dd w' R s L O now de k 2 a/\wx.grownBy w' (some R)):=fun wx hg=>dFail_yes R s L O now de k 2 a wx hg
   have CF3:Hid (∀wx,Dd wx R s L O now de k 0 0->Calls Tryz.prog 55 #[.pointer (some ⟨R,0,none⟩),.int .i64 3,.int .i64 (i:Nat)] wx fun en w'=>en=.returned (.tuple #[])/\Dd w' R s L O now de k 3 i/\wx.grownBy w' (some R)):=fun wx hg=>dFail_yes R s L O now de k 3 i wx hg
   have CFN:Hid (∀wx,Dd wx R s L O now de k 2 a->Calls Tryz.prog 55 #[.pointer (some ⟨R,0,none⟩),.int .i64 3,.int .i64 (i:Nat)] wx fun en w'=>en=.returned (.tuple #[])/\w'=wx):=fun wx hg=>dFail_no R s L O now de k 2 a 3 i wx hg (by decide)
   by_cases hka:k=a
   ·have HGG:Hid (G=.error (2,a)):=by
     have:=HGJ.out
     rw [if_pos (Or.inl hka)] at this
     exact this.symm
    have hn0:n=0:=by
     have:=HSA.out
     rw [hka,Nat.sub_self] at this
     unfold subT at this
     rw [List.take_zero] at this
     exact this.symm
    have hbk:((k:Int) == (a:Int))=true:=by simp [hka]
    have hmx:(n:Int)<=999999999999999999:=by omega
    clear hka hn0
    go_wp2_with (first | (go_at_call 55;refine (CF2.out _ HDB.out).mono ?_;rintro e w3 ⟨rfl,hd3,hg3⟩))
    refine bodyPost_ret (results_tmp (t:=2) rfl _ _ _) rfl ?_
    rw [HGG.out]
    exact ⟨fun n j hh=>(by cases hh),fun c p hh=>(by cases hh;exact ⟨⟨_,rfl⟩,by decide,k,hk,hd3⟩),gb_two HGB.out hg3⟩
   ·have hbk:((k:Int) == (a:Int))=false:=by rw [beq_eq_false_iff_ne];omega
    have hal:a < s.size:=by omega
    have hxa:=HXB.out a hal
    obtain ⟨hn1,hn2⟩:=HNJ.out hka
    by_cases hlz:1 < k - a/\nx s.data.toList a=48
    ·have HGG:Hid (G=.error (2,a)):=by
      have:=HGJ.out
      rw [if_pos (Or.inr hlz)] at this
      exact this.symm
     have h1k:(1:Int) < (k:Int) - (a:Int):=by omega
     have hb48:((s[a].toNat:Int) == 48)=true:=by rw [<-hxa,hlz.2];rfl
     clear hlz hxa hn1 hn2
     by_cases hmx:n<=999999999999999999
     ·have hmI:(n:Int)<=999999999999999999:=by omega
      clear hka
      go_wp2_with (first | (go_at_call 55;refine (CF2.out _ HDB.out).mono ?_;rintro e w3 ⟨rfl,hd3,hg3⟩))
      refine bodyPost_ret (results_tmp (t:=2) rfl _ _ _) rfl ?_
      rw [HGG.out]
      exact ⟨fun n j hh=>(by cases hh),fun c p hh=>(by cases hh;exact ⟨⟨_,rfl⟩,by decide,k,hk,hd3⟩),gb_two HGB.out hg3⟩
     ·have hmI:(999999999999999999:Int) < (n:Int):=by omega
      clear hka
      go_wp2_with (first | (go_at_call 55;refine (CF2.out _ HDB.out).mono ?_))
      first | rintro e w3 rfl hd3 hg3 | rintro e w3 ⟨rfl,hd3,hg3⟩
      have HD3:Hid (Dd w3 R s L O now de k 2 a):=hd3
      have HG3:Hid (w.grownBy w3 (some R)):=gb_two HGB.out hg3
      clear hd3 hg3
      go_wp2_with (first | (go_at_call 55;refine (CFN.out _ HD3.out).mono ?_))
      first | rintro e w' rfl rfl | rintro e w' ⟨rfl,rfl⟩
      go_wp2
      refine bodyPost_ret (results_tmp (t:=2) rfl _ _ _) rfl ?_
      rw [HGG.out]
      exact ⟨fun n j hh=>(by cases hh),fun c p hh=>(by cases hh;exact ⟨⟨_,rfl⟩,by decide,k,hk,HD3.out⟩),HG3.out⟩
    ·have hno:¬ (k=a\/(1 < k - a/\nx s.data.toList a=48)):=by rintro (h | h);exact hka h;exact hlz h
     have hgd:((1:Int) < (k:Int) - (a:Int))->((s[a].toNat:Int) == 48)=false:=fun hh=>by
      rw [beq_eq_false_iff_ne,<-hxa]
      intro e
      exact hlz ⟨by omega,e⟩
     by_cases h18:18 < k - a
     ·have HGG:Hid (G=.error (3,i)):=by
       have:=HGJ.out
       rw [if_neg hno,if_pos h18] at this
       exact this.symm
      have hnn:n=1000000000000000000:=by rw [<-HSA.out];exact HHI.out k HAL.out hak hk h18 (by
       have:¬ nx s.data.toList a=48:=fun e=>hlz ⟨by omega,e⟩
       omega)
      have hmI:(999999999999999999:Int) < (n:Int):=by omega
      have h1k:(1:Int) < (k:Int) - (a:Int):=by omega
      have hb48:=hgd h1k
      clear hka hlz hno hgd h18 hnn hxa hn1 hn2
      go_wp2_with (first | (go_at_call 55;refine (CF3.out _ HDB.out).mono ?_;rintro e w3 ⟨rfl,hd3,hg3⟩))
      refine bodyPost_ret (results_tmp (t:=2) rfl _ _ _) rfl ?_
      rw [HGG.out]
      exact ⟨fun n j hh=>(by cases hh),fun c p hh=>(by cases hh;exact ⟨⟨_,rfl⟩,by decide,k,hk,hd3⟩),gb_two HGB.out hg3⟩
     ·obtain ⟨hlo1,hlo2⟩:=HLO.out k HAL.out hak hk (by omega)
      have hnd:digN (subT s.data.toList a (k - a)) 0=n:=hlo1.symm.trans HSA.out
      have HGG:Hid (G=.ok ((n:Int),k)):=by
       have:=HGJ.out
       rw [if_neg hno,if_neg h18,hnd] at this
       exact this.symm
      have hmI:(n:Int)<=999999999999999999:=by omega
      by_cases h1k:(1:Int) < (k:Int) - (a:Int)
      ·have hb48:=hgd h1k
       clear hka hlz hno hgd h18 hlo1 hlo2 hnd hxa hn1 hn2
       go_wp2
       refine bodyPost_ret (results_tmp (t:=2) rfl _ _ _) rfl ?_
       rw [HGG.out]
       exact ⟨fun n j hh=>(by cases hh;exact ⟨rfl,hk,HDB.out⟩),fun c p hh=>(by cases hh),HGB.out⟩
      ·have h1l:(k:Int) - (a:Int)<=1:=by omega
       clear hka hlz hno hgd h18 hlo1 hlo2 hnd hxa hn1 hn2
       go_wp2
       refine bodyPost_ret (results_tmp (t:=2) rfl _ _ _) rfl ?_
       rw [HGG.out]
       exact ⟨fun n j hh=>(by cases hh;exact ⟨rfl,hk,HDB.out⟩),fun c p hh=>(by cases hh),HGB.out⟩
end Go.Proofs.YtbgnflcebafjjaaGreatDoor
