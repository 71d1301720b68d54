import Derived.Test.YtbgnflcebafjjaaGreatDoorM23
namespace Go.Proofs.YtbgnflcebafjjaaGreatDoor
open Go.RowKit Go.Maps Go.WideMaps Go.Joins
set_option linter.unusedVariables false
theorem KyR.keepR {w w':World} {g R:Nat} {l:List (List UInt8 × Nat)} {s:ByteArray} {i T:Nat} (h:KyR w g l) (hr:Rd w R s i T) (hg:w.grownBy w' (some R)):KyR w' g l:=by
 obtain ⟨cur,h1,h2⟩:=h
 exact ⟨cur,(hg.block g (blk_lt h1) (by simp only [ne_eq,Option.some.injEq];exact ne_typ h1 hr (by decide))).trans h1,h2⟩
set_option maxRecDepth 100000 in
set_option maxHeartbeats 3200000 in
theorem tHeader_any (B R T:Nat) (s:ByteArray) (E:Int->TypeId × Value) (own:List Nat) (now i:Nat) (ns:List Tn) (w:World) (h:Rd w R s i T) (htr:Tr w B T ns own now) (G:Gl w B E) (hR:B<=R) (hi:i < s.size) (hs:s.size<=100000) (J:Jt ns own now) (h0:kdAt ns 0=0) (hsz:ns.length+own.length+(s.size - i)<=700000) :
  Calls Tryz.prog 41 #[.pointer (some ⟨R,0,none⟩)] w (LnPost B R T s E (rdHead s.data.toList ⟨i,ns,own,now⟩) w):=by
 have hl:s.data.toList.length=s.size:=by simp
 have hB:B<=w.heap.size:=htr.base
 have CN:Hid (∀k w,Rd w R s k T->k<=s.size->Calls Tryz.prog 40 #[.pointer (some ⟨R,0,none⟩)] w fun e w'=>e=.returned (.int .i64 (nx s.data.toList k))/\w.grownBy w' none):=fun k w h1 h2=>tNext_any R s k T w h1 h2 (by omega)
 have CK:Hid (∀a w',Rd w' R s a T->w.grownBy w' (some R)->a<=s.size->Calls Tryz.prog 71 #[.pointer (some ⟨R,0,none⟩)] w' (HkPost R s T E (hdK s.data.toList (s.data.toList.length+1) a []) w')):=fun a w' h1 hg ha=>tKeys_any R s a T B E w' h1 ha hs (G.gb hg hR hB) hR (Nat.le_trans hB hg.size)
 have CT:Hid (∀k w',Rd w' R s k T->w.grownBy w' (some R)->k<=s.size->Calls Tryz.prog 45 #[.pointer (some ⟨R,0,none⟩),.int .i64 93] w' fun e w''=>(∃v,e=.returned v/\Hid ((∀q,must s.data.toList k 93=.ok q->v=.nilIface/\Rd w'' R s q T)/\(∀c p,must s.data.toList k 93=.error (c,p)->∃F,v=.iface 65 (.pointer (some ⟨F,0,none⟩))/\FaultE w'' v E c p)))/\w'.grownBy w'' (some R)):=fun k w' h1 hg hk =>
  (tTake_any R s k T 93 (E 2).1 (E 2).2 w' h1 hk (by omega) (by decide) (G.gb hg hR hB).es.te).mono fun e w'' ⟨a1,a2,a3⟩=>by
   unfold must
   by_cases hx:nx s.data.toList k=93
   ·rw [if_pos hx]
    exact ⟨⟨_,(a1 hx).1,fun q hq=>(by cases hq;exact ⟨rfl,(a1 hx).2⟩),fun c p hp=>(by cases hp)⟩,a3⟩
   ·rw [if_neg hx]
    obtain ⟨⟨v,e1,F,rfl,hF⟩,-⟩:=a2 hx
    exact ⟨⟨_,e1,fun q hq=>(by cases hq),fun c p hp=>(by cases hp;exact ⟨F,rfl,F,rfl,hF⟩)⟩,a3⟩
 have CE:Hid (∀(many:Bool) ks d g c j w',ks.length=d+1->d+1<=c->d<=s.size - i->(∀x ∈ ks,x.1.length<=1048576)->KyR w' g ks->Rd w' R s j T->w.grownBy w' (some R)->Calls Tryz.prog 72 #[.pointer (some ⟨T,0,none⟩),.slice (some ⟨g,0,none⟩) ks.length c,.bool many] w' fun e w''=>∃u,e=.returned u/\Hid (LnPost B R T s E (lnW j own (way many own ks 0 ns)) w (.returned u) w'')):=fun many ks d g c j w' a1 a2 a3 a4 a5 a6 hg=>by
  rw [a1]
  exact (tEnter_any B T ns own now E ks many g c d w' (htr.keepR h hg) ⟨J.wf,J.wt,by have:=J.lt;omega,h0⟩ a1 a2 a5 (by omega) a4 (G.gb hg hR hB).es G.lo).mono fun e w'' hv=>ln_way (gb_belo hg hR hB) a6 hv
 have HKO:Hid (∀a ks j,a<=s.size->hdK s.data.toList (s.data.toList.length+1) a []=.ok (ks,j)->(∀x ∈ ks,x.1.length<=1048576)/\0 < ks.length/\ks.length+a<=j/\j<=s.size):=fun a ks j ha hh=>by
  obtain ⟨b1,b2,b3,b4⟩:=hdK_ok s.data.toList _ a [] ks j (by omega) (by simp) hh
  refine ⟨fun x hx=>by have:=b1 x hx;omega,by simpa using b2,by simpa using b3,by omega⟩
 have HMU:Hid (∀k q,must s.data.toList k 93=.ok q->q=k+1/\k < s.size):=fun k q a=>by
  unfold must at a
  split at a
  ·rename_i hx
   have:=nx_lt (l:=s.data.toList) (i:=k) (by rw [hx];decide)
   cases a
   omega
  ·cases a
 have HX1:Hid (nx s.data.toList (i+1)=91->i+1 < s.size):=fun hx=>by
  have:=nx_lt (l:=s.data.toList) (i:=i+1) (by rw [hx];decide)
  omega
 obtain ⟨many,hmany⟩:∃many,decide (nx s.data.toList (i+1)=91)=many:=⟨_,rfl⟩
 have HPE:=rdHead_eq s.data.toList i ns own now many hmany
 obtain ⟨S,hS⟩:∃S,rdHead s.data.toList ⟨i,ns,own,now⟩=S:=⟨_,rfl⟩
 rw [hS] at HPE ⊢
 have HP:Hid (S=_):=HPE
 obtain ⟨-,r1,-,rf⟩:=h.cells
 have rf1:=rf 1
 have HR1:Hid (Rd (w.setCell ⟨R,1,none⟩ (.int .i64 ((i:Int)+1))) R s (i+1) T):=h.set (i+1)
 have HG1:Hid (w.grownBy (w.setCell ⟨R,1,none⟩ (.int .i64 ((i:Int)+1))) (some R)):=gb_setc w R 1 _
 have C1:Hid (Calls Tryz.prog 40 #[.pointer (some ⟨R,0,none⟩)] (w.setCell ⟨R,1,none⟩ (.int .i64 ((i:Int)+1))) fun e w'=>e=.returned (.int .i64 (nx s.data.toList (i+1)))/\(w.setCell ⟨R,1,none⟩ (.int .i64 ((i:Int)+1))).grownBy w' none):=CN.out (i+1) _ HR1.out (by omega)
 obtain ⟨x,hx⟩:∃x,nx s.data.toList (i+1)=x:=⟨_,rfl⟩
 rw [hx] at C1 hmany HX1
 have HMA:Hid (decide (x=91)=many):=hmany
 clear HPE hS hx hmany h htr G J rf
 go_enter Tryz.func41,Tryz.ntmps41
 go_wp2_with (first | (go_at_call 40;refine C1.out.mono ?_))
 rintro e w1 ⟨rfl,hg1⟩
 have HR1':Hid (Rd w1 R s (i+1) T):=HR1.out.grow hg1
 have HG1':Hid (w.grownBy w1 (some R)):=gb_more HG1.out hg1
 clear hg1 r1 rf1
 cases many with
 | false =>
  have c91:¬ x=91:=of_decide_eq_false HMA.out
  have e91:(x == 91)=false:=by simp [c91]
  clear c91
  have CKa:Hid (∀w',Rd w' R s (i+1) T->w.grownBy w' (some R)->Calls Tryz.prog 71 #[.pointer (some ⟨R,0,none⟩)] w' (HkPost R s T E (hdK s.data.toList (s.data.toList.length+1) (i+1) []) w')):=fun w' a b=>CK.out (i+1) w' a b (by omega)
  have HKa:=HKO.out (i+1)
  have HP1:=HP.out
  simp only [Bool.false_eq_true,if_false] at HP1
  obtain ⟨KR,hKR⟩:∃KR,hdK s.data.toList (s.data.toList.length+1) (i+1) []=KR:=⟨_,rfl⟩
  rw [hKR] at CKa HKa HP1
  have HKa':Hid (∀ks j,(i+1)<=s.size->KR=.ok (ks,j)->(∀x ∈ ks,x.1.length<=1048576)/\0 < ks.length/\ks.length+(i+1)<=j/\j<=s.size):=HKa
  have HP1':Hid (S=_):=HP1
  clear HKa HP1 hKR HP CK HKO
  go_wp2_with (first | (go_at_call 71;refine (CKa.out _ HR1'.out HG1'.out).mono ?_))
  rintro e w2 ⟨p1,p2,p3⟩
  have HG2:Hid (w.grownBy w2 (some R)):=gb_two HG1'.out p3
  cases KR with
  | error ec =>
   obtain ⟨ec1,ec2⟩:=ec
   obtain ⟨F,rfl,hF⟩:=p2 ec1 ec2 rfl
   have HFV:Hid (FaultE w2 (.iface 65 (.pointer (some ⟨F,0,none⟩))) E ec1 ec2):=hF
   have HSE:Hid (S=.error (ec1,ec2)):=HP1'.out
   clear p1 p2 p3 hF
   go_wp2
   refine bodyPost_ret (results_tmp (t:=2) rfl _ _ _) rfl ?_
   rw [HSE.out]
   exact ⟨fun d hh=>(by cases hh),fun c p hh=>(by cases hh;exact ⟨F,rfl,HFV.out⟩),gb_belo HG2.out hR hB⟩
  | ok q =>
   obtain ⟨ks,j⟩:=q
   obtain ⟨g,c,rfl,hky,hkc,hr2⟩:=p1 ks j rfl
   obtain ⟨k1,k2,k3,k4⟩:=HKa'.out ks j (by omega) rfl
   have HK2:Hid (KyR w2 g ks):=hky
   have HR2:Hid (Rd w2 R s j T):=hr2
   have HKX:Hid (∀x ∈ ks,x.1.length<=1048576):=k1
   have HP2:=HP1'.out
   try simp only [] at HP2
   have CT2:=CT.out j
   have HM2:=HMU.out j
   obtain ⟨MU,hMU⟩:∃MU,must s.data.toList j 93=MU:=⟨_,rfl⟩
   rw [hMU] at CT2 HM2 HP2
   have CT2':Hid (∀w',Rd w' R s j T->w.grownBy w' (some R)->j<=s.size->Calls Tryz.prog 45 #[.pointer (some ⟨R,0,none⟩),.int .i64 93] w' fun e w''=>(∃v,e=.returned v/\Hid ((∀q,MU=.ok q->v=.nilIface/\Rd w'' R s q T)/\(∀c p,MU=.error (c,p)->∃F,v=.iface 65 (.pointer (some ⟨F,0,none⟩))/\FaultE w'' v E c p)))/\w'.grownBy w'' (some R)):=CT2
   have HM2':Hid (∀q,MU=.ok q->q=j+1/\j < s.size):=HM2
   have HP2':Hid (S=_):=HP2
   clear p1 p2 p3 hky hr2 k1 CT2 HM2 HP2 hMU HP1' HKa'
   go_wp2_with (first | (go_at_call 45;refine (CT2'.out _ HR2.out HG2.out k4).mono ?_))
   rintro e w3 ⟨⟨v,rfl,hv⟩,hg3⟩
   have HG3:Hid (w.grownBy w3 (some R)):=gb_two HG2.out hg3
   have HK3:Hid (KyR w3 g ks):=HK2.out.keepR HR2.out hg3
   clear hg3
   cases MU with
   | error ec =>
    obtain ⟨ec1,ec2⟩:=ec
    obtain ⟨F,rfl,hF⟩:=hv.out.2 ec1 ec2 rfl
    have HFV:Hid (FaultE w3 (.iface 65 (.pointer (some ⟨F,0,none⟩))) E ec1 ec2):=hF
    have HSE:Hid (S=.error (ec1,ec2)):=HP2'.out
    clear hv hF
    go_wp2
    refine bodyPost_ret (results_tmp (t:=2) rfl _ _ _) rfl ?_
    rw [HSE.out]
    exact ⟨fun d hh=>(by cases hh),fun c p hh=>(by cases hh;exact ⟨F,rfl,HFV.out⟩),gb_belo HG3.out hR hB⟩
   | ok j1 =>
    obtain ⟨rfl,hr3⟩:=hv.out.1 j1 rfl
    obtain ⟨m1,m2⟩:=HM2'.out j1 rfl
    have HR3:Hid (Rd w3 R s j1 T):=hr3
    have HP3:=HP2'.out
    try simp only [] at HP3
    clear hv hr3 HP2' HM2' CT2'
    have HP4:S=lnW j1 own (way false own ks 0 ns):=HP3
    clear HP3
    obtain ⟨d,hd⟩:∃d,ks.length=d+1:=⟨ks.length - 1,by omega⟩
    have CE1:Hid (Calls Tryz.prog 72 #[.pointer (some ⟨T,0,none⟩),.slice (some ⟨g,0,none⟩) ks.length c,.bool false] w3 fun e w''=>∃u,e=.returned u/\Hid (LnPost B R T s E S w (.returned u) w'')):=by
     rw [HP4]
     exact CE.out false ks d g c j1 w3 hd (by omega) (by omega) HKX.out HK3.out HR3.out HG3.out
    obtain ⟨-,-,rr,-⟩:=HR3.out.cells
    clear HP4 CE hd
    go_wp2_with (first | (go_at_call 72;refine CE1.out.mono ?_;rintro e w9 ⟨u,rfl,hu⟩))
    refine bodyPost_ret (results_tmp (t:=2) rfl _ _ _) rfl ?_
    exact hu.out
 | true =>
  have c91:x=91:=of_decide_eq_true HMA.out
  have e91:(x == 91)=true:=by simp [c91]
  have hx1:=HX1.out c91
  obtain ⟨-,s1,-,sf⟩:=HR1'.out.cells
  have sf1:=sf 1
  have e2:((i+1:Nat):Int)+1=((i+2:Nat):Int):=by omega
  have HRb:Hid (Rd (w1.setCell ⟨R,1,none⟩ (.int .i64 (((i+1:Nat):Int)+1))) R s (i+2) T):=HR1'.out.set (i+2)
  have HGb:Hid (w.grownBy (w1.setCell ⟨R,1,none⟩ (.int .i64 (((i+1:Nat):Int)+1))) (some R)):=gb_set HG1'.out 1 _
  clear c91 sf e2
  have CKa:Hid (∀w',Rd w' R s (i+2) T->w.grownBy w' (some R)->Calls Tryz.prog 71 #[.pointer (some ⟨R,0,none⟩)] w' (HkPost R s T E (hdK s.data.toList (s.data.toList.length+1) (i+2) []) w')):=fun w' a b=>CK.out (i+2) w' a b (by omega)
  have HKa:=HKO.out (i+2)
  have HP1:=HP.out
  simp only [if_true] at HP1
  obtain ⟨KR,hKR⟩:∃KR,hdK s.data.toList (s.data.toList.length+1) (i+2) []=KR:=⟨_,rfl⟩
  rw [hKR] at CKa HKa HP1
  have HKa':Hid (∀ks j,(i+2)<=s.size->KR=.ok (ks,j)->(∀x ∈ ks,x.1.length<=1048576)/\0 < ks.length/\ks.length+(i+2)<=j/\j<=s.size):=HKa
  have HP1':Hid (S=_):=HP1
  clear HKa HP1 hKR HP CK HKO
  go_wp2_with (first | (go_at_call 71;refine (CKa.out _ HRb.out HGb.out).mono ?_))
  rintro e w2 ⟨p1,p2,p3⟩
  have HG2:Hid (w.grownBy w2 (some R)):=gb_two HGb.out p3
  cases KR with
  | error ec =>
   obtain ⟨ec1,ec2⟩:=ec
   obtain ⟨F,rfl,hF⟩:=p2 ec1 ec2 rfl
   have HFV:Hid (FaultE w2 (.iface 65 (.pointer (some ⟨F,0,none⟩))) E ec1 ec2):=hF
   have HSE:Hid (S=.error (ec1,ec2)):=HP1'.out
   clear p1 p2 p3 hF
   go_wp2
   refine bodyPost_ret (results_tmp (t:=2) rfl _ _ _) rfl ?_
   rw [HSE.out]
   exact ⟨fun d hh=>(by cases hh),fun c p hh=>(by cases hh;exact ⟨F,rfl,HFV.out⟩),gb_belo HG2.out hR hB⟩
  | ok q =>
   obtain ⟨ks,j⟩:=q
   obtain ⟨g,c,rfl,hky,hkc,hr2⟩:=p1 ks j rfl
   obtain ⟨k1,k2,k3,k4⟩:=HKa'.out ks j (by omega) rfl
   have HK2:Hid (KyR w2 g ks):=hky
   have HR2:Hid (Rd w2 R s j T):=hr2
   have HKX:Hid (∀x ∈ ks,x.1.length<=1048576):=k1
   have HP2:=HP1'.out
   try simp only [] at HP2
   have CT2:=CT.out j
   have HM2:=HMU.out j
   obtain ⟨MU,hMU⟩:∃MU,must s.data.toList j 93=MU:=⟨_,rfl⟩
   rw [hMU] at CT2 HM2 HP2
   have CT2':Hid (∀w',Rd w' R s j T->w.grownBy w' (some R)->j<=s.size->Calls Tryz.prog 45 #[.pointer (some ⟨R,0,none⟩),.int .i64 93] w' fun e w''=>(∃v,e=.returned v/\Hid ((∀q,MU=.ok q->v=.nilIface/\Rd w'' R s q T)/\(∀c p,MU=.error (c,p)->∃F,v=.iface 65 (.pointer (some ⟨F,0,none⟩))/\FaultE w'' v E c p)))/\w'.grownBy w'' (some R)):=CT2
   have HM2':Hid (∀q,MU=.ok q->q=j+1/\j < s.size):=HM2
   have HP2':Hid (S=_):=HP2
   clear p1 p2 p3 hky hr2 k1 CT2 HM2 HP2 hMU HP1' HKa'
   go_wp2_with (first | (go_at_call 45;refine (CT2'.out _ HR2.out HG2.out k4).mono ?_))
   rintro e w3 ⟨⟨v,rfl,hv⟩,hg3⟩
   have HG3:Hid (w.grownBy w3 (some R)):=gb_two HG2.out hg3
   have HK3:Hid (KyR w3 g ks):=HK2.out.keepR HR2.out hg3
   clear hg3
   cases MU with
   | error ec =>
    obtain ⟨ec1,ec2⟩:=ec
    obtain ⟨F,rfl,hF⟩:=hv.out.2 ec1 ec2 rfl
    have HFV:Hid (FaultE w3 (.iface 65 (.pointer (some ⟨F,0,none⟩))) E ec1 ec2):=hF
    have HSE:Hid (S=.error (ec1,ec2)):=HP2'.out
    clear hv hF
    go_wp2
    refine bodyPost_ret (results_tmp (t:=2) rfl _ _ _) rfl ?_
    rw [HSE.out]
    exact ⟨fun d hh=>(by cases hh),fun c p hh=>(by cases hh;exact ⟨F,rfl,HFV.out⟩),gb_belo HG3.out hR hB⟩
   | ok j1 =>
    obtain ⟨rfl,hr3⟩:=hv.out.1 j1 rfl
    obtain ⟨m1,m2⟩:=HM2'.out j1 rfl
    have HR3:Hid (Rd w3 R s j1 T):=hr3
    have HP3:=HP2'.out
    try simp only [] at HP3
    clear hv hr3 HP2' HM2' CT2'
    have CT3:=CT.out j1
    have HM3:=HMU.out j1
    obtain ⟨MV,hMV⟩:∃MV,must s.data.toList j1 93=MV:=⟨_,rfl⟩
    rw [hMV] at CT3 HM3 HP3
    have CT3':Hid (∀w',Rd w' R s j1 T->w.grownBy w' (some R)->j1<=s.size->Calls Tryz.prog 45 #[.pointer (some ⟨R,0,none⟩),.int .i64 93] w' fun e w''=>(∃v,e=.returned v/\Hid ((∀q,MV=.ok q->v=.nilIface/\Rd w'' R s q T)/\(∀c p,MV=.error (c,p)->∃F,v=.iface 65 (.pointer (some ⟨F,0,none⟩))/\FaultE w'' v E c p)))/\w'.grownBy w'' (some R)):=CT3
    have HP3':Hid (S=_):=HP3
    clear CT3 HM3 HP3 hMV CT
    go_wp2_with (first | (go_at_call 45;refine (CT3'.out _ HR3.out HG3.out (by omega)).mono ?_))
    rintro e w4 ⟨⟨v,rfl,hv⟩,hg4⟩
    have HG4:Hid (w.grownBy w4 (some R)):=gb_two HG3.out hg4
    have HK4:Hid (KyR w4 g ks):=HK3.out.keepR HR3.out hg4
    clear hg4
    cases MV with
    | error ec =>
     obtain ⟨ec1,ec2⟩:=ec
     obtain ⟨F,rfl,hF⟩:=hv.out.2 ec1 ec2 rfl
     have HFV:Hid (FaultE w4 (.iface 65 (.pointer (some ⟨F,0,none⟩))) E ec1 ec2):=hF
     have HSE:Hid (S=.error (ec1,ec2)):=HP3'.out
     clear hv hF
     go_wp2
     refine bodyPost_ret (results_tmp (t:=2) rfl _ _ _) rfl ?_
     rw [HSE.out]
     exact ⟨fun d hh=>(by cases hh),fun c p hh=>(by cases hh;exact ⟨F,rfl,HFV.out⟩),gb_belo HG4.out hR hB⟩
    | ok j2 =>
     obtain ⟨rfl,hr4⟩:=hv.out.1 j2 rfl
     have HR4:Hid (Rd w4 R s j2 T):=hr4
     have HP4:S=lnW j2 own (way true own ks 0 ns):=HP3'.out
     clear hv hr4 HP3' CT3'
     obtain ⟨d,hd⟩:∃d,ks.length=d+1:=⟨ks.length - 1,by omega⟩
     have CE1:Hid (Calls Tryz.prog 72 #[.pointer (some ⟨T,0,none⟩),.slice (some ⟨g,0,none⟩) ks.length c,.bool true] w4 fun e w''=>∃u,e=.returned u/\Hid (LnPost B R T s E S w (.returned u) w'')):=by
      rw [HP4]
      exact CE.out true ks d g c j2 w4 hd (by omega) (by omega) HKX.out HK4.out HR4.out HG4.out
     obtain ⟨-,-,rr,-⟩:=HR4.out.cells
     clear HP4 CE hd
     go_wp2_with (first | (go_at_call 72;refine CE1.out.mono ?_;rintro e w9 ⟨u,rfl,hu⟩))
     refine bodyPost_ret (results_tmp (t:=2) rfl _ _ _) rfl ?_
     exact hu.out
end Go.Proofs.YtbgnflcebafjjaaGreatDoor
namespace Go.Proofs.YtbgnflcebafjjaaGreatDoor
open Go.RowKit Go.Joins
set_option linter.unusedVariables false
theorem add_kd (ns:List Tn) (up:Nat) (n:Tn) (q:Nat) (hu:up < ns.length) (hq:q < ns.length):kdAt (addN ns up n) q=kdAt ns q:=by rw [kdAt_addN ns up n hu,if_neg (by omega)]
theorem stp_kd {ns ns':List Tn} {own:List Nat} {t t' p:Nat} {k:List UInt8} (J:Jt ns own t) (h:stp ns t k p=.ok (t',ns')) (q:Nat) (hq:q < ns.length):kdAt ns' q=kdAt ns q:=by
 unfold stp at h
 cases hk:kidO ns t k with
 | none =>
  rw [hk] at h
  cases h
  exact add_kd ns t _ q J.lt hq
 | some x =>
  rw [hk] at h
  simp only [] at h
  split at h
  ·cases h;rfl
  ·split at h
   ·cases hx:ns[x]? with
    | none=>rw [hx] at h;cases h
    | some u=>rw [hx] at h;cases h;rfl
   ·cases h
theorem endT_kd {ns ns':List Tn} {own:List Nat} {t t' p:Nat} {k:List UInt8} (J:Jt ns own t) (h:endT ns own t k p=.ok (t',ns')) (q:Nat) (hq:q < ns.length):kdAt ns' q=kdAt ns q:=by
 unfold endT at h
 cases hk:kidO ns t k with
 | none =>
  rw [hk] at h
  cases h
  exact add_kd ns t _ q J.lt hq
 | some x =>
  rw [hk] at h
  simp only [] at h
  split at h
  ·cases h;rfl
  ·cases h
theorem endL_kd {ns ns':List Tn} {own:List Nat} {t t' p:Nat} {k:List UInt8} (J:Jt ns own t) (h:endL ns t k p=.ok (t',ns')) (q:Nat) (hq:q < ns.length):kdAt ns' q=kdAt ns q:=by
 unfold endL at h
 cases hk:kidO ns t k with
 | none =>
  rw [hk] at h
  cases h
  rw [add_kd _ _ _ q (by rw [addN_len];omega) (by rw [addN_len];omega),add_kd _ _ _ q J.lt hq]
 | some x =>
  rw [hk] at h
  simp only [] at h
  split at h
  ·rename_i h2
   cases h
   exact add_kd ns x _ q (kdAt_lt h2 (by omega)) hq
  ·cases h
theorem way_kd (many:Bool) (own:List Nat):∀(l:List (List UInt8 × Nat)) (t:Nat) (ns ns':List Tn) (t':Nat),Jt ns own t->way many own l t ns=.ok (t',ns')->∀q,q < ns.length->kdAt ns' q=kdAt ns q
 | [],t,ns,ns',t',J,h,q,hq=>by cases h;rfl
 | [(k,p)],t,ns,ns',t',J,h,q,hq=>by
  rw [way_one] at h
  split at h
  ·exact endL_kd J h q hq
  ·exact endT_kd J h q hq
 | (k,p) :: b :: r,t,ns,ns',t',J,h,q,hq=>by
  rw [way_more] at h
  cases hs:stp ns t k p with
  | error e=>rw [hs] at h;cases h
  | ok z =>
   obtain ⟨t1,ns1⟩:=z
   rw [hs] at h
   obtain ⟨a,b',c⟩:=stp_ok J hs
   exact (way_kd many own (b :: r) t1 ns1 ns' t' a h q (by omega)).trans (stp_kd J hs q hq)
structure Li (l:List UInt8) (d:Sd):Prop where
 jt:Jt d.ns d.own d.now
 rt:kdAt d.ns 0=0
 le:d.i<=l.length
 nn:d.ns.length<=2 * d.i+1
 on:d.own.length<=d.i
theorem must_ok (l:List UInt8) (k q:Nat) (c:Int) (hc:0<=c) (h:must l k c=.ok q):q=k+1/\k < l.length:=by
 unfold must at h
 split at h
 ·rename_i hx
  have:=nx_lt (l:=l) (i:=k) (by omega)
  cases h
  omega
 ·cases h
theorem pair_ok (l:List UInt8) (d d':Sd) (L:Li l d) (h:rdPair l d=.ok d'):Li l d'/\d.i < d'.i:=by
 obtain ⟨i,ns,own,now⟩:=d
 have L1:=L.jt
 have L2:=L.rt
 have L3:=L.le
 have L4:=L.nn
 have L5:=L.on
 simp only [] at L1 L2 L3 L4 L5
 rw [rdPair_eq] at h
 cases hk:rdKey l i with
 | error e=>rw [hk] at h;cases h
 | ok q =>
  obtain ⟨k,j⟩:=q
  rw [hk] at h
  simp only [] at h
  obtain ⟨k1,k2,k3⟩:=rdKey_ok l i k j L3 hk
  have b1:=bl_le l j k2
  cases hm:must l (bl l j) 61 with
  | error e=>rw [hm] at h;cases h
  | ok j1 =>
   rw [hm] at h
   simp only [] at h
   obtain ⟨m1,m2⟩:=must_ok l _ _ 61 (by decide) hm
   have b2:=bl_le l j1 (by omega)
   cases hq:kidO ns now k with
   | some q=>rw [hq] at h;cases h
   | none =>
    rw [hq] at h
    simp only [] at h
    cases hv:val l (2 * l.length+2) (bl l j1) now k i 0 ns with
    | error e=>rw [hv] at h;cases h
    | ok z =>
     obtain ⟨j2,ns'⟩:=z
     rw [hv] at h
     have A:=(val_lst_ok l own _).1 (bl l j1) now k i 0 ns j2 ns' b2.2 L1.wf L1.wt L1.lt (by rw [L1.kd];decide) hv
     have a1:=A.lo
     have a2:=A.hi
     have a3:=A.fw
     have a4:=A.en
     have hlt:=L1.lt
     cases h
     exact ⟨⟨⟨A.wf,A.wt,by simp only [];omega,(A.kd now L1.lt).trans L1.kd⟩,(A.kd 0 (by omega)).trans L2,a4,by simp only [];omega,by simp only [];omega⟩,by simp only [];omega⟩
theorem head_ok (l:List UInt8) (d d':Sd) (L:Li l d) (hi:d.i < l.length) (h:rdHead l d=.ok d'):Li l d'/\d.i < d'.i:=by
 obtain ⟨i,ns,own,now⟩:=d
 have L1:=L.jt
 have L2:=L.rt
 have L3:=L.le
 have L4:=L.nn
 have L5:=L.on
 simp only [] at L1 L2 L3 L4 L5 hi
 obtain ⟨many,hmany⟩:∃many,decide (nx l (i+1)=91)=many:=⟨_,rfl⟩
 rw [rdHead_eq l i ns own now many hmany] at h
 have ha:i+1<=(if many=true then i+2 else i+1)/\(if many=true then i+2 else i+1)<=l.length:=by
  cases many with
  | false=>simp;omega
  | true =>
   have hx:=of_decide_eq_true hmany
   have:=nx_lt (l:=l) (i:=i+1) (by rw [hx];decide)
   simp;omega
 generalize (if many=true then i+2 else i+1)=a at h ha
 cases hk:hdK l (l.length+1) a [] with
 | error e=>rw [hk] at h;cases h
 | ok q =>
  obtain ⟨ks,j⟩:=q
  rw [hk] at h
  simp only [] at h
  obtain ⟨k1,k2,k3,k4⟩:=hdK_ok l _ a [] ks j ha.2 (by simp) hk
  simp at k2 k3
  cases hm:must l j 93 with
  | error e=>rw [hm] at h;cases h
  | ok j1 =>
   rw [hm] at h
   simp only [] at h
   obtain ⟨m1,m2⟩:=must_ok l _ _ 93 (by decide) hm
   have hj2:∀j2,(if many=true then must l j1 93 else (.ok j1:Rs Nat))=.ok j2->j1<=j2/\j2<=l.length:=fun j2 hh=>by
    split at hh
    ·obtain ⟨n1,n2⟩:=must_ok l _ _ 93 (by decide) hh
     omega
    ·cases hh
     omega
   cases hc:(if many=true then must l j1 93 else (.ok j1:Rs Nat)) with
   | error e=>rw [hc] at h;cases h
   | ok j2 =>
    rw [hc] at h
    simp only [] at h
    obtain ⟨c1,c2⟩:=hj2 j2 hc
    cases hw:way many own ks 0 ns with
    | error e=>rw [hw] at h;cases h
    | ok z =>
     obtain ⟨t,ns'⟩:=z
     rw [hw] at h
     have hlt:=L1.lt
     have J0:Jt ns own 0:=⟨L1.wf,L1.wt,by omega,L2⟩
     obtain ⟨w1,w2,w3⟩:=way_ok many own ks 0 ns ns' t (by intro e;rw [e] at k2;simp at k2) J0 hw
     have w4:=way_kd many own ks 0 ns ns' t J0 hw 0 (by omega)
     cases h
     exact ⟨⟨w1,w4.trans L2,c2,by simp only [];omega,by simp only [List.length_cons];omega⟩,by simp only [];omega⟩
end Go.Proofs.YtbgnflcebafjjaaGreatDoor
