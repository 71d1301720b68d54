import Derived.Test.YtbgnflcebafjjaaGreatDoorM22
import Derived.Test.YtbgnflcebafjjaaGreatDoorM21
namespace Go.Proofs.YtbgnflcebafjjaaGreatDoor
set_option linter.unusedVariables false
theorem val_zero:ValC 0:=by
 intro B R T s E own now i up k p d ns w _ _ _ _ _ _ _ _ _ _ _ _ _ _ hF
 omega
theorem val_upto:∀F:Nat,∀f,f<=F->ValC f
 | 0,f,h=>by
  have:f=0:=by omega
  subst this
  exact val_zero
 | F+1,f,h=>by
  by_cases he:f<=F
  ·exact val_upto F f he
  ·have:f=F+1:=by omega
   subst this
   exact val_of F (lst_of F fun f hf=>val_upto F f (by omega))
theorem val_any (f:Nat):ValC f:=val_upto f f (Nat.le_refl _)
end Go.Proofs.YtbgnflcebafjjaaGreatDoor
namespace Go.Proofs.YtbgnflcebafjjaaGreatDoor
open Go.RowKit Go.Maps Go.WideMaps Go.Joins
set_option linter.unusedVariables false
def LnPost (B R T:Nat) (s:ByteArray) (E:Int->TypeId × Value) (r:Rs Sd) (w:World) (e:Ending) (w':World):Prop :=
 (∀d,r=.ok d->e=.returned .nilIface/\Rd w' R s d.i T/\Tr w' B T d.ns d.own d.now)/\(∀c p,r=.error (c,p)->∃F,e=.returned (.iface 65 (.pointer (some ⟨F,0,none⟩)))/\FaultE w' (.iface 65 (.pointer (some ⟨F,0,none⟩))) E c p)/\Below B w w'
def lnV (own:List Nat) (now:Nat):Rs (Nat × List Tn)->Rs Sd
 | .error e=>.error e
 | .ok (j,ns)=>.ok ⟨j,ns,own,now⟩
theorem rdPair_eq (l:List UInt8) (i:Nat) (ns:List Tn) (own:List Nat) (now:Nat):rdPair l ⟨i,ns,own,now⟩ =
  match rdKey l i with
  | .error e=>.error e
  | .ok (k,j)=>match must l (bl l j) 61 with
   | .error e=>.error e
   | .ok j1=>match kidO ns now k with
    | some _=>.error (5,i)
    | none=>lnV own now (val l (2 * l.length+2) (bl l j1) now k i 0 ns):=by
 unfold rdPair
 cases rdKey l i with
 | error e=>rfl
 | ok q =>
  obtain ⟨k,j⟩:=q
  simp only []
  cases must l (bl l j) 61 with
  | error e=>rfl
  | ok j1 =>
   simp only []
   cases kidO ns now k with
   | some q=>rfl
   | none =>
    simp only []
    cases val l (2 * l.length+2) (bl l j1) now k i 0 ns with
    | error e=>rfl
    | ok q=>rfl
theorem ln_val {B R T:Nat} {s:ByteArray} {E:Int->TypeId × Value} {own:List Nat} {now:Nat} {v:Rs (Nat × List Tn)} {w w' w'':World} {e:Ending} (hb:Below B w w') (h:VlPost B R T s E own now v w' e w''):∃u,e=.returned u/\Hid (LnPost B R T s E (lnV own now v) w (.returned u) w''):=by
 cases v with
 | error ec =>
  obtain ⟨c,p⟩:=ec
  obtain ⟨u,rfl,F,rfl,hF⟩:=h.2.1 c p rfl
  exact ⟨_,rfl,fun d hh=>(by cases hh),fun c p hh=>(by cases hh;exact ⟨F,rfl,F,rfl,hF⟩),hb.trans h.2.2⟩
 | ok q =>
  obtain ⟨j,ns⟩:=q
  obtain ⟨rfl,h1,h2⟩:=h.1 j ns rfl
  exact ⟨_,rfl,fun d hh=>(by cases hh;exact ⟨rfl,h1,h2⟩),fun c p hh=>(by cases hh),hb.trans h.2.2⟩
set_option maxRecDepth 100000 in
set_option maxHeartbeats 3200000 in
theorem tPair_any (B R T:Nat) (s:ByteArray) (E:Int->TypeId × Value) (own:List Nat) (now i:Nat) (ns:List Tn) (w:World) (h:Rd w R s i T) (htr:Tr w B T ns own now) (G:Gl w B E) (hR:B<=R) (hi:i<=s.size) (hs:s.size<=100000) (J:Jt ns own now) (hsz:ns.length+own.length+(s.size - i)<=700000) :
  Calls Tryz.prog 43 #[.pointer (some ⟨R,0,none⟩)] w (LnPost B R T s E (rdPair s.data.toList ⟨i,ns,own,now⟩) w):=by
 have hl:s.data.toList.length=s.size:=by simp
 have hB:B<=w.heap.size:=htr.base
 have CK:Hid (Calls Tryz.prog 75 #[.pointer (some ⟨R,0,none⟩)] w (KePost R s T E i (rdKey s.data.toList i) w)):=tKey_any R s i T B E w h hi (by omega) G hR hB
 have CS:Hid (∀k w,Rd w R s k T->k<=s.size->Calls Tryz.prog 39 #[.pointer (some ⟨R,0,none⟩)] w fun e w'=>e=.returned (.tuple #[])/\Rd w' R s (bl s.data.toList k) T/\w.grownBy w' (some R)):=fun k w h1 h2=>tSkip_any R s k T w h1 h2 (by omega)
 have CT:Hid (∀k w',Rd w' R s k T->w.grownBy w' (some R)->k<=s.size->Calls Tryz.prog 45 #[.pointer (some ⟨R,0,none⟩),.int .i64 61] w' fun e w''=>(∃v,e=.returned v/\Hid ((∀q,must s.data.toList k 61=.ok q->v=.nilIface/\Rd w'' R s q T)/\(∀c p,must s.data.toList k 61=.error (c,p)->∃F,v=.iface 65 (.pointer (some ⟨F,0,none⟩))/\FaultE w'' v E c p)))/\w'.grownBy w'' (some R)):=fun k w' h1 hg hk =>
  (tTake_any R s k T 61 (E 2).1 (E 2).2 w' h1 hk (by omega) (by decide) (G.gb hg hR hB).es.te).mono fun e w'' ⟨a1,a2,a3⟩=>by
   unfold must
   by_cases hx:nx s.data.toList k=61
   ·rw [if_pos hx]
    exact ⟨⟨_,(a1 hx).1,fun q hq=>(by cases hq;exact ⟨rfl,(a1 hx).2⟩),fun c p hp=>(by cases hp)⟩,a3⟩
   ·rw [if_neg hx]
    obtain ⟨⟨v,e1,F,rfl,hF⟩,-⟩:=a2 hx
    exact ⟨⟨_,e1,fun q hq=>(by cases hq),fun c p hp=>(by cases hp;exact ⟨F,rfl,F,rfl,hF⟩)⟩,a3⟩
 have CF:Hid (∀(k:List UInt8) w',k.length<=1048576->w.grownBy w' (some R)->Calls Tryz.prog 76 #[.pointer (some ⟨T,0,none⟩),.agg #[.string ⟨k.toArray⟩,.int .i64 (i:Nat)]] w' fun e w''=>(∃v,e=.returned v/\Hid ((kidO ns now k=none->v=.nilIface)/\(∀q,kidO ns now k=some q->∃F,v=.iface 65 (.pointer (some ⟨F,0,none⟩))/\FaultE w'' v E 5 i)))/\w'.grownBy w'' none):=fun k w' hk hg =>
  (tFree_any B T ns own now E k i w' (htr.keepR h hg) J.kd (by have:=J.lt;omega) hk (G.gb hg hR hB).es).mono fun e w'' ⟨a1,a2,a3⟩=>by
   cases hq:kidO ns now k with
   | none=>exact ⟨⟨_,a1 hq,fun _=>rfl,fun q hh=>(by cases hh)⟩,a3⟩
   | some q =>
    obtain ⟨v,e1,F,rfl,hF⟩:=a2 q hq
    exact ⟨⟨_,e1,fun hh=>(by cases hh),fun q hh=>⟨F,rfl,F,rfl,hF⟩⟩,a3⟩
 have CV:Hid (∀(k:List UInt8) j w',k.length<=1048576->j<=s.size->i<=j->kidO ns now k=none->w.grownBy w' (some R)->Rd w' R s j T->Calls Tryz.prog 77 #[.pointer (some ⟨R,0,none⟩),.int .i64 (now:Nat),.agg #[.string ⟨k.toArray⟩,.int .i64 (i:Nat)],.int .i64 0] w' fun e w''=>∃u,e=.returned u/\Hid (LnPost B R T s E (lnV own now (val s.data.toList (2 * s.data.toList.length+2) j now k i 0 ns)) w (.returned u) w'')):=fun k j w' hk hj hij hq hg hr =>
  (val_any (2 * s.data.toList.length+2) B R T s E own now j now k i 0 ns w' hr (htr.keepR h hg) (G.gb hg hR hB) hR hj hs J.wf J.wt J.lt (by rw [J.kd];decide) (fun _=>hq) hk (by omega) (by omega) (by omega)).mono fun e w'' hv=>ln_val (gb_belo hg hR hB) hv
 have HKO:Hid (∀x j,rdKey s.data.toList i=.ok (x,j)->i < j/\j<=s.size/\x.length<=1048576):=fun x j a=>by
  have:=rdKey_ok s.data.toList i x j (by omega) a
  omega
 have HBL:Hid (∀k,k<=s.size->k<=bl s.data.toList k/\bl s.data.toList k<=s.size):=fun k hk=>by rw [<-hl];exact bl_le _ k (by omega)
 have HMU:Hid (∀k q,must s.data.toList k 61=.ok q->q=k+1/\k < s.size):=fun k q a=>by
  unfold must at a
  split at a
  ·rename_i hx
   have:=nx_lt (l:=s.data.toList) (i:=k) (by rw [hx];decide)
   cases a
   omega
  ·cases a
 have HPE:=rdPair_eq s.data.toList i ns own now
 obtain ⟨S,hS⟩:∃S,rdPair s.data.toList ⟨i,ns,own,now⟩=S:=⟨_,rfl⟩
 rw [hS] at HPE ⊢
 obtain ⟨KR,hKR⟩:∃KR,rdKey s.data.toList i=KR:=⟨_,rfl⟩
 rw [hKR] at HPE CK HKO
 have HP:Hid (S=_):=HPE
 have HTR:Hid (Tr w B T ns own now):=htr
 have H0:Hid (Rd w R s i T):=h
 clear HPE hS hKR h htr G J
 go_enter Tryz.func43,Tryz.ntmps43
 go_wp2_with (first | (go_at_call 75;refine CK.out.mono ?_))
 rintro e w1 ⟨p1,p2,p3⟩
 cases KR with
 | error ec =>
  obtain ⟨ec1,ec2⟩:=ec
  obtain ⟨ka,kb,v,rfl,F,rfl,hF⟩:=p2 ec1 ec2 rfl
  have HFV:Hid (FaultE w1 (.iface 65 (.pointer (some ⟨F,0,none⟩))) E ec1 ec2):=⟨F,rfl,hF⟩
  have HSE:Hid (S=.error (ec1,ec2)):=HP.out
  have HBA:Hid (Below B w (w1.alloc (.cells #[.string ka,.int .i64 kb] 133))):=gb_belo (gb_more p3 (World.grownBy_alloc _ _ none)) hR hB
  have HFA:Hid (FaultE (w1.alloc (.cells #[.string ka,.int .i64 kb] 133)) (.iface 65 (.pointer (some ⟨F,0,none⟩))) E ec1 ec2):=FaultV.grow HFV.out (World.grownBy_alloc _ _ none)
  clear p1 p2 p3 hF
  go_wp2
  refine bodyPost_ret (results_tmp (t:=2) rfl _ _ _) rfl ?_
  rw [HSE.out]
  exact ⟨fun d hh=>(by cases hh),fun c p hh=>(by cases hh;exact ⟨F,rfl,HFA.out⟩),HBA.out⟩
 | ok q =>
  obtain ⟨k,j⟩:=q
  obtain ⟨rfl,hr1⟩:=p1 k j rfl
  obtain ⟨k1,k2,k3⟩:=HKO.out k j rfl
  have HP2:=HP.out
  try simp only [] at HP2
  have hgA:=gb_more p3 (World.grownBy_alloc w1 (.cells #[.string ⟨k.toArray⟩,.int .i64 (i:Nat)] 133) none)
  have hrA:Rd (w1.alloc (.cells #[.string ⟨k.toArray⟩,.int .i64 (i:Nat)] 133)) R s j T:=hr1.grow (World.grownBy_alloc _ _ none)
  have hnK:=heap_alloc_new w1 (.cells #[.string ⟨k.toArray⟩,.int .i64 (i:Nat)] 133)
  obtain ⟨K,hK⟩:∃K,w1.heap.size=K:=⟨_,rfl⟩
  rw [hK] at hnK
  obtain ⟨w2,hw2⟩:∃w2,w1.alloc (.cells #[.string ⟨k.toArray⟩,.int .i64 (i:Nat)] 133)=w2:=⟨_,rfl⟩
  rw [hw2] at hgA hrA hnK
  have HG2:Hid (w.grownBy w2 (some R)):=hgA
  have HR2:Hid (Rd w2 R s j T):=hrA
  have HK2:Hid (w2.heap[K]?=some (.cells #[.string ⟨k.toArray⟩,.int .i64 (i:Nat)] 133 (0,0))):=hnK
  have C3:=CS.out j w2 hrA k2
  obtain ⟨b1,b2⟩:=HBL.out j k2
  obtain ⟨j3,hj3⟩:∃j3,bl s.data.toList j=j3:=⟨_,rfl⟩
  rw [hj3] at C3 b1 b2 HP2
  have C3':Hid (Calls Tryz.prog 39 #[.pointer (some ⟨R,0,none⟩)] w2 fun e w'=>e=.returned (.tuple #[])/\Rd w' R s j3 T/\w2.grownBy w' (some R)):=C3
  have CT3:=CT.out j3
  have HM3:=HMU.out j3
  obtain ⟨MU,hMU⟩:∃MU,must s.data.toList j3 61=MU:=⟨_,rfl⟩
  rw [hMU] at CT3 HM3 HP2
  have CT3':Hid (∀w',Rd w' R s j3 T->w.grownBy w' (some R)->j3<=s.size->Calls Tryz.prog 45 #[.pointer (some ⟨R,0,none⟩),.int .i64 61] w' fun e w''=>(∃v,e=.returned v/\Hid ((∀q,MU=.ok q->v=.nilIface/\Rd w'' R s q T)/\(∀c p,MU=.error (c,p)->∃F,v=.iface 65 (.pointer (some ⟨F,0,none⟩))/\FaultE w'' v E c p)))/\w'.grownBy w'' (some R)):=CT3
  have HM3':Hid (∀q,MU=.ok q->q=j3+1/\j3 < s.size):=HM3
  have HP2':Hid (S=_):=HP2
  clear p1 p2 p3 hr1 hgA hrA hnK hj3 C3 CT3 HM3 hMU HP2 HP HKO
  go_wp2_with (first | (go_at_call 39;refine C3'.out.mono ?_))
  rintro e w3 ⟨rfl,hr3,hg3⟩
  have HR3:Hid (Rd w3 R s j3 T):=hr3
  have HG3:Hid (w.grownBy w3 (some R)):=gb_two HG2.out hg3
  have HK3:Hid (w3.heap[K]?=some (.cells #[.string ⟨k.toArray⟩,.int .i64 (i:Nat)] 133 (0,0))):=(hg3.block K (blk_lt HK2.out) (by simp only [ne_eq,Option.some.injEq];exact ne_typ HK2.out HR2.out (by decide))).trans HK2.out
  clear hr3 hg3
  go_wp2_with (first | (go_at_call 45;refine (CT3'.out _ HR3.out HG3.out b2).mono ?_))
  rintro e w4 ⟨⟨v,rfl,hv⟩,hg4⟩
  have HG4:Hid (w.grownBy w4 (some R)):=gb_two HG3.out hg4
  have HK4:Hid (w4.heap[K]?=some (.cells #[.string ⟨k.toArray⟩,.int .i64 (i:Nat)] 133 (0,0))):=(hg4.block K (blk_lt HK3.out) (by simp only [ne_eq,Option.some.injEq];exact ne_typ HK3.out HR3.out (by decide))).trans HK3.out
  clear hg4
  cases MU with
  | error ec =>
   obtain ⟨ec1,ec2⟩:=ec
   obtain ⟨F,rfl,hF⟩:=hv.out.2 ec1 ec2 rfl
   have HFV:Hid (FaultE w4 (.iface 65 (.pointer (some ⟨F,0,none⟩))) E ec1 ec2):=hF
   have HSE:Hid (S=.error (ec1,ec2)):=HP2'.out
   clear hv hF
   go_wp2
   refine bodyPost_ret (results_tmp (t:=2) rfl _ _ _) rfl ?_
   rw [HSE.out]
   exact ⟨fun d hh=>(by cases hh),fun c p hh=>(by cases hh;exact ⟨F,rfl,HFV.out⟩),gb_belo HG4.out hR hB⟩
  | ok j4 =>
   obtain ⟨rfl,hr4⟩:=hv.out.1 j4 rfl
   obtain ⟨m1,m2⟩:=HM3'.out j4 rfl
   have HR4:Hid (Rd w4 R s j4 T):=hr4
   have HP4:=HP2'.out
   try simp only [] at HP4
   have HP4':Hid (S=_):=HP4
   have CF4:=CF.out k
   have CV4:=CV.out k
   obtain ⟨KO,hKO⟩:∃KO,kidO ns now k=KO:=⟨_,rfl⟩
   rw [hKO] at CF4 CV4 HP4'
   have CF4':Hid (∀w',k.length<=1048576->w.grownBy w' (some R)->Calls Tryz.prog 76 #[.pointer (some ⟨T,0,none⟩),.agg #[.string ⟨k.toArray⟩,.int .i64 (i:Nat)]] w' fun e w''=>(∃v,e=.returned v/\Hid ((KO=none->v=.nilIface)/\(∀q,KO=some q->∃F,v=.iface 65 (.pointer (some ⟨F,0,none⟩))/\FaultE w'' v E 5 i)))/\w'.grownBy w'' none):=CF4
   have CV4':Hid (∀j w',k.length<=1048576->j<=s.size->i<=j->KO=none->w.grownBy w' (some R)->Rd w' R s j T->Calls Tryz.prog 77 #[.pointer (some ⟨R,0,none⟩),.int .i64 (now:Nat),.agg #[.string ⟨k.toArray⟩,.int .i64 (i:Nat)],.int .i64 0] w' fun e w''=>∃u,e=.returned u/\Hid (LnPost B R T s E (lnV own now (val s.data.toList (2 * s.data.toList.length+2) j now k i 0 ns)) w (.returned u) w'')):=CV4
   obtain ⟨-,-,r2,-⟩:=hr4.cells
   obtain ⟨q0,q1,-⟩:=two_cells HK4.out
   clear hv hr4 HP2' HP4 CF4 CV4 CF CV hKO
   go_upto_region 8 with fail
   go_cut [6] from 22 (fun v6 wx=>Hid ((KO=none->v6=.nilIface)/\(∀q,KO=some q->∃F,v6=.iface 65 (.pointer (some ⟨F,0,none⟩))/\FaultE wx v6 E 5 i))/\w4.grownBy wx none)
   case first =>
    go_region_with (first | (go_at_call 76;refine (CF4'.out _ k3 (gb_more HG4.out (gb_d w4))).mono ?_;rintro e w5 ⟨⟨v,rfl,hv⟩,hg5⟩))
    all_goals (
     go_wp2_with fail
     go_meet
     exact ⟨hv,gb_trans (gb_d w4) hg5⟩)
   case rest =>
    obtain ⟨hv,hgc⟩:=hcut
    have HG5:Hid (w.grownBy wc (some R)):=gb_more HG4.out hgc
    have HR5:Hid (Rd wc R s j4 T):=HR4.out.grow hgc
    have HK5:Hid (wc.heap[K]?=some (.cells #[.string ⟨k.toArray⟩,.int .i64 (i:Nat)] 133 (0,0))):=blk_gb HK4.out hgc
    clear hgc r2 q0 q1
    cases KO with
    | some q =>
     obtain ⟨F,rfl,hF⟩:=hv.out.2 q rfl
     have HFV:Hid (FaultE wc (.iface 65 (.pointer (some ⟨F,0,none⟩))) E 5 i):=hF
     have HSE:Hid (S=.error (5,i)):=HP4'.out
     clear hv hF
     go_wp2
     refine bodyPost_ret (results_tmp (t:=2) rfl _ _ _) rfl ?_
     rw [HSE.out]
     exact ⟨fun d hh=>(by cases hh),fun c p hh=>(by cases hh;exact ⟨F,rfl,HFV.out⟩),gb_belo HG5.out hR hB⟩
    | none =>
     obtain rfl:=hv.out.1 rfl
     have hj4:j4<=s.size:=by omega
     have C6:=CS.out j4 wc HR5.out hj4
     obtain ⟨b3,b4⟩:=HBL.out j4 hj4
     have HP6:=HP4'.out
     try simp only [] at HP6
     obtain ⟨j6,hj6⟩:∃j6,bl s.data.toList j4=j6:=⟨_,rfl⟩
     rw [hj6] at C6 b3 b4 HP6
     have C6':Hid (Calls Tryz.prog 39 #[.pointer (some ⟨R,0,none⟩)] wc fun e w'=>e=.returned (.tuple #[])/\Rd w' R s j6 T/\wc.grownBy w' (some R)):=C6
     have CV6:Hid (∀w',w.grownBy w' (some R)->Rd w' R s j6 T->Calls Tryz.prog 77 #[.pointer (some ⟨R,0,none⟩),.int .i64 (now:Nat),.agg #[.string ⟨k.toArray⟩,.int .i64 (i:Nat)],.int .i64 0] w' fun e w''=>∃u,e=.returned u/\Hid (LnPost B R T s E S w (.returned u) w'')):=fun w' a b=>by rw [HP6];exact CV4'.out j6 w' k3 b4 (by omega) rfl a b
     clear hv hj6 C6 HP6 CV4' HP4'
     go_wp2_with (first | (go_at_call 39;refine C6'.out.mono ?_))
     rintro e w6 rfl hr6 hg6
     have HG6:Hid (w.grownBy w6 (some R)):=gb_two HG5.out hg6
     have HR6:Hid (Rd w6 R s j6 T):=hr6
     have hk6:=(hg6.block K (blk_lt HK5.out) (by simp only [ne_eq,Option.some.injEq];exact ne_typ HK5.out HR5.out (by decide))).trans HK5.out
     obtain ⟨q0,q1,-⟩:=two_cells hk6
     obtain ⟨-,-,r2,-⟩:=hr6.cells
     obtain ⟨t2,-⟩:=(HTR.out.keepR H0.out HG6.out).two
     clear hr6 hg6 hk6
     go_wp2
     go_region_with (first | (go_at_call 77;refine (CV6.out _ (gb_more HG6.out (gb_d w6)) HR6.out).mono ?_;rintro e w7 ⟨u,rfl,hu⟩))
     all_goals (
      go_wp2
      refine bodyPost_ret (results_tmp (t:=2) rfl _ _ _) rfl ?_
      exact hu.out)
end Go.Proofs.YtbgnflcebafjjaaGreatDoor
namespace Go.Proofs.YtbgnflcebafjjaaGreatDoor
open Go.RowKit Go.Maps Go.WideMaps Go.Joins
set_option linter.unusedVariables false
def kyC (l:List (List UInt8 × Nat)):List Value:=l.flatMap fun x=>[.string ⟨x.1.toArray⟩,.int .i64 (x.2:Nat)]
theorem kyC_at:∀(l:List (List UInt8 × Nat)) (i:Nat) (hi:i < l.length),(kyC l)[i * 2]?=some (.string ⟨l[i].1.toArray⟩)/\(kyC l)[i * 2+1]?=some (.int .i64 (l[i].2:Nat))
 | a :: r,0,_=>⟨rfl,rfl⟩
 | a :: r,i+1,hi=>by
  have:=kyC_at r i (by simpa using hi)
  have e:kyC (a :: r)=.string ⟨a.1.toArray⟩ :: .int .i64 (a.2:Nat) :: kyC r:=rfl
  rw [e,show (i+1) * 2=i * 2+1+1 by omega]
  exact this
theorem kyC_app (l:List (List UInt8 × Nat)) (x:List UInt8 × Nat):kyC (l++[x])=kyC l++[.string ⟨x.1.toArray⟩,.int .i64 (x.2:Nat)]:=by
 unfold kyC
 rw [List.flatMap_append];rfl
theorem kyR_own {w:World} {B g c n:Nat} {l:List (List UInt8 × Nat)} (h:w.ownsRow B 133 2 (.slice (some ⟨g,0,none⟩) n c) n (kyC l)) (hn:l.length=n):KyR w g l/\n<=c:=by
 rcases h.2 with ⟨h1,-⟩ | ⟨g',cap,cur,h1,-,h3,h4,-,h6,h7⟩
 ·cases h1
 ·cases h1
  refine ⟨⟨cur,h3,fun i hi=>?_⟩,h4⟩
  obtain ⟨a,b⟩:=kyC_at l i hi
  rw [<-h7] at a b
  rw [List.getElem?_take_of_lt (by omega),Array.getElem?_toList] at a b
  exact ⟨a,b⟩
theorem infoKey:(Tryz.prog.info? 133).map (fun i=>(i.zero,i.size,i.bytes))=some (some (.agg #[.string ⟨#[]⟩,.int .i64 0]),2,24):=by kernel_rfl
theorem hdK_step (l:List UInt8) (f i:Nat) (acc:List (List UInt8 × Nat)):hdK l (f+1) i acc=match rdKey l (bl l i) with | .error e=>.error e | .ok (k,j)=>if nx l (bl l j)=46 then hdK l f (bl l j+1) (acc++[(k,bl l i)]) else .ok (acc++[(k,bl l i)],bl l j):=rfl
theorem gb_row {w W w3:World} {r q:Option Nat} (h:w.grownBy W r) (hg:W.grownBy w3 q) (hq:∀b,q=some b->w.heap.size<=b):w.grownBy w3 r :=
 ⟨hg.os.trans h.os,hg.tape.trans h.tape,hg.output.trans h.output,Nat.le_trans h.size hg.size,fun k hk hn=>(hg.block k (Nat.lt_of_lt_of_le hk h.size) (fun e=>by have:=hq k e.symm;omega)).trans (h.block k hk hn)⟩
def HkPost (R:Nat) (s:ByteArray) (T:Nat) (E:Int->TypeId × Value) (g:Rs (List (List UInt8 × Nat) × Nat)) (w:World) (e:Ending) (w':World):Prop :=
 (∀l j,g=.ok (l,j)->∃b c,e=.returned (.tuple #[.slice (some ⟨b,0,none⟩) l.length c,.nilIface])/\KyR w' b l/\l.length<=c/\Rd w' R s j T)/\(∀c p,g=.error (c,p)->∃F,e=.returned (.tuple #[.slice none 0 0,.iface 65 (.pointer (some ⟨F,0,none⟩))])/\FaultE w' (.iface 65 (.pointer (some ⟨F,0,none⟩))) E c p)/\w.grownBy w' (some R)
theorem key_one (x:List UInt8 × Nat):∀u ∈ ([.string ⟨x.1.toArray⟩,.int .i64 (x.2:Nat)]:List Value),u.oneCell'=true:=by
 intro u hu
 simp only [List.mem_cons,List.not_mem_nil,or_false] at hu
 rcases hu with rfl | rfl <;> rfl
set_option maxRecDepth 100000 in
set_option maxHeartbeats 3200000 in
theorem tKeys_any (R:Nat) (s:ByteArray) (i T B:Nat) (E:Int->TypeId × Value) (w:World) (h:Rd w R s i T) (hi:i<=s.size) (hs:s.size<=100000) (G:Gl w B E) (hR:B<=R) (hBw:B<=w.heap.size) :
  Calls Tryz.prog 71 #[.pointer (some ⟨R,0,none⟩)] w (HkPost R s T E (hdK s.data.toList (s.data.toList.length+1) i []) w):=by
 have CN:Hid (∀k w,Rd w R s k T->k<=s.size->Calls Tryz.prog 40 #[.pointer (some ⟨R,0,none⟩)] w fun e w'=>e=.returned (.int .i64 (nx s.data.toList k))/\w.grownBy w' none):=fun k w h1 h2=>tNext_any R s k T w h1 h2 (by omega)
 have CS:Hid (∀k w,Rd w R s k T->k<=s.size->Calls Tryz.prog 39 #[.pointer (some ⟨R,0,none⟩)] w fun e w'=>e=.returned (.tuple #[])/\Rd w' R s (bl s.data.toList k) T/\w.grownBy w' (some R)):=fun k w h1 h2=>tSkip_any R s k T w h1 h2 (by omega)
 have CK:Hid (∀k w',Rd w' R s k T->k<=s.size->w.grownBy w' (some R)->Calls Tryz.prog 75 #[.pointer (some ⟨R,0,none⟩)] w' (KePost R s T E k (rdKey s.data.toList k) w')):=fun k w' h1 h2 hg=>tKey_any R s k T B E w' h1 h2 (by omega) (G.gb hg hR hBw) hR (Nat.le_trans hBw hg.size)
 have hl:s.data.toList.length=s.size:=by simp
 have HBL:Hid (∀k,k<=s.size->k<=bl s.data.toList k/\bl s.data.toList k<=s.size):=fun k hk=>by rw [<-hl];exact bl_le _ k (by omega)
 have HKO:Hid (∀k x j,k<=s.size->rdKey s.data.toList k=.ok (x,j)->k < j/\j<=s.size):=fun k x j a b=>by
  have:=rdKey_ok s.data.toList k x j (by omega) b
  omega
 have HLT:Hid (∀k,nx s.data.toList k=46->k < s.size):=fun k a=>by
  have:=nx_lt (l:=s.data.toList) (i:=k) (by rw [a];decide)
  omega
 obtain ⟨i0,hi0,hii⟩:=Option.map_eq_some_iff.1 infoKey
 simp only [Prod.mk.injEq] at hii
 obtain ⟨hz0,hz1,hzb⟩:=hii
 obtain ⟨S,hS⟩:∃S,hdK s.data.toList (s.data.toList.length+1) i []=S:=⟨_,rfl⟩
 have HS:Hid (hdK s.data.toList (s.data.toList.length+1) i []=S):=hS
 rw [hS]
 have H0:Hid (Rd w R s i T):=h
 clear h G hS
 go_enter Tryz.func71,Tryz.ntmps71
 go_wp2
 go_loopw [2,3,4] (fun v2 v3 v4 wr=>v2=.slice none 0 0/\v3=.nilIface/\∃(kx f:Nat) (acc:List (List UInt8 × Nat)),Rd wr R s kx T/\kx<=s.size/\wr.ownsRow w.heap.size 133 2 v4 acc.length (kyC acc)/\w.grownBy wr (some R)/\s.size - kx < f/\hdK s.data.toList f kx acc=S/\acc.length<=kx) (fun _ _ _ wr=>s.size - (match wr.cell? ⟨R,1,none⟩ with | some (.int _ k)=>k.toNat | _=>0))
 case atStart=>exact ⟨rfl,rfl,i,s.data.toList.length+1,[],H0.out,hi,World.ownsRow_nil _ _ _ _,gb_refl _ _,by omega,HS.out,by simp⟩
 case round =>
  obtain ⟨rfl,rfl,kx,f,acc,hrd,hk,hown,hg,hf,hhd,hac⟩:=hrel
  obtain ⟨f,rfl⟩:∃f',f=f'+1:=⟨f - 1,by omega⟩
  rw [hdK_step] at hhd
  have HRK:Hid (Rd wr R s kx T):=hrd
  have HGK:Hid (w.grownBy wr (some R)):=hg
  have HOW:Hid (wr.ownsRow w.heap.size 133 2 u4 acc.length (kyC acc)):=hown
  have HME:Hid ((match wr.cell? ⟨R,1,none⟩ with | some (.int _ k)=>k.toNat | _=>0)=kx):=by show _=_;rw [hrd.cells.2.1];simp
  have C1:=CS.out kx wr hrd hk
  obtain ⟨b1,b2⟩:=HBL.out kx hk
  obtain ⟨j0,hj0⟩:∃j0,bl s.data.toList kx=j0:=⟨_,rfl⟩
  rw [hj0] at C1 hhd b1 b2
  have C1':Hid (Calls Tryz.prog 39 #[.pointer (some ⟨R,0,none⟩)] wr fun e w'=>e=.returned (.tuple #[])/\Rd w' R s j0 T/\wr.grownBy w' (some R)):=C1
  have HK0:=HKO.out j0
  have CK0:=CK.out j0
  obtain ⟨KR,hKR⟩:∃KR,rdKey s.data.toList j0=KR:=⟨_,rfl⟩
  rw [hKR] at HK0 CK0 hhd
  have HHD:Hid (_=S):=hhd
  have HK0':Hid (∀x j,j0<=s.size->KR=.ok (x,j)->j0 < j/\j<=s.size):=HK0
  have CK0':Hid (∀w',Rd w' R s j0 T->j0<=s.size->w.grownBy w' (some R)->Calls Tryz.prog 75 #[.pointer (some ⟨R,0,none⟩)] w' (KePost R s T E j0 KR w')):=CK0
  clear hrd hown hg hhd C1 HK0 CK0 hj0 hKR
  go_wp2_with (first | (go_at_call 39;refine C1'.out.mono ?_))
  rintro e w2 ⟨rfl,hr2,hg2⟩
  have HR2:Hid (Rd w2 R s j0 T):=hr2
  have HG2:Hid (w.grownBy w2 (some R)):=gb_two HGK.out hg2
  have HOW2:Hid (w2.ownsRow w.heap.size 133 2 u4 acc.length (kyC acc)):=own_block HOW.out fun g' cur' hh hc=>hg2.block g' (blk_lt hc) (by simp only [ne_eq,Option.some.injEq];exact ne_typ hc HRK.out (by decide))
  clear hr2 hg2
  go_wp2_with (first | (go_at_call 75;refine (CK0'.out _ HR2.out b2 HG2.out).mono ?_))
  rintro e w3 ⟨p1,p2,p3⟩
  have HG3:Hid (w.grownBy w3 (some R)):=gb_two HG2.out p3
  cases KR with
  | error ec =>
   obtain ⟨ec1,ec2⟩:=ec
   obtain ⟨ka,kb,v,rfl,F,rfl,hF⟩:=p2 ec1 ec2 rfl
   have HFV:Hid (FaultE w3 (.iface 65 (.pointer (some ⟨F,0,none⟩))) E ec1 ec2):=⟨F,rfl,hF⟩
   have HSE:Hid (S=.error (ec1,ec2)):=HHD.out.symm
   clear p1 p2 p3 hF
   have HGA:Hid (w.grownBy (w3.alloc (.cells #[.string ka,.int .i64 kb] 133)) (some R)):=gb_more HG3.out (World.grownBy_alloc _ _ none)
   have HFA:Hid (FaultE (w3.alloc (.cells #[.string ka,.int .i64 kb] 133)) (.iface 65 (.pointer (some ⟨F,0,none⟩))) E ec1 ec2):=FaultV.grow HFV.out (World.grownBy_alloc _ _ none)
   go_wp2
   refine bodyPost_ret (results_tmp2 (t:=2) (u:=3) rfl _ _ _) rfl ?_
   rw [HSE.out]
   exact ⟨fun l j hh=>(by cases hh),fun c p hh=>(by cases hh;exact ⟨F,rfl,HFA.out⟩),HGA.out⟩
  | ok q =>
   obtain ⟨kk,j⟩:=q
   obtain ⟨rfl,hr3⟩:=p1 kk j rfl
   obtain ⟨k1,k2⟩:=HK0'.out kk j b2 rfl
   have hown3:w3.ownsRow w.heap.size 133 2 u4 acc.length (kyC acc):=own_block HOW2.out fun g' cur' hh hc=>p3.block g' (blk_lt hc) (by simp only [ne_eq,Option.some.injEq];exact ne_typ hc HR2.out (by decide))
   have HR3:Hid (Rd w3 R s j T):=hr3
   have hnb:=heap_alloc_new (w3.alloc (.cells #[.string ⟨kk.toArray⟩,.int .i64 (j0:Nat)] 133)) (.cells #[.string ⟨kk.toArray⟩,.int .i64 (j0:Nat)] 133)
   rw [World.size_alloc] at hnb
   have HNB:Hid (((w3.alloc (.cells #[.string ⟨kk.toArray⟩,.int .i64 (j0:Nat)] 133)).alloc (.cells #[.string ⟨kk.toArray⟩,.int .i64 (j0:Nat)] 133)).heap[w3.heap.size+1]?=some (.cells #[.string ⟨kk.toArray⟩,.int .i64 (j0:Nat)] 133 (0,0))):=hnb
   have hsz3:w.heap.size<=w3.heap.size:=HG3.out.size
   have hone:=key_one (kk,j0)
   try simp only [] at hone
   clear p1 p2 p3 hr3 hnb
   go_wp2_with (first | (at_builtin;refine wpList_append_lies _ rfl _ _ 128 rfl w.heap.size 133 i0 _ 2 24 Tryz.underlying128 hi0 hz0 hz1 hzb rfl (by decide) u4 acc.length (kyC acc) rfl ((hown3.alloc _).alloc _) ⟨w3.heap.size+1,0,none⟩ 1 1 [.string ⟨kk.toArray⟩,.int .i64 (j0:Nat)] rfl rfl (World.news_of_block HNB.out) hone (by omega) (by unfold maxLen;omega) (by omega) (by simp;omega) _ rfl ?_))
   intro g cap w6 hown6 hgrow hat hlt6
   have hr5:=(HR3.out.grow (World.grownBy_alloc w3 (.cells #[.string ⟨kk.toArray⟩,.int .i64 (j0:Nat)] 133) none)).grow (World.grownBy_alloc _ (.cells #[.string ⟨kk.toArray⟩,.int .i64 (j0:Nat)] 133) none)
   have hown5:=(hown3.alloc (.cells #[.string ⟨kk.toArray⟩,.int .i64 (j0:Nat)] 133)).alloc (.cells #[.string ⟨kk.toArray⟩,.int .i64 (j0:Nat)] 133)
   have HR6:Hid (Rd w6 R s j T):=(hgrow.block R (blk_lt hr5) (fun e=>by
    obtain ⟨-,cc,hcc⟩:=own_typ hown5 e.symm
    exact ne_typ hr5 hcc (by decide) rfl)).trans hr5
   have HG6:Hid (w.grownBy w6 (some R)):=gb_row (gb_more (gb_more HG3.out (World.grownBy_alloc _ _ none)) (World.grownBy_alloc _ _ none)) hgrow (fun b hb=>(own_typ hown5 hb).1)
   have HOW6:Hid (w6.ownsRow w.heap.size 133 2 (.slice (some ⟨g,0,none⟩) (acc.length+1) cap) (acc.length+1) (kyC (acc++[(kk,j0)]))):=by
    show World.ownsRow _ _ _ _ _ _ _
    rw [kyC_app]
    exact hown6
   have C7:=CS.out j w6 HR6.out k2
   obtain ⟨d1,d2⟩:=HBL.out j k2
   have HH2:=HHD.out
   try simp only [] at HH2
   obtain ⟨j7,hj7⟩:∃j7,bl s.data.toList j=j7:=⟨_,rfl⟩
   rw [hj7] at C7 d1 d2 HH2
   have C7':Hid (Calls Tryz.prog 39 #[.pointer (some ⟨R,0,none⟩)] w6 fun e w'=>e=.returned (.tuple #[])/\Rd w' R s j7 T/\w6.grownBy w' (some R)):=C7
   have HN7:Hid (nx s.data.toList j7=46->j7 < s.size):=HLT.out j7
   have C8:Hid (∀w',Rd w' R s j7 T->Calls Tryz.prog 40 #[.pointer (some ⟨R,0,none⟩)] w' fun e w''=>e=.returned (.int .i64 (nx s.data.toList j7))/\w'.grownBy w'' none):=fun w' hh=>CN.out j7 w' hh d2
   obtain ⟨y,hy⟩:∃y,nx s.data.toList j7=y:=⟨_,rfl⟩
   rw [hy] at HH2 HN7 C8
   have HH3:Hid (_=S):=HH2
   clear hown6 hgrow hat hlt6 hr5 hown5 hown3 C7 HH2 hj7 hy hone hsz3
   go_wp2_with (first | (go_at_call 39;refine C7'.out.mono ?_))
   rintro e w7 ⟨rfl,hr7,hg7⟩
   have HR7:Hid (Rd w7 R s j7 T):=hr7
   have HG7:Hid (w.grownBy w7 (some R)):=gb_two HG6.out hg7
   have HOW7:Hid (w7.ownsRow w.heap.size 133 2 (.slice (some ⟨g,0,none⟩) (acc.length+1) cap) (acc.length+1) (kyC (acc++[(kk,j0)]))):=own_block HOW6.out fun g' cur' hh hc=>hg7.block g' (blk_lt hc) (by simp only [ne_eq,Option.some.injEq];exact ne_typ hc HR6.out (by decide))
   clear hr7 hg7
   go_wp2_with (first | (go_at_call 40;refine (C8.out _ HR7.out).mono ?_))
   rintro e w8 ⟨rfl,hg8⟩
   have HR8:Hid (Rd w8 R s j7 T):=HR7.out.grow hg8
   have HG8:Hid (w.grownBy w8 (some R)):=gb_more HG7.out hg8
   have HOW8:Hid (w8.ownsRow w.heap.size 133 2 (.slice (some ⟨g,0,none⟩) (acc.length+1) cap) (acc.length+1) (kyC (acc++[(kk,j0)]))):=own_block HOW7.out fun g' cur' hh hc=>hg8.block g' (blk_lt hc) (by simp)
   clear hg8
   have HAL:Hid ((acc++[(kk,j0)]).length=acc.length+1):=by show _=_;simp
   by_cases c46:y=46
   ·have e46:(y != 46)=false:=by simp [c46]
    have hjl:=HN7.out c46
    have HNX:Hid (hdK s.data.toList f (j7+1) (acc++[(kk,j0)])=S):=by
     have:=HH3.out
     rw [if_pos c46] at this
     exact this
    obtain ⟨-,r1,-,rf⟩:=HR8.out.cells
    have rf1:=rf 1
    have HS9:Hid (Rd (w8.setCell ⟨R,1,none⟩ (.int .i64 ((j7:Int)+1))) R s (j7+1) T):=HR8.out.set (j7+1)
    have HO9:Hid ((w8.setCell ⟨R,1,none⟩ (.int .i64 ((j7:Int)+1))).ownsRow w.heap.size 133 2 (.slice (some ⟨g,0,none⟩) (acc.length+1) cap) (acc++[(kk,j0)]).length (kyC (acc++[(kk,j0)]))):=by
     show World.ownsRow _ _ _ _ _ _ _
     rw [HAL.out]
     exact own_block HOW8.out fun g' cur' hh hc=>heap_setCell_other _ _ _ _ (ne_typ hc HR8.out (by decide))
    clear c46 rf
    go_wp2
    go_roundw
    case rel=>exact ⟨rfl,rfl,j7+1,f,acc++[(kk,j0)],HS9.out,by omega,HO9.out,gb_set HG8.out 1 _,by omega,HNX.out,by rw [HAL.out];omega⟩
    case measure =>
     rw [HME.out,HS9.out.cells.2.1]
     simp
     omega
   ·have e46:(y != 46)=true:=by simp [c46]
    have HSE:Hid (S=.ok (acc++[(kk,j0)],j7)):=by
     have:=HH3.out
     rw [if_neg c46] at this
     exact this.symm
    clear c46
    go_wp2
    refine bodyPost_ret (results_tmp2 (t:=2) (u:=3) rfl _ _ _) rfl ?_
    rw [HSE.out]
    obtain ⟨hky,hcp⟩:=kyR_own HOW8.out HAL.out
    exact ⟨fun l j hh=>(by cases hh;exact ⟨g,cap,by rw [HAL.out];rfl,hky,by rw [HAL.out];exact hcp,HR8.out⟩),fun c p hh=>(by cases hh),HG8.out⟩
end Go.Proofs.YtbgnflcebafjjaaGreatDoor
namespace Go.Proofs.YtbgnflcebafjjaaGreatDoor
open Go.RowKit Go.Maps Go.WideMaps Go.Joins
set_option linter.unusedVariables false
theorem hdK_ok (l:List UInt8):∀(f i:Nat) (acc ks:List (List UInt8 × Nat)) (j:Nat),i<=l.length->(∀x ∈ acc,x.1.length<=l.length)->hdK l f i acc=.ok (ks,j)->(∀x ∈ ks,x.1.length<=l.length)/\acc.length < ks.length/\ks.length+i<=acc.length+j/\j<=l.length:=by
 intro f
 induction f with
 | zero=>intro i acc ks j hi ha h;cases h
 | succ f ih =>
  intro i acc ks j hi ha h
  rw [hdK_step] at h
  have b1:=bl_le l i hi
  cases hk:rdKey l (bl l i) with
  | error e=>rw [hk] at h;cases h
  | ok q =>
   obtain ⟨k,j1⟩:=q
   rw [hk] at h
   simp only [] at h
   obtain ⟨k1,k2,k3⟩:=rdKey_ok l (bl l i) k j1 b1.2 hk
   have b2:=bl_le l j1 k2
   have ha':∀x ∈ acc++[(k,bl l i)],x.1.length<=l.length:=fun x hx=>by
    rcases List.mem_append.1 hx with hx | hx
    ·exact ha x hx
    ·rw [List.mem_singleton.1 hx];exact k3
   split at h
   ·rename_i hx
    have hlt:=nx_lt (l:=l) (i:=bl l j1) (by rw [hx];decide)
    obtain ⟨a,b,c,d⟩:=ih (bl l j1+1) (acc++[(k,bl l i)]) ks j (by omega) ha' h
    rw [List.length_append,List.length_singleton] at b c
    exact ⟨a,by omega,by omega,d⟩
   ·cases h
    refine ⟨ha',by simp,?_,b2.2⟩
    rw [List.length_append,List.length_singleton]
    omega
def lnW (j:Nat) (own:List Nat):Rs (Nat × List Tn)->Rs Sd
 | .error e=>.error e
 | .ok (t,ns)=>.ok ⟨j,ns,t :: own,t⟩
theorem rdHead_eq (l:List UInt8) (i:Nat) (ns:List Tn) (own:List Nat) (now:Nat) (many:Bool) (hm:decide (nx l (i+1)=91)=many):rdHead l ⟨i,ns,own,now⟩ =
  match hdK l (l.length+1) (if many=true then i+2 else i+1) [] with
  | .error e=>.error e
  | .ok (ks,j)=>match must l j 93 with
   | .error e=>.error e
   | .ok j1=>match (if many=true then must l j1 93 else .ok j1) with
    | .error e=>.error e
    | .ok j2=>lnW j2 own (way many own ks 0 ns):=by
 unfold rdHead
 simp only [hm]
 cases hdK l (l.length+1) (if many=true then i+2 else i+1) [] with
 | error e=>rfl
 | ok q =>
  obtain ⟨ks,j⟩:=q
  simp only []
  cases must l j 93 with
  | error e=>rfl
  | ok j1 =>
   simp only []
   cases (if many=true then must l j1 93 else .ok j1) with
   | error e=>rfl
   | ok j2 =>
    simp only []
    cases way many own ks 0 ns with
    | error e=>rfl
    | ok q=>rfl
theorem ln_way {B R T:Nat} {s:ByteArray} {E:Int->TypeId × Value} {own:List Nat} {j:Nat} {v:Rs (Nat × List Tn)} {w w' w'':World} {e:Ending} (hb:Below B w w') (hr:Rd w' R s j T) (h:EnPost B T own E v w' e w''):∃u,e=.returned u/\Hid (LnPost B R T s E (lnW j own v) w (.returned u) w''):=by
 cases v with
 | error ec =>
  obtain ⟨c,p⟩:=ec
  obtain ⟨u,rfl,F,rfl,hF⟩:=h.2.1 c p rfl
  exact ⟨_,rfl,fun d hh=>(by cases hh),fun c p hh=>(by cases hh;exact ⟨F,rfl,F,rfl,hF⟩),hb.trans h.2.2.bel⟩
 | ok q =>
  obtain ⟨t,ns⟩:=q
  obtain ⟨rfl,h1⟩:=h.1 t ns rfl
  exact ⟨_,rfl,fun d hh=>(by cases hh;exact ⟨rfl,hr.fr h.2.2,h1⟩),fun c p hh=>(by cases hh),hb.trans h.2.2.bel⟩
end Go.Proofs.YtbgnflcebafjjaaGreatDoor
