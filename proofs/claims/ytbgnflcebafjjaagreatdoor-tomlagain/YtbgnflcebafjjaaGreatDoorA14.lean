import Derived.Test.YtbgnflcebafjjaaGreatDoorA13
import Derived.Test.YtbgnflcebafjjaaGreatDoorA09
namespace Go.Proofs.YtbgnflcebafjjaaGreatDoor
open Go.RowKit Go.Maps Go.WideMaps Go.Joins
set_option linter.unusedVariables false
def LnPost (B R T:Nat) (s:ByteArray) (E:Int->TypeId × Value) (r:Rs Sd) (w:World) (e:Ending) (w':World):Prop :=
 (∀d,r=.ok d->e=.returned .nilIface/\Rd w' R s d.i T/\Tr w' B T d.ns d.own d.now)/\(∀c p,r=.error (c,p)->∃F,e=.returned (.iface 65 (.pointer (some ⟨F,0,none⟩)))/\FaultE w' (.iface 65 (.pointer (some ⟨F,0,none⟩))) E c p)/\Below B w w'
def lnV (own:List Nat) (now:Nat):Rs (Nat × List Tn)->Rs Sd
 | .error e=>.error e
 | .ok (j,ns)=>.ok ⟨j,ns,own,now⟩
theorem rdPair_eq (l:List UInt8) (i:Nat) (ns:List Tn) (own:List Nat) (now:Nat):rdPair l ⟨i,ns,own,now⟩ =
  match rdKey l i with
  | .error e=>.error e
  | .ok (k,j)=>match must l (bl l j) 61 with
   | .error e=>.error e
   | .ok j1=>match kidO ns now k with
    | some _=>.error (5,i)
    | none=>lnV own now (val l (2 * l.length+2) (bl l j1) now k i 0 ns):=by
 unfold rdPair
 cases rdKey l i with
 | error e=>rfl
 | ok q =>
  obtain ⟨k,j⟩:=q
  simp only []
  cases must l (bl l j) 61 with
  | error e=>rfl
  | ok j1 =>
   simp only []
   cases kidO ns now k with
   | some q=>rfl
   | none =>
    simp only []
    cases val l (2 * l.length+2) (bl l j1) now k i 0 ns with
    | error e=>rfl
    | ok q=>rfl
theorem ln_val {B R T:Nat} {s:ByteArray} {E:Int->TypeId × Value} {own:List Nat} {now:Nat} {v:Rs (Nat × List Tn)} {w w' w'':World} {e:Ending} (hb:Below B w w') (h:VlPost B R T s E own now v w' e w''):∃u,e=.returned u/\Hid (LnPost B R T s E (lnV own now v) w (.returned u) w''):=by
 cases v with
 | error ec =>
  obtain ⟨c,p⟩:=ec
  obtain ⟨u,rfl,F,rfl,hF⟩:=h.2.1 c p rfl
  exact ⟨_,rfl,fun d hh=>(by cases hh),fun c p hh=>(by cases hh;exact ⟨F,rfl,F,rfl,hF⟩),hb.trans h.2.2⟩
 | ok q =>
  obtain ⟨j,ns⟩:=q
  obtain ⟨rfl,h1,h2⟩:=h.1 j ns rfl
  exact ⟨_,rfl,fun d hh=>(by cases hh;exact ⟨rfl,h1,h2⟩),fun c p hh=>(by cases hh),hb.trans h.2.2⟩
set_option maxRecDepth 100000 in
set_option maxHeartbeats 3200000 in
theorem tPair_any (B R T:Nat) (s:ByteArray) (E:Int->TypeId × Value) (own:List Nat) (now i:Nat) (ns:List Tn) (w:World) (h:Rd w R s i T) (htr:Tr w B T ns own now) (G:Gl w B E) (hR:B<=R) (hi:i<=s.size) (hs:s.size<=100000) (J:Jt ns own now) (hsz:ns.length+own.length+(s.size - i)<=700000) :
  Calls Tryz.prog 43 #[.pointer (some ⟨R,0,none⟩)] w (LnPost B R T s E (rdPair s.data.toList ⟨i,ns,own,now⟩) w):=by
 have hl:s.data.toList.length=s.size:=by simp
 have hB:B<=w.heap.size:=htr.base
 have CK:Hid (Calls Tryz.prog 75 #[.pointer (some ⟨R,0,none⟩)] w (KePost R s T E i (rdKey s.data.toList i) w)):=tKey_any R s i T B E w h hi (by omega) G hR hB
 have CS:Hid (∀k w,Rd w R s k T->k<=s.size->Calls Tryz.prog 39 #[.pointer (some ⟨R,0,none⟩)] w fun e w'=>e=.returned (.tuple #[])/\Rd w' R s (bl s.data.toList k) T/\w.grownBy w' (some R)):=fun k w h1 h2=>tSkip_any R s k T w h1 h2 (by omega)
 have CT:Hid (∀k w',Rd w' R s k T->w.grownBy w' (some R)->k<=s.size->Calls Tryz.prog 45 #[.pointer (some ⟨R,0,none⟩),.int .i64 61] w' fun e w''=>(∃v,e=.returned v/\Hid ((∀q,must s.data.toList k 61=.ok q->v=.nilIface/\Rd w'' R s q T)/\(∀c p,must s.data.toList k 61=.error (c,p)->∃F,v=.iface 65 (.pointer (some ⟨F,0,none⟩))/\FaultE w'' v E c p)))/\w'.grownBy w'' (some R)):=fun k w' h1 hg hk =>
  (tTake_any R s k T 61 (E 2).1 (E 2).2 w' h1 hk (by omega) (by decide) (G.gb hg hR hB).es.te).mono fun e w'' ⟨a1,a2,a3⟩=>by
   unfold must
   by_cases hx:nx s.data.toList k=61
   ·rw [if_pos hx]
    exact ⟨⟨_,(a1 hx).1,fun q hq=>(by cases hq;exact ⟨rfl,(a1 hx).2⟩),fun c p hp=>(by cases hp)⟩,a3⟩
   ·rw [if_neg hx]
    obtain ⟨⟨v,e1,F,rfl,hF⟩,-⟩:=a2 hx
    exact ⟨⟨_,e1,fun q hq=>(by cases hq),fun c p hp=>(by cases hp;exact ⟨F,rfl,F,rfl,hF⟩)⟩,a3⟩
 have CF:Hid (∀(k:List UInt8) w',k.length<=1048576->w.grownBy w' (some R)->Calls Tryz.prog 76 #[.pointer (some ⟨T,0,none⟩),.agg #[.string ⟨k.toArray⟩,.int .i64 (i:Nat)]] w' fun e w''=>(∃v,e=.returned v/\Hid ((kidO ns now k=none->v=.nilIface)/\(∀q,kidO ns now k=some q->∃F,v=.iface 65 (.pointer (some ⟨F,0,none⟩))/\FaultE w'' v E 5 i)))/\w'.grownBy w'' none):=fun k w' hk hg =>
  (tFree_any B T ns own now E k i w' (htr.keepR h hg) J.kd (by have:=J.lt;omega) hk (G.gb hg hR hB).es).mono fun e w'' ⟨a1,a2,a3⟩=>by
   cases hq:kidO ns now k with
   | none=>exact ⟨⟨_,a1 hq,fun _=>rfl,fun q hh=>(by cases hh)⟩,a3⟩
   | some q =>
    obtain ⟨v,e1,F,rfl,hF⟩:=a2 q hq
    exact ⟨⟨_,e1,fun hh=>(by cases hh),fun q hh=>⟨F,rfl,F,rfl,hF⟩⟩,a3⟩
 have CV:Hid (∀(k:List UInt8) j w',k.length<=1048576->j<=s.size->i<=j->kidO ns now k=none->w.grownBy w' (some R)->Rd w' R s j T->Calls Tryz.prog 77 #[.pointer (some ⟨R,0,none⟩),.int .i64 (now:Nat),.agg #[.string ⟨k.toArray⟩,.int .i64 (i:Nat)],.int .i64 0] w' fun e w''=>∃u,e=.returned u/\Hid (LnPost B R T s E (lnV own now (val s.data.toList (2 * s.data.toList.length+2) j now k i 0 ns)) w (.returned u) w'')):=fun k j w' hk hj hij hq hg hr =>
  (val_any (2 * s.data.toList.length+2) B R T s E own now j now k i 0 ns w' hr (htr.keepR h hg) (G.gb hg hR hB) hR hj hs J.wf J.wt J.lt (by rw [J.kd];decide) (fun _=>hq) hk (by omega) (by omega) (by omega)).mono fun e w'' hv=>ln_val (gb_belo hg hR hB) hv
 have HKO:Hid (∀x j,rdKey s.data.toList i=.ok (x,j)->i < j/\j<=s.size/\x.length<=1048576):=fun x j a=>by
  have:=rdKey_ok s.data.toList i x j (by omega) a
  omega
 have HBL:Hid (∀k,k<=s.size->k<=bl s.data.toList k/\bl s.data.toList k<=s.size):=fun k hk=>by rw [<-hl];exact bl_le _ k (by omega)
 have HMU:Hid (∀k q,must s.data.toList k 61=.ok q->q=k+1/\k < s.size):=fun k q a=>by
  unfold must at a
  split at a
  ·rename_i hx
   have:=nx_lt (l:=s.data.toList) (i:=k) (by rw [hx];decide)
   cases a
   omega
  ·cases a
 have HPE:=rdPair_eq s.data.toList i ns own now
 obtain ⟨S,hS⟩:∃S,rdPair s.data.toList ⟨i,ns,own,now⟩=S:=⟨_,rfl⟩
 rw [hS] at HPE ⊢
 obtain ⟨KR,hKR⟩:∃KR,rdKey s.data.toList i=KR:=⟨_,rfl⟩
 rw [hKR] at HPE CK HKO
 have HP:Hid (S=_):=HPE
 have HTR:Hid (Tr w B T ns own now):=htr
 have H0:Hid (Rd w R s i T):=h
 clear HPE hS hKR h htr G J
 go_enter Tryz.func43,Tryz.ntmps43
 go_wp2_with (first | (go_at_call 75;refine CK.out.mono ?_))
 rintro e w1 ⟨p1,p2,p3⟩
 cases KR with
 | error ec =>
  obtain ⟨ec1,ec2⟩:=ec
  obtain ⟨ka,kb,v,rfl,F,rfl,hF⟩:=p2 ec1 ec2 rfl
  have HFV:Hid (FaultE w1 (.iface 65 (.pointer (some ⟨F,0,none⟩))) E ec1 ec2):=⟨F,rfl,hF⟩
  have HSE:Hid (S=.error (ec1,ec2)):=HP.out
  have HBA:Hid (Below B w (w1.alloc (.cells #[.string ka,.int .i64 kb] 133))):=gb_belo (gb_more p3 (World.grownBy_alloc _ _ none)) hR hB
  have HFA:Hid (FaultE (w1.alloc (.cells #[.string ka,.int .i64 kb] 133)) (.iface 65 (.pointer (some ⟨F,0,none⟩))) E ec1 ec2):=FaultV.grow HFV.out (World.grownBy_alloc _ _ none)
  clear p1 p2 p3 hF
  go_wp2
  refine bodyPost_ret (results_tmp (t:=2) rfl _ _ _) rfl ?_
  rw [HSE.out]
  exact ⟨fun d hh=>(by cases hh),fun c p hh=>(by cases hh;exact ⟨F,rfl,HFA.out⟩),HBA.out⟩
 | ok q =>
  obtain ⟨k,j⟩:=q
  obtain ⟨rfl,hr1⟩:=p1 k j rfl
  obtain ⟨k1,k2,k3⟩:=HKO.out k j rfl
  have HP2:=HP.out
  try simp only [] at HP2
  have hgA:=gb_more p3 (World.grownBy_alloc w1 (.cells #[.string ⟨k.toArray⟩,.int .i64 (i:Nat)] 133) none)
  have hrA:Rd (w1.alloc (.cells #[.string ⟨k.toArray⟩,.int .i64 (i:Nat)] 133)) R s j T:=hr1.grow (World.grownBy_alloc _ _ none)
  have hnK:=heap_alloc_new w1 (.cells #[.string ⟨k.toArray⟩,.int .i64 (i:Nat)] 133)
  obtain ⟨K,hK⟩:∃K,w1.heap.size=K:=⟨_,rfl⟩
  rw [hK] at hnK
  obtain ⟨w2,hw2⟩:∃w2,w1.alloc (.cells #[.string ⟨k.toArray⟩,.int .i64 (i:Nat)] 133)=w2:=⟨_,rfl⟩
  rw [hw2] at hgA hrA hnK
  have HG2:Hid (w.grownBy w2 (some R)):=hgA
  have HR2:Hid (Rd w2 R s j T):=hrA
  have HK2:Hid (w2.heap[K]?=some (.cells #[.string ⟨k.toArray⟩,.int .i64 (i:Nat)] 133 (0,0))):=hnK
  have C3:=CS.out j w2 hrA k2
  obtain ⟨b1,b2⟩:=HBL.out j k2
  obtain ⟨j3,hj3⟩:∃j3,bl s.data.toList j=j3:=⟨_,rfl⟩
  rw [hj3] at C3 b1 b2 HP2
  have C3':Hid (Calls Tryz.prog 39 #[.pointer (some ⟨R,0,none⟩)] w2 fun e w'=>e=.returned (.tuple #[])/\Rd w' R s j3 T/\w2.grownBy w' (some R)):=C3
  have CT3:=CT.out j3
  have HM3:=HMU.out j3
  obtain ⟨MU,hMU⟩:∃MU,must s.data.toList j3 61=MU:=⟨_,rfl⟩
  rw [hMU] at CT3 HM3 HP2
  have CT3':Hid (∀w',Rd w' R s j3 T->w.grownBy w' (some R)->j3<=s.size->Calls Tryz.prog 45 #[.pointer (some ⟨R,0,none⟩),.int .i64 61] w' fun e w''=>(∃v,e=.returned v/\Hid ((∀q,MU=.ok q->v=.nilIface/\Rd w'' R s q T)/\(∀c p,MU=.error (c,p)->∃F,v=.iface 65 (.pointer (some ⟨F,0,none⟩))/\FaultE w'' v E c p)))/\w'.grownBy w'' (some R)):=CT3
  have HM3':Hid (∀q,MU=.ok q->q=j3+1/\j3 < s.size):=HM3
  have HP2':Hid (S=_):=HP2
  clear p1 p2 p3 hr1 hgA hrA hnK hj3 C3 CT3 HM3 hMU HP2 HP HKO
  go_wp2_with (first | (go_at_call 39;refine C3'.out.mono ?_))
  rintro e w3 ⟨rfl,hr3,hg3⟩
  have HR3:Hid (Rd w3 R s j3 T):=hr3
  have HG3:Hid (w.grownBy w3 (some R)):=gb_two HG2.out hg3
  have HK3:Hid (w3.heap[K]?=some (.cells #[.string ⟨k.toArray⟩,.int .i64 (i:Nat)] 133 (0,0))):=(hg3.block K (blk_lt HK2.out) (by simp only [ne_eq,Option.some.injEq];exact ne_typ HK2.out HR2.out (by decide))).trans HK2.out
  clear hr3 hg3
  go_wp2_with (first | (go_at_call 45;refine (CT3'.out _ HR3.out HG3.out b2).mono ?_))
  rintro e w4 ⟨⟨v,rfl,hv⟩,hg4⟩
  have HG4:Hid (w.grownBy w4 (some R)):=gb_two HG3.out hg4
  have HK4:Hid (w4.heap[K]?=some (.cells #[.string ⟨k.toArray⟩,.int .i64 (i:Nat)] 133 (0,0))):=(hg4.block K (blk_lt HK3.out) (by simp only [ne_eq,Option.some.injEq];exact ne_typ HK3.out HR3.out (by decide))).trans HK3.out
  clear hg4
  cases MU with
  | error ec =>
   obtain ⟨ec1,ec2⟩:=ec
   obtain ⟨F,rfl,hF⟩:=hv.out.2 ec1 ec2 rfl
   have HFV:Hid (FaultE w4 (.iface 65 (.pointer (some ⟨F,0,none⟩))) E ec1 ec2):=hF
   have HSE:Hid (S=.error (ec1,ec2)):=HP2'.out
   clear hv hF
   go_wp2
   refine bodyPost_ret (results_tmp (t:=2) rfl _ _ _) rfl ?_
   rw [HSE.out]
   exact ⟨fun d hh=>(by cases hh),fun c p hh=>(by cases hh;exact ⟨F,rfl,HFV.out⟩),gb_belo HG4.out hR hB⟩
  | ok j4 =>
   obtain ⟨rfl,hr4⟩:=hv.out.1 j4 rfl
   obtain ⟨m1,m2⟩:=HM3'.out j4 rfl
   have HR4:Hid (Rd w4 R s j4 T):=hr4
   have HP4:=HP2'.out
   try simp only [] at HP4
   have HP4':Hid (S=_):=HP4
   have CF4:=CF.out k
   have CV4:=CV.out k
   obtain ⟨KO,hKO⟩:∃KO,kidO ns now k=KO:=⟨_,rfl⟩
   rw [hKO] at CF4 CV4 HP4'
   have CF4':Hid (∀w',k.length<=1048576->w.grownBy w' (some R)->Calls Tryz.prog 76 #[.pointer (some ⟨T,0,none⟩),.agg #[.string ⟨k.toArray⟩,.int .i64 (i:Nat)]] w' fun e w''=>(∃v,e=.returned v/\Hid ((KO=none->v=.nilIface)/\(∀q,KO=some q->∃F,v=.iface 65 (.pointer (some ⟨F,0,none⟩))/\FaultE w'' v E 5 i)))/\w'.grownBy w'' none):=CF4
   have CV4':Hid (∀j w',k.length<=1048576->j<=s.size->i<=j->KO=none->w.grownBy w' (some R)->Rd w' R s j T->Calls Tryz.prog 77 #[.pointer (some ⟨R,0,none⟩),.int .i64 (now:Nat),.agg #[.string ⟨k.toArray⟩,.int .i64 (i:Nat)],.int .i64 0] w' fun e w''=>∃u,e=.returned u/\Hid (LnPost B R T s E (lnV own now (val s.data.toList (2 * s.data.toList.length+2) j now k i 0 ns)) w (.returned u) w'')):=CV4
   obtain ⟨-,-,r2,-⟩:=hr4.cells
   obtain ⟨q0,q1,-⟩:=two_cells HK4.out
   clear hv hr4 HP2' HP4 CF4 CV4 CF CV hKO
   go_upto_region 8 with fail
   go_cut [6] from 22 (fun v6 wx=>Hid ((KO=none->v6=.nilIface)/\(∀q,KO=some q->∃F,v6=.iface 65 (.pointer (some ⟨F,0,none⟩))/\FaultE wx v6 E 5 i))/\w4.grownBy wx none)
   case first =>
    go_region_with (first | (go_at_call 76;refine (CF4'.out _ k3 (gb_more HG4.out (gb_d w4))).mono ?_;rintro e w5 ⟨⟨v,rfl,hv⟩,hg5⟩))
    all_goals (
     go_wp2_with fail
     go_meet
     exact ⟨hv,gb_trans (gb_d w4) hg5⟩)
   case rest =>
    obtain ⟨hv,hgc⟩:=hcut
    have HG5:Hid (w.grownBy wc (some R)):=gb_more HG4.out hgc
    have HR5:Hid (Rd wc R s j4 T):=HR4.out.grow hgc
    have HK5:Hid (wc.heap[K]?=some (.cells #[.string ⟨k.toArray⟩,.int .i64 (i:Nat)] 133 (0,0))):=blk_gb HK4.out hgc
    clear hgc r2 q0 q1
    cases KO with
    | some q =>
     obtain ⟨F,rfl,hF⟩:=hv.out.2 q rfl
     have HFV:Hid (FaultE wc (.iface 65 (.pointer (some ⟨F,0,none⟩))) E 5 i):=hF
     have HSE:Hid (S=.error (5,i)):=HP4'.out
     clear hv hF
     go_wp2
     refine bodyPost_ret (results_tmp (t:=2) rfl _ _ _) rfl ?_
     rw [HSE.out]
     exact ⟨fun d hh=>(by cases hh),fun c p hh=>(by cases hh;exact ⟨F,rfl,HFV.out⟩),gb_belo HG5.out hR hB⟩
    | none =>
     obtain rfl:=hv.out.1 rfl
     have hj4:j4<=s.size:=by omega
     have C6:=CS.out j4 wc HR5.out hj4
     obtain ⟨b3,b4⟩:=HBL.out j4 hj4
     have HP6:=HP4'.out
     try simp only [] at HP6
     obtain ⟨j6,hj6⟩:∃j6,bl s.data.toList j4=j6:=⟨_,rfl⟩
     rw [hj6] at C6 b3 b4 HP6
     have C6':Hid (Calls Tryz.prog 39 #[.pointer (some ⟨R,0,none⟩)] wc fun e w'=>e=.returned (.tuple #[])/\Rd w' R s j6 T/\wc.grownBy w' (some R)):=C6
     have CV6:Hid (∀w',w.grownBy w' (some R)->Rd w' R s j6 T->Calls Tryz.prog 77 #[.pointer (some ⟨R,0,none⟩),.int .i64 (now:Nat),.agg #[.string ⟨k.toArray⟩,.int .i64 (i:Nat)],.int .i64 0] w' fun e w''=>∃u,e=.returned u/\Hid (LnPost B R T s E S w (.returned u) w'')):=fun w' a b=>by rw [HP6];exact CV4'.out j6 w' k3 b4 (by omega) rfl a b
     clear hv hj6 C6 HP6 CV4' HP4'
     go_wp2_with (first | (go_at_call 39;refine C6'.out.mono ?_))
     rintro e w6 rfl hr6 hg6
     have HG6:Hid (w.grownBy w6 (some R)):=gb_two HG5.out hg6
     have HR6:Hid (Rd w6 R s j6 T):=hr6
     have hk6:=(hg6.block K (blk_lt HK5.out) (by simp only [ne_eq,Option.some.injEq];exact ne_typ HK5.out HR5.out (by decide))).trans HK5.out
     obtain ⟨q0,q1,-⟩:=two_cells hk6
     obtain ⟨-,-,r2,-⟩:=hr6.cells
     obtain ⟨t2,-⟩:=(HTR.out.keepR H0.out HG6.out).two
     clear hr6 hg6 hk6
     go_wp2
     go_region_with (first | (go_at_call 77;refine (CV6.out _ (gb_more HG6.out (gb_d w6)) HR6.out).mono ?_;rintro e w7 ⟨u,rfl,hu⟩))
     all_goals (
      go_wp2
      refine bodyPost_ret (results_tmp (t:=2) rfl _ _ _) rfl ?_
      exact hu.out)
theorem hdK_ok (l:List UInt8):∀(f i:Nat) (acc ks:List (List UInt8 × Nat)) (j:Nat),i<=l.length->(∀x ∈ acc,x.1.length<=l.length)->hdK l f i acc=.ok (ks,j)->(∀x ∈ ks,x.1.length<=l.length)/\acc.length < ks.length/\ks.length+i<=acc.length+j/\j<=l.length:=by
 intro f
 induction f with
 | zero=>intro i acc ks j hi ha h;cases h
 | succ f ih =>
  intro i acc ks j hi ha h
  rw [hdK_step] at h
  have b1:=bl_le l i hi
  cases hk:rdKey l (bl l i) with
  | error e=>rw [hk] at h;cases h
  | ok q =>
   obtain ⟨k,j1⟩:=q
   rw [hk] at h
   simp only [] at h
   obtain ⟨k1,k2,k3⟩:=rdKey_ok l (bl l i) k j1 b1.2 hk
   have b2:=bl_le l j1 k2
   have ha':∀x ∈ acc++[(k,bl l i)],x.1.length<=l.length:=fun x hx=>by
    rcases List.mem_append.1 hx with hx | hx
    ·exact ha x hx
    ·rw [List.mem_singleton.1 hx];exact k3
   split at h
   ·rename_i hx
    have hlt:=nx_lt (l:=l) (i:=bl l j1) (by rw [hx];decide)
    obtain ⟨a,b,c,d⟩:=ih (bl l j1+1) (acc++[(k,bl l i)]) ks j (by omega) ha' h
    rw [List.length_append,List.length_singleton] at b c
    exact ⟨a,by omega,by omega,d⟩
   ·cases h
    refine ⟨ha',by simp,?_,b2.2⟩
    rw [List.length_append,List.length_singleton]
    omega
def lnW (j:Nat) (own:List Nat):Rs (Nat × List Tn)->Rs Sd
 | .error e=>.error e
 | .ok (t,ns)=>.ok ⟨j,ns,t :: own,t⟩
theorem rdHead_eq (l:List UInt8) (i:Nat) (ns:List Tn) (own:List Nat) (now:Nat) (many:Bool) (hm:decide (nx l (i+1)=91)=many):rdHead l ⟨i,ns,own,now⟩ =
  match hdK l (l.length+1) (if many=true then i+2 else i+1) [] with
  | .error e=>.error e
  | .ok (ks,j)=>match must l j 93 with
   | .error e=>.error e
   | .ok j1=>match (if many=true then must l j1 93 else .ok j1) with
    | .error e=>.error e
    | .ok j2=>lnW j2 own (way many own ks 0 ns):=by
 unfold rdHead
 simp only [hm]
 cases hdK l (l.length+1) (if many=true then i+2 else i+1) [] with
 | error e=>rfl
 | ok q =>
  obtain ⟨ks,j⟩:=q
  simp only []
  cases must l j 93 with
  | error e=>rfl
  | ok j1 =>
   simp only []
   cases (if many=true then must l j1 93 else .ok j1) with
   | error e=>rfl
   | ok j2 =>
    simp only []
    cases way many own ks 0 ns with
    | error e=>rfl
    | ok q=>rfl
theorem ln_way {B R T:Nat} {s:ByteArray} {E:Int->TypeId × Value} {own:List Nat} {j:Nat} {v:Rs (Nat × List Tn)} {w w' w'':World} {e:Ending} (hb:Below B w w') (hr:Rd w' R s j T) (h:EnPost B T own E v w' e w''):∃u,e=.returned u/\Hid (LnPost B R T s E (lnW j own v) w (.returned u) w''):=by
 cases v with
 | error ec =>
  obtain ⟨c,p⟩:=ec
  obtain ⟨u,rfl,F,rfl,hF⟩:=h.2.1 c p rfl
  exact ⟨_,rfl,fun d hh=>(by cases hh),fun c p hh=>(by cases hh;exact ⟨F,rfl,F,rfl,hF⟩),hb.trans h.2.2.bel⟩
 | ok q =>
  obtain ⟨t,ns⟩:=q
  obtain ⟨rfl,h1⟩:=h.1 t ns rfl
  exact ⟨_,rfl,fun d hh=>(by cases hh;exact ⟨rfl,hr.fr h.2.2,h1⟩),fun c p hh=>(by cases hh),hb.trans h.2.2.bel⟩
theorem KyR.keepR {w w':World} {g R:Nat} {l:List (List UInt8 × Nat)} {s:ByteArray} {i T:Nat} (h:KyR w g l) (hr:Rd w R s i T) (hg:w.grownBy w' (some R)):KyR w' g l:=by
 obtain ⟨cur,h1,h2⟩:=h
 exact ⟨cur,(hg.block g (blk_lt h1) (by simp only [ne_eq,Option.some.injEq];exact ne_typ h1 hr (by decide))).trans h1,h2⟩
set_option maxRecDepth 100000 in
set_option maxHeartbeats 3200000 in
theorem tHeader_any (B R T:Nat) (s:ByteArray) (E:Int->TypeId × Value) (own:List Nat) (now i:Nat) (ns:List Tn) (w:World) (h:Rd w R s i T) (htr:Tr w B T ns own now) (G:Gl w B E) (hR:B<=R) (hi:i < s.size) (hs:s.size<=100000) (J:Jt ns own now) (h0:kdAt ns 0=0) (hsz:ns.length+own.length+(s.size - i)<=700000) :
  Calls Tryz.prog 41 #[.pointer (some ⟨R,0,none⟩)] w (LnPost B R T s E (rdHead s.data.toList ⟨i,ns,own,now⟩) w):=by
 have hl:s.data.toList.length=s.size:=by simp
 have hB:B<=w.heap.size:=htr.base
 have CN:Hid (∀k w,Rd w R s k T->k<=s.size->Calls Tryz.prog 40 #[.pointer (some ⟨R,0,none⟩)] w fun e w'=>e=.returned (.int .i64 (nx s.data.toList k))/\w.grownBy w' none):=fun k w h1 h2=>tNext_any R s k T w h1 h2 (by omega)
 have CK:Hid (∀a w',Rd w' R s a T->w.grownBy w' (some R)->a<=s.size->Calls Tryz.prog 71 #[.pointer (some ⟨R,0,none⟩)] w' (HkPost R s T E (hdK s.data.toList (s.data.toList.length+1) a []) w')):=fun a w' h1 hg ha=>tKeys_any R s a T B E w' h1 ha hs (G.gb hg hR hB) hR (Nat.le_trans hB hg.size)
 have CT:Hid (∀k w',Rd w' R s k T->w.grownBy w' (some R)->k<=s.size->Calls Tryz.prog 45 #[.pointer (some ⟨R,0,none⟩),.int .i64 93] w' fun e w''=>(∃v,e=.returned v/\Hid ((∀q,must s.data.toList k 93=.ok q->v=.nilIface/\Rd w'' R s q T)/\(∀c p,must s.data.toList k 93=.error (c,p)->∃F,v=.iface 65 (.pointer (some ⟨F,0,none⟩))/\FaultE w'' v E c p)))/\w'.grownBy w'' (some R)):=fun k w' h1 hg hk =>
  (tTake_any R s k T 93 (E 2).1 (E 2).2 w' h1 hk (by omega) (by decide) (G.gb hg hR hB).es.te).mono fun e w'' ⟨a1,a2,a3⟩=>by
   unfold must
   by_cases hx:nx s.data.toList k=93
   ·rw [if_pos hx]
    exact ⟨⟨_,(a1 hx).1,fun q hq=>(by cases hq;exact ⟨rfl,(a1 hx).2⟩),fun c p hp=>(by cases hp)⟩,a3⟩
   ·rw [if_neg hx]
    obtain ⟨⟨v,e1,F,rfl,hF⟩,-⟩:=a2 hx
    exact ⟨⟨_,e1,fun q hq=>(by cases hq),fun c p hp=>(by cases hp;exact ⟨F,rfl,F,rfl,hF⟩)⟩,a3⟩
 have CE:Hid (∀(many:Bool) ks d g c j w',ks.length=d+1->d+1<=c->d<=s.size - i->(∀x ∈ ks,x.1.length<=1048576)->KyR w' g ks->Rd w' R s j T->w.grownBy w' (some R)->Calls Tryz.prog 72 #[.pointer (some ⟨T,0,none⟩),.slice (some ⟨g,0,none⟩) ks.length c,.bool many] w' fun e w''=>∃u,e=.returned u/\Hid (LnPost B R T s E (lnW j own (way many own ks 0 ns)) w (.returned u) w'')):=fun many ks d g c j w' a1 a2 a3 a4 a5 a6 hg=>by
  rw [a1]
  exact (tEnter_any B T ns own now E ks many g c d w' (htr.keepR h hg) ⟨J.wf,J.wt,by have:=J.lt;omega,h0⟩ a1 a2 a5 (by omega) a4 (G.gb hg hR hB).es G.lo).mono fun e w'' hv=>ln_way (gb_belo hg hR hB) a6 hv
 have HKO:Hid (∀a ks j,a<=s.size->hdK s.data.toList (s.data.toList.length+1) a []=.ok (ks,j)->(∀x ∈ ks,x.1.length<=1048576)/\0 < ks.length/\ks.length+a<=j/\j<=s.size):=fun a ks j ha hh=>by
  obtain ⟨b1,b2,b3,b4⟩:=hdK_ok s.data.toList _ a [] ks j (by omega) (by simp) hh
  refine ⟨fun x hx=>by have:=b1 x hx;omega,by simpa using b2,by simpa using b3,by omega⟩
 have HMU:Hid (∀k q,must s.data.toList k 93=.ok q->q=k+1/\k < s.size):=fun k q a=>by
  unfold must at a
  split at a
  ·rename_i hx
   have:=nx_lt (l:=s.data.toList) (i:=k) (by rw [hx];decide)
   cases a
   omega
  ·cases a
 have HX1:Hid (nx s.data.toList (i+1)=91->i+1 < s.size):=fun hx=>by
  have:=nx_lt (l:=s.data.toList) (i:=i+1) (by rw [hx];decide)
  omega
 obtain ⟨many,hmany⟩:∃many,decide (nx s.data.toList (i+1)=91)=many:=⟨_,rfl⟩
 have HPE:=rdHead_eq s.data.toList i ns own now many hmany
 obtain ⟨S,hS⟩:∃S,rdHead s.data.toList ⟨i,ns,own,now⟩=S:=⟨_,rfl⟩
 rw [hS] at HPE ⊢
 have HP:Hid (S=_):=HPE
 obtain ⟨-,r1,-,rf⟩:=h.cells
 have rf1:=rf 1
 have HR1:Hid (Rd (w.setCell ⟨R,1,none⟩ (.int .i64 ((i:Int)+1))) R s (i+1) T):=h.set (i+1)
 have HG1:Hid (w.grownBy (w.setCell ⟨R,1,none⟩ (.int .i64 ((i:Int)+1))) (some R)):=gb_setc w R 1 _
 have C1:Hid (Calls Tryz.prog 40 #[.pointer (some ⟨R,0,none⟩)] (w.setCell ⟨R,1,none⟩ (.int .i64 ((i:Int)+1))) fun e w'=>e=.returned (.int .i64 (nx s.data.toList (i+1)))/\(w.setCell ⟨R,1,none⟩ (.int .i64 ((i:Int)+1))).grownBy w' none):=CN.out (i+1) _ HR1.out (by omega)
 obtain ⟨x,hx⟩:∃x,nx s.data.toList (i+1)=x:=⟨_,rfl⟩
 rw [hx] at C1 hmany HX1
 have HMA:Hid (decide (x=91)=many):=hmany
 clear HPE hS hx hmany h htr G J rf
 go_enter Tryz.func41,Tryz.ntmps41
 go_wp2_with (first | (go_at_call 40;refine C1.out.mono ?_))
 rintro e w1 ⟨rfl,hg1⟩
 have HR1':Hid (Rd w1 R s (i+1) T):=HR1.out.grow hg1
 have HG1':Hid (w.grownBy w1 (some R)):=gb_more HG1.out hg1
 clear hg1 r1 rf1
 cases many with
 | false =>
  have c91:¬ x=91:=of_decide_eq_false HMA.out
  have e91:(x == 91)=false:=by simp [c91]
  clear c91
  have CKa:Hid (∀w',Rd w' R s (i+1) T->w.grownBy w' (some R)->Calls Tryz.prog 71 #[.pointer (some ⟨R,0,none⟩)] w' (HkPost R s T E (hdK s.data.toList (s.data.toList.length+1) (i+1) []) w')):=fun w' a b=>CK.out (i+1) w' a b (by omega)
  have HKa:=HKO.out (i+1)
  have HP1:=HP.out
  simp only [Bool.false_eq_true,if_false] at HP1
  obtain ⟨KR,hKR⟩:∃KR,hdK s.data.toList (s.data.toList.length+1) (i+1) []=KR:=⟨_,rfl⟩
  rw [hKR] at CKa HKa HP1
  have HKa':Hid (∀ks j,(i+1)<=s.size->KR=.ok (ks,j)->(∀x ∈ ks,x.1.length<=1048576)/\0 < ks.length/\ks.length+(i+1)<=j/\j<=s.size):=HKa
  have HP1':Hid (S=_):=HP1
  clear HKa HP1 hKR HP CK HKO
  go_wp2_with (first | (go_at_call 71;refine (CKa.out _ HR1'.out HG1'.out).mono ?_))
  rintro e w2 ⟨p1,p2,p3⟩
  have HG2:Hid (w.grownBy w2 (some R)):=gb_two HG1'.out p3
  cases KR with
  | error ec =>
   obtain ⟨ec1,ec2⟩:=ec
   obtain ⟨F,rfl,hF⟩:=p2 ec1 ec2 rfl
   have HFV:Hid (FaultE w2 (.iface 65 (.pointer (some ⟨F,0,none⟩))) E ec1 ec2):=hF
   have HSE:Hid (S=.error (ec1,ec2)):=HP1'.out
   clear p1 p2 p3 hF
   go_wp2
   refine bodyPost_ret (results_tmp (t:=2) rfl _ _ _) rfl ?_
   rw [HSE.out]
   exact ⟨fun d hh=>(by cases hh),fun c p hh=>(by cases hh;exact ⟨F,rfl,HFV.out⟩),gb_belo HG2.out hR hB⟩
  | ok q =>
   obtain ⟨ks,j⟩:=q
   obtain ⟨g,c,rfl,hky,hkc,hr2⟩:=p1 ks j rfl
   obtain ⟨k1,k2,k3,k4⟩:=HKa'.out ks j (by omega) rfl
   have HK2:Hid (KyR w2 g ks):=hky
   have HR2:Hid (Rd w2 R s j T):=hr2
   have HKX:Hid (∀x ∈ ks,x.1.length<=1048576):=k1
   have HP2:=HP1'.out
   try simp only [] at HP2
   have CT2:=CT.out j
   have HM2:=HMU.out j
   obtain ⟨MU,hMU⟩:∃MU,must s.data.toList j 93=MU:=⟨_,rfl⟩
   rw [hMU] at CT2 HM2 HP2
   have CT2':Hid (∀w',Rd w' R s j T->w.grownBy w' (some R)->j<=s.size->Calls Tryz.prog 45 #[.pointer (some ⟨R,0,none⟩),.int .i64 93] w' fun e w''=>(∃v,e=.returned v/\Hid ((∀q,MU=.ok q->v=.nilIface/\Rd w'' R s q T)/\(∀c p,MU=.error (c,p)->∃F,v=.iface 65 (.pointer (some ⟨F,0,none⟩))/\FaultE w'' v E c p)))/\w'.grownBy w'' (some R)):=CT2
   have HM2':Hid (∀q,MU=.ok q->q=j+1/\j < s.size):=HM2
   have HP2':Hid (S=_):=HP2
   clear p1 p2 p3 hky hr2 k1 CT2 HM2 HP2 hMU HP1' HKa'
   go_wp2_with (first | (go_at_call 45;refine (CT2'.out _ HR2.out HG2.out k4).mono ?_))
   rintro e w3 ⟨⟨v,rfl,hv⟩,hg3⟩
   have HG3:Hid (w.grownBy w3 (some R)):=gb_two HG2.out hg3
   have HK3:Hid (KyR w3 g ks):=HK2.out.keepR HR2.out hg3
   clear hg3
   cases MU with
   | error ec =>
    obtain ⟨ec1,ec2⟩:=ec
    obtain ⟨F,rfl,hF⟩:=hv.out.2 ec1 ec2 rfl
    have HFV:Hid (FaultE w3 (.iface 65 (.pointer (some ⟨F,0,none⟩))) E ec1 ec2):=hF
    have HSE:Hid (S=.error (ec1,ec2)):=HP2'.out
    clear hv hF
    go_wp2
    refine bodyPost_ret (results_tmp (t:=2) rfl _ _ _) rfl ?_
    rw [HSE.out]
    exact ⟨fun d hh=>(by cases hh),fun c p hh=>(by cases hh;exact ⟨F,rfl,HFV.out⟩),gb_belo HG3.out hR hB⟩
   | ok j1 =>
    obtain ⟨rfl,hr3⟩:=hv.out.1 j1 rfl
    obtain ⟨m1,m2⟩:=HM2'.out j1 rfl
    have HR3:Hid (Rd w3 R s j1 T):=hr3
    have HP3:=HP2'.out
    try simp only [] at HP3
    clear hv hr3 HP2' HM2' CT2'
    have HP4:S=lnW j1 own (way false own ks 0 ns):=HP3
    clear HP3
    obtain ⟨d,hd⟩:∃d,ks.length=d+1:=⟨ks.length - 1,by omega⟩
    have CE1:Hid (Calls Tryz.prog 72 #[.pointer (some ⟨T,0,none⟩),.slice (some ⟨g,0,none⟩) ks.length c,.bool false] w3 fun e w''=>∃u,e=.returned u/\Hid (LnPost B R T s E S w (.returned u) w'')):=by
     rw [HP4]
     exact CE.out false ks d g c j1 w3 hd (by omega) (by omega) HKX.out HK3.out HR3.out HG3.out
    obtain ⟨-,-,rr,-⟩:=HR3.out.cells
    clear HP4 CE hd
    go_wp2_with (first | (go_at_call 72;refine CE1.out.mono ?_;rintro e w9 ⟨u,rfl,hu⟩))
    refine bodyPost_ret (results_tmp (t:=2) rfl _ _ _) rfl ?_
    exact hu.out
 | true =>
  have c91:x=91:=of_decide_eq_true HMA.out
  have e91:(x == 91)=true:=by simp [c91]
  have hx1:=HX1.out c91
  obtain ⟨-,s1,-,sf⟩:=HR1'.out.cells
  have sf1:=sf 1
  have e2:((i+1:Nat):Int)+1=((i+2:Nat):Int):=by omega
  have HRb:Hid (Rd (w1.setCell ⟨R,1,none⟩ (.int .i64 (((i+1:Nat):Int)+1))) R s (i+2) T):=HR1'.out.set (i+2)
  have HGb:Hid (w.grownBy (w1.setCell ⟨R,1,none⟩ (.int .i64 (((i+1:Nat):Int)+1))) (some R)):=gb_set HG1'.out 1 _
  clear c91 sf e2
  have CKa:Hid (∀w',Rd w' R s (i+2) T->w.grownBy w' (some R)->Calls Tryz.prog 71 #[.pointer (some ⟨R,0,none⟩)] w' (HkPost R s T E (hdK s.data.toList (s.data.toList.length+1) (i+2) []) w')):=fun w' a b=>CK.out (i+2) w' a b (by omega)
  have HKa:=HKO.out (i+2)
  have HP1:=HP.out
  simp only [if_true] at HP1
  obtain ⟨KR,hKR⟩:∃KR,hdK s.data.toList (s.data.toList.length+1) (i+2) []=KR:=⟨_,rfl⟩
  rw [hKR] at CKa HKa HP1
  have HKa':Hid (∀ks j,(i+2)<=s.size->KR=.ok (ks,j)->(∀x ∈ ks,x.1.length<=1048576)/\0 < ks.length/\ks.length+(i+2)<=j/\j<=s.size):=HKa
  have HP1':Hid (S=_):=HP1
  clear HKa HP1 hKR HP CK HKO
  go_wp2_with (first | (go_at_call 71;refine (CKa.out _ HRb.out HGb.out).mono ?_))
  rintro e w2 ⟨p1,p2,p3⟩
  have HG2:Hid (w.grownBy w2 (some R)):=gb_two HGb.out p3
  cases KR with
  | error ec =>
   obtain ⟨ec1,ec2⟩:=ec
   obtain ⟨F,rfl,hF⟩:=p2 ec1 ec2 rfl
   have HFV:Hid (FaultE w2 (.iface 65 (.pointer (some ⟨F,0,none⟩))) E ec1 ec2):=hF
   have HSE:Hid (S=.error (ec1,ec2)):=HP1'.out
   clear p1 p2 p3 hF
   go_wp2
   refine bodyPost_ret (results_tmp (t:=2) rfl _ _ _) rfl ?_
   rw [HSE.out]
   exact ⟨fun d hh=>(by cases hh),fun c p hh=>(by cases hh;exact ⟨F,rfl,HFV.out⟩),gb_belo HG2.out hR hB⟩
  | ok q =>
   obtain ⟨ks,j⟩:=q
   obtain ⟨g,c,rfl,hky,hkc,hr2⟩:=p1 ks j rfl
   obtain ⟨k1,k2,k3,k4⟩:=HKa'.out ks j (by omega) rfl
   have HK2:Hid (KyR w2 g ks):=hky
   have HR2:Hid (Rd w2 R s j T):=hr2
   have HKX:Hid (∀x ∈ ks,x.1.length<=1048576):=k1
   have HP2:=HP1'.out
   try simp only [] at HP2
   have CT2:=CT.out j
   have HM2:=HMU.out j
   obtain ⟨MU,hMU⟩:∃MU,must s.data.toList j 93=MU:=⟨_,rfl⟩
   rw [hMU] at CT2 HM2 HP2
   have CT2':Hid (∀w',Rd w' R s j T->w.grownBy w' (some R)->j<=s.size->Calls Tryz.prog 45 #[.pointer (some ⟨R,0,none⟩),.int .i64 93] w' fun e w''=>(∃v,e=.returned v/\Hid ((∀q,MU=.ok q->v=.nilIface/\Rd w'' R s q T)/\(∀c p,MU=.error (c,p)->∃F,v=.iface 65 (.pointer (some ⟨F,0,none⟩))/\FaultE w'' v E c p)))/\w'.grownBy w'' (some R)):=CT2
   have HM2':Hid (∀q,MU=.ok q->q=j+1/\j < s.size):=HM2
   have HP2':Hid (S=_):=HP2
   clear p1 p2 p3 hky hr2 k1 CT2 HM2 HP2 hMU HP1' HKa'
   go_wp2_with (first | (go_at_call 45;refine (CT2'.out _ HR2.out HG2.out k4).mono ?_))
   rintro e w3 ⟨⟨v,rfl,hv⟩,hg3⟩
   have HG3:Hid (w.grownBy w3 (some R)):=gb_two HG2.out hg3
   have HK3:Hid (KyR w3 g ks):=HK2.out.keepR HR2.out hg3
   clear hg3
   cases MU with
   | error ec =>
    obtain ⟨ec1,ec2⟩:=ec
    obtain ⟨F,rfl,hF⟩:=hv.out.2 ec1 ec2 rfl
    have HFV:Hid (FaultE w3 (.iface 65 (.pointer (some ⟨F,0,none⟩))) E ec1 ec2):=hF
    have HSE:Hid (S=.error (ec1,ec2)):=HP2'.out
    clear hv hF
    go_wp2
    refine bodyPost_ret (results_tmp (t:=2) rfl _ _ _) rfl ?_
    rw [HSE.out]
    exact ⟨fun d hh=>(by cases hh),fun c p hh=>(by cases hh;exact ⟨F,rfl,HFV.out⟩),gb_belo HG3.out hR hB⟩
   | ok j1 =>
    obtain ⟨rfl,hr3⟩:=hv.out.1 j1 rfl
    obtain ⟨m1,m2⟩:=HM2'.out j1 rfl
    have HR3:Hid (Rd w3 R s j1 T):=hr3
    have HP3:=HP2'.out
    try simp only [] at HP3
    clear hv hr3 HP2' HM2' CT2'
    have CT3:=CT.out j1
    have HM3:=HMU.out j1
    obtain ⟨MV,hMV⟩:∃MV,must s.data.toList j1 93=MV:=⟨_,rfl⟩
    rw [hMV] at CT3 HM3 HP3
    have CT3':Hid (∀w',Rd w' R s j1 T->w.grownBy w' (some R)->j1<=s.size->Calls Tryz.prog 45 #[.pointer (some ⟨R,0,none⟩),.int .i64 93] w' fun e w''=>(∃v,e=.returned v/\Hid ((∀q,MV=.ok q->v=.nilIface/\Rd w'' R s q T)/\(∀c p,MV=.error (c,p)->∃F,v=.iface 65 (.pointer (some ⟨F,0,none⟩))/\FaultE w'' v E c p)))/\w'.grownBy w'' (some R)):=CT3
    have HP3':Hid (S=_):=HP3
    clear CT3 HM3 HP3 hMV CT
    go_wp2_with (first | (go_at_call 45;refine (CT3'.out _ HR3.out HG3.out (by omega)).mono ?_))
    rintro e w4 ⟨⟨v,rfl,hv⟩,hg4⟩
    have HG4:Hid (w.grownBy w4 (some R)):=gb_two HG3.out hg4
    have HK4:Hid (KyR w4 g ks):=HK3.out.keepR HR3.out hg4
    clear hg4
    cases MV with
    | error ec =>
     obtain ⟨ec1,ec2⟩:=ec
     obtain ⟨F,rfl,hF⟩:=hv.out.2 ec1 ec2 rfl
     have HFV:Hid (FaultE w4 (.iface 65 (.pointer (some ⟨F,0,none⟩))) E ec1 ec2):=hF
     have HSE:Hid (S=.error (ec1,ec2)):=HP3'.out
     clear hv hF
     go_wp2
     refine bodyPost_ret (results_tmp (t:=2) rfl _ _ _) rfl ?_
     rw [HSE.out]
     exact ⟨fun d hh=>(by cases hh),fun c p hh=>(by cases hh;exact ⟨F,rfl,HFV.out⟩),gb_belo HG4.out hR hB⟩
    | ok j2 =>
     obtain ⟨rfl,hr4⟩:=hv.out.1 j2 rfl
     have HR4:Hid (Rd w4 R s j2 T):=hr4
     have HP4:S=lnW j2 own (way true own ks 0 ns):=HP3'.out
     clear hv hr4 HP3' CT3'
     obtain ⟨d,hd⟩:∃d,ks.length=d+1:=⟨ks.length - 1,by omega⟩
     have CE1:Hid (Calls Tryz.prog 72 #[.pointer (some ⟨T,0,none⟩),.slice (some ⟨g,0,none⟩) ks.length c,.bool true] w4 fun e w''=>∃u,e=.returned u/\Hid (LnPost B R T s E S w (.returned u) w'')):=by
      rw [HP4]
      exact CE.out true ks d g c j2 w4 hd (by omega) (by omega) HKX.out HK4.out HR4.out HG4.out
     obtain ⟨-,-,rr,-⟩:=HR4.out.cells
     clear HP4 CE hd
     go_wp2_with (first | (go_at_call 72;refine CE1.out.mono ?_;rintro e w9 ⟨u,rfl,hu⟩))
     refine bodyPost_ret (results_tmp (t:=2) rfl _ _ _) rfl ?_
     exact hu.out
end Go.Proofs.YtbgnflcebafjjaaGreatDoor
namespace Go.Proofs.YtbgnflcebafjjaaGreatDoor
open Go.RowKit Go.Joins
set_option linter.unusedVariables false
theorem add_kd (ns:List Tn) (up:Nat) (n:Tn) (q:Nat) (hu:up < ns.length) (hq:q < ns.length):kdAt (addN ns up n) q=kdAt ns q:=by rw [kdAt_addN ns up n hu,if_neg (by omega)]
theorem stp_kd {ns ns':List Tn} {own:List Nat} {t t' p:Nat} {k:List UInt8} (J:Jt ns own t) (h:stp ns t k p=.ok (t',ns')) (q:Nat) (hq:q < ns.length):kdAt ns' q=kdAt ns q:=by
 unfold stp at h
 cases hk:kidO ns t k with
 | none =>
  rw [hk] at h
  cases h
  exact add_kd ns t _ q J.lt hq
 | some x =>
  rw [hk] at h
  simp only [] at h
  split at h
  ·cases h;rfl
  ·split at h
   ·cases hx:ns[x]? with
    | none=>rw [hx] at h;cases h
    | some u=>rw [hx] at h;cases h;rfl
   ·cases h
theorem endT_kd {ns ns':List Tn} {own:List Nat} {t t' p:Nat} {k:List UInt8} (J:Jt ns own t) (h:endT ns own t k p=.ok (t',ns')) (q:Nat) (hq:q < ns.length):kdAt ns' q=kdAt ns q:=by
 unfold endT at h
 cases hk:kidO ns t k with
 | none =>
  rw [hk] at h
  cases h
  exact add_kd ns t _ q J.lt hq
 | some x =>
  rw [hk] at h
  simp only [] at h
  split at h
  ·cases h;rfl
  ·cases h
theorem endL_kd {ns ns':List Tn} {own:List Nat} {t t' p:Nat} {k:List UInt8} (J:Jt ns own t) (h:endL ns t k p=.ok (t',ns')) (q:Nat) (hq:q < ns.length):kdAt ns' q=kdAt ns q:=by
 unfold endL at h
 cases hk:kidO ns t k with
 | none =>
  rw [hk] at h
  cases h
  rw [add_kd _ _ _ q (by rw [addN_len];omega) (by rw [addN_len];omega),add_kd _ _ _ q J.lt hq]
 | some x =>
  rw [hk] at h
  simp only [] at h
  split at h
  ·rename_i h2
   cases h
   exact add_kd ns x _ q (kdAt_lt h2 (by omega)) hq
  ·cases h
theorem way_kd (many:Bool) (own:List Nat):∀(l:List (List UInt8 × Nat)) (t:Nat) (ns ns':List Tn) (t':Nat),Jt ns own t->way many own l t ns=.ok (t',ns')->∀q,q < ns.length->kdAt ns' q=kdAt ns q
 | [],t,ns,ns',t',J,h,q,hq=>by cases h;rfl
 | [(k,p)],t,ns,ns',t',J,h,q,hq=>by
  rw [way_one] at h
  split at h
  ·exact endL_kd J h q hq
  ·exact endT_kd J h q hq
 | (k,p) :: b :: r,t,ns,ns',t',J,h,q,hq=>by
  rw [way_more] at h
  cases hs:stp ns t k p with
  | error e=>rw [hs] at h;cases h
  | ok z =>
   obtain ⟨t1,ns1⟩:=z
   rw [hs] at h
   obtain ⟨a,b',c⟩:=stp_ok J hs
   exact (way_kd many own (b :: r) t1 ns1 ns' t' a h q (by omega)).trans (stp_kd J hs q hq)
structure Li (l:List UInt8) (d:Sd):Prop where
 jt:Jt d.ns d.own d.now
 rt:kdAt d.ns 0=0
 le:d.i<=l.length
 nn:d.ns.length<=2 * d.i+1
 on:d.own.length<=d.i
theorem must_ok (l:List UInt8) (k q:Nat) (c:Int) (hc:0<=c) (h:must l k c=.ok q):q=k+1/\k < l.length:=by
 unfold must at h
 split at h
 ·rename_i hx
  have:=nx_lt (l:=l) (i:=k) (by omega)
  cases h
  omega
 ·cases h
theorem pair_ok (l:List UInt8) (d d':Sd) (L:Li l d) (h:rdPair l d=.ok d'):Li l d'/\d.i < d'.i:=by
 obtain ⟨i,ns,own,now⟩:=d
 have L1:=L.jt
 have L2:=L.rt
 have L3:=L.le
 have L4:=L.nn
 have L5:=L.on
 simp only [] at L1 L2 L3 L4 L5
 rw [rdPair_eq] at h
 cases hk:rdKey l i with
 | error e=>rw [hk] at h;cases h
 | ok q =>
  obtain ⟨k,j⟩:=q
  rw [hk] at h
  simp only [] at h
  obtain ⟨k1,k2,k3⟩:=rdKey_ok l i k j L3 hk
  have b1:=bl_le l j k2
  cases hm:must l (bl l j) 61 with
  | error e=>rw [hm] at h;cases h
  | ok j1 =>
   rw [hm] at h
   simp only [] at h
   obtain ⟨m1,m2⟩:=must_ok l _ _ 61 (by decide) hm
   have b2:=bl_le l j1 (by omega)
   cases hq:kidO ns now k with
   | some q=>rw [hq] at h;cases h
   | none =>
    rw [hq] at h
    simp only [] at h
    cases hv:val l (2 * l.length+2) (bl l j1) now k i 0 ns with
    | error e=>rw [hv] at h;cases h
    | ok z =>
     obtain ⟨j2,ns'⟩:=z
     rw [hv] at h
     have A:=(val_lst_ok l own _).1 (bl l j1) now k i 0 ns j2 ns' b2.2 L1.wf L1.wt L1.lt (by rw [L1.kd];decide) hv
     have a1:=A.lo
     have a2:=A.hi
     have a3:=A.fw
     have a4:=A.en
     have hlt:=L1.lt
     cases h
     exact ⟨⟨⟨A.wf,A.wt,by simp only [];omega,(A.kd now L1.lt).trans L1.kd⟩,(A.kd 0 (by omega)).trans L2,a4,by simp only [];omega,by simp only [];omega⟩,by simp only [];omega⟩
theorem head_ok (l:List UInt8) (d d':Sd) (L:Li l d) (hi:d.i < l.length) (h:rdHead l d=.ok d'):Li l d'/\d.i < d'.i:=by
 obtain ⟨i,ns,own,now⟩:=d
 have L1:=L.jt
 have L2:=L.rt
 have L3:=L.le
 have L4:=L.nn
 have L5:=L.on
 simp only [] at L1 L2 L3 L4 L5 hi
 obtain ⟨many,hmany⟩:∃many,decide (nx l (i+1)=91)=many:=⟨_,rfl⟩
 rw [rdHead_eq l i ns own now many hmany] at h
 have ha:i+1<=(if many=true then i+2 else i+1)/\(if many=true then i+2 else i+1)<=l.length:=by
  cases many with
  | false=>simp;omega
  | true =>
   have hx:=of_decide_eq_true hmany
   have:=nx_lt (l:=l) (i:=i+1) (by rw [hx];decide)
   simp;omega
 generalize (if many=true then i+2 else i+1)=a at h ha
 cases hk:hdK l (l.length+1) a [] with
 | error e=>rw [hk] at h;cases h
 | ok q =>
  obtain ⟨ks,j⟩:=q
  rw [hk] at h
  simp only [] at h
  obtain ⟨k1,k2,k3,k4⟩:=hdK_ok l _ a [] ks j ha.2 (by simp) hk
  simp at k2 k3
  cases hm:must l j 93 with
  | error e=>rw [hm] at h;cases h
  | ok j1 =>
   rw [hm] at h
   simp only [] at h
   obtain ⟨m1,m2⟩:=must_ok l _ _ 93 (by decide) hm
   have hj2:∀j2,(if many=true then must l j1 93 else (.ok j1:Rs Nat))=.ok j2->j1<=j2/\j2<=l.length:=fun j2 hh=>by
    split at hh
    ·obtain ⟨n1,n2⟩:=must_ok l _ _ 93 (by decide) hh
     omega
    ·cases hh
     omega
   cases hc:(if many=true then must l j1 93 else (.ok j1:Rs Nat)) with
   | error e=>rw [hc] at h;cases h
   | ok j2 =>
    rw [hc] at h
    simp only [] at h
    obtain ⟨c1,c2⟩:=hj2 j2 hc
    cases hw:way many own ks 0 ns with
    | error e=>rw [hw] at h;cases h
    | ok z =>
     obtain ⟨t,ns'⟩:=z
     rw [hw] at h
     have hlt:=L1.lt
     have J0:Jt ns own 0:=⟨L1.wf,L1.wt,by omega,L2⟩
     obtain ⟨w1,w2,w3⟩:=way_ok many own ks 0 ns ns' t (by intro e;rw [e] at k2;simp at k2) J0 hw
     have w4:=way_kd many own ks 0 ns ns' t J0 hw 0 (by omega)
     cases h
     exact ⟨⟨w1,w4.trans L2,c2,by simp only [];omega,by simp only [List.length_cons];omega⟩,by simp only [];omega⟩
end Go.Proofs.YtbgnflcebafjjaaGreatDoor
