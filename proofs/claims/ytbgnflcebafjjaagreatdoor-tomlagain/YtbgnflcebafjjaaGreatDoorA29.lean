import Derived.Test.YtbgnflcebafjjaaGreatDoorA15
import Derived.Test.YtbgnflcebafjjaaGreatDoorA28
import Derived.Test.YtbgnflcebafjjaaGreatDoorA26
namespace Go.Proofs.YtbgnflcebafjjaaGreatDoor
set_option linter.unusedVariables false
def ErN (c:Int × Nat):Prop:=2<=c.1/\c.1<=5
def ErR {α:Type} (r:Rs α):Prop:=∀c,r=.error c->ErN c
theorem er_ok {α:Type} (a:α):ErR (.ok a:Rs α):=fun c h=>by cases h
theorem er_2 {α:Type} (p:Nat):ErR (.error (2,p):Rs α):=fun c h=>by cases h;exact ⟨(by decide:(2:Int)<=2),(by decide:(2:Int)<=5)⟩
theorem er_3 {α:Type} (p:Nat):ErR (.error (3,p):Rs α):=fun c h=>by cases h;exact ⟨(by decide:(2:Int)<=3),(by decide:(3:Int)<=5)⟩
theorem er_4 {α:Type} (p:Nat):ErR (.error (4,p):Rs α):=fun c h=>by cases h;exact ⟨(by decide:(2:Int)<=4),(by decide:(4:Int)<=5)⟩
theorem er_5 {α:Type} (p:Nat):ErR (.error (5,p):Rs α):=fun c h=>by cases h;exact ⟨(by decide:(2:Int)<=5),(by decide:(5:Int)<=5)⟩
theorem er_of {α β:Type} {r:Rs α} (h:ErR r) {c:Int × Nat} (hc:r=.error c):ErR (.error c:Rs β):=fun c' h'=>by cases h';exact h c hc
theorem er_four (l:List UInt8):∀(k i n:Nat),ErR (four l k i n)
 | 0,i,n=>er_ok _
 | k+1,i,n=>by
  rw [four_step]
  split
  ·exact er_2 _
  ·exact er_four l k _ _
theorem er_esc (l:List UInt8) (i:Nat):ErR (esc l i):=by
 unfold esc
 split
 ·cases h:four l 4 (i+2) 0 with
  | error e=>exact er_of (er_four l 4 (i+2) 0) h
  | ok q =>
   obtain ⟨n,j⟩:=q
   simp only []
   split
   ·exact er_2 _
   ·exact er_ok _
 ·repeat' split
  all_goals first | exact er_ok _ | exact er_2 _
theorem er_str (l:List UInt8):∀(f i:Nat) (acc:List UInt8),ErR (str l f i acc)
 | 0,i,acc=>er_2 _
 | f+1,i,acc=>by
  rw [str_step]
  split
  ·exact er_ok _
  ·split
   ·cases h:esc l i with
    | error e=>exact er_of (er_esc l i) h
    | ok q =>
     obtain ⟨b,j⟩:=q
     exact er_str l f j _
   ·split
    ·exact er_2 _
    ·split
     ·exact er_2 _
     ·exact er_str l f _ _
theorem er_key (l:List UInt8) (i:Nat):ErR (rdKey l i):=by
 unfold rdKey
 split
 ·exact er_str _ _ _ _
 ·split
  ·exact er_2 _
  ·exact er_ok _
theorem er_int (l:List UInt8) (i:Nat):ErR (rdInt l i):=by
 unfold rdInt
 simp only []
 generalize (if isDg (nx l i)=true then i else i+1)=a
 split
 ·exact er_2 _
 ·split
  ·exact er_3 _
  ·exact er_ok _
theorem er_tru (l:List UInt8) (i:Nat):ErR (rdTru l i):=by
 unfold rdTru
 simp only []
 split
 ·exact er_ok _
 ·split
  ·exact er_ok _
  ·exact er_2 _
theorem er_gap (l:List UInt8):∀(f i:Nat),ErR (gap l f i)
 | 0,i=>er_2 _
 | f+1,i=>by
  rw [gap_step]
  split
  ·exact er_2 _
  ·split
   ·exact er_gap l f _
   ·exact er_ok _
theorem er_must (l:List UInt8) (i:Nat) (c:Int):ErR (must l i c):=by
 unfold must
 split
 ·exact er_ok _
 ·exact er_2 _
theorem er_vl (l:List UInt8):∀f:Nat,(∀i up k p d ns,ErR (val l f i up k p d ns))/\(∀i up d ns,ErR (lst l f i up d ns)):=by
 intro f
 induction f with
 | zero =>
  refine ⟨fun i up k p d ns=>?_,fun i up d ns=>?_⟩
  ·rw [val];exact er_2 _
  ·rw [lst];exact er_2 _
 | succ f ih =>
  refine ⟨fun i up k p d ns=>?_,fun i up d ns=>?_⟩
  ·rw [val_step]
   split
   ·cases h:str l (l.length+1) (i+1) [] with
    | error e=>exact er_of (er_str _ _ _ _) h
    | ok q=>exact er_ok _
   ·split
    ·cases h:rdInt l i with
     | error e=>exact er_of (er_int _ _) h
     | ok q=>exact er_ok _
    ·split
     ·cases h:rdTru l i with
      | error e=>exact er_of (er_tru _ _) h
      | ok q=>exact er_ok _
     ·split
      ·split
       ·exact er_4 _
       ·exact ih.2 _ _ _ _
      ·exact er_2 _
  ·rw [lst_step]
   cases h:gap l (l.length+1) i with
   | error e=>exact er_of (er_gap _ _ _) h
   | ok j =>
    simp only []
    split
    ·exact er_ok _
    ·cases h2:val l f j up [] j d ns with
     | error e=>exact er_of (ih.1 _ _ _ _ _ _) h2
     | ok q =>
      obtain ⟨j1,ns1⟩:=q
      simp only []
      cases h3:gap l (l.length+1) j1 with
      | error e=>exact er_of (er_gap _ _ _) h3
      | ok j2 =>
       simp only []
       split
       ·exact ih.2 _ _ _ _
       ·split
        ·exact er_ok _
        ·exact er_2 _
theorem er_stp (ns:List Tn) (t:Nat) (k:List UInt8) (p:Nat):ErR (stp ns t k p):=by
 unfold stp
 cases kidO ns t k with
 | none=>exact er_ok _
 | some q =>
  simp only []
  split
  ·exact er_ok _
  ·split
   ·cases ns[q]? with
    | none=>exact er_5 _
    | some u=>exact er_ok _
   ·exact er_5 _
theorem er_endT (ns:List Tn) (own:List Nat) (t:Nat) (k:List UInt8) (p:Nat):ErR (endT ns own t k p):=by
 unfold endT
 cases kidO ns t k with
 | none=>exact er_ok _
 | some q =>
  simp only []
  split
  ·exact er_ok _
  ·exact er_5 _
theorem er_endL (ns:List Tn) (t:Nat) (k:List UInt8) (p:Nat):ErR (endL ns t k p):=by
 unfold endL
 cases kidO ns t k with
 | none=>exact er_ok _
 | some q =>
  simp only []
  split
  ·exact er_ok _
  ·exact er_5 _
theorem er_way (many:Bool) (own:List Nat):∀(ks:List (List UInt8 × Nat)) (t:Nat) (ns:List Tn),ErR (way many own ks t ns)
 | [],t,ns=>er_ok _
 | [(k,p)],t,ns=>by
  show ErR (if many=true then endL ns t k p else endT ns own t k p)
  split
  ·exact er_endL _ _ _ _
  ·exact er_endT _ _ _ _ _
 | (k,p) :: x :: r,t,ns=>by
  show ErR (match stp ns t k p with | .error e=>.error e | .ok (t1,ns1)=>way many own (x :: r) t1 ns1)
  cases h:stp ns t k p with
  | error e=>exact er_of (er_stp _ _ _ _) h
  | ok q =>
   obtain ⟨t1,ns1⟩:=q
   exact er_way many own (x :: r) t1 ns1
theorem er_hdK (l:List UInt8):∀(f i:Nat) (acc:List (List UInt8 × Nat)),ErR (hdK l f i acc)
 | 0,i,acc=>er_2 _
 | f+1,i,acc=>by
  show ErR (match rdKey l (bl l i) with | .error e=>.error e | .ok (k,j)=>if nx l (bl l j)=46 then hdK l f (bl l j+1) (acc++[(k,bl l i)]) else .ok (acc++[(k,bl l i)],bl l j))
  cases h:rdKey l (bl l i) with
  | error e=>exact er_of (er_key _ _) h
  | ok q =>
   obtain ⟨k,j⟩:=q
   simp only []
   split
   ·exact er_hdK l f _ _
   ·exact er_ok _
theorem er_head (l:List UInt8) (d:Sd):ErR (rdHead l d):=by
 unfold rdHead
 simp only []
 generalize (if decide (nx l (d.i+1)=91)=true then d.i+2 else d.i+1)=a
 cases h:hdK l (l.length+1) a [] with
 | error e=>exact er_of (er_hdK _ _ _ _) h
 | ok q =>
  obtain ⟨ks,j⟩:=q
  simp only []
  cases h2:must l j 93 with
  | error e=>exact er_of (er_must _ _ _) h2
  | ok j1 =>
   simp only []
   have h3':ErR (if decide (nx l (d.i+1)=91)=true then must l j1 93 else .ok j1):=by
    split
    ·exact er_must _ _ _
    ·exact er_ok _
   cases h3:(if decide (nx l (d.i+1)=91)=true then must l j1 93 else .ok j1) with
   | error e=>exact er_of h3' h3
   | ok j2 =>
    simp only []
    cases h4:way (decide (nx l (d.i+1)=91)) d.own ks 0 d.ns with
    | error e=>exact er_of (er_way _ _ _ _ _) h4
    | ok q=>exact er_ok _
theorem er_pair (l:List UInt8) (d:Sd):ErR (rdPair l d):=by
 unfold rdPair
 cases h:rdKey l d.i with
 | error e=>exact er_of (er_key _ _) h
 | ok q =>
  obtain ⟨k,j⟩:=q
  simp only []
  cases h2:must l (bl l j) 61 with
  | error e=>exact er_of (er_must _ _ _) h2
  | ok j1 =>
   simp only []
   cases kidO d.ns d.now k with
   | some q=>exact er_5 _
   | none =>
    simp only []
    cases h4:val l (2 * l.length+2) (bl l j1) d.now k d.i 0 d.ns with
    | error e=>exact er_of ((er_vl l _).1 _ _ _ _ _ _) h4
    | ok q=>exact er_ok _
theorem er_line (l:List UInt8) (d:Sd):ErR (rdLine l d):=by
 unfold rdLine
 simp only []
 have hX:ErR (if nx l (bl l d.i)=91 then rdHead l ⟨bl l d.i,d.ns,d.own,d.now⟩ else if nx l (bl l d.i)=34\/isBa (nx l (bl l d.i))=true then rdPair l ⟨bl l d.i,d.ns,d.own,d.now⟩ else .ok ⟨bl l d.i,d.ns,d.own,d.now⟩):=by
  split
  ·exact er_head _ _
  ·split
   ·exact er_pair _ _
   ·exact er_ok _
 generalize (if nx l (bl l d.i)=91 then rdHead l ⟨bl l d.i,d.ns,d.own,d.now⟩ else if nx l (bl l d.i)=34\/isBa (nx l (bl l d.i))=true then rdPair l ⟨bl l d.i,d.ns,d.own,d.now⟩ else .ok ⟨bl l d.i,d.ns,d.own,d.now⟩:Rs Sd)=X at hX ⊢
 cases X with
 | error e=>exact er_of hX rfl
 | ok d1 =>
  simp only []
  split
  ·exact er_2 _
  ·split
   ·exact er_ok _
   ·cases h:must l (cmt l (bl l d1.i)).2 10 with
    | error e=>exact er_of (er_must _ _ _) h
    | ok j=>exact er_ok _
theorem er_all (l:List UInt8):∀(f:Nat) (d:Sd),ErR (rdAll l f d)
 | 0,d=>er_ok _
 | f+1,d=>by
  show ErR (if l.length<=d.i then .ok d else match rdLine l d with | .error e=>.error e | .ok s1=>rdAll l f s1)
  split
  ·exact er_ok _
  ·cases h:rdLine l d with
   | error e=>exact er_of (er_line _ _) h
   | ok d1=>exact er_all l f d1
theorem er_toml (l:List UInt8) (c:Int) (p:Nat) (h:rdToml l=.error (c,p)):(c=1/\p=0)\/(2<=c/\c<=5):=by
 unfold rdToml at h
 split at h
 ·cases h;exact Or.inl ⟨rfl,rfl⟩
 ·right
  cases hr:rdAll l (l.length+1) ⟨0,[⟨0,[],[],0,[],0⟩],[],0⟩ with
  | error e =>
   rw [hr] at h
   cases h
   exact er_all l _ _ _ hr
  | ok d=>rw [hr] at h;cases h
end Go.Proofs.YtbgnflcebafjjaaGreatDoor
namespace Go.Proofs.YtbgnflcebafjjaaGreatDoor
open Go.RowKit Go.Maps Go.WideMaps Go.Joins
set_option linter.unusedVariables false
set_option maxRecDepth 100000 in
set_option maxHeartbeats 3200000 in
theorem tTold_long (E:Int->TypeId × Value) (b:Int->Addr) (w:World) (S:Sn w E b) :
  Calls Tryz.prog 16 #[.iface (E 1).1 (E 1).2] w fun e w'=>e=.returned (.tuple #[.int .i64 1,.int .i64 0])/\w.grownBy w' none:=by
 have hgT:w.grownBy (w.alloc (.cells #[.pointer none] 65)) none:=World.grownBy_alloc _ _ none
 have hT:=heap_alloc_new w (.cells #[.pointer none] 65)
 have e1:=S.ptr 1 (by decide) (by decide)
 have hlo:=S.lo
 rw [e1] at hlo ⊢
 have CA:Hid (Calls Tryz.prog 24 #[.iface 235 (.pointer (some (b 1))),.iface 67 (.pointer (some ⟨w.heap.size,0,none⟩))] (w.alloc (.cells #[.pointer none] 65)) fun ev w2=>ev=.returned (.bool false)/\w.grownBy w2 none/\w2.cell? ⟨0,0,none⟩=some (.iface 235 (.pointer (some (b 1))))):=by
  refine (as_miss (b 1) ⟨w.heap.size,0,none⟩ (.pointer none) _ (S.grow hgT).ty (by rw [Lib.cell_of_heap hT];rfl) (Lib.frozen_of_heap hT 0)).mono ?_
  rintro e w2 ⟨rfl,hg⟩
  have g2:=gb_trans hgT hg
  exact ⟨rfl,g2,g2.cell hlo (by simp)⟩
 have CI:Hid (∀w,Calls Tryz.prog 25 #[.iface 235 (.pointer (some (b 1))),.iface 235 (.pointer (some (b 1)))] w fun e w'=>e=.returned (.bool true)/\w'=w):=is_same (b 1)
 obtain ⟨x,hx⟩:∃x,b 1=x:=⟨_,rfl⟩
 rw [hx] at CA CI ⊢
 clear hgT hT e1 S hlo hx
 go_enter Tryz.func16,Tryz.ntmps16
 go_wp2_with (first | (go_at_call 24;refine CA.out.mono ?_))
 rintro e w2 ⟨rfl,hg2,y1⟩
 have HG2:Hid (w.grownBy w2 none):=hg2
 clear hg2 CA
 go_wp2_with (first | (go_at_call 25;refine (CI.out _).mono ?_))
 first | rintro e w' rfl rfl | rintro e w' ⟨rfl,rfl⟩
 go_wp2
 refine bodyPost_ret (results_tmp2 (t:=2) (u:=3) rfl _ _ _) rfl ?_
 exact ⟨rfl,HG2.out⟩
def PePost (r:Rs (List Tn)) (w:World) (e:Ending) (w':World):Prop :=
 (∀ns,r=.ok ns->∃N c M T xs ks now n f,e=.returned (.tuple #[.slice (some ⟨N,0,none⟩) ns.length c,.int .i64 0,.int .i64 0])/\TrD w' w.heap.size T ns now N c M xs ks n f) ∧
 (∀c p,r=.error (c,p)->e=.returned (.tuple #[.slice none 0 0,.int .i64 c,.int .i64 (p:Nat)]))/\w.grownBy w' none
set_option maxRecDepth 100000 in
set_option maxHeartbeats 3200000 in
theorem tParse_any (s:ByteArray) (E:Int->TypeId × Value) (b:Int->Addr) (w:World) (G:Gl w w.heap.size E) (S:Sn w E b) (hmx:s.size < 2 ^ 62) :
  Calls Tryz.prog 7 #[.string s] w (PePost (rdToml s.data.toList) w):=by
 have CR:Hid (Calls Tryz.prog 15 #[.string s] w (RdPost s E (rdToml s.data.toList) w)):=tRead_any s E w G S.lo hmx
 have HER:Hid (∀c p,rdToml s.data.toList=.error (c,p)->(c=1/\p=0)\/(2<=c/\c<=5)):=er_toml _
 have CTL:Hid (∀w',w.grownBy w' none->Calls Tryz.prog 16 #[.iface (E 1).1 (E 1).2] w' fun e w''=>e=.returned (.tuple #[.int .i64 1,.int .i64 0])/\w'.grownBy w'' none):=fun w' hg=>tTold_long E b w' (S.grow hg)
 have CTF:Hid (∀w' F (c:Int) p,w.grownBy w' none->1<=c->c<=5->w'.heap[F]?=some (.cells #[.int .i64 (p:Nat),.iface (E c).1 (E c).2] 69 (0,0))->Calls Tryz.prog 16 #[.iface 65 (.pointer (some ⟨F,0,none⟩))] w' fun e w''=>e=.returned (.tuple #[.int .i64 c,.int .i64 (p:Nat)])/\w'.grownBy w'' none):=fun w' F c p hg h1 h2 hF=>by
  have G1:Gl w' w.heap.size E:=G.bel (gb_below hg)
  have hsz:=hg.size
  exact tTold_fault E b w' F c p ⟨G1.es,⟨Nat.lt_of_lt_of_le G1.lo.te hsz,Nat.lt_of_lt_of_le G1.lo.ra hsz,Nat.lt_of_lt_of_le G1.lo.ma hsz,Nat.lt_of_lt_of_le G1.lo.tw hsz⟩,G1.tabs,Nat.lt_of_lt_of_le G1.t3 hsz,Nat.lt_of_lt_of_le G1.t4 hsz⟩ (S.grow hg) h1 h2 hF
 have HE1:Hid (E 1=(235,.pointer (some (b 1)))):=S.ptr 1 (by decide) (by decide)
 obtain ⟨X,hX⟩:∃X,rdToml s.data.toList=X:=⟨_,rfl⟩
 rw [hX] at CR HER ⊢
 clear G S hX
 go_enter Tryz.func7,Tryz.ntmps7
 go_wp2_with (first | (go_at_call 15;refine CR.out.mono ?_))
 rintro e w2 ⟨h1,h2,hg2⟩
 have HG2:Hid (w.grownBy w2 none):=hg2
 clear hg2
 match X,h1,h2,HER with
 | .ok ns,h1,_,_ =>
  obtain ⟨N,c,M,T,xs,ks,now,n,f,rfl,hD⟩:=h1 ns rfl
  have HD:Hid (TrD w2 w.heap.size T ns now N c M xs ks n f):=hD
  clear h1 h2 hD
  go_wp2
  refine bodyPost_ret (results_tmp3 (t:=2) (u:=3) (v:=4) rfl _ _ _) rfl ?_
  exact ⟨fun ns' hh=>(by injection hh with hh;subst hh;exact ⟨N,c,M,T,xs,ks,now,n,f,rfl,HD.out⟩),fun c p hh=>(by cases hh),HG2.out⟩
 | .error (c,p),_,h2,HER =>
  obtain ⟨v,rfl,hor⟩:=h2 c p rfl
  have hrg:=HER.out c p rfl
  rcases hor with ⟨hc1,hv⟩ | ⟨F,hv,hF⟩
  ·obtain ⟨-,hp0⟩:c=1/\p=0:=by rcases hrg with h | h;exact h;omega
   subst hc1 hp0
   have CT:Hid (Calls Tryz.prog 16 #[.iface 235 (.pointer (some (b 1)))] w2 fun e w''=>e=.returned (.tuple #[.int .i64 1,.int .i64 0])/\w2.grownBy w'' none):=by
    have:=CTL.out w2 HG2.out
    rw [HE1.out] at this
    exact this
   rw [HE1.out] at hv
   obtain rfl:=hv
   clear h1 h2 hrg CTF CTL
   go_wp2_with (first | (go_at_call 16;refine CT.out.mono ?_;rintro e w3 ⟨rfl,hg3⟩))
   refine bodyPost_ret (results_tmp3 (t:=2) (u:=3) (v:=4) rfl _ _ _) rfl ?_
   exact ⟨fun ns' hh=>(by cases hh),fun c p hh=>(by cases hh;rfl),gb_trans HG2.out hg3⟩
  ·have CT:Hid (Calls Tryz.prog 16 #[.iface 65 (.pointer (some ⟨F,0,none⟩))] w2 fun e w''=>e=.returned (.tuple #[.int .i64 c,.int .i64 (p:Nat)])/\w2.grownBy w'' none):=CTF.out w2 F c p HG2.out (by omega) (by omega) hF
   obtain rfl:=hv
   clear h1 h2 hrg CTF CTL hF
   go_wp2_with (first | (go_at_call 16;refine CT.out.mono ?_;rintro e w3 ⟨rfl,hg3⟩))
   refine bodyPost_ret (results_tmp3 (t:=2) (u:=3) (v:=4) rfl _ _ _) rfl ?_
   exact ⟨fun ns' hh=>(by cases hh),fun c' p' hh=>(by injection hh with hh;injection hh with e1 e2;subst e1 e2;rfl),gb_trans HG2.out hg3⟩
theorem stp_er {ns:List Tn} {t p:Nat} {k:List UInt8} {c:Int × Nat} (h:stp ns t k p=.error c):c=(5,p):=by
 unfold stp at h
 split at h
 ·cases h
 ·split at h
  ·cases h
  ·split at h
   ·split at h
    ·cases h
    ·cases h;rfl
   ·cases h;rfl
theorem endT_er {ns:List Tn} {own:List Nat} {t p:Nat} {k:List UInt8} {c:Int × Nat} (h:endT ns own t k p=.error c):c=(5,p):=by
 unfold endT at h
 split at h
 ·cases h
 ·split at h
  ·cases h
  ·cases h;rfl
theorem endL_er {ns:List Tn} {t p:Nat} {k:List UInt8} {c:Int × Nat} (h:endL ns t k p=.error c):c=(5,p):=by
 unfold endL at h
 split at h
 ·cases h
 ·split at h
  ·cases h
  ·cases h;rfl
section
variable {w w':World} {B P P' R:Nat} {s:ByteArray} {now de:Nat} {q:Rs Nat} {ns:List Tn} {own:List Nat}
theorem Dt.toP (h:Dt w B P R s now de q ns own) (hP:P' < B):Dt w B P' R s now de q ns own:=by
 have hb:=h.base
 obtain ⟨h1,h2,N,c,O,oc,xs,ks,h3,h4,h5,h6⟩:=h
 have n1:=(own_typ h5.row (g:=N) rfl).1
 have n2:=(own_typ h5.owr (g:=O) rfl).1
 refine ⟨h1,by omega,N,c,O,oc,xs,ks,by omega,by omega,h5.far2 (by omega) fun i hi e=>?_,h6⟩
 have:=(own_typ (h5.kid i hi) e).1
 omega
theorem DFr.toP (h:DFr B P w w') (hP:P' < B):DFr B P' w w':=⟨h.bel,h.oth,h.bel.block P' hP⟩
theorem Fq.toP {e:Int × Nat} (h:Fq w B P R s now de e) (hP:P' < B):Fq w B P' R s now de e:=by
 obtain ⟨L,O,h1,h2,h3,h4⟩:=h
 obtain ⟨i,er,p,hd⟩:=h1.dd
 have:=blk_lt hd
 exact ⟨L,O,h1,h2,by omega,by omega⟩
end
def ksC (l:List (List UInt8 × Nat)):List Value:=l.map fun x=>.string ⟨x.1.toArray⟩
def plC (l:List (List UInt8 × Nat)):List Value:=l.map fun x=>.int .i64 (x.2:Nat)
theorem ksC_app (l:List (List UInt8 × Nat)) (x:List UInt8 × Nat):ksC (l++[x])=ksC l++[.string ⟨x.1.toArray⟩]:=by simp [ksC]
theorem plC_app (l:List (List UInt8 × Nat)) (x:List UInt8 × Nat):plC (l++[x])=plC l++[.int .i64 (x.2:Nat)]:=by simp [plC]
theorem ksC_at (l:List (List UInt8 × Nat)) (i:Nat) (hi:i < l.length):(ksC l)[i]?=some (.string ⟨l[i].1.toArray⟩):=by simp [ksC,hi]
theorem plC_at (l:List (List UInt8 × Nat)) (i:Nat) (hi:i < l.length):(plC l)[i]?=some (.int .i64 (l[i].2:Nat)):=by simp [plC,hi]
theorem Dt.places {w w':World} {B P R:Nat} {s:ByteArray} {now de j j' g:Nat} {ns:List Tn} {own:List Nat} (h:Dt w B P R s now de (.ok j) ns own) (hg:w.grownBy w' (some R)) (hs:∀L O,Ds w R s L O now de (.ok j)->Ds w' R s L O now de (.ok j')) (h1:w.heap.size<=g) (h2:g < w'.heap.size):Dt w' B g R s now de (.ok j') ns own:=by
 have hb:=h.base
 obtain ⟨a1,a2,N,c,O,oc,xs,ks,a3,a4,a5,a6⟩:=h
 obtain ⟨cn,hn⟩:=(own_typ a5.row (g:=N) rfl).2
 obtain ⟨co,ho⟩:=(own_typ a5.owr (g:=O) rfl).2
 have n1:=blk_lt hn
 have n2:=blk_lt ho
 refine ⟨a1,by omega,N,c,O,oc,xs,ks,by omega,by omega,(a5.keepR a6.2 hg).far2 h2 fun i hi e=>?_,hs _ _ a6⟩
 obtain ⟨cc,hcc⟩:=(own_typ (a5.kid i hi) e).2
 have:=blk_lt hcc
 omega
theorem Ds.uni {w:World} {R:Nat} {s:ByteArray} {L O L' O':Value} {now de i:Nat} (h:Ds w R s L O now de (.ok i)) (h':Ds w R s L' O' now de (.ok i)):L=L'/\O=O':=by
 obtain ⟨-,-,a,b,-⟩:=h.2.cells
 obtain ⟨-,-,a',b',-⟩:=h'.2.cells
 rw [a] at a'
 rw [b] at b'
 exact ⟨Option.some.inj a',Option.some.inj b'⟩
theorem Dt.owns {w:World} {B P R:Nat} {s:ByteArray} {now de j:Nat} {ns:List Tn} {own:List Nat} (h:Dt w B P R s now de (.ok j) ns own) (t:Nat) (ht:t < ns.length):∃O oc v,w.cell? ⟨R,3,none⟩=some (.slice (some ⟨O,0,none⟩) ns.length oc)/\w.cell? ⟨O,t,none⟩=some v/\w.frozen? ⟨O,t,none⟩=false ∧
  (w.setCell ⟨O,t,none⟩ (.bool true)).cell? ⟨R,4,none⟩=some (.int .i64 (now:Nat))/\(w.setCell ⟨O,t,none⟩ (.bool true)).frozen? ⟨R,4,none⟩=false ∧
  Dt ((w.setCell ⟨O,t,none⟩ (.bool true)).setCell ⟨R,4,none⟩ (.int .i64 (t:Nat))) B P R s t de (.ok j) ns (t :: own)/\DFr B P w ((w.setCell ⟨O,t,none⟩ (.bool true)).setCell ⟨R,4,none⟩ (.int .i64 (t:Nat))):=by
 obtain ⟨hb1,hb2,hb3⟩:=h.base
 obtain ⟨h1,h2,N,c,O,oc,xs,ks,h3,h4,h5,h6⟩:=h
 obtain ⟨f1,f2⟩:=h5.flagAt t ht
 obtain ⟨-,-,-,c3,-⟩:=h6.2.cells
 obtain ⟨hOB,cu,hO⟩:=own_typ h5.owr (g:=O) rfl
 have hRO:¬ R=O:=ne_typ h6.2 hO (by decide)
 have m5:=h5.mark t ht
 have d6:=h6.other (gb_setc w O t (.bool true)) hRO
 obtain ⟨-,-,-,-,e4,-,-,-,ef⟩:=d6.2.cells
 have fr1:DFr B P w (w.setCell ⟨O,t,none⟩ (.bool true)):=DFr.row (gb_setc w O t (.bool true)) hb1 hb2 hOB h4 hO (Or.inr (Or.inr (Or.inr rfl)))
 have fr2:DFr B P (w.setCell ⟨O,t,none⟩ (.bool true)) ((w.setCell ⟨O,t,none⟩ (.bool true)).setCell ⟨R,4,none⟩ (.int .i64 (t:Nat))):=dfr_R d6 h1 h2 m5.hP (gb_setc _ R 4 _)
 exact ⟨O,oc,_,c3,f1,f2,e4,ef 4,⟨h1,h2,N,c,O,oc,xs,ks,h3,h4,m5.keepR d6.2 (gb_setc _ R 4 _),d6.setN t⟩,fr1.two fr2⟩
end Go.Proofs.YtbgnflcebafjjaaGreatDoor
