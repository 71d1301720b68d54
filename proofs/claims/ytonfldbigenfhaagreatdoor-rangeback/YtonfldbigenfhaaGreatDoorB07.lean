import Derived.Test.YtonfldbigenfhaaGreatDoorB04
import Derived.Test.YtonfldbigenfhaaGreatDoorB06
import Derived.Test.YtonfldbigenfhaaGreatDoorB02
namespace Go.Proofs.YtonfldbigenfhaaGreatDoor
open Go.RowKit
set_option linter.unusedVariables false
theorem elt_row {w:World} {A t:Nat} {s:Sp} (h:w.heap[A]?=some (.cells #[.int .i64 s.f1,.int .i64 s.f2,.int .i64 s.f3,.string s.f4,.string s.f5,.int .i64 s.t1,.int .i64 s.t2,.int .i64 s.t3,.string s.t4,.string s.t5,.bool s.o] t (0,0))):EltAt w ⟨A,0,none⟩ s :=
 ⟨by rw [Lib.cell_of_heap h];rfl,by rw [Lib.cell_of_heap h];rfl,by rw [Lib.cell_of_heap h];rfl,by rw [Lib.cell_of_heap h];rfl,by rw [Lib.cell_of_heap h];rfl,by rw [Lib.cell_of_heap h];rfl,by rw [Lib.cell_of_heap h];rfl,by rw [Lib.cell_of_heap h];rfl,by rw [Lib.cell_of_heap h];rfl,by rw [Lib.cell_of_heap h];rfl,by rw [Lib.cell_of_heap h];rfl⟩
set_option maxRecDepth 100000 in
set_option maxHeartbeats 1600000 in
theorem psound_at (a:Addr) (cap:Nat) (L:List Sp) (w:World) (hL:L.length < 2 ^ 62) (hcap:L.length<=cap) (h:SpAt w a L) (hsz:∀s ∈ L,smallS s) :
  Calls Tryz.prog 81 #[.slice (some a) L.length cap] w fun e w'=>e=.returned (.bool (L.all soundS))/\w.grownBy w' none:=by
 have HA:Hid (SpAt w a L):=h
 have HS:Hid (∀s ∈ L,smallS s):=hsz
 clear h hsz
 obtain ⟨R,hR⟩:∃R,L.all soundS=R:=⟨_,rfl⟩
 have HR:Hid (L.all soundS=R):=hR
 rw [hR]
 clear hR
 go_enter Tryz.func81,Tryz.ntmps81
 go_wp2
 go_loopw [7] (fun vi wr=>∃i:Nat,vi=.int .i64 i/\i<=L.length/\(∀j (hj:j < L.length),j < i->soundS L[j]=true)/\w.grownBy wr none) (fun vi _=>L.length - (intOf vi).toNat)
 case atStart=>exact ⟨0,rfl,Nat.zero_le _,fun j hj h=>absurd h (by omega),gb_refl _ _⟩
 case round =>
  obtain ⟨i,rfl,hi,hp,hg⟩:=hrel
  have HP:Hid (∀j (hj:j < L.length),j < i->soundS L[j]=true):=hp
  have HG:Hid (w.grownBy wr none):=hg
  clear hp hg
  by_cases hlt:i < L.length
  ·obtain ⟨s,hs⟩:∃s,L[i]=s:=⟨_,rfl⟩
   have HE:Hid (EltAt wr (a.add (i * 11)) s):=by show EltAt wr _ s;rw [<-hs];exact (HA.out i hlt).grow HG.out
   have hm:smallS s:=by rw [<-hs];exact HS.out _ (List.getElem_mem hlt)
   have HSS:Hid (L[i]=s):=hs
   have CF:Hid (∀w,Calls Tryz.prog 40 #[.agg #[.int .i64 s.f1,.int .i64 s.f2,.int .i64 s.f3,.string s.f4,.string s.f5]] w fun e w'=>e=.returned (.bool (soundV (vFrom s)))/\w.grownBy w' none):=fun w=>psound_any s.f1 s.f2 s.f3 s.f4 s.f5 w (by have:=hm.1;omega) (by have:=hm.2.1;omega)
   have CT:Hid (∀w,Calls Tryz.prog 40 #[.agg #[.int .i64 s.t1,.int .i64 s.t2,.int .i64 s.t3,.string s.t4,.string s.t5]] w fun e w'=>e=.returned (.bool (soundV (vTo s)))/\w.grownBy w' none):=fun w=>psound_any s.t1 s.t2 s.t3 s.t4 s.t5 w (by have:=hm.2.2.1;omega) (by have:=hm.2.2.2;omega)
   obtain ⟨x,hx⟩:∃x,soundV (vFrom s)=x:=⟨_,rfl⟩
   obtain ⟨y,hy⟩:∃y,soundV (vTo s)=y:=⟨_,rfl⟩
   rw [hx] at CF
   rw [hy] at CT
   have HXY:Hid (soundS s=(x && (s.o || y))):=by show soundS s=_;unfold soundS;rw [hx,hy]
   clear hx hy hm hs
   obtain ⟨e0,e1,e2,e3,e4,e5,e6,e7,e8,e9,e10⟩:=HE.out
   go_wp2_with (first | (go_at_call 40;refine (CF.out _).mono ?_))
   rintro e w1 ⟨rfl,hg⟩
   obtain ⟨N,hN⟩:∃N,wr.heap.size=N:=⟨_,rfl⟩
   have HE1:Hid (EltAt w1 ⟨N,0,none⟩ s):=by
    refine EltAt.grow ?_ hg
    rw [<-hN]
    exact elt_row (t:=37) (heap_alloc_new wr _)
   replace HG:Hid (w.grownBy w1 none):=gb_trans (gb_alloc HG.out _) hg
   rw [hN]
   clear hN hg e0 e1 e2 e3 e4 e5 e6 e7 e8 e9 e10
   obtain ⟨e0,e1,e2,e3,e4,e5,e6,e7,e8,e9,e10⟩:=HE1.out
   simp only [Nat.zero_add] at e1 e2 e3 e4 e5 e6 e7 e8 e9 e10
   obtain ⟨ob,hob⟩:∃b,s.o=b:=⟨_,rfl⟩
   rw [hob] at e10 HXY
   clear hob
   cases x with
   | false =>
    rw [Bool.false_and] at HXY
    have HRF:Hid (R=false):=by
     show R=false
     rw [<-HR.out,List.all_eq_false]
     exact ⟨L[i],List.getElem_mem hlt,by rw [HSS.out,HXY.out];decide⟩
    clear HXY
    go_wp2
    go_ret
    exact ⟨ret_bool HRF.out.symm,HG.out⟩
   | true =>
    rw [Bool.true_and] at HXY
    cases ob with
    | true =>
     rw [Bool.true_or] at HXY
     have HT:Hid (soundS s=true):=by show soundS s=true;rw [HXY.out]
     clear HXY
     go_wp2
     go_roundw
     case rel =>
      refine ⟨i+1,by go_num,by omega,fun j hj hji=>?_,HG.out⟩
      by_cases hji':j < i
      ·exact HP.out j hj hji'
      ·have e:j=i:=by omega
       subst e
       rw [HSS.out];exact HT.out
     case measure=>simp [intOf];omega
    | false =>
     rw [Bool.false_or] at HXY
     go_wp2_with (first | (go_at_call 40;refine (CT.out _).mono ?_))
     rintro e w2 ⟨rfl,hg⟩
     replace HG:Hid (w.grownBy w2 none):=gb_trans HG.out hg
     clear hg e0 e1 e2 e3 e4 e5 e6 e7 e8 e9 e10
     cases y with
     | true =>
      have HT:Hid (soundS s=true):=by show soundS s=true;rw [HXY.out]
      clear HXY
      go_wp2
      go_roundw
      case rel =>
       refine ⟨i+1,by go_num,by omega,fun j hj hji=>?_,HG.out⟩
       by_cases hji':j < i
       ·exact HP.out j hj hji'
       ·have e:j=i:=by omega
        subst e
        rw [HSS.out];exact HT.out
      case measure=>simp [intOf];omega
     | false =>
      have HRF:Hid (R=false):=by
       show R=false
       rw [<-HR.out,List.all_eq_false]
       exact ⟨L[i],List.getElem_mem hlt,by rw [HSS.out,HXY.out];decide⟩
      clear HXY
      go_wp2
      go_ret
      exact ⟨ret_bool HRF.out.symm,HG.out⟩
  ·have HRT:Hid (R=true):=by
    show R=true
    rw [<-HR.out,List.all_eq_true]
    intro t ht
    obtain ⟨j,hj,rfl⟩:=List.getElem_of_mem ht
    exact HP.out j hj (by omega)
   clear hi
   go_wp2
   go_ret
   exact ⟨ret_bool HRT.out.symm,HG.out⟩
set_option maxHeartbeats 400000 in
theorem psound_nil (w:World):Calls Tryz.prog 81 #[.slice none 0 0] w fun e w'=>e=.returned (.bool true)/\w.grownBy w' none:=by
 go_enter Tryz.func81,Tryz.ntmps81
 go_wp2
 go_loopw [7] (fun vi wr=>vi=.int .i64 0/\w.grownBy wr none) (fun vi _=>0)
 case atStart=>exact ⟨rfl,gb_refl _ _⟩
 case round =>
  obtain ⟨rfl,hg⟩:=hrel
  have HG:Hid (w.grownBy wr none):=hg
  clear hg
  go_wp2
  go_ret
  exact ⟨rfl,HG.out⟩
open Go.RowKit
set_option linter.unusedVariables false
theorem infoSp:(Tryz.prog.info? 37).map (fun i=>(i.zero,i.size,i.bytes))=some (some (.agg #[.int .i64 0,.int .i64 0,.int .i64 0,.string ⟨#[]⟩,.string ⟨#[]⟩,.int .i64 0,.int .i64 0,.int .i64 0,.string ⟨#[]⟩,.string ⟨#[]⟩,.bool false]),11,120):=by kernel_rfl
theorem own_keep {w w':World} {base:Nat} {e:TypeId} {size:Nat} {v:Value} {n:Nat} {xs:List Value} (h:w.ownsRow base e size v n xs) (hg:w.grownBy w' none):w'.ownsRow base e size v n xs :=
 h.kept hg (by cases v.ownBlock <;> simp)
theorem news_one (s:Sp):∀u ∈ spC s,u.oneCell'=true:=by
 intro u hu
 simp only [spC,List.mem_cons,List.not_mem_nil,or_false] at hu
 rcases hu with rfl | rfl | rfl | rfl | rfl | rfl | rfl | rfl | rfl | rfl | rfl <;> rfl
theorem cell_lt {w:World} {a:Addr} {v:Value} (h:w.cell? a=some v):a.block < w.heap.size:=by
 unfold World.cell? at h
 cases hb:w.heap[a.block]? with
 | none=>rw [hb] at h;simp at h
 | some o=>exact (Array.getElem?_eq_some_iff.1 hb).1
theorem below_gbn {B:Nat} {a w w':World} (h:Below B a w) (hB:B<=w.heap.size) (hg:w.grownBy w' none):Below B a w' :=
 ⟨hg.os.trans h.os,hg.tape.trans h.tape,hg.output.trans h.output,Nat.le_trans h.size hg.size,fun k hk=>(hg.block k (Nat.lt_of_lt_of_le hk hB) (by simp)).trans (h.block k hk)⟩
open Go.RowKit
set_option linter.unusedVariables false
set_option maxRecDepth 100000 in
set_option maxHeartbeats 1600000 in
theorem equal_at (a b:Addr) (capa capb:Nat) (L:List Sp) (w:World) (hL:L.length < 2 ^ 62) (ha:L.length<=capa) (hb:L.length<=capb) (h:SpAt w a L) (h':SpAt w b L) :
  Calls Tryz.prog 16 #[.slice (some a) L.length capa,.slice (some b) L.length capb] w fun e w'=>e=.returned (.bool true)/\w.grownBy w' none:=by
 have HA:Hid (SpAt w a L):=h
 have HB:Hid (SpAt w b L):=h'
 clear h h'
 go_enter Tryz.func16,Tryz.ntmps16
 go_wp2
 go_loopw [5] (fun vi wr=>∃i:Nat,vi=.int .i64 i/\i<=L.length/\w.grownBy wr none) (fun vi _=>L.length - (intOf vi).toNat)
 case atStart=>exact ⟨0,rfl,Nat.zero_le _,gb_refl _ _⟩
 case round =>
  obtain ⟨i,rfl,hi,hg⟩:=hrel
  have HG:Hid (w.grownBy wr none):=hg
  clear hg
  by_cases hlt:i < L.length
  ·obtain ⟨s,hs⟩:∃s,L[i]=s:=⟨_,rfl⟩
   have HE:Hid (EltAt wr (a.add (i * 11)) s):=by show EltAt wr _ s;rw [<-hs];exact (HA.out i hlt).grow HG.out
   have HF:Hid (EltAt wr (b.add (i * 11)) s):=by show EltAt wr _ s;rw [<-hs];exact (HB.out i hlt).grow HG.out
   clear hs
   obtain ⟨e0,e1,e2,e3,e4,e5,e6,e7,e8,e9,e10⟩:=HE.out
   obtain ⟨f0,f1,f2,f3,f4,f5,f6,f7,f8,f9,f10⟩:=HF.out
   have q1:(s.f4.toList == s.f4.toList)=true:=by simp
   have q2:(s.f5.toList == s.f5.toList)=true:=by simp
   have q3:(s.t4.toList == s.t4.toList)=true:=by simp
   have q4:(s.t5.toList == s.t5.toList)=true:=by simp
   go_wp2
   go_quiet (fail)
   go_wp2
   go_roundw
   case rel=>exact ⟨i+1,by go_num,by omega,gb_drew HG.out _⟩
   case measure=>simp [intOf];omega
  ·clear hi
   go_wp2
   go_ret
   exact ⟨rfl,HG.out⟩
set_option maxHeartbeats 400000 in
theorem equal_nil (x y:Option Addr) (c d:Nat) (w:World):Calls Tryz.prog 16 #[.slice x 0 c,.slice y 0 d] w fun e w'=>e=.returned (.bool true)/\w.grownBy w' none:=by
 go_enter Tryz.func16,Tryz.ntmps16
 go_wp2
 go_loopw [5] (fun vi wr=>vi=.int .i64 0/\w.grownBy wr none) (fun vi _=>0)
 case atStart=>exact ⟨rfl,gb_refl _ _⟩
 case round =>
  obtain ⟨rfl,hg⟩:=hrel
  have HG:Hid (w.grownBy wr none):=hg
  clear hg
  go_wp2
  go_ret
  exact ⟨rfl,HG.out⟩
open Go.RowKit
set_option linter.unusedVariables false
def SpS (w:World) (sl:Value) (L:List Sp):Prop:=(sl=.slice none 0 0/\L=[])\/∃a cap,sl=.slice (some a) L.length cap/\L.length<=cap/\SpAt w a L
theorem SpS.grow {w w':World} {sl:Value} {L:List Sp} (h:SpS w sl L) (hg:w.grownBy w' none):SpS w' sl L:=by
 rcases h with h | ⟨a,cap,h1,h2,h3⟩
 ·exact Or.inl h
 ·exact Or.inr ⟨a,cap,h1,h2,h3.grow hg⟩
theorem flat_get (L:List Sp):∀(i:Nat) (hi:i < L.length) (k:Nat) (v:Value),(spC L[i])[k]?=some v->(L.flatMap spC)[i * 11+k]?=some v:=by
 induction L with
 | nil=>intro i hi;simp at hi
 | cons s L ih =>
  intro i hi k v h
  rw [List.flatMap_cons]
  have hl:(spC s).length=11:=rfl
  cases i with
  | zero =>
   simp only [List.getElem_cons_zero] at h
   have hk:k < (spC s).length:=(List.getElem?_eq_some_iff.1 h).1
   rw [Nat.zero_mul,Nat.zero_add,List.getElem?_append_left hk]
   exact h
  | succ i =>
   simp only [List.getElem_cons_succ] at h
   rw [List.getElem?_append_right (by rw [hl];omega),hl,show (i+1) * 11+k - 11=i * 11+k by omega]
   exact ih i (by simpa using hi) k v h
theorem sps_own {w:World} {base:Nat} {v:Value} {L:List Sp} (h:w.ownsRow base 37 11 v L.length (L.flatMap spC)):SpS w v L:=by
 rcases h.2 with ⟨h1,h2⟩ | ⟨g,cap,cur,h1,hb,hg,hn,hm,hs,ht⟩
 ·exact Or.inl ⟨h1,List.length_eq_zero_iff.1 h2⟩
 ·refine Or.inr ⟨⟨g,0,none⟩,cap,h1,hn,fun i hi=>elt_of_cells fun k u hu=>?_⟩
  have:=flat_get L i hi k u hu
  exact h.cells (g:=g) (by rw [h1];rfl) (i * 11+k) u this
theorem cSoundP (sl:Value) (L:List Sp) (w:World) (h:SpS w sl L) (hL:L.length<=1048576) (hsz:∀s ∈ L,smallS s) :
  Calls Tryz.prog 81 #[sl] w fun e w'=>e=.returned (.bool (L.all soundS))/\w.grownBy w' none:=by
 rcases h with ⟨rfl,rfl⟩ | ⟨a,cap,rfl,h2,h3⟩
 ·exact psound_nil w
 ·exact psound_at a cap L w (by omega) h2 h3 hsz
theorem cEqual (sl sm:Value) (L:List Sp) (w:World) (h:SpS w sl L) (h':SpS w sm L) (hL:L.length<=1048576) :
  Calls Tryz.prog 16 #[sl,sm] w fun e w'=>e=.returned (.bool true)/\w.grownBy w' none:=by
 rcases h with ⟨rfl,rfl⟩ | ⟨a,cap,rfl,h2,h3⟩
 ·rcases h' with ⟨rfl,_⟩ | ⟨b,cap',rfl,h4,h5⟩
  ·exact equal_nil _ _ _ _ w
  ·exact equal_nil _ _ _ _ w
 ·rcases h' with ⟨rfl,rfl⟩ | ⟨b,cap',rfl,h4,h5⟩
  ·exact equal_nil _ _ _ _ w
  ·exact equal_at a b cap cap' L w (by omega) h2 h4 h3 h5
set_option linter.unusedVariables false
theorem v_self (a:V):verC a a=0:=good_ver.self a
theorem v_anti (a b:V):verC b a=- verC a b:=good_ver.anti a b
theorem v_le_trans {a b d:V} (h1:verC a b<=0) (h2:verC b d<=0):verC a d<=0:=(good_ver.trans a b d h1 h2).1
theorem v_lt_le {a b d:V} (h1:verC a b < 0) (h2:verC b d<=0):verC a d < 0:=by
 have h:=good_ver.trans a b d (by omega) h2
 have:verC a d ≠ 0:=fun e=>by have:=h.2.2 e;omega
 omega
theorem v_le_lt {a b d:V} (h1:verC a b<=0) (h2:verC b d < 0):verC a d < 0:=by
 have h:=good_ver.trans a b d h1 (by omega)
 have:verC a d ≠ 0:=fun e=>by have:=h.2.2 e;omega
 omega
theorem v_lt_trans {a b d:V} (h1:verC a b < 0) (h2:verC b d < 0):verC a d < 0:=v_lt_le h1 (by omega)
def tog (h:V->Bool):Bool->List V->List V
 | _,[]=>[]
 | on,p :: ps=>if h p=on then tog h on ps else p :: tog h (h p) ps
inductive Sub (h:V->Bool):Bool->List V->List V->Prop
 | nil (on:Bool):Sub h on [] []
 | both {on:Bool} {p:V} {D P:List V}:Sub h (h p) D P->Sub h on (p :: D) (p :: P)
 | skip {on:Bool} {p:V} {D P:List V}:h p=on->Sub h on D P->Sub h on (p :: D) P
theorem tog_sub {h:V->Bool} {on:Bool} {D P:List V} (s:Sub h on D P):tog h on D=tog h on P:=by
 induction s with
 | nil=>rfl
 | @both on p D P _ ih =>
  unfold tog
  by_cases hp:h p=on
  ·rw [if_pos hp,if_pos hp];rw [hp] at ih;exact ih
  ·rw [if_neg hp,if_neg hp,ih]
 | @skip on p D P hp _ ih =>
  rw [tog,if_pos hp];exact ih
def Rising (l:List V):Prop:=l.Pairwise fun a b=>verC a b < 0
theorem sub_rising (h:V->Bool):∀(D P:List V) (y:Option V) (on:Bool),
  Rising D->Rising P->(∀p ∈ P,p ∈ D)->(∀z,y=some z->(∀p ∈ D,verC z p < 0)/\on=h z)->(y=none->on=false) →
  (∀x,x ∈ D->x ∉ P->(∀p ∈ P,verC x p < 0)->h x=on) →
  (∀x z,x ∈ D->x ∉ P->z ∈ P->verC z x < 0->(∀p ∈ P,verC z p < 0->verC x p < 0)->h x=h z)->Sub h on D P
 | [],P,y,on,hD,hP,hs,hy,hn,h0,h1=>by
  cases P with
  | nil=>exact Sub.nil on
  | cons p P=>exact absurd (hs p (by simp)) (by simp)
 | d :: D,P,y,on,hD,hP,hs,hy,hn,h0,h1=>by
  have hDd:=(List.pairwise_cons.1 hD).1
  have hDr:=(List.pairwise_cons.1 hD).2
  by_cases hd:d ∈ P
  ·cases P with
   | nil=>simp at hd
   | cons p P =>
    have hPp:=(List.pairwise_cons.1 hP).1
    have hPr:=(List.pairwise_cons.1 hP).2
    have hpd:p=d:=by
     rcases List.mem_cons.1 hd with e | e
     ·exact e.symm
     ·exfalso
      have a1:=hPp d e
      rcases List.mem_cons.1 (hs p (by simp)) with e2 | e2
      ·rw [e2,v_self] at a1;omega
      ·have a2:=hDd p e2
       have:=v_anti p d;omega
    subst hpd
    refine Sub.both (sub_rising h D P (some p) (h p) hDr hPr ?_ (fun z e=>by cases e;exact ⟨hDd,rfl⟩) (fun e=>by cases e) ?_ ?_)
    ·intro q hq
     rcases List.mem_cons.1 (hs q (by simp [hq])) with e | e
     ·exfalso;have:=hPp q hq;rw [e,v_self] at this;omega
     ·exact e
    ·intro x hx hxP hlt
     refine h1 x p (by simp [hx]) ?_ (by simp) (hDd x hx) ?_
     ·intro e
      rcases List.mem_cons.1 e with e | e
      ·have:=hDd x hx;rw [e,v_self] at this;omega
      ·exact hxP e
     ·intro q hq hpq
      rcases List.mem_cons.1 hq with e | e
      ·rw [e,v_self] at hpq;omega
      ·exact hlt q e
    ·intro x z hx hxP hz hzx hall
     refine h1 x z (by simp [hx]) ?_ (by simp [hz]) hzx ?_
     ·intro e
      rcases List.mem_cons.1 e with e | e
      ·have:=hDd x hx;rw [e,v_self] at this;omega
      ·exact hxP e
     ·intro q hq hzq
      rcases List.mem_cons.1 hq with e | e
      ·have:=hPp z hz;rw [e] at hzq;have:=v_anti p z;omega
      ·exact hall q e hzq
  ·have hall:∀p ∈ P,verC d p < 0:=fun p hp=>by
    rcases List.mem_cons.1 (hs p hp) with e | e
    ·exact absurd (e ▸ hp) hd
    ·exact hDd p e
   refine Sub.skip (h0 d (by simp) hd hall) (sub_rising h D P y on hDr hP ?_ (fun z e=>⟨fun p hp=>(hy z e).1 p (by simp [hp]),(hy z e).2⟩) hn ?_ ?_)
   ·intro q hq
    rcases List.mem_cons.1 (hs q hq) with e | e
    ·exact absurd (e ▸ hq) hd
    ·exact e
   ·intro x hx hxP hlt
    exact h0 x (by simp [hx]) hxP hlt
   ·intro x z hx hxP hz hzx hall'
    exact h1 x z (by simp [hx]) hxP hz hzx hall'
set_option linter.unusedVariables false
structure Ed where
 at_:V
 l:Nat
 d:Int
def upd (b:Nat->Int) (l:Nat) (d:Int):Nat->Int:=fun j=>if j=l then b j+d else b j
def tot:List Ed->Nat->Int
 | [],_=>0
 | e :: r,j=>(if j=e.l then e.d else 0)+tot r j
def sumB:List Ed->Nat->V->Int
 | [],_,_=>0
 | e :: r,j,x=>(if j=e.l/\verC e.at_ x<=0 then e.d else 0)+sumB r j x
def nextSame (e:Ed):List Ed->Bool
 | []=>false
 | e' :: _=>decide (verC e.at_ e'.at_=0)
def swT (wt:(Nat->Int)->Bool):(Nat->Int)->Bool->List Ed->List V
 | _,_,[]=>[]
 | b,on,e :: r =>
  if nextSame e r=true then swT wt (upd b e.l e.d) on r
  else if wt (upd b e.l e.d)=on then swT wt (upd b e.l e.d) on r
  else e.at_ :: swT wt (upd b e.l e.d) (wt (upd b e.l e.d)) r
def poss:List Ed->List V
 | []=>[]
 | e :: r=>if nextSame e r=true then poss r else e.at_ :: poss r
def SortedE (E:List Ed):Prop:=E.Pairwise fun a b=>verC a.at_ b.at_<=0
theorem tot_app (A B:List Ed) (j:Nat):tot (A++B) j=tot A j+tot B j:=by
 induction A with
 | nil=>simp [tot]
 | cons e A ih=>simp only [List.cons_append,tot,ih];omega
theorem sumB_app (A B:List Ed) (j:Nat) (x:V):sumB (A++B) j x=sumB A j x+sumB B j x:=by
 induction A with
 | nil=>simp [sumB]
 | cons e A ih=>simp only [List.cons_append,sumB,ih];omega
theorem sumB_all (A:List Ed) (j:Nat) (x:V) (h:∀e ∈ A,verC e.at_ x<=0):sumB A j x=tot A j:=by
 induction A with
 | nil=>rfl
 | cons e A ih =>
  have he:=h e (by simp)
  simp only [sumB,tot,ih (fun e' h'=>h e' (by simp [h'])),he,and_true]
theorem sumB_none (A:List Ed) (j:Nat) (x:V) (h:∀e ∈ A,¬ verC e.at_ x<=0):sumB A j x=0:=by
 induction A with
 | nil=>rfl
 | cons e A ih =>
  have he:=h e (by simp)
  simp only [sumB,ih (fun e' h'=>h e' (by simp [h'])),he,and_false,if_false]
  omega
theorem sumB_congr (A:List Ed) (j:Nat) (x y:V) (h:∀e ∈ A,verC e.at_ x<=0 ↔ verC e.at_ y<=0):sumB A j x=sumB A j y:=by
 induction A with
 | nil=>rfl
 | cons e A ih =>
  have he:=h e (by simp)
  simp only [sumB,ih (fun e' h'=>h e' (by simp [h'])),he]
theorem behind_all {e:Ed} {r:List Ed} (hs:SortedE (e :: r)) (hn:¬ nextSame e r=true):∀e' ∈ r,verC e.at_ e'.at_ < 0:=by
 cases r with
 | nil=>intro e' h;simp at h
 | cons f r =>
  have h1:=(List.pairwise_cons.1 hs).1
  have h2:=(List.pairwise_cons.1 (List.pairwise_cons.1 hs).2).1
  have hf:verC e.at_ f.at_ < 0:=by
   have a1:=h1 f (by simp)
   have a2:verC e.at_ f.at_ ≠ 0:=fun e0=>hn (by simp [nextSame,e0])
   omega
  intro e' he'
  rcases List.mem_cons.1 he' with rfl | he'
  ·exact hf
  ·exact v_lt_le hf (h2 e' he')
theorem swT_tog (wt:(Nat->Int)->Bool) (E:List Ed) (h:V->Bool) (hh:∀x,h x=wt (fun j=>sumB E j x)) (hs:SortedE E) :
  ∀(r pre:List Ed) (on:Bool),E=pre++r->swT wt (fun j=>tot pre j) on r=tog h on (poss r)
 | [],pre,on,hE=>rfl
 | e :: r,pre,on,hE=>by
  have hE':E=(pre++[e])++r:=by rw [hE];simp
  have hb:upd (fun j=>tot pre j) e.l e.d=fun j=>tot (pre++[e]) j:=by
   funext j
   rw [tot_app]
   unfold upd
   by_cases hj:j=e.l
   ·simp [tot,hj]
   ·simp [tot,hj]
  have ih:=fun on=>swT_tog wt E h hh hs r (pre++[e]) on hE'
  unfold swT poss
  rw [hb]
  by_cases hn:nextSame e r=true
  ·rw [if_pos hn,if_pos hn];exact ih on
  ·rw [if_neg hn,if_neg hn]
   have hw:wt (fun j=>tot (pre++[e]) j)=h e.at_:=by
    rw [hh]
    congr 1
    funext j
    rw [hE',sumB_app]
    have hsr:SortedE (e :: r):=by rw [hE] at hs;exact (List.pairwise_append.1 hs).2.1
    have hpre:∀e' ∈ pre++[e],verC e'.at_ e.at_<=0:=by
     intro e' he'
     rcases List.mem_append.1 he' with h1 | h1
     ·rw [hE] at hs;exact (List.pairwise_append.1 hs).2.2 e' h1 e (by simp)
     ·simp at h1;rw [h1,v_self];omega
    have hr:=behind_all hsr hn
    rw [sumB_all _ j _ hpre,sumB_none r j _ (fun e' he'=>by have:=hr e' he';have:=v_anti e.at_ e'.at_;omega)]
    omega
   rw [hw]
   unfold tog
   by_cases ho:h e.at_=on
   ·rw [if_pos ho,if_pos ho];exact ih on
   ·rw [if_neg ho,if_neg ho,ih]
theorem poss_mem (E:List Ed) (hs:SortedE E):(∀p ∈ poss E,∃e ∈ E,e.at_=p)/\(∀e ∈ E,∃p ∈ poss E,verC e.at_ p=0):=by
 induction E with
 | nil=>exact ⟨by simp [poss],by simp⟩
 | cons e r ih =>
  obtain ⟨i1,i2⟩:=ih (List.pairwise_cons.1 hs).2
  unfold poss
  by_cases hn:nextSame e r=true
  ·rw [if_pos hn]
   refine ⟨fun p hp=>?_,fun e' he'=>?_⟩
   ·obtain ⟨e',h1,h2⟩:=i1 p hp;exact ⟨e',by simp [h1],h2⟩
   ·rcases List.mem_cons.1 he' with rfl | he'
    ·cases r with
     | nil=>simp [nextSame] at hn
     | cons f r =>
      have hf:verC e'.at_ f.at_=0:=by simpa [nextSame] using hn
      obtain ⟨p,hp,h0⟩:=i2 f (by simp)
      exact ⟨p,hp,by have:=(good_ver.trans e'.at_ f.at_ p (by omega) (by omega)).2.1 ⟨hf,h0⟩;exact this⟩
    ·exact i2 e' he'
  ·rw [if_neg hn]
   refine ⟨fun p hp=>?_,fun e' he'=>?_⟩
   ·rcases List.mem_cons.1 hp with rfl | hp
    ·exact ⟨e,by simp,rfl⟩
    ·obtain ⟨e',h1,h2⟩:=i1 p hp;exact ⟨e',by simp [h1],h2⟩
   ·rcases List.mem_cons.1 he' with rfl | he'
    ·exact ⟨e'.at_,by simp,v_self _⟩
    ·obtain ⟨p,hp,h0⟩:=i2 e' he';exact ⟨p,by simp [hp],h0⟩
theorem poss_rising (E:List Ed) (hs:SortedE E):Rising (poss E):=by
 induction E with
 | nil=>exact List.Pairwise.nil
 | cons e r ih =>
  have hr:=(List.pairwise_cons.1 hs).2
  unfold poss
  by_cases hn:nextSame e r=true
  ·rw [if_pos hn];exact ih hr
  ·rw [if_neg hn]
   refine List.pairwise_cons.2 ⟨fun p hp=>?_,ih hr⟩
   obtain ⟨e',h1,rfl⟩:=(poss_mem r hr).1 p hp
   exact behind_all hs hn e' h1
set_option linter.unusedVariables false
def joinD:List (List UInt8)->List UInt8
 | []=>[]
 | [p]=>p
 | p :: q :: r=>p++46 :: joinD (q :: r)
theorem join_split (l:List UInt8):joinD (splitD l)=l:=by
 induction l with
 | nil=>rfl
 | cons c l ih =>
  rw [splitD_cons]
  cases hs:splitD l with
  | nil=>exact absurd hs (splitD_ne l)
  | cons p r =>
   rw [hs] at ih
   by_cases hc:c=46
   ·rw [if_pos hc]
    simp only [joinD,List.nil_append]
    rw [ih,hc]
   ·rw [if_neg hc]
    cases r with
    | nil=>simp only [joinD] at ih ⊢;rw [ih]
    | cons q r=>simp only [joinD,List.cons_append] at ih ⊢;rw [ih]
theorem bytes_zero:∀(a b:List UInt8),Lib.compareBytes a b=0->a=b
 | [],[],_=>rfl
 | [],_ :: _,h=>by simp [Lib.compareBytes] at h
 | _ :: _,[],h=>by simp [Lib.compareBytes] at h
 | x :: a,y :: b,h=>by
  rw [bytes_list] at h
  unfold listC at h
  have hc:byteC x y=0:=by
   by_cases h0:byteC x y=0
   ·exact h0
   ·rw [if_neg h0] at h;exact h
  simp only [hc,if_true] at h
  rw [<-bytes_list] at h
  have e1:x=y:=by
   unfold byteC at hc
   have:=cmp_zero.1 hc
   exact UInt8.toNat_inj.1 (by omega)
  rw [e1,bytes_zero a b h]
theorem bare_head {c:UInt8} {r:List UInt8} (h:c ≠ 48):bareT (c :: r)=c :: r:=by
 unfold bareT Lib.trimLeftB
 rw [List.dropWhile_cons]
 have:(c == 48)=false:=by simpa using h
 rw [this];simp
theorem bare_inj {p q:List UInt8} (hp:okPart true p=true) (hq:okPart true q=true) (np:numT p=true) (nq:numT q=true) (h:bareT p=bareT q):p=q:=by
 have key:∀p:List UInt8,okPart true p=true->numT p=true->(p=[48]/\bareT p=[])\/(bareT p=p/\p ≠ []/\p ≠ [48]):=by
  intro p hp np
  unfold numT at np
  simp only [Bool.and_eq_true,Bool.not_eq_true'] at np
  cases p with
  | nil=>simp at np
  | cons c r =>
   by_cases hc:c=48
   ·subst hc
    cases r with
    | nil=>exact Or.inl ⟨rfl,by decide⟩
    | cons d r =>
     exfalso
     unfold okPart badZ at hp
     rw [np.2] at hp
     simp at hp
   ·exact Or.inr ⟨bare_head hc,by simp,fun e=>hc (by injection e)⟩
 rcases key p hp np with ⟨e1,e2⟩ | ⟨e1,e2,e3⟩ <;> rcases key q hq nq with ⟨f1,f2⟩ | ⟨f1,f2,f3⟩
 ·rw [e1,f1]
 ·rw [e2,f1] at h;exact absurd h.symm f2
 ·rw [e1,f2] at h;exact absurd h e2
 ·rw [e1,f1] at h;exact h
theorem part_one {p q:List UInt8} (hp:okPart true p=true) (hq:okPart true q=true) (h:partC p q=0):p=q:=by
 cases np:numT p with
 | true =>
  cases nq:numT q with
  | true =>
   rw [partC_nn np nq] at h
   split at h
   ·exact bare_inj hp hq np nq (bytes_zero _ _ h)
   ·rename_i hl;exact absurd (cmp_zero.1 h) hl
  | false=>rw [partC_nw np nq] at h;exact absurd h (by decide)
 | false =>
  cases nq:numT q with
  | true=>rw [partC_wn np nq] at h;exact absurd h (by decide)
  | false=>rw [partC_ww np nq] at h;exact bytes_zero _ _ h
theorem parts_one:∀(A B:List (List UInt8)),A.all (okPart true)=true->B.all (okPart true)=true->listC partC A B=0->A=B
 | [],[],_,_,_=>rfl
 | [],_ :: _,_,_,h=>by simp [listC] at h
 | _ :: _,[],_,_,h=>by simp [listC] at h
 | p :: A,q :: B,ha,hb,h=>by
  simp only [List.all_cons,Bool.and_eq_true] at ha hb
  unfold listC at h
  by_cases h0:partC p q=0
  ·rw [if_pos h0] at h
   rw [part_one ha.1 hb.1 h0,parts_one A B ha.2 hb.2 h]
  ·rw [if_neg h0] at h;exact absurd h h0
theorem pre_one {a b:List UInt8} (ha:okParts true a=true) (hb:okParts true b=true) (h:preC a b=0):a=b:=by
 by_cases h0:a=[]\/b=[]
 ·rw [pre_empty a b h0] at h
  have:=cmp_zero.1 h
  rcases h0 with rfl | rfl
  ·simp at this;rw [this]
  ·simp at this;exact List.length_eq_zero_iff.1 (by omega)
 ·have hna:a ≠ []:=fun e=>h0 (Or.inl e)
  have hnb:b ≠ []:=fun e=>h0 (Or.inr e)
  rw [pre_full a b hna hnb] at h
  have:=parts_one _ _ (okParts_split ha hna) (okParts_split hb hnb) h
  rw [<-join_split a,<-join_split b,this]
theorem ver_one {a b:V} (ha:okParts true a.pre=true) (hb:okParts true b.pre=true) (h:verC a b=0):a=b:=by
 rw [verC_eq] at h
 split at h
 ·rename_i e1
  split at h
  ·rename_i e2
   split at h
   ·rename_i e3
    have h1:=cmp_zero.1 e1
    have h2:=cmp_zero.1 e2
    have h3:=cmp_zero.1 e3
    have h4:=pre_one ha hb h
    cases a;cases b
    simp only at h1 h2 h3 h4
    rw [h1,h2,h3,h4]
   ·rename_i e3;exact absurd h e3
  ·rename_i e2;exact absurd h e2
 ·rename_i e1;exact absurd h e1
def insV (v:V):List V->List V
 | []=>[v]
 | x :: l=>if verC v x=0 then x :: l else if verC v x < 0 then v :: x :: l else x :: insV v l
theorem ins_mem (v:V):∀(l:List V) (d:V),d ∈ insV v l->d=v\/d ∈ l
 | [],d,h=>by simp [insV] at h;exact Or.inl h
 | x :: l,d,h=>by
  unfold insV at h
  split at h
  ·exact Or.inr h
  ·split at h
   ·rcases List.mem_cons.1 h with e | e
    ·exact Or.inl e
    ·exact Or.inr e
   ·rcases List.mem_cons.1 h with e | e
    ·exact Or.inr (by simp [e])
    ·rcases ins_mem v l d e with e | e
     ·exact Or.inl e
     ·exact Or.inr (by simp [e])
theorem ins_old (v:V):∀(l:List V) (d:V),d ∈ l->d ∈ insV v l
 | [],d,h=>by simp at h
 | x :: l,d,h=>by
  unfold insV
  split
  ·exact h
  ·split
   ·exact List.mem_cons_of_mem _ h
   ·rcases List.mem_cons.1 h with e | e
    ·simp [e]
    ·exact List.mem_cons_of_mem _ (ins_old v l d e)
theorem ins_new (v:V):∀(l:List V),∃d ∈ insV v l,verC v d=0
 | []=>⟨v,by simp [insV],v_self v⟩
 | x :: l=>by
  unfold insV
  split
  ·rename_i h;exact ⟨x,by simp,h⟩
  ·split
   ·exact ⟨v,by simp,v_self v⟩
   ·obtain ⟨d,hd,h⟩:=ins_new v l
    exact ⟨d,by simp [hd],h⟩
theorem ins_rising (v:V):∀(l:List V),Rising l->Rising (insV v l)
 | [],_=>by simp [insV,Rising]
 | x :: l,h=>by
  have h1:=(List.pairwise_cons.1 h).1
  have h2:=(List.pairwise_cons.1 h).2
  unfold insV
  split
  ·exact h
  ·split
   ·rename_i h0 hlt
    refine List.pairwise_cons.2 ⟨fun d hd=>?_,h⟩
    rcases List.mem_cons.1 hd with e | e
    ·rw [e];exact hlt
    ·exact v_lt_trans hlt (h1 d e)
   ·rename_i h0 hge
    refine List.pairwise_cons.2 ⟨fun d hd=>?_,ins_rising v l h2⟩
    rcases ins_mem v l d hd with e | e
    ·rw [e];have:=v_anti x v;omega
    ·exact h1 d e
end Go.Proofs.YtonfldbigenfhaaGreatDoor
