import Derived.Test.YtonfldbigenfhaaGreatDoorM35
import Derived.Test.YtonfldbigenfhaaGreatDoorM36
import Derived.Test.YtonfldbigenfhaaGreatDoorM04
import Derived.Test.YtonfldbigenfhaaGreatDoorM23
import Derived.Test.YtonfldbigenfhaaGreatDoorRows
import Derived.ProofKit
import Derived.OpenShut
import Derived.ShutString
import Derived.SizedLaws
import Derived.Lib.SmallJoins
namespace Go.Proofs.YtonfldbigenfhaaGreatDoor
open Go.RowKit
set_option linter.unusedVariables false
theorem keep13 {p0 p1 p2 p3 p4 p5 p6 p7 p8 p9 p10 p11 p12:Addr} {c0 c1 c2 c3 c4 c5 c6 c7 c8 c9 c10 c11 c12:Value} {w w':World} (hg:w.grownBy w' none) (h:w.cell? p0=some c0/\w.cell? p1=some c1/\w.cell? p2=some c2/\w.cell? p3=some c3/\w.cell? p4=some c4/\w.cell? p5=some c5/\w.cell? p6=some c6/\w.cell? p7=some c7/\w.cell? p8=some c8/\w.cell? p9=some c9/\w.cell? p10=some c10/\w.cell? p11=some c11/\w.cell? p12=some c12):w'.cell? p0=some c0/\w'.cell? p1=some c1/\w'.cell? p2=some c2/\w'.cell? p3=some c3/\w'.cell? p4=some c4/\w'.cell? p5=some c5/\w'.cell? p6=some c6/\w'.cell? p7=some c7/\w'.cell? p8=some c8/\w'.cell? p9=some c9/\w'.cell? p10=some c10/\w'.cell? p11=some c11/\w'.cell? p12=some c12:=by
 obtain ⟨h0,h1,h2,h3,h4,h5,h6,h7,h8,h9,h10,h11,h12⟩:=h
 exact ⟨hg.cell h0 (by simp),hg.cell h1 (by simp),hg.cell h2 (by simp),hg.cell h3 (by simp),hg.cell h4 (by simp),hg.cell h5 (by simp),hg.cell h6 (by simp),hg.cell h7 (by simp),hg.cell h8 (by simp),hg.cell h9 (by simp),hg.cell h10 (by simp),hg.cell h11 (by simp),hg.cell h12 (by simp)⟩
def TqAt (w:World) (p:Addr) (x:Tq):Prop:=w.cell? p=some (.int .i64 x.sg)/\w.cell? ⟨p.block,p.off+1,none⟩=some (.int .i64 x.m)/\w.cell? ⟨p.block,p.off+2,none⟩=some (.int .i64 x.a)/\w.cell? ⟨p.block,p.off+3,none⟩=some (.int .i64 x.b)/\w.cell? ⟨p.block,p.off+4,none⟩=some (.int .i64 x.c)/\w.cell? ⟨p.block,p.off+5,none⟩=some (.string x.p)/\w.cell? ⟨p.block,p.off+6,none⟩=some (.string x.q)
theorem TqAt.grow {w w':World} {p:Addr} {x:Tq} (h:TqAt w p x) (hg:w.grownBy w' none):TqAt w' p x:=by
 obtain ⟨h0,h1,h2,h3,h4,h5,h6⟩:=h
 exact ⟨hg.cell h0 (by simp),hg.cell h1 (by simp),hg.cell h2 (by simp),hg.cell h3 (by simp),hg.cell h4 (by simp),hg.cell h5 (by simp),hg.cell h6 (by simp)⟩
theorem tq_of_cells {w:World} {a:Addr} {n:Nat} {s:Tq} (h:∀k v,(tqC s)[k]?=some v->w.cell? (a.add (n+k))=some v):TqAt w (a.add n) s :=
 ⟨by have:=h 0 _ rfl;simpa using this,by have:=h 1 _ rfl;rw [add_off a n 1 (by omega)] at this;exact this,by have:=h 2 _ rfl;rw [add_off a n 2 (by omega)] at this;exact this,by have:=h 3 _ rfl;rw [add_off a n 3 (by omega)] at this;exact this,by have:=h 4 _ rfl;rw [add_off a n 4 (by omega)] at this;exact this,by have:=h 5 _ rfl;rw [add_off a n 5 (by omega)] at this;exact this,by have:=h 6 _ rfl;rw [add_off a n 6 (by omega)] at this;exact this⟩
def TsAt (w:World) (sl:Value) (L:List Tq):Prop:=(sl=.slice none 0 0/\L=[])\/∃a cap,sl=.slice (some a) L.length cap/\L.length<=cap/\∀k (hk:k < L.length),TqAt w (a.add (k * 7)) L[k]
theorem TsAt.grow {w w':World} {sl:Value} {L:List Tq} (h:TsAt w sl L) (hg:w.grownBy w' none):TsAt w' sl L:=by
 rcases h with h | ⟨a,cap,h1,h2,h3⟩
 ·exact Or.inl h
 ·exact Or.inr ⟨a,cap,h1,h2,fun k hk=>(h3 k hk).grow hg⟩
def SsAt (w:World) (sv:Value) (A:List (List Tq)):Prop:=(sv=.slice none 0 0/\A=[])\/∃a cap,sv=.slice (some a) A.length cap/\A.length<=cap/\∀i (hi:i < A.length),∃sl,w.cell? (a.add i)=some sl/\TsAt w sl A[i]
theorem SsAt.grow {w w':World} {sv:Value} {A:List (List Tq)} (h:SsAt w sv A) (hg:w.grownBy w' none):SsAt w' sv A:=by
 rcases h with h | ⟨a,cap,h1,h2,h3⟩
 ·exact Or.inl h
 ·exact Or.inr ⟨a,cap,h1,h2,fun k hk=>by obtain ⟨sl,h4,h5⟩:=h3 k hk;exact ⟨sl,hg.cell h4 (by simp),h5.grow hg⟩⟩
theorem tq_get (l:List Tq):∀(i:Nat) (hi:i < l.length) (k:Nat) (u:Value),(tqC l[i])[k]?=some u->(l.flatMap tqC)[i * 7+k]?=some u:=by
 induction l with
 | nil=>intro i hi;simp at hi
 | cons t l ih =>
  intro i hi k u h
  rw [List.flatMap_cons]
  have hl:(tqC t).length=7:=rfl
  cases i with
  | zero =>
   simp only [List.getElem_cons_zero] at h
   have hk:k < (tqC t).length:=(List.getElem?_eq_some_iff.1 h).1
   rw [Nat.zero_mul,Nat.zero_add,List.getElem?_append_left hk]
   exact h
  | succ i =>
   simp only [List.getElem_cons_succ] at h
   rw [List.getElem?_append_right (by rw [hl];omega),hl,show (i+1) * 7+k - 7=i * 7+k by omega]
   exact ih i (by simpa using hi) k u h
theorem ot_ts {w:World} {base:Nat} {sl:Value} {L:List Tq} (h:OT w base sl L):TsAt w sl L:=by
 rcases h.2 with ⟨h1,h2⟩ | ⟨g,cap,cur,hv,hb,hc,h3,h4,h5,h6⟩
 ·exact Or.inl ⟨h1,List.length_eq_zero_iff.1 h2⟩
 ·refine Or.inr ⟨⟨g,0,none⟩,cap,hv,h3,fun k hk=>tq_of_cells fun q v hq=>?_⟩
  have h':=h
  unfold OT at h'
  rw [hv] at h'
  exact own_cells h' (k * 7+q) v (tq_get L k hk q v hq)
theorem oa_ss {w:World} {base:Nat} {sv:Value} {A:List (List Tq)} (h:OA w base sv A):SsAt w sv A:=by
 obtain ⟨vals,h1,h2,h3⟩:=h
 rcases h1.2 with ⟨e1,e2⟩ | ⟨g,cap,cur,hv,hb,hc,e3,e4,e5,e6⟩
 ·exact Or.inl ⟨e1,List.length_eq_zero_iff.1 e2⟩
 ·refine Or.inr ⟨⟨g,0,none⟩,cap,hv,e3,fun i hi=>?_⟩
  obtain ⟨o,n,c,h4,h5⟩:=h3 i hi
  rw [hv] at h1
  exact ⟨_,own_cells h1 i _ h4,ot_ts h5⟩
theorem adm_any (x:Tq) (hx:TqOk x) (v1 v2 v3:Int) (v4 v5:ByteArray) (w:World) (hv:v4.size<=1048576) :
  Calls Tryz.prog 43 #[.agg #[.int .i64 x.sg,.int .i64 x.m,.int .i64 x.a,.int .i64 x.b,.int .i64 x.c,.string x.p,.string x.q],.agg #[.int .i64 v1,.int .i64 v2,.int .i64 v3,.string v4,.string v5]] w fun e w'=>e=.returned (.bool (admB (teOf x) ⟨v1,v2,v3,v4.data.toList⟩))/\w.grownBy w' none:=by
 obtain ⟨sg,m,a,b,c,p,q⟩:=x
 have h1:=hx.s0
 have h2:=hx.m0
 have h3:=hx.sm
 simp only at h1 h2 h3
 have hm:m=0\/m=1\/m=2\/m=3:=by omega
 rcases hm with rfl | rfl | rfl | rfl
 ·exact adm0_any sg h1 a b c v1 v2 v3 p q v4 v5 w (by omega) hv
 ·exact adm1_any sg h1 a b c v1 v2 v3 p q v4 v5 w (by omega) hv
 ·exact adm2_any sg h1 a b c v1 v2 v3 p q v4 v5 w (by omega) hv
 ·exact adm3_any sg h1 a b c v1 v2 v3 p q v4 v5 w (by omega) hv
def admQ (A:List (List Tq)) (v:V):Bool:=A.any fun L=>L.all fun x=>admB (teOf x) v
theorem admQ_S (A:List (List Tq)) (v:V):admQ A v=admS (A.map (·.map teOf)) v:=by
 unfold admQ admS admL
 rw [List.any_map]
 congr 1
 funext L
 simp [List.all_map,Function.comp_def]
set_option maxRecDepth 100000 in
set_option maxHeartbeats 3200000 in
theorem admAll_any (sv:Value) (A:List (List Tq)) (v1 v2 v3:Int) (v4 v5:ByteArray) (w:World) (h:SsAt w sv A) (hA:A.length<=201) (hok:∀L ∈ A,L.length<=1000/\∀x ∈ L,TqOk x) (hv:v4.size<=1048576) :
  Calls Tryz.prog 20 #[sv,.agg #[.int .i64 v1,.int .i64 v2,.int .i64 v3,.string v4,.string v5]] w fun e w'=>e=.returned (.bool (admQ A ⟨v1,v2,v3,v4.data.toList⟩))/\w.grownBy w' none:=by
 have CA:Hid (∀x w,TqOk x->Calls Tryz.prog 43 #[.agg #[.int .i64 x.sg,.int .i64 x.m,.int .i64 x.a,.int .i64 x.b,.int .i64 x.c,.string x.p,.string x.q],.agg #[.int .i64 v1,.int .i64 v2,.int .i64 v3,.string v4,.string v5]] w fun e w'=>e=.returned (.bool (admB (teOf x) ⟨v1,v2,v3,v4.data.toList⟩))/\w.grownBy w' none):=fun x w hx=>adm_any x hx v1 v2 v3 v4 v5 w hv
 obtain ⟨v,hvv⟩:∃v:V,v=⟨v1,v2,v3,v4.data.toList⟩:=⟨_,rfl⟩
 rw [<-hvv] at CA ⊢
 obtain ⟨R,hR⟩:∃R,admQ A v=R:=⟨_,rfl⟩
 have HR:Hid (admQ A v=R):=hR
 rw [hR]
 have HOK:Hid (∀L ∈ A,L.length<=1000/\∀x ∈ L,TqOk x):=hok
 clear hR hvv hv hok
 rcases h with ⟨rfl,rfl⟩ | ⟨a,cap,rfl,hcap,hcells⟩
 ·have HRF:Hid (R=false):=HR.out.symm
  go_enter Tryz.func20,Tryz.ntmps20
  go_wp2
  go_loopw [5] (fun vi wr=>vi=.int .i64 0/\w.grownBy wr none) (fun vi _=>0)
  case atStart=>exact ⟨rfl,gb_alloc (gb_refl _ _) _⟩
  case round =>
   obtain ⟨rfl,hg⟩:=hrel
   have HG:Hid (w.grownBy wr none):=hg
   clear hg
   go_wp2
   go_ret
   exact ⟨ret_bool HRF.out.symm,HG.out⟩
 ·obtain ⟨N,hN⟩:∃N,A.length=N:=⟨_,rfl⟩
  have HN:Hid (A.length=N):=hN
  have HC:Hid (∀i (hi:i < A.length),∃sl,w.cell? (a.add i)=some sl/\TsAt w sl A[i]):=hcells
  rw [hN] at hcap hA ⊢
  clear hcells hN
  go_enter Tryz.func20,Tryz.ntmps20
  go_wp2
  obtain ⟨V0,hV0⟩:∃V0,w.heap.size=V0:=⟨_,rfl⟩
  obtain ⟨W,hW⟩:∃W,w.alloc (.cells #[.int .i64 v1,.int .i64 v2,.int .i64 v3,.string v4,.string v5] 39)=W:=⟨_,rfl⟩
  have HG0:Hid (w.grownBy W none):=by show w.grownBy W none;rw [<-hW];exact gb_alloc (gb_refl w none) _
  have STv:Hid (St V0 v1 v2 v3 v4 v5 W):=by show St _ _ _ _ _ _ W;rw [<-hW,<-hV0];exact st_row (t:=39) (heap_alloc_new w _)
  try rw [hW]
  try rw [hV0]
  clear hW hV0
  go_loopw [5] (fun vi wr=>∃i:Nat,vi=.int .i64 i/\i<=N/\(∀j (hj:j < A.length),j < i->(A[j].all fun x=>admB (teOf x) v)=false)/\W.grownBy wr none) (fun vi _=>N - (intOf vi).toNat)
  case atStart=>exact ⟨0,rfl,Nat.zero_le _,fun j hj h=>absurd h (by omega),gb_refl _ _⟩
  case round =>
   rename World=>w0
   obtain ⟨i,rfl,hi,hp,hg⟩:=hrel
   have HP:Hid (∀j (hj:j < A.length),j < i->(A[j].all fun x=>admB (teOf x) v)=false):=hp
   have HG:Hid (W.grownBy w0 none):=hg
   clear hp hg
   by_cases hlt:i < N
   ·have hlA:i < A.length:=by rw [HN.out];exact hlt
    obtain ⟨L,hL⟩:∃L,A[i]=L:=⟨_,rfl⟩
    obtain ⟨sl,hsl,hts⟩:=HC.out i hlA
    rw [hL] at hts
    have HLo:Hid (L.length<=1000/\∀x ∈ L,TqOk x):=by have:=HOK.out A[i] (List.getElem_mem hlA);rw [hL] at this;exact this
    have HAL:Hid (A[i]=L):=hL
    have hcw:w0.cell? (a.add i)=some sl:=(HG.out.cell (HG0.out.cell hsl (by simp)) (by simp))
    have HTS:Hid (TsAt w0 sl L):=(hts.grow HG0.out).grow HG.out
    have NEXT:Hid (∀r:Bool,(L.all fun x=>admB (teOf x) v)=r->(r=true->R=true)/\(r=false->∀j (hj:j < A.length),j < i+1->(A[j].all fun x=>admB (teOf x) v)=false)):=by
     intro r hr
     constructor
     ·intro h
      rw [<-HR.out];unfold admQ
      rw [List.any_eq_true]
      exact ⟨A[i],List.getElem_mem hlA,by rw [hL,hr];exact h⟩
     ·intro h j hj hji
      by_cases hji':j < i
      ·exact HP.out j hj hji'
      ·have e:j=i:=by omega
       subst e
       rw [hL,hr];exact h
    clear hts hsl hL
    rcases HTS.out with ⟨rfl,hLn⟩ | ⟨q,c1,rfl,hc1,hcell⟩
    ·have HRT:Hid (R=true):=(NEXT.out true (by rw [hLn];rfl)).1 rfl
     have HCW:Hid (W.grownBy w0 none):=HG.out
     clear hLn HTS
     go_wp2
     go_loopw [6,7] (fun va vk wk=>va=.bool true/\vk=.int .i64 0/\w0.grownBy wk none) (fun _ vk _=>0)
     case atStart=>exact ⟨rfl,rfl,gb_refl _ _⟩
     case round =>
      obtain ⟨rfl,rfl,hgk⟩:=hrel
      have hcw2:wr.cell? (a.add i)=some (.slice none 0 0):=hgk.cell hcw (by simp)
      have HGK:Hid (w0.grownBy wr none):=hgk
      clear hgk hcw
      go_wp2
      go_ret
      exact ⟨ret_bool HRT.out.symm,gb_trans HG0.out (gb_trans HG.out HGK.out)⟩
    ·obtain ⟨n1,hn1⟩:∃n1,L.length=n1:=⟨_,rfl⟩
     have HN1:Hid (L.length=n1/\n1<=1000):=⟨hn1,by have:=HLo.out.1;omega⟩
     have hn2:n1<=1000:=HN1.out.2
     have HCE:Hid (∀k (hk:k < L.length),TqAt w0 (q.add (k * 7)) L[k]):=hcell
     rw [hn1] at hcw hc1
     clear hcell hn1 HTS
     go_wp2
     go_loopw [6,7] (fun va vk wk=>∃k:Nat,vk=.int .i64 k/\k<=n1/\va=.bool ((L.take k).all fun x=>admB (teOf x) v)/\w0.grownBy wk none) (fun _ vk _=>n1 - (intOf vk).toNat)
     case atStart=>exact ⟨0,rfl,Nat.zero_le _,rfl,gb_refl _ _⟩
     case round =>
      obtain ⟨k,rfl,hk,rfl,hgk⟩:=hrel
      have hcw2:wr.cell? (a.add i)=some (.slice (some q) n1 c1):=hgk.cell hcw (by simp)
      have HGK:Hid (w0.grownBy wr none):=hgk
      have HCW:Hid (w0.cell? (a.add i)=some (.slice (some q) n1 c1)):=hcw
      clear hgk hcw
      by_cases hkl:k < n1
      ·have hkL:k < L.length:=by rw [HN1.out.1];exact hkl
       obtain ⟨x,hx⟩:∃x,L[k]=x:=⟨_,rfl⟩
       have HE:Hid (TqAt wr (q.add (k * 7)) x):=by show TqAt wr _ x;rw [<-hx];exact (HCE.out k hkL).grow HGK.out
       have hxo:TqOk x:=by rw [<-hx];exact HLo.out.2 _ (List.getElem_mem hkL)
       obtain ⟨r,hr⟩:∃r,admB (teOf x) v=r:=⟨_,rfl⟩
       have CX:Hid (∀w,Calls Tryz.prog 43 #[.agg #[.int .i64 x.sg,.int .i64 x.m,.int .i64 x.a,.int .i64 x.b,.int .i64 x.c,.string x.p,.string x.q],.agg #[.int .i64 v1,.int .i64 v2,.int .i64 v3,.string v4,.string v5]] w fun e w'=>e=.returned (.bool r)/\w.grownBy w' none):=fun w=>by rw [<-hr];exact CA.out x w hxo
       obtain ⟨al,hal⟩:∃al,((L.take k).all fun x=>admB (teOf x) v)=al:=⟨_,rfl⟩
       have HNA:Hid (((L.take (k+1)).all fun x=>admB (teOf x) v)=(al && r)):=by
        show _=_
        rw [List.take_succ_eq_append_getElem hkL,List.all_append,hal,hx]
        simp [hr]
       rw [hal]
       have STk:Hid (St V0 v1 v2 v3 v4 v5 wr):=(STv.out.grow HG.out).grow HGK.out
       clear hx hxo hr hal
       obtain ⟨e0,e1,e2,e3,e4,e5,e6⟩:=HE.out
       obtain ⟨s1,s2,s3,s4,s5⟩:=STk.out
       go_wp2
       go_region_held3 (fun w'=>w'.cell? (a.add i)=some (.slice (some q) n1 c1)/\w'.cell? (q.add (k * 7))=some (.int .i64 x.sg)/\w'.cell? ⟨(q.add (k * 7)).block,(q.add (k * 7)).off+1,none⟩=some (.int .i64 x.m)/\w'.cell? ⟨(q.add (k * 7)).block,(q.add (k * 7)).off+2,none⟩=some (.int .i64 x.a)/\w'.cell? ⟨(q.add (k * 7)).block,(q.add (k * 7)).off+3,none⟩=some (.int .i64 x.b)/\w'.cell? ⟨(q.add (k * 7)).block,(q.add (k * 7)).off+4,none⟩=some (.int .i64 x.c)/\w'.cell? ⟨(q.add (k * 7)).block,(q.add (k * 7)).off+5,none⟩=some (.string x.p)/\w'.cell? ⟨(q.add (k * 7)).block,(q.add (k * 7)).off+6,none⟩=some (.string x.q)/\w'.cell? ⟨V0,0,none⟩=some (.int .i64 v1)/\w'.cell? ⟨V0,1,none⟩=some (.int .i64 v2)/\w'.cell? ⟨V0,2,none⟩=some (.int .i64 v3)/\w'.cell? ⟨V0,3,none⟩=some (.string v4)/\w'.cell? ⟨V0,4,none⟩=some (.string v5)) (first | (simp only [cell_drew2];exact ⟨hcw2,e0,e1,e2,e3,e4,e5,e6,s1,s2,s3,s4,s5⟩) | exact keep13 (by assumption) (by assumption)) (first | (go_at_call 43;refine (CX.out _).mono ?_;rintro e w1 ⟨rfl,hg1⟩))
       have HGK1:Hid (w0.grownBy w1 none):=gb_trans HGK.out (gb_undrew hg1)
       clear hg1 e0 e1 e2 e3 e4 e5 e6 s1 s2 s3 s4 s5 hcw2
       cases al with
       | true =>
        go_wp2
        go_roundw
        case rel=>exact ⟨k+1,by go_num,by omega,by rw [HNA.out];rfl,HGK1.out⟩
        case measure=>simp [intOf];omega
       | false =>
        go_wp2
        go_roundw
        case rel=>exact ⟨k+1,by go_num,by omega,by rw [HNA.out];rfl,HGK1.out⟩
        case measure=>simp [intOf];omega
      ·have hkn:k=n1:=by omega
       subst hkn
       have hfull:L.take k=L:=List.take_of_length_le (by rw [HN1.out.1];exact Nat.le_refl _)
       rw [hfull]
       obtain ⟨r,hr⟩:∃r,(L.all fun x=>admB (teOf x) v)=r:=⟨_,rfl⟩
       have HNR:=NEXT.out r hr
       have HNX:Hid ((r=true->R=true)/\(r=false->∀j (hj:j < A.length),j < i+1->(A[j].all fun x=>admB (teOf x) v)=false)):=HNR
       rw [hr]
       clear hr hfull HNR hk hkl
       cases r with
       | true =>
        go_wp2
        go_ret
        exact ⟨ret_bool (HNX.out.1 (by first | rfl | trivial)).symm,gb_trans HG0.out (gb_trans HG.out HGK.out)⟩
       | false =>
        go_wp2
        go_roundw
        case rel=>exact ⟨i+1,by go_num,by omega,HNX.out.2 (by first | rfl | trivial),gb_trans HG.out HGK.out⟩
        case measure=>simp [intOf];omega
   ·have HRF:Hid (R=false):=by
     show R=false
     rw [<-HR.out];unfold admQ
     rw [List.any_eq_false]
     intro t ht
     obtain ⟨j,hj,rfl⟩:=List.getElem_of_mem ht
     rw [HP.out j hj (by rw [HN.out] at hj;omega)];decide
    clear hi
    go_wp2
    go_ret
    exact ⟨ret_bool HRF.out.symm,gb_trans HG0.out HG.out⟩
open Go.RowKit
set_option linter.unusedVariables false
set_option maxHeartbeats 400000 in
theorem lnum_any (n:Int) (w:World):Calls Tryz.prog 13 #[.int .i64 n] w fun e w'=>e=.returned (.int .i64 n)/\w'=w:=by
 go_enter Tryz.func13,Tryz.ntmps13
 go_wp2
 go_ret
 exact ⟨rfl,rfl⟩
theorem lnum_gb (n:Int) (w:World):Calls Tryz.prog 13 #[.int .i64 n] w fun e w'=>e=.returned (.int .i64 n)/\w.grownBy w' none:=by
 refine (lnum_any n w).mono ?_
 rintro e w' ⟨rfl,rfl⟩
 exact ⟨rfl,gb_refl _ _⟩
set_option linter.unusedVariables false
theorem vok_okT {t:V} (h:okT t=true):VOk t:=by
 unfold okT soundV at h
 simp only [Bool.and_eq_true,bound_iff] at h
 exact ⟨h.1.1,h.2.1.1,h.2.2.1.1,h.2.2.2.1⟩
theorem nt_one {T U:List V} {j k:Nat} (hT:NT T j) (hU:NT U k) (h:∀v,VOk v->holdsL (outs T) v=holdsL (outs U) v):T=U:=by
 by_cases e:T=U
 ·exact e
 ·exfalso
  obtain ⟨t,ht,hn⟩:=par_one T U hT.up hU.up hT.ok hU.ok e
  rw [<-outs_par T hT.up,<-outs_par U hU.up] at hn
  refine hn (h t (vok_okT ?_))
  rcases ht with ht | ht
  ·exact hT.sd t ht
  ·exact hU.sd t ht
def tuT (t:Te):List V:=[lowV,firstV t.p,nextV (firstV t.p),⟨t.p.a+1,0,0,[48]⟩,⟨t.p.a,t.p.b+1,0,[48]⟩,⟨t.p.a,t.p.b,t.p.c+1,[48]⟩]
theorem behind_mem (t:Te) (k:Nat):behindV (firstV t.p) k ∈ tuT t:=by
 unfold behindV
 split
 ·simp [tuT,firstV]
 ·split
  ·simp [tuT,firstV]
  ·simp [tuT,firstV]
theorem first_mem (t:Te):firstV t.p ∈ tuT t:=by simp [tuT]
theorem low_mem (t:Te):lowV ∈ tuT t:=by simp [tuT]
def InT (t:Te) (g:Sg):Prop:=g.fr ∈ tuT t/\(g.op=false->g.to_ ∈ tuT t)
theorem alike_mem (t:Te) (k:Nat):InT t (alikeG t.p k):=by
 unfold alikeG
 split
 ·exact ⟨first_mem t,fun h=>by cases h⟩
 ·exact ⟨first_mem t,fun _=>behind_mem t k⟩
theorem named_mem (t:Te):InT t (namedG t.p):=by
 unfold namedG
 split
 ·exact ⟨first_mem t,fun _=>by simp [tuT]⟩
 ·exact alike_mem t _
theorem sign_mem (t:Te) (s:Int):InT t (signG s t.p):=by
 have hN:=named_mem t
 unfold signG
 split
 ·exact hN
 ·split
  ·exact ⟨first_mem t,fun h=>by cases h⟩
  ·split
   ·exact ⟨low_mem t,hN.2⟩
   ·split
    ·split
     ·exact ⟨low_mem t,fun _=>low_mem t⟩
     ·rename_i h
      exact ⟨hN.2 (by simpa using h),fun h=>by cases h⟩
    ·split
     ·exact ⟨low_mem t,fun _=>first_mem t⟩
     ·split
      ·exact alike_mem t _
      ·exact alike_mem t _
theorem test_seg (t:Te) (ht:TeOk t):∃g:Sg,InT t g/\∀v,VOk v->hasG g v=admB t v:=by
 obtain ⟨h0,h7,hp⟩:=ht
 by_cases h6:t.sign<=6
 ·exact ⟨signG t.sign t.p,sign_mem t _,fun v hv=>sign_ok t.sign ⟨h0,h6⟩ t.p hp v hv⟩
 ·refine ⟨⟨firstV t.p,nilV,true⟩,⟨first_mem t,fun h=>by cases h⟩,fun v hv=>?_⟩
  have e:admB t v=fromB t.p v:=by
   unfold admB
   rw [if_neg (by omega),if_neg (by omega),if_neg (by omega),if_neg (by omega),if_neg (by omega),if_neg (by omega),if_neg (by omega)]
  rw [e,Bool.eq_iff_iff,has_iff,from_ok t.p hp v hv]
  simp
def insAll (b:List V) (vs:List V):List V:=vs.foldl (fun b v=>insV v b) b
theorem insAll_snoc (b vs:List V) (v:V):insAll b (vs++[v])=insV v (insAll b vs):=by unfold insAll;simp
theorem insv_len (v:V):∀(l:List V),(insV v l).length<=l.length+1
 | []=>by simp [insV]
 | x :: l=>by
  unfold insV
  have:=insv_len v l
  split
  ·simp
  ·split
   ·simp
   ·simp;omega
theorem all_rising:∀(vs b:List V),Rising b->Rising (insAll b vs)
 | [],b,h=>h
 | v :: vs,b,h=>all_rising vs (insV v b) (ins_rising v b h)
theorem all_mem:∀(vs b:List V) (d:V),d ∈ insAll b vs->d ∈ b\/d ∈ vs
 | [],b,d,h=>Or.inl h
 | v :: vs,b,d,h=>by
  rcases all_mem vs (insV v b) d h with h | h
  ·rcases ins_mem v b d h with h | h
   ·exact Or.inr (by simp [h])
   ·exact Or.inl h
  ·exact Or.inr (by simp [h])
theorem all_old:∀(vs b:List V) (d:V),d ∈ b->d ∈ insAll b vs
 | [],b,d,h=>h
 | v :: vs,b,d,h=>all_old vs (insV v b) d (ins_old v b d h)
theorem all_new:∀(vs b:List V) (v:V),v ∈ vs->∃d ∈ insAll b vs,verC v d=0
 | [],b,v,h=>by simp at h
 | u :: vs,b,v,h=>by
  rcases List.mem_cons.1 h with e | h
  ·obtain ⟨d,hd,h0⟩:=ins_new v b
   exact ⟨d,all_old vs (insV u b) d (by rw [<-e];exact hd),h0⟩
  ·exact all_new vs (insV u b) v h
theorem all_len:∀(vs b:List V),(insAll b vs).length<=b.length+vs.length
 | [],b=>by simp [insAll]
 | v :: vs,b=>by
  have h1:=all_len vs (insV v b)
  have h2:=insv_len v b
  show (insAll (insV v b) vs).length<=_
  rw [List.length_cons]
  omega
theorem side_same {D:List V} {x z e:V} (h1:verC z x<=0) (h2:∀p ∈ D,verC z p < 0->verC x p < 0) (he:∃d ∈ D,verC e d=0):verC x e < 0 ↔ verC z e < 0:=by
 obtain ⟨d,hd,h0⟩:=he
 have a:=v_anti e d
 constructor
 ·intro h
  exact v_le_lt h1 h
 ·intro h
  exact v_lt_le (h2 d hd (v_lt_le h (by omega))) (by omega)
theorem has_same {D:List V} {x z:V} {g:Sg} (h1:verC z x<=0) (h2:∀p ∈ D,verC z p < 0->verC x p < 0) (hf:∃d ∈ D,verC g.fr d=0) (ht:g.op=false->∃d ∈ D,verC g.to_ d=0):hasG g x=hasG g z:=by
 rw [Bool.eq_iff_iff,has_iff,has_iff,side_same h1 h2 hf]
 cases ho:g.op with
 | true=>simp
 | false=>rw [side_same h1 h2 (ht ho)]
def tuS (S:List (List Te)):List V:=S.flatMap fun L=>L.flatMap tuT
def tuD (S:List (List Te)):List V:=insAll [lowV] (tuS S)
theorem mem_tuS {S:List (List Te)} {L:List Te} {t:Te} {v:V} (hL:L ∈ S) (ht:t ∈ L) (hv:v ∈ tuT t):v ∈ tuS S :=
 List.mem_flatMap.2 ⟨L,hL,List.mem_flatMap.2 ⟨t,ht,hv⟩⟩
theorem adm_same {S:List (List Te)} (hS:∀L ∈ S,∀t ∈ L,TeOk t) {x z:V} (hx:VOk x) (hz:VOk z) (h1:verC z x<=0) (h2:∀p ∈ tuD S,verC z p < 0->verC x p < 0):admS S x=admS S z:=by
 have key:∀L ∈ S,∀t ∈ L,admB t x=admB t z:=by
  intro L hL t ht
  obtain ⟨g,hg,hh⟩:=test_seg t (hS L hL t ht)
  rw [<-hh x hx,<-hh z hz]
  exact has_same h1 h2 (all_new _ _ _ (mem_tuS hL ht hg.1)) (fun h=>all_new _ _ _ (mem_tuS hL ht (hg.2 h)))
 have key2:∀L ∈ S,admL L x=admL L z:=by
  intro L hL
  unfold admL
  rw [Bool.eq_iff_iff,List.all_eq_true,List.all_eq_true]
  exact ⟨fun h t ht=>by rw [<-key L hL t ht];exact h t ht,fun h t ht=>by rw [key L hL t ht];exact h t ht⟩
 unfold admS
 rw [Bool.eq_iff_iff,List.any_eq_true,List.any_eq_true]
 exact ⟨fun ⟨L,hL,h⟩=>⟨L,hL,by rw [<-key2 L hL];exact h⟩,fun ⟨L,hL,h⟩=>⟨L,hL,by rw [key2 L hL];exact h⟩⟩
theorem tu_bok (t:Te) (ht:TeOk t) (hl:t.p.pre.length<=200):∀v ∈ tuT t,BOk v 300:=by
 obtain ⟨h0,h7,hp⟩:=ht
 have hf:=first_b t.p hp 300 (by omega) (by omega)
 have a0:=hp.a0
 have b0:=hp.b0
 have c0:=hp.c0
 have hfl:(firstV t.p).pre.length<=200:=by
  show (if t.p.n < 3 then [48] else t.p.pre).length<=200
  split
  ·simp
  ·exact hl
 have hn:=next_b (firstV t.p) 300 hf.m1 hf.m2 ⟨hf.m3.1,by show t.p.c<=_;omega⟩ hf.ok (by omega) (by omega)
 intro v hv
 simp only [tuT,List.mem_cons,List.not_mem_nil,or_false] at hv
 rcases hv with rfl | rfl | rfl | rfl | rfl | rfl
 ·exact low_b 300 (by omega)
 ·exact hf
 ·exact hn
 ·exact behind_b t.p hp 1 300 (by omega)
 ·exact behind_b t.p hp 2 300 (by omega)
 ·exact behind_b t.p hp 3 300 (by omega)
theorem tuD_bok {S:List (List Te)} (hS:∀L ∈ S,∀t ∈ L,TeOk t/\t.p.pre.length<=200):∀d ∈ tuD S,BOk d 300:=by
 intro d hd
 rcases all_mem _ _ d hd with h | h
 ·rw [List.mem_singleton.1 h];exact low_b 300 (by omega)
 ·obtain ⟨L,hL,h⟩:=List.mem_flatMap.1 h
  obtain ⟨t,ht,h⟩:=List.mem_flatMap.1 h
  exact tu_bok t (hS L hL t ht).1 (hS L hL t ht).2 d h
theorem tuD_rising (S:List (List Te)):Rising (tuD S):=all_rising _ _ (by simp [Rising])
theorem doc_turns {S:List (List Te)} (hS:∀L ∈ S,∀t ∈ L,TeOk t/\t.p.pre.length<=200) (hl:(tuS S).length<=2000000) :
  NT (tog (admS S) false (tuD S)) 2/\Has (outs (tog (admS S) false (tuD S))) (admS S):=by
 have hD:=tuD_rising S
 have hsub:=tog_sub_list (admS S) (tuD S) false
 have hb:=tuD_bok hS
 have hup:Rising (tog (admS S) false (tuD S)):=List.Pairwise.sublist hsub hD
 refine ⟨⟨hup,fun t ht=>(hb t (hsub.subset ht)).ok,fun t ht=>?_,fun t ht=>(hb t (hsub.subset ht)).sound,?_⟩,fun x hx=>?_⟩
 ·have:=(hb t (hsub.subset ht)).sm
  omega
 ·have h1:=hsub.length_le
  have h2:=all_len (tuS S) [lowV]
  have h3:(tuD S).length<=[lowV].length+(tuS S).length:=h2
  simp only [List.length_cons,List.length_nil] at h3
  omega
 ·rw [outs_par _ hup,par_tog _ x _ _ hD,Bool.false_xor]
  have hlow:lowV ∈ tuD S:=all_old _ _ _ (by simp)
  rcases last_spec (admS S) x (tuD S) false hD with ⟨h1,h2⟩ | ⟨z,hz,h1,h2,h3⟩
  ·exact absurd (h1 lowV hlow) (low_all x hx)
  ·rw [h3]
   exact (adm_same (fun L hL t ht=>(hS L hL t ht).1) hx (vok_okT (hb z hz).sound) h1 h2).symm
end Go.Proofs.YtonfldbigenfhaaGreatDoor
namespace Go.Proofs.YtonfldbigenfhaaGreatDoor
open Go.ChangeShapes Go.WideShapes Go.ChangeAt Go.RowKit Go.Joins
open Go.ChangeMaps (open_string shut_string)
set_option linter.unusedVariables false
theorem cellsVer:Tryz.prog.cellsOf 39=5:=by kernel_rfl
theorem array5 {α:Type} {cs:Array α} (h:cs.size=5):∃c0 c1 c2 c3 c4,cs=#[c0,c1,c2,c3,c4]:=by
 obtain ⟨l⟩:=cs
 match l,h with
 | [c0,c1,c2,c3,c4],_=>exact ⟨c0,c1,c2,c3,c4,rfl⟩
def datV {H:Type} (a1 a2 a3:Int) (a4 a5:ByteArray):DataW H:=.agg [.lit (.int .i64 a1),.lit (.int .i64 a2),.lit (.int .i64 a3),.lit (.string a4.data.toList),.lit (.string a5.data.toList)]
def wfV (a1 a2 a3:Int) (a4 a5:ByteArray):Prop:=(Lit.int .i64 a1).wf=true/\(Lit.int .i64 a2).wf=true/\(Lit.int .i64 a3).wf=true/\a4.size<=maxLen/\a5.size<=maxLen
set_option maxRecDepth 100000 in
set_option maxHeartbeats 800000 in
theorem open_ver {H:Type} {enc:TypeId × Value->H} {w:World} {base:Nat} {spare:Nat->Bool} {held:Bool} {r:Reach} {b0:Nat} {v:Value} {d:DataW H} {p:List MemPlace}
  (hv:Value.okWide Tryz.prog w r b0 39 v) (h:DataW.Trod enc Tryz.prog w base spare held 39 v d p) :
  ∃(a1 a2 a3:Int) (a4 a5:ByteArray),v=.agg #[.int .i64 a1,.int .i64 a2,.int .i64 a3,.string a4,.string a5]/\d=datV a1 a2 a3 a4 a5/\p=[]/\wfV a1 a2 a3 a4 a5:=by
 have hu:=Tryz.underlying39
 obtain ⟨cs,rfl,hsz⟩:=okWide_struct hu hv
 have hsz':cs.size=5:=by rw [hsz];exact cellsVer
 obtain ⟨c0,c1,c2,c3,c4,rfl⟩:=array5 hsz'
 obtain ⟨fuel,hf⟩:=h
 obtain ⟨xs,n,_,hx,hl,hlen,hfs⟩:=DataW.trod_struct hu hf
 simp only [Prod.mk.injEq] at hx
 obtain ⟨rfl,rfl⟩:=hx
 match xs,hlen with
 | [y0,y1,y2,y3,y4],_ =>
  have k3:Tryz.prog.cellsOf 3=1:=by kernel_rfl
  have k9:Tryz.prog.cellsOf 9=1:=by kernel_rfl
  have g0:=hfs 0 _ rfl
  have g1:=hfs 1 _ rfl
  have g2:=hfs 2 _ rfl
  have g3:=hfs 3 _ rfl
  have g4:=hfs 4 _ rfl
  simp [Value.cells,k3,k9] at g0 g1 g2 g3 g4
  obtain ⟨a1,e1,rfl,w1⟩:=DataW.trod_int Tryz.underlying3 g0
  obtain ⟨a2,e2,rfl,w2⟩:=DataW.trod_int Tryz.underlying3 g1
  obtain ⟨a3,e3,rfl,w3⟩:=DataW.trod_int Tryz.underlying3 g2
  obtain ⟨a4,e4,rfl,w4⟩:=DataW.trod_string Tryz.underlying9 g3
  obtain ⟨a5,e5,rfl,w5⟩:=DataW.trod_string Tryz.underlying9 g4
  simp at e1 e2 e3 e4 e5
  subst e1 e2 e3 e4 e5
  exact ⟨a1,a2,a3,a4,a5,rfl,rfl,rfl,w1,w2,w3,w4,w5⟩
set_option maxRecDepth 100000 in
set_option maxHeartbeats 800000 in
theorem shut_ver {H:Type} {enc:TypeId × Value->H} {w:World} {base:Nat} {spare:Nat->Bool} {held:Bool} {a1 a2 a3:Int} {a4 a5:ByteArray} (h:wfV a1 a2 a3 a4 a5) :
  DataW.Trod enc Tryz.prog w base spare held 39 (.agg #[.int .i64 a1,.int .i64 a2,.int .i64 a3,.string a4,.string a5]) (datV a1 a2 a3 a4 a5) []:=by
 have hu:=Tryz.underlying39
 have k3:Tryz.prog.cellsOf 3=1:=by kernel_rfl
 have k9:Tryz.prog.cellsOf 9=1:=by kernel_rfl
 have u3:=Tryz.underlying3
 have u9:=Tryz.underlying9
 obtain ⟨h1,h2,h3,h4,h5⟩:=h
 refine ⟨2,?_⟩
 have:=trod_struct_mk (enc:=enc) (w:=w) (base:=base) (spare:=spare) (held:=held) (n:=1) (cs:=[.int .i64 a1,.int .i64 a2,.int .i64 a3,.string a4,.string a5])
  (xs:=[(.lit (.int .i64 a1),[]),(.lit (.int .i64 a2),[]),(.lit (.int .i64 a3),[]),(.lit (.string a4.data.toList),[]),(.lit (.string a5.data.toList),[])]) hu (by rw [cellsVer];rfl) (by simp [k3,k9,DataW.trod,u3,u9,h1,h2,h3,h4,h5])
 simpa [Value.cells,datV] using this
end Go.Proofs.YtonfldbigenfhaaGreatDoor
