import Derived.Test.YticgahdffjnabaaGreatDoorM36
import Derived.Test.YticgahdffjnabaaGreatDoorM41
import Derived.Test.YticgahdffjnabaaGreatDoorM40
import Derived.Deep.RegionWith
import Derived.Deep.Cut
set_option linter.unusedVariables false
set_option maxHeartbeats 3200000
namespace Go.Proofs.YticgahdffjnabaaGreatDoor
open Go.RowKit
theorem keep13 {p0 p1 p2 p3 p4 p5 p6 p7 p8 p9 p10 p11 p12:Addr} {c0 c1 c2 c3 c4 c5 c6 c7 c8 c9 c10 c11 c12:Value} {w w':World} (hg:w.grownBy w' none) (h:w.cell? p0=some c0/\w.cell? p1=some c1/\w.cell? p2=some c2/\w.cell? p3=some c3/\w.cell? p4=some c4/\w.cell? p5=some c5/\w.cell? p6=some c6/\w.cell? p7=some c7/\w.cell? p8=some c8/\w.cell? p9=some c9/\w.cell? p10=some c10/\w.cell? p11=some c11/\w.cell? p12=some c12):w'.cell? p0=some c0/\w'.cell? p1=some c1/\w'.cell? p2=some c2/\w'.cell? p3=some c3/\w'.cell? p4=some c4/\w'.cell? p5=some c5/\w'.cell? p6=some c6/\w'.cell? p7=some c7/\w'.cell? p8=some c8/\w'.cell? p9=some c9/\w'.cell? p10=some c10/\w'.cell? p11=some c11/\w'.cell? p12=some c12:=by
 obtain ⟨h0,h1,h2,h3,h4,h5,h6,h7,h8,h9,h10,h11,h12⟩:=h;exact ⟨hg.cell h0 (by simp),hg.cell h1 (by simp),hg.cell h2 (by simp),hg.cell h3 (by simp),hg.cell h4 (by simp),hg.cell h5 (by simp),hg.cell h6 (by simp),hg.cell h7 (by simp),hg.cell h8 (by simp),hg.cell h9 (by simp),hg.cell h10 (by simp),hg.cell h11 (by simp),hg.cell h12 (by simp)⟩
def TqAt (w:World) (p:Addr) (x:Tq):Prop:=w.cell? p=some (.int .i64 x.sg)/\w.cell? ⟨p.block,p.off+1,none⟩=some (.int .i64 x.m)/\w.cell? ⟨p.block,p.off+2,none⟩=some (.int .i64 x.a)/\w.cell? ⟨p.block,p.off+3,none⟩=some (.int .i64 x.b)/\w.cell? ⟨p.block,p.off+4,none⟩=some (.int .i64 x.c)/\w.cell? ⟨p.block,p.off+5,none⟩=some (.string x.p)/\w.cell? ⟨p.block,p.off+6,none⟩=some (.string x.q)
theorem TqAt.grow {w w':World} {p:Addr} {x:Tq} (h:TqAt w p x) (hg:w.grownBy w' none):TqAt w' p x:=by
 obtain ⟨h0,h1,h2,h3,h4,h5,h6⟩:=h;exact ⟨hg.cell h0 (by simp),hg.cell h1 (by simp),hg.cell h2 (by simp),hg.cell h3 (by simp),hg.cell h4 (by simp),hg.cell h5 (by simp),hg.cell h6 (by simp)⟩
theorem tq_of_cells {w:World} {a:Addr} {n:Nat} {s:Tq} (h:∀k v,(tqC s)[k]?=some v->w.cell? (a.add (n+k))=some v):TqAt w (a.add n) s :=
 ⟨by have:=h 0 _ rfl;simpa using this,by have:=h 1 _ rfl;rw [add_off a n 1 (by omega)] at this;exact this,by have:=h 2 _ rfl;rw [add_off a n 2 (by omega)] at this;exact this,by have:=h 3 _ rfl;rw [add_off a n 3 (by omega)] at this;exact this,by have:=h 4 _ rfl;rw [add_off a n 4 (by omega)] at this;exact this,by have:=h 5 _ rfl;rw [add_off a n 5 (by omega)] at this;exact this,by have:=h 6 _ rfl;rw [add_off a n 6 (by omega)] at this;exact this⟩
def TsAt (w:World) (sl:Value) (L:List Tq):Prop:=(sl=.slice none 0 0/\L=[])\/∃a cap,sl=.slice (some a) L.length cap/\L.length<=cap/\∀k (hk:k < L.length),TqAt w (a.add (k * 7)) L[k]
theorem TsAt.grow {w w':World} {sl:Value} {L:List Tq} (h:TsAt w sl L) (hg:w.grownBy w' none):TsAt w' sl L:=by
 rcases h with h | ⟨a,cap,h1,h2,h3⟩
 ·exact Or.inl h
 ·exact Or.inr ⟨a,cap,h1,h2,fun k hk=>(h3 k hk).grow hg⟩
def SsAt (w:World) (sv:Value) (A:List (List Tq)):Prop:=(sv=.slice none 0 0/\A=[])\/∃a cap,sv=.slice (some a) A.length cap/\A.length<=cap/\∀i (hi:i < A.length),∃sl,w.cell? (a.add i)=some sl/\TsAt w sl A[i]
theorem SsAt.grow {w w':World} {sv:Value} {A:List (List Tq)} (h:SsAt w sv A) (hg:w.grownBy w' none):SsAt w' sv A:=by
 rcases h with h | ⟨a,cap,h1,h2,h3⟩
 ·exact Or.inl h
 ·exact Or.inr ⟨a,cap,h1,h2,fun k hk=>by obtain ⟨sl,h4,h5⟩:=h3 k hk;exact ⟨sl,hg.cell h4 (by simp),h5.grow hg⟩⟩
theorem tq_get (l:List Tq):∀(i:Nat) (hi:i < l.length) (k:Nat) (u:Value),(tqC l[i])[k]?=some u->(l.flatMap tqC)[i * 7+k]?=some u:=by
 induction l with
 | nil=>intro i hi;simp at hi
 | cons t l ih =>
  intro i hi k u h;rw [List.flatMap_cons];have hl:(tqC t).length=7:=rfl
  cases i with
  | zero =>
   simp only [List.getElem_cons_zero] at h;have hk:k < (tqC t).length:=(List.getElem?_eq_some_iff.1 h).1;rw [Nat.zero_mul,Nat.zero_add,List.getElem?_append_left hk];exact h
  | succ i =>
   simp only [List.getElem_cons_succ] at h;rw [List.getElem?_append_right (by rw [hl];omega),hl,show (i+1) * 7+k - 7=i * 7+k by omega];exact ih i (by simpa using hi) k u h
theorem ot_ts {w:World} {base:Nat} {sl:Value} {L:List Tq} (h:OT w base sl L):TsAt w sl L:=by
 rcases h.2 with ⟨h1,h2⟩ | ⟨g,cap,cur,hv,hb,hc,h3,h4,h5,h6⟩
 ·exact Or.inl ⟨h1,List.length_eq_zero_iff.1 h2⟩
 ·refine Or.inr ⟨⟨g,0,none⟩,cap,hv,h3,fun k hk=>tq_of_cells fun q v hq=>?_⟩;have h':=h;unfold OT at h';rw [hv] at h';exact own_cells h' (k * 7+q) v (tq_get L k hk q v hq)
theorem oa_ss {w:World} {base:Nat} {sv:Value} {A:List (List Tq)} (h:OA w base sv A):SsAt w sv A:=by
 obtain ⟨vals,h1,h2,h3⟩:=h
 rcases h1.2 with ⟨e1,e2⟩ | ⟨g,cap,cur,hv,hb,hc,e3,e4,e5,e6⟩
 ·exact Or.inl ⟨e1,List.length_eq_zero_iff.1 e2⟩
 ·refine Or.inr ⟨⟨g,0,none⟩,cap,hv,e3,fun i hi=>?_⟩;obtain ⟨o,n,c,h4,h5⟩:=h3 i hi;rw [hv] at h1;exact ⟨_,own_cells h1 i _ h4,ot_ts h5⟩
theorem adm_any (x:Tq) (hx:TqOk x) (v1 v2 v3:Int) (v4 v5:ByteArray) (w:World) (hv:v4.size<=1048576) :
  Calls Tryz.prog 64 #[.agg #[.int .i64 x.sg,.int .i64 x.m,.int .i64 x.a,.int .i64 x.b,.int .i64 x.c,.string x.p,.string x.q],.agg #[.int .i64 v1,.int .i64 v2,.int .i64 v3,.string v4,.string v5]] w fun e w'=>e=.returned (.bool (admB (teOf x) ⟨v1,v2,v3,v4.data.toList⟩))/\w.grownBy w' none:=by
 obtain ⟨sg,m,a,b,c,p,q⟩:=x;have h1:=hx.s0;have h2:=hx.m0;have h3:=hx.sm;simp only at h1 h2 h3;have hm:m=0\/m=1\/m=2\/m=3:=by omega
 rcases hm with rfl | rfl | rfl | rfl
 ·exact adm0_any sg h1 a b c v1 v2 v3 p q v4 v5 w (by omega) hv
 ·exact adm1_any sg h1 a b c v1 v2 v3 p q v4 v5 w (by omega) hv
 ·exact adm2_any sg h1 a b c v1 v2 v3 p q v4 v5 w (by omega) hv
 ·exact adm3_any sg h1 a b c v1 v2 v3 p q v4 v5 w (by omega) hv
def admQ (A:List (List Tq)) (v:V):Bool:=A.any fun L=>L.all fun x=>admB (teOf x) v
theorem admQ_S (A:List (List Tq)) (v:V):admQ A v=admS (A.map (·.map teOf)) v:=by
 unfold admQ admS admL;rw [List.any_map];congr 1;funext L;simp [List.all_map,Function.comp_def]
set_option maxRecDepth 100000 in
theorem admAll_any (sv:Value) (A:List (List Tq)) (v1 v2 v3:Int) (v4 v5:ByteArray) (w:World) (h:SsAt w sv A) (hA:A.length<=201) (hok:∀L ∈ A,L.length<=1000/\∀x ∈ L,TqOk x) (hv:v4.size<=1048576) :
  Calls Tryz.prog 45 #[sv,.agg #[.int .i64 v1,.int .i64 v2,.int .i64 v3,.string v4,.string v5]] w fun e w'=>e=.returned (.bool (admQ A ⟨v1,v2,v3,v4.data.toList⟩))/\w.grownBy w' none:=by
 have CA:Hd (∀x w,TqOk x->Calls Tryz.prog 64 #[.agg #[.int .i64 x.sg,.int .i64 x.m,.int .i64 x.a,.int .i64 x.b,.int .i64 x.c,.string x.p,.string x.q],.agg #[.int .i64 v1,.int .i64 v2,.int .i64 v3,.string v4,.string v5]] w fun e w'=>e=.returned (.bool (admB (teOf x) ⟨v1,v2,v3,v4.data.toList⟩))/\w.grownBy w' none):=fun x w hx=>adm_any x hx v1 v2 v3 v4 v5 w hv
 obtain ⟨v,hvv⟩:∃v:V,v=⟨v1,v2,v3,v4.data.toList⟩:=⟨_,rfl⟩;rw [<-hvv] at CA ⊢;obtain ⟨R,hR⟩:=nm (admQ A v);have HR:Hd (admQ A v=R):=hR;rw [hR];have HOK:Hd (∀L ∈ A,L.length<=1000/\∀x ∈ L,TqOk x):=hok;clear hR hvv hv hok
 rcases h with ⟨rfl,rfl⟩ | ⟨a,cap,rfl,hcap,hcells⟩
 ·have HRF:Hd (R=false):=HR.o.symm;go_enter Tryz.func45,Tryz.ntmps45;go_wp2;go_loopw [5] (fun vi wr=>vi=.int .i64 0/\w.grownBy wr none) (fun vi _=>0)
  case atStart=>exact ⟨rfl,gb_alloc (gb_refl _ _) _⟩
  case round =>
   obtain ⟨rfl,hg⟩:=hrel;have HG:Hd (w.grownBy wr none):=hg;clear hg;go_wp2;go_ret;exact ⟨ret_bool HRF.o.symm,HG.o⟩
 ·obtain ⟨N,hN⟩:=nm (A.length);have HN:Hd (A.length=N):=hN;have HC:Hd (∀i (hi:i < A.length),∃sl,w.cell? (a.add i)=some sl/\TsAt w sl A[i]):=hcells;rw [hN] at hcap hA ⊢;clear hcells hN;go_enter Tryz.func45,Tryz.ntmps45;go_wp2;obtain ⟨V0,hV0⟩:=nm (w.heap.size);obtain ⟨W,hW⟩:=nm (w.alloc (.cells #[.int .i64 v1,.int .i64 v2,.int .i64 v3,.string v4,.string v5] 89));have HG0:Hd (w.grownBy W none):=by show w.grownBy W none;rw [<-hW];exact gb_alloc (gb_refl w none) _
  have STv:Hd (St V0 v1 v2 v3 v4 v5 W):=by show St _ _ _ _ _ _ W;rw [<-hW,<-hV0];exact st_row (t:=89) (heap_alloc_new w _)
  try rw [hW]
  try rw [hV0]
  clear hW hV0;go_loopw [5] (fun vi wr=>∃i:Nat,vi=.int .i64 i/\i<=N/\(∀j (hj:j < A.length),j < i->(A[j].all fun x=>admB (teOf x) v)=false)/\W.grownBy wr none) (fun vi _=>N - (intOf vi).toNat)
  case atStart=>exact ⟨0,rfl,Nat.zero_le _,fun j hj h=>absurd h (by omega),gb_refl _ _⟩
  case round =>
   rename World=>w0
   obtain ⟨i,rfl,hi,hp,hg⟩:=hrel;have HP:Hd (∀j (hj:j < A.length),j < i->(A[j].all fun x=>admB (teOf x) v)=false):=hp;have HG:Hd (W.grownBy w0 none):=hg;clear hp hg
   by_cases hlt:i < N
   ·have hlA:i < A.length:=by rw [HN.o];exact hlt
    obtain ⟨L,hL⟩:=nm (A[i]);obtain ⟨sl,hsl,hts⟩:=HC.o i hlA;rw [hL] at hts;have HLo:Hd (L.length<=1000/\∀x ∈ L,TqOk x):=by have:=HOK.o A[i] (List.getElem_mem hlA);rw [hL] at this;exact this
    have HAL:Hd (A[i]=L):=hL;have hcw:w0.cell? (a.add i)=some sl:=(HG.o.cell (HG0.o.cell hsl (by simp)) (by simp));have HTS:Hd (TsAt w0 sl L):=(hts.grow HG0.o).grow HG.o;have NEXT:Hd (∀r:Bool,(L.all fun x=>admB (teOf x) v)=r->(r=true->R=true)/\(r=false->∀j (hj:j < A.length),j < i+1->(A[j].all fun x=>admB (teOf x) v)=false)):=by
     intro r hr;constructor
     ·intro h;rw [<-HR.o];unfold admQ;rw [List.any_eq_true];exact ⟨A[i],List.getElem_mem hlA,by rw [hL,hr];exact h⟩
     ·intro h j hj hji
      by_cases hji':j < i
      ·exact HP.o j hj hji'
      ·have e:j=i:=by omega
       subst e;rw [hL,hr];exact h
    clear hts hsl hL
    rcases HTS.o with ⟨rfl,hLn⟩ | ⟨q,c1,rfl,hc1,hcell⟩
    ·have HRT:Hd (R=true):=(NEXT.o true (by rw [hLn];rfl)).1 rfl;have HCW:Hd (W.grownBy w0 none):=HG.o;clear hLn HTS;go_wp2;go_loopw [6,7] (fun va vk wk=>va=.bool true/\vk=.int .i64 0/\w0.grownBy wk none) (fun _ vk _=>0)
     case atStart=>exact ⟨rfl,rfl,gb_refl _ _⟩
     case round =>
      obtain ⟨rfl,rfl,hgk⟩:=hrel;have hcw2:wr.cell? (a.add i)=some (.slice none 0 0):=hgk.cell hcw (by simp);have HGK:Hd (w0.grownBy wr none):=hgk;clear hgk hcw;go_wp2;go_ret;exact ⟨ret_bool HRT.o.symm,gb_trans HG0.o (gb_trans HG.o HGK.o)⟩
    ·obtain ⟨n1,hn1⟩:=nm (L.length);have HN1:Hd (L.length=n1/\n1<=1000):=⟨hn1,by have:=HLo.o.1;omega⟩;have hn2:n1<=1000:=HN1.o.2;have HCE:Hd (∀k (hk:k < L.length),TqAt w0 (q.add (k * 7)) L[k]):=hcell;rw [hn1] at hcw hc1;clear hcell hn1 HTS;go_wp2;go_loopw [6,7] (fun va vk wk=>∃k:Nat,vk=.int .i64 k/\k<=n1/\va=.bool ((L.take k).all fun x=>admB (teOf x) v)/\w0.grownBy wk none) (fun _ vk _=>n1 - (intOf vk).toNat)
     case atStart=>exact ⟨0,rfl,Nat.zero_le _,rfl,gb_refl _ _⟩
     case round =>
      obtain ⟨k,rfl,hk,rfl,hgk⟩:=hrel;have hcw2:wr.cell? (a.add i)=some (.slice (some q) n1 c1):=hgk.cell hcw (by simp);have HGK:Hd (w0.grownBy wr none):=hgk;have HCW:Hd (w0.cell? (a.add i)=some (.slice (some q) n1 c1)):=hcw;clear hgk hcw
      by_cases hkl:k < n1
      ·have hkL:k < L.length:=by rw [HN1.o.1];exact hkl
       obtain ⟨x,hx⟩:=nm (L[k]);have HE:Hd (TqAt wr (q.add (k * 7)) x):=by show TqAt wr _ x;rw [<-hx];exact (HCE.o k hkL).grow HGK.o
       have hxo:TqOk x:=by rw [<-hx];exact HLo.o.2 _ (List.getElem_mem hkL)
       obtain ⟨r,hr⟩:=nm (admB (teOf x) v);have CX:Hd (∀w,Calls Tryz.prog 64 #[.agg #[.int .i64 x.sg,.int .i64 x.m,.int .i64 x.a,.int .i64 x.b,.int .i64 x.c,.string x.p,.string x.q],.agg #[.int .i64 v1,.int .i64 v2,.int .i64 v3,.string v4,.string v5]] w fun e w'=>e=.returned (.bool r)/\w.grownBy w' none):=fun w=>by rw [<-hr];exact CA.o x w hxo
       obtain ⟨al,hal⟩:=nm (((L.take k).all fun x=>admB (teOf x) v));have HNA:Hd (((L.take (k+1)).all fun x=>admB (teOf x) v)=(al && r)):=by
        show _=_;rw [List.take_succ_eq_append_getElem hkL,List.all_append,hal,hx];simp [hr]
       rw [hal];have STk:Hd (St V0 v1 v2 v3 v4 v5 wr):=(STv.o.grow HG.o).grow HGK.o;clear hx hxo hr hal;obtain ⟨e0,e1,e2,e3,e4,e5,e6⟩:=HE.o;obtain ⟨s1,s2,s3,s4,s5⟩:=STk.o;go_wp2
       go_region_held3 (fun w'=>w'.cell? (a.add i)=some (.slice (some q) n1 c1)/\w'.cell? (q.add (k * 7))=some (.int .i64 x.sg)/\w'.cell? ⟨(q.add (k * 7)).block,(q.add (k * 7)).off+1,none⟩=some (.int .i64 x.m)/\w'.cell? ⟨(q.add (k * 7)).block,(q.add (k * 7)).off+2,none⟩=some (.int .i64 x.a)/\w'.cell? ⟨(q.add (k * 7)).block,(q.add (k * 7)).off+3,none⟩=some (.int .i64 x.b)/\w'.cell? ⟨(q.add (k * 7)).block,(q.add (k * 7)).off+4,none⟩=some (.int .i64 x.c)/\w'.cell? ⟨(q.add (k * 7)).block,(q.add (k * 7)).off+5,none⟩=some (.string x.p)/\w'.cell? ⟨(q.add (k * 7)).block,(q.add (k * 7)).off+6,none⟩=some (.string x.q)/\w'.cell? ⟨V0,0,none⟩=some (.int .i64 v1)/\w'.cell? ⟨V0,1,none⟩=some (.int .i64 v2)/\w'.cell? ⟨V0,2,none⟩=some (.int .i64 v3)/\w'.cell? ⟨V0,3,none⟩=some (.string v4)/\w'.cell? ⟨V0,4,none⟩=some (.string v5)) (first | (simp only [cell_drew2];exact ⟨hcw2,e0,e1,e2,e3,e4,e5,e6,s1,s2,s3,s4,s5⟩) | exact keep13 (by assumption) (by assumption)) (first | (go_at_call 64;refine (CX.o _).mono ?_;rintro e w1 ⟨rfl,hg1⟩))
       have HGK1:Hd (w0.grownBy w1 none):=gb_trans HGK.o (gb_undrew hg1);clear hg1 e0 e1 e2 e3 e4 e5 e6 s1 s2 s3 s4 s5 hcw2
       cases al with
       | true =>
        go_wp2;go_roundw
        case rel=>exact ⟨k+1,by go_num,by omega,by rw [HNA.o];rfl,HGK1.o⟩
        case measure=>simp [intOf];omega
       | false =>
        go_wp2;go_roundw
        case rel=>exact ⟨k+1,by go_num,by omega,by rw [HNA.o];rfl,HGK1.o⟩
        case measure=>simp [intOf];omega
      ·have hkn:k=n1:=by omega
       subst hkn;have hfull:L.take k=L:=List.take_of_length_le (by rw [HN1.o.1];exact Nat.le_refl _);rw [hfull];obtain ⟨r,hr⟩:=nm ((L.all fun x=>admB (teOf x) v));have HNR:=NEXT.o r hr;have HNX:Hd ((r=true->R=true)/\(r=false->∀j (hj:j < A.length),j < i+1->(A[j].all fun x=>admB (teOf x) v)=false)):=HNR;rw [hr];clear hr hfull HNR hk hkl
       cases r with
       | true =>
        go_wp2;go_ret;exact ⟨ret_bool (HNX.o.1 (by first | rfl | trivial)).symm,gb_trans HG0.o (gb_trans HG.o HGK.o)⟩
       | false =>
        go_wp2;go_roundw
        case rel=>exact ⟨i+1,by go_num,by omega,HNX.o.2 (by first | rfl | trivial),gb_trans HG.o HGK.o⟩
        case measure=>simp [intOf];omega
   ·have HRF:Hd (R=false):=by
     show R=false;rw [<-HR.o];unfold admQ;rw [List.any_eq_false];intro t ht;obtain ⟨j,hj,rfl⟩:=List.getElem_of_mem ht;rw [HP.o j hj (by rw [HN.o] at hj;omega)];decide
    clear hi;go_wp2;go_ret;exact ⟨ret_bool HRF.o.symm,gb_trans HG0.o HG.o⟩
open Go.RowKit
def twE (b:Bool):Int:=if b=true then 5 else 0
theorem any_next (L:List Nd) (n:ByteArray) (k:Nat) (hk:k < L.length):(L.take (k+1)).any (fun y=>decide (y.n=n))=((L.take k).any (fun y=>decide (y.n=n)) || decide (L[k].n=n)):=by
 rw [List.take_succ_eq_append_getElem hk,List.any_append];simp
set_option maxRecDepth 100000 in
theorem wrongNeeds_at (a:Addr) (cap:Nat) (L:List Nd) (w:World) (hcap:L.length<=cap) (h:∀i (hi:i < L.length),NdAt w (a.add (i * 2)) L[i]) (hL:L.length<=1048576) (hS:∀x ∈ L,x.n.size < 2 ^ 60/\x.r.size < 2 ^ 60) :
  Calls Tryz.prog 15 #[.slice (some a) L.length cap] w fun e w'=>e=.returned (.int .i64 (wrongN L))/\w.grownBy w' none:=by
 have HA:Hd (∀i (hi:i < L.length),NdAt w (a.add (i * 2)) L[i]):=h;have CN:Hd (∀x ∈ L,∀w,Calls Tryz.prog 26 #[.string x.n] w fun e w'=>e=.returned (.bool (nameB x.n))/\w'=w):=fun x hx w=>rname_any x.n w (by have:=(hS x hx).1;omega)
 have CR:Hd (∀x ∈ L,∀w,Calls Tryz.prog 29 #[.string x.r] w fun e w'=>e=.returned (.bool (okR x.r))/\w.grownBy w' none):=fun x hx w=>rIsRange_any x.r w (hS x hx).2
 have HT:Hd (∀i (hi:i < L.length),goodN L[i]=false->wrongN L=2):=wrong_text L;have HE:Hd (L.all goodN=true->twE (twTo L L.length)=wrongN L):=fun h=>by
  unfold twE
  cases ht:twTo L L.length with
  | true=>rw [if_pos rfl,wrong_twice L h ht]
  | false=>rw [if_neg (by simp),wrong_not L h ht]
 obtain ⟨R,hR⟩:=nm (wrongN L);rw [hR] at HT HE ⊢;clear h hS hR;go_enter Tryz.func15,Tryz.ntmps15;go_wp2;go_loopw [3,4] (fun ve vi wr=>∃i:Nat,vi=.int .i64 i/\ve=.int .i64 (twE (twTo L i))/\i<=L.length/\(L.take i).all goodN=true/\w.grownBy wr none) (fun _ vi _=>L.length - (intOf vi).toNat)
 case atStart=>exact ⟨0,rfl,rfl,Nat.zero_le _,rfl,gb_refl _ _⟩
 case round =>
  obtain ⟨i,rfl,rfl,hi,hall,hg⟩:=hrel;have HALL:Hd ((L.take i).all goodN=true):=hall;have HG:Hd (w.grownBy wr none):=hg
  by_cases hlt:i < L.length
  ·obtain ⟨x,hx⟩:=nm (L[i]);obtain ⟨e0,e1⟩:NdAt wr (a.add (i * 2)) x:=by rw [<-hx];exact (HA.o i hlt).grow hg
   have hmem:x ∈ L:=by rw [<-hx];exact List.getElem_mem _
   have CX:Hd (∀w,Calls Tryz.prog 26 #[.string x.n] w fun e w'=>e=.returned (.bool (nameB x.n))/\w'=w):=fun w=>CN.o x hmem w
   have CY:Hd (∀w,Calls Tryz.prog 29 #[.string x.r] w fun e w'=>e=.returned (.bool (okR x.r))/\w.grownBy w' none):=fun w=>CR.o x hmem w
   have HF:Hd (goodN x=false->R=2):=fun h=>HT.o i hlt (by rw [hx];exact h)
   have HN:Hd (goodN x=true->(L.take (i+1)).all goodN=true):=fun h=>all_step L i hlt (by rw [hx];exact h) HALL.o
   have HTW:Hd (twTo L (i+1)=(twTo L i || (L.take i).any (fun y=>decide (y.n=x.n)))):=by
    show _=_;rw [tw_step L i hlt,hx];rfl
   have HX:Hd (L[i]=x):=hx;have hgd:goodN x=(nameB x.n && okR x.r):=rfl;rw [hgd] at HF HN;obtain ⟨t0,ht0⟩:∃t,twTo L i=t:=⟨_,rfl⟩;rw [ht0] at HTW ⊢;obtain ⟨q1,hq1⟩:∃q,nameB x.n=q:=⟨_,rfl⟩;obtain ⟨q2,hq2⟩:∃q,okR x.r=q:=⟨_,rfl⟩;rw [hq1] at CX HF HN;rw [hq2] at CY HF HN;obtain ⟨xn,xr⟩:=x;simp only [] at CX CY e0 e1 HTW;clear hall hg hx hmem hgd hq1 hq2 ht0;go_wp2_with (first | (go_at_call 26;refine (CX.o _).mono ?_;rintro e w' ⟨rfl,rfl⟩) | (go_at_call 29;refine (CY.o _).mono ?_));rintro e w3 ⟨rfl,hg3⟩;have HG3:Hd (w.grownBy w3 none):=gb_trans HG.o hg3;clear hg3 e0 e1
   cases q1 with
   | false =>
    go_wp2;go_ret;exact ⟨ret_int (HF.o (by trivial)).symm,HG3.o⟩
   | true =>
    cases q2 with
    | false =>
     go_wp2;go_ret;exact ⟨ret_int (HF.o (by trivial)).symm,HG3.o⟩
    | true =>
     go_wp2;go_loopw [3,7] (fun ve vk wk=>∃k:Nat,vk=.int .i64 k/\ve=.int .i64 (twE (t0 || (L.take k).any (fun y=>decide (y.n=xn))))/\k<=i/\w.grownBy wk none) (fun _ vk _=>i - (intOf vk).toNat)
     case atStart=>exact ⟨0,rfl,by simp,Nat.zero_le _,HG3.o⟩
     case round =>
      obtain ⟨k,rfl,rfl,hk,hgk⟩:=hrel;have HGK:Hd (w.grownBy wr none):=hgk
      by_cases hki:k < i
      ·have hkl:k < L.length:=by omega
       obtain ⟨y,hy⟩:=nm (L[k]);have f0:wr.cell? (a.add (k * 2))=some (.string y.n):=by rw [<-hy];exact ((HA.o k hkl).grow hgk).1
       have f1:wr.cell? (a.add (i * 2))=some (.string xn):=by
        have:=((HA.o i hlt).grow hgk).1;rw [HX.o] at this;exact this
       have HAN:Hd ((L.take (k+1)).any (fun y=>decide (y.n=xn))=((L.take k).any (fun y=>decide (y.n=xn)) || decide (y.n=xn))):=by
        show _=_;rw [any_next L xn k hkl,hy]
       obtain ⟨q0,hq0⟩:∃q,(t0 || (L.take k).any (fun y=>decide (y.n=xn)))=q:=⟨_,rfl⟩;have HNX:Hd ((t0 || (L.take (k+1)).any (fun y=>decide (y.n=xn)))=(q0 || decide (y.n=xn))):=by
        show _=_;rw [HAN.o,<-Bool.or_assoc,hq0]
       try rw [hq0]
       clear hgk hy hq0
       by_cases hxy:y.n=xn
       ·have q:=txt_eq hxy;have HV:Hd ((5:Int)=twE (t0 || (L.take (k+1)).any (fun y=>decide (y.n=xn)))):=by
         show _=_;rw [HNX.o];simp [hxy,twE]
        go_wp2;go_quiet (fail);go_wp2;go_roundw
        case rel=>exact ⟨k+1,by go_num,by rw [<-HV.o],by omega,gb_drew HGK.o _⟩
        case measure=>simp [intOf];omega
       ·have q:=txt_ne hxy;have HV:Hd (twE q0=twE (t0 || (L.take (k+1)).any (fun y=>decide (y.n=xn)))):=by
         show _=_;rw [HNX.o];simp [hxy]
        go_wp2;go_quiet (fail);go_wp2;go_roundw
        case rel=>exact ⟨k+1,by go_num,by rw [<-HV.o],by omega,gb_drew HGK.o _⟩
        case measure=>simp [intOf];omega
      ·have hke:k=i:=by omega
       subst hke;clear hgk hk;have HV:Hd (twE (t0 || (L.take k).any (fun y=>decide (y.n=xn)))=twE (twTo L (k+1))):=by
        show _=_;rw [HTW.o]
       obtain ⟨E1,hE1⟩:∃E,twE (t0 || (L.take k).any (fun y=>decide (y.n=xn)))=E:=⟨_,rfl⟩;rw [hE1] at HV
       try rw [hE1]
       clear hE1;go_wp2;go_roundw
       case rel=>exact ⟨k+1,by go_num,by rw [HV.o],by omega,HN.o (by trivial),HGK.o⟩
       case measure=>simp [intOf];omega
  ·have hil:i=L.length:=by omega
   have HL:Hd (twE (twTo L i)=R):=by
    show _=R;rw [hil,List.take_length] at hall;rw [hil];exact HE.o hall
   obtain ⟨E1,hE1⟩:∃E,twE (twTo L i)=E:=⟨_,rfl⟩;rw [hE1] at HL
   try rw [hE1]
   clear hall hg hil hi hE1;go_wp2;go_ret;exact ⟨ret_int HL.o,HG.o⟩
theorem wrongNeeds_nil (w:World):Calls Tryz.prog 15 #[.slice none 0 0] w fun e w'=>e=.returned (.int .i64 (wrongN []))/\w.grownBy w' none:=by
 have e0:wrongN []=0:=by simp [wrongN,twTo]
 rw [e0];clear e0;go_enter Tryz.func15,Tryz.ntmps15;go_wp2;go_loopw [3,4] (fun ve vi wr=>vi=.int .i64 0/\ve=.int .i64 0/\w.grownBy wr none) (fun _ vi _=>0)
 case atStart=>exact ⟨rfl,rfl,gb_refl _ _⟩
 case round =>
  obtain ⟨rfl,rfl,hb⟩:=hrel;have HB:Hd (w.grownBy wr none):=hb;clear hb;go_wp2;go_ret;exact ⟨rfl,HB.o⟩
theorem cWrong (v:Value) (L:List Nd) (w:World) (h:NdS w v L) (hL:L.length<=1048576) (hS:∀x ∈ L,x.n.size < 2 ^ 60/\x.r.size < 2 ^ 60) :
  Calls Tryz.prog 15 #[v] w fun e w'=>e=.returned (.int .i64 (wrongN L))/\w.grownBy w' none:=by
 rcases h with ⟨rfl,rfl⟩ | ⟨a,cap,rfl,h2,h3⟩
 ·exact wrongNeeds_nil w
 ·exact wrongNeeds_at a cap L w h2 h3 hL hS
open Go.RowKit Go.Maps
def chI (L:List Re) (C:List Int) (n:ByteArray):Int:=match C.find? (fun c=>decide (nmK L c.toNat=n)) with | some c=>c | none=>-1
theorem chI_hit (L:List Re) (C:List Int) (n:ByteArray) (i:Nat) (hi:i < C.length) (h:nmK L (C[i]).toNat=n) (h0:(C.take i).any (fun c=>decide (nmK L c.toNat=n))=false):chI L C n=C[i]:=by
 have:C.find? (fun c=>decide (nmK L c.toNat=n))=some C[i]:=by
  rw [List.find?_eq_some_iff_getElem];refine ⟨by simpa using h,i,hi,rfl,fun j hj=>?_⟩;rw [List.any_eq_false] at h0;have:=h0 C[j] (List.mem_take_iff_getElem.2 ⟨j,by omega,rfl⟩);simpa using this
 unfold chI;rw [this]
theorem chI_miss (L:List Re) (C:List Int) (n:ByteArray) (h0:C.any (fun c=>decide (nmK L c.toNat=n))=false):chI L C n=-1:=by
 have:C.find? (fun c=>decide (nmK L c.toNat=n))=none:=by
  rw [List.find?_eq_none];rw [List.any_eq_false] at h0;exact h0
 unfold chI;rw [this]
theorem chI_cases (L:List Re) (C:List Int) (n:ByteArray):(∃c ∈ C,chI L C n=c/\nmK L c.toNat=n)\/(chI L C n=-1/\∀c ∈ C,¬ nmK L c.toNat=n):=by
 unfold chI
 cases hf:C.find? (fun c=>decide (nmK L c.toNat=n)) with
 | none =>
  right;refine ⟨rfl,fun c hc e=>?_⟩;have:=List.find?_eq_none.1 hf c hc;exact this (by simpa using e)
 | some c =>
  left;refine ⟨c,List.mem_of_find?_eq_some hf,rfl,?_⟩;have:=List.find?_some hf;simpa using this
theorem any_step {α:Type} (p:α->Bool) (C:List α) (i:Nat) (hi:i < C.length):(C.take (i+1)).any p=((C.take i).any p || p C[i]):=by
 rw [List.take_succ_eq_append_getElem hi,List.any_append];simp
set_option maxRecDepth 100000 in
theorem chosenOf_any (o oc:Option Addr) (c cc:Nat) (L:List Re) (C:List Int) (n:ByteArray) (w:World) (h:ReS w (.slice o L.length c) L) (hc:IS w (.slice oc C.length cc) C) (hL:L.length<=1048576) (hC:C.length<=1048576) (hin:∀z ∈ C,0<=z/\z < (L.length:Int)) :
  Calls Tryz.prog 17 #[.slice o L.length c,.slice oc C.length cc,.string n] w fun e w'=>e=.returned (.int .i64 (chI L C n))/\w.grownBy w' none:=by
 have HE:Hd (∀w',w.grownBy w' none->∀i,i < L.length->∃a,o=some a/\L.length<=c/\∀j (hj:j < L.length),ReAt w' (a.add (j * 4)) L[j]):=fun w' hg i hi=>reS_at (h.grow hg) hi
 have HI:Hd (∀w',w.grownBy w' none->∀i,i < C.length->∃a,oc=some a/\C.length<=cc/\∀j (hj:j < C.length),w'.cell? (a.add j)=some (.int .i64 C[j])):=fun w' hg i hi=>is_at (hc.grow hg) hi
 have HIN:Hd (∀z ∈ C,0<=z/\z < (L.length:Int)):=hin;have HH:Hd (∀i (hi:i < C.length),nmK L (C[i]).toNat=n->(C.take i).any (fun c=>decide (nmK L c.toNat=n))=false->chI L C n=C[i]):=chI_hit L C n;have HM:Hd (C.any (fun c=>decide (nmK L c.toNat=n))=false->chI L C n=-1):=chI_miss L C n;obtain ⟨R,hR⟩:=nm (chI L C n);rw [hR] at HH HM ⊢;clear h hc hin hR;go_enter Tryz.func17,Tryz.ntmps17;go_wp2;go_loopw [7] (fun vi wr=>∃i:Nat,vi=.int .i64 i/\i<=C.length/\(C.take i).any (fun c=>decide (nmK L c.toNat=n))=false/\w.grownBy wr none) (fun vi _=>C.length - (intOf vi).toNat)
 case atStart=>exact ⟨0,rfl,Nat.zero_le _,rfl,gb_refl _ _⟩
 case round =>
  obtain ⟨i,rfl,hi,hno,hg⟩:=hrel;have HG:Hd (w.grownBy wr none):=hg;have HNO:Hd ((C.take i).any (fun c=>decide (nmK L c.toNat=n))=false):=hno
  by_cases hlt:i < C.length
  ·obtain ⟨a1,ho1,hcp1,hat1⟩:=HI.o wr hg i hlt;have f0:=hat1 i hlt;obtain ⟨hz1,hz2⟩:=HIN.o _ (List.getElem_mem hlt);obtain ⟨k,hk⟩:∃k:Nat,C[i]=(k:Int):=⟨(C[i]).toNat,by omega⟩;have hkl:k < L.length:=by omega
   obtain ⟨a2,ho2,hcp2,hat2⟩:=HE.o wr hg k hkl;obtain ⟨e0,-⟩:=hat2 k hkl;have hhi:=HH.o i hlt;have HST:Hd ((C.take (i+1)).any (fun c=>decide (nmK L c.toNat=n))=((C.take i).any (fun c=>decide (nmK L c.toNat=n)) || decide (nmK L (C[i]).toNat=n))):=any_step _ C i hlt;rw [hk] at f0 hhi HST;have e1:((k:Int)).toNat=k:=by omega
   rw [e1,nmK_at L k hkl] at hhi HST;obtain ⟨x,hx⟩:=nm (L[k].nm);rw [hx] at hhi HST e0;have hic:i < cc:=by omega
   have hkc:k < c:=by omega
   have HHI:Hd (x=n->(C.take i).any (fun c=>decide (nmK L c.toNat=n))=false->R=(k:Int)):=hhi;subst ho1 ho2;clear hat1 hat2 hg hno hcp1 hcp2 hz1 hz2 hk hx hhi e1
   by_cases hn:x=n
   ·have hnn:(x.toList == n.toList)=true:=by rw [hn];simp
    have HRK:Hd (R=(k:Int)):=HHI.o hn HNO.o;clear hn;go_wp2;refine bodyPost_ret (results_tmp (t:=6) rfl _ _ _) rfl ⟨?_,HG.o⟩;rw [HRK.o];rfl
   ·have hnn:(x.toList == n.toList)=false:=txt_ne hn;have HSN:Hd ((C.take (i+1)).any (fun c=>decide (nmK L c.toNat=n))=false):=by
     show _=_;rw [HST.o,HNO.o,decide_eq_false hn];rfl
    clear hn;go_wp2;go_roundw
    case rel=>exact ⟨i+1,by go_num,by omega,HSN.o,HG.o⟩
    case measure=>simp [intOf];omega
  ·have hil:i=C.length:=by omega
   have HRK:Hd (R=-1):=by
    rw [hil,List.take_length] at hno;exact HM.o hno
   clear hno hg hil hi;go_wp2;refine bodyPost_ret (results_tmp (t:=6) rfl _ _ _) rfl ⟨?_,HG.o⟩;rw [HRK.o];rfl
set_option maxRecDepth 100000 in
theorem admits_any (r v:ByteArray) (w:World) (hr:r.size < 2 ^ 60) (hv:v.size < 2 ^ 60) (ho:okR r=true) :
  Calls Tryz.prog 30 #[.string r,.string v] w fun e w'=>e=.returned (.bool (admT r v))/\w.grownBy w' none:=by
 have h0:(rdRange r.data.toList).1=0:=of_decide_eq_true ho;have CR:Hd (∀w,Calls Tryz.prog 44 #[.string r] w (RRPost (rdRange r.data.toList) w)):=fun w=>readRange_any r w hr
 have CV:Hd (∀w,Calls Tryz.prog 43 #[.string v] w fun e w'=>e=.returned (valV (verO v))/\w.grownBy w' none):=fun w=>refVersion_any v w (by omega)
 have hp:=pre_100 v;have CQ:Hd (∀(sv:Value) (A:List (List Tq)) (w:World),SsAt w sv A->A.length<=201->(∀L ∈ A,L.length<=1000/\∀x ∈ L,TqOk x)->Calls Tryz.prog 45 #[sv,valV (verO v)] w fun e w'=>e=.returned (.bool (admQ A (cutV (verO v))))/\w.grownBy w' none):=fun sv A w h1 h2 h3=>(admAll_any sv A _ _ _ _ _ w h1 h2 h3 (by show (verO v).pre.toArray.size<=_;simp;omega)).mono fun e w' ⟨he,hg⟩=>⟨by rw [he];simp [cutV],hg⟩
 have HAD:Hd (∀A:List (List Tq),A.map (·.map teOf)=(rdRange r.data.toList).2.2->admQ A (cutV (verO v))=admT r v):=fun A hA=>by
  show _=_;unfold admT;rw [admQ_S,hA]
 have HR0:Hd ((rdRange r.data.toList).1=0):=h0;unfold valV at CV CQ;obtain ⟨v1,hv1⟩:∃x,(verO v).major=x:=⟨_,rfl⟩;obtain ⟨v2,hv2⟩:∃x,(verO v).minor=x:=⟨_,rfl⟩;obtain ⟨v3,hv3⟩:∃x,(verO v).patch=x:=⟨_,rfl⟩;obtain ⟨v4,hv4⟩:∃x:ByteArray,⟨(verO v).pre.toArray⟩=x:=⟨_,rfl⟩;obtain ⟨v5,hv5⟩:∃x:ByteArray,⟨(verO v).build.toArray⟩=x:=⟨_,rfl⟩;rw [hv1,hv2,hv3,hv4,hv5] at CV CQ;obtain ⟨R,hR⟩:=nm (admT r v);rw [hR] at HAD ⊢;clear hv1 hv2 hv3 hv4 hv5 hp h0 ho hr hv hR;go_enter Tryz.func30,Tryz.ntmps30;go_wp2_with (first | (go_at_call 44;refine (CR.o _).mono ?_));rintro e w1 ⟨o,n,c,A,rfl,hg,hok⟩;obtain ⟨h1,h2,h3,h4⟩:=hok HR0.o;have HSS:Hd (SsAt w1 (.slice o n c) A/\A.length<=201/\∀L ∈ A,L.length<=1000/\∀x ∈ L,TqOk x):=⟨oa_ss h1,h3,h4⟩;have HQ:Hd (admQ A (cutV (verO v))=R):=HAD.o A h2;have HG:Hd (w.grownBy w1 none):=hg;clear hok h1 h2 h3 h4 hg;go_wp2_with (first | (go_at_call 43;refine (CV.o _).mono ?_))
 rintro e w2 ⟨rfl,hg2⟩;have CQ2:Hd (Calls Tryz.prog 45 #[.slice o n c,.agg #[.int .i64 v1,.int .i64 v2,.int .i64 v3,.string v4,.string v5]] w2 fun e w'=>e=.returned (.bool R)/\w2.grownBy w' none):=by
  have:=CQ.o (.slice o n c) A w2 (HSS.o.1.grow hg2) HSS.o.2.1 HSS.o.2.2;rw [HQ.o] at this;exact this
 replace HG:Hd (w.grownBy w2 none):=gb_trans HG.o hg2;clear hg2;go_wp2_with (first | (go_at_call 45;refine CQ2.o.mono ?_;rintro e w3 ⟨rfl,hg3⟩));go_ret;exact ⟨rfl,gb_trans HG.o hg3⟩
def askB (N:List Nd) (n:ByteArray):Bool:=N.any fun y=>decide (y.n=n)
set_option maxRecDepth 100000 in
theorem asks_any (v:Value) (N:List Nd) (n:ByteArray) (w:World) (h:NdS w v N) (hN:N.length<=1048576) :
  Calls Tryz.prog 31 #[v,.string n] w fun e w'=>e=.returned (.bool (askB N n))/\w.grownBy w' none:=by
 obtain ⟨o,c,rfl⟩:∃o c,v=.slice o N.length c:=by
  rcases h with ⟨rfl,rfl⟩ | ⟨_,_,rfl,-⟩
  ·exact ⟨_,_,rfl⟩
  ·exact ⟨_,_,rfl⟩
 have HE:Hd (∀w',w.grownBy w' none->∀i,i < N.length->∃a,o=some a/\N.length<=c/\∀j (hj:j < N.length),NdAt w' (a.add (j * 2)) N[j]):=fun w' hg i hi=>nds_at (h.grow hg) hi
 have HH:Hd (∀i (hi:i < N.length),N[i].n=n->askB N n=true):=fun i hi he=>by
  show askB N n=true;unfold askB;rw [List.any_eq_true];exact ⟨N[i],List.getElem_mem _,by simpa using he⟩
 have HA:Hd (askB N n=N.any fun y=>decide (y.n=n)):=rfl;obtain ⟨R,hR⟩:=nm (askB N n);rw [hR] at HH HA ⊢;clear h hR;go_enter Tryz.func31,Tryz.ntmps31;go_wp2;go_loopw [5] (fun vi wr=>∃i:Nat,vi=.int .i64 i/\i<=N.length/\(N.take i).any (fun y=>decide (y.n=n))=false/\w.grownBy wr none) (fun vi _=>N.length - (intOf vi).toNat)
 case atStart=>exact ⟨0,rfl,Nat.zero_le _,rfl,gb_refl _ _⟩
 case round =>
  obtain ⟨i,rfl,hi,hno,hg⟩:=hrel;have HG:Hd (w.grownBy wr none):=hg;have HNO:Hd ((N.take i).any (fun y=>decide (y.n=n))=false):=hno
  by_cases hlt:i < N.length
  ·obtain ⟨a1,ho1,hcp1,hat1⟩:=HE.o wr hg i hlt;obtain ⟨e0,-⟩:=hat1 i hlt;have HHI:=HH.o i hlt;have HST:Hd ((N.take (i+1)).any (fun y=>decide (y.n=n))=((N.take i).any (fun y=>decide (y.n=n)) || decide (N[i].n=n))):=any_step _ N i hlt;obtain ⟨x,hx⟩:=nm (N[i].n);rw [hx] at HHI HST e0;have HHJ:Hd (x=n->R=true):=HHI;have hic:i < c:=by omega
   subst ho1;clear hat1 hg hno hcp1 hx HHI
   by_cases hn:x=n
   ·have hnn:(x.toList == n.toList)=true:=by rw [hn];simp
    have HRK:Hd (R=true):=HHJ.o hn;clear hn;go_wp2;refine bodyPost_ret (results_tmp (t:=4) rfl _ _ _) rfl ⟨?_,HG.o⟩;rw [HRK.o];rfl
   ·have hnn:(x.toList == n.toList)=false:=txt_ne hn;have HSN:Hd ((N.take (i+1)).any (fun y=>decide (y.n=n))=false):=by
     show _=_;rw [HST.o,HNO.o,decide_eq_false hn];rfl
    clear hn;go_wp2;go_roundw
    case rel=>exact ⟨i+1,by go_num,by omega,HSN.o,HG.o⟩
    case measure=>simp [intOf];omega
  ·have hil:i=N.length:=by omega
   have HRK:Hd (R=false):=by
    rw [hil,List.take_length] at hno;exact HA.o.trans hno
   clear hno hg hil hi;go_wp2;refine bodyPost_ret (results_tmp (t:=4) rfl _ _ _) rfl ⟨?_,HG.o⟩;rw [HRK.o];rfl
open Go.RowKit Go.Maps
def metY (L:List Re) (C:List Int) (y:Nd):Bool:=decide (0<=chI L C y.n) && admT y.r (veK L (chI L C y.n).toNat)
def metD (N:List Nd) (L:List Re) (C:List Int):Bool:=N.all (metY L C)
theorem metD_miss (N:List Nd) (L:List Re) (C:List Int) (i:Nat) (hi:i < N.length) (h:metY L C N[i]=false):metD N L C=false:=by
 unfold metD;rw [List.all_eq_false];exact ⟨N[i],List.getElem_mem _,by rw [h];simp⟩
theorem metD_step (N:List Nd) (L:List Re) (C:List Int) (i:Nat) (hi:i < N.length) (h:metY L C N[i]=true) (h0:metD (N.take i) L C=true):metD (N.take (i+1)) L C=true:=by
 unfold metD at *;rw [List.take_succ_eq_append_getElem hi,List.all_append,h0];simp [h]
set_option maxRecDepth 100000 in
theorem rMet_any (v:Value) (o oc:Option Addr) (c cc:Nat) (N:List Nd) (L:List Re) (C:List Int) (w:World) (hn:NdS w v N) (h:ReS w (.slice o L.length c) L) (hc:IS w (.slice oc C.length cc) C) (hN:N.length<=1048576) (hL:L.length<=1048576) (hC:C.length<=1048576) (hin:∀z ∈ C,0<=z/\z < (L.length:Int)) (hr:∀y ∈ N,okR y.r=true) (hS:∀y ∈ N,y.r.size < 2 ^ 60) (hV:∀x ∈ L,x.ve.size < 2 ^ 60) :
  Calls Tryz.prog 16 #[v,.slice o L.length c,.slice oc C.length cc] w fun e w'=>e=.returned (.bool (metD N L C))/\w.grownBy w' none:=by
 obtain ⟨on,cn,rfl⟩:∃o c,v=.slice o N.length c:=by
  rcases hn with ⟨rfl,rfl⟩ | ⟨_,_,rfl,-⟩
  ·exact ⟨_,_,rfl⟩
  ·exact ⟨_,_,rfl⟩
 have HEN:Hd (∀w',w.grownBy w' none->∀i,i < N.length->∃a,on=some a/\N.length<=cn/\∀j (hj:j < N.length),NdAt w' (a.add (j * 2)) N[j]):=fun w' hg i hi=>nds_at (hn.grow hg) hi
 have HEL:Hd (∀w',w.grownBy w' none->∀i,i < L.length->∃a,o=some a/\L.length<=c/\∀j (hj:j < L.length),ReAt w' (a.add (j * 4)) L[j]):=fun w' hg i hi=>reS_at (h.grow hg) hi
 have CC:Hd (∀n w',w.grownBy w' none->Calls Tryz.prog 17 #[.slice o L.length c,.slice oc C.length cc,.string n] w' fun e w''=>e=.returned (.int .i64 (chI L C n))/\w'.grownBy w'' none):=fun n w' hg=>chosenOf_any o oc c cc L C n w' (h.grow hg) (hc.grow hg) hL hC hin
 have CA:Hd (∀y ∈ N,∀x ∈ L,∀w,Calls Tryz.prog 30 #[.string y.r,.string x.ve] w fun e w'=>e=.returned (.bool (admT y.r x.ve))/\w.grownBy w' none):=fun y hy x hx w=>admits_any y.r x.ve w (hS y hy) (hV x hx) (hr y hy)
 have HCH:Hd (∀n,chI L C n=-1\/(0<=chI L C n/\chI L C n < (L.length:Int))):=fun n=>by
  rcases chI_cases L C n with ⟨z,hz,he,-⟩ | ⟨he,-⟩
  ·right;rw [he];exact hin z hz
  ·left;exact he
 have HMI:Hd (∀i (hi:i < N.length),metY L C N[i]=false->metD N L C=false):=metD_miss N L C;have HST:Hd (∀i (hi:i < N.length),metY L C N[i]=true->metD (N.take i) L C=true->metD (N.take (i+1)) L C=true):=metD_step N L C;have HMY:Hd (∀y,metY L C y=(decide (0<=chI L C y.n) && admT y.r (veK L (chI L C y.n).toNat))):=fun y=>rfl
 obtain ⟨R,hR⟩:=nm (metD N L C);have HR:Hd (metD N L C=R):=hR;rw [hR] at HMI ⊢;clear hn h hc hin hr hS hV hR;go_enter Tryz.func16,Tryz.ntmps16;go_wp2;go_loopw [7] (fun vi wr=>∃i:Nat,vi=.int .i64 i/\i<=N.length/\metD (N.take i) L C=true/\w.grownBy wr none) (fun vi _=>N.length - (intOf vi).toNat)
 case atStart=>exact ⟨0,rfl,Nat.zero_le _,rfl,gb_refl _ _⟩
 case round =>
  obtain ⟨i,rfl,hi,hm,hg⟩:=hrel;have HG:Hd (w.grownBy wr none):=hg;have HM:Hd (metD (N.take i) L C=true):=hm
  by_cases hlt:i < N.length
  ·obtain ⟨a1,ho1,hcp1,hat1⟩:=HEN.o wr hg i hlt;obtain ⟨e0,e1⟩:=hat1 i hlt;have hmi:=HMI.o i hlt;have hst:=HST.o i hlt;have hca:=CA.o N[i] (List.getElem_mem hlt);obtain ⟨y,hy⟩:=nm (N[i]);rw [hy] at e0 e1 hmi hst hca;have HMI2:Hd (metY L C y=false->R=false):=hmi;have HST2:Hd (metY L C y=true->metD (N.take (i+1)) L C=true):=fun h=>hst h HM.o
   have CA2:Hd (∀x ∈ L,∀w,Calls Tryz.prog 30 #[.string y.r,.string x.ve] w fun e w'=>e=.returned (.bool (admT y.r x.ve))/\w.grownBy w' none):=hca;have C1:=CC.o y.n wr hg;have hch:=HCH.o y.n;have HY2:Hd (metY L C y=(decide (0<=chI L C y.n) && admT y.r (veK L (chI L C y.n).toNat))):=HMY.o y;obtain ⟨z,hz⟩:=nm (chI L C y.n);rw [hz] at C1 hch HY2;have C1':Hd (Calls Tryz.prog 17 #[.slice o L.length c,.slice oc C.length cc,.string y.n] wr fun e w''=>e=.returned (.int .i64 z)/\wr.grownBy w'' none):=C1;have hic:i < cn:=by omega
   have HE1:Hd (wr.cell? ⟨(a1.add (i * 2)).block,(a1.add (i * 2)).off+1,none⟩=some (.string y.r)):=e1;subst ho1;clear hat1 hg hm hcp1 hy hmi hst hca C1 hz e1;go_wp2_with (first | (go_at_call 17;refine C1'.o.mono ?_));rintro e w2 ⟨rfl,hg2⟩;have HG2:Hd (w.grownBy w2 none):=gb_trans HG.o hg2;have f1:=hg2.cell HE1.o (by simp);clear hg2 e0
   by_cases hz0:z < 0
   ·have HRF:Hd (R=false):=HMI2.o (by rw [HY2.o,decide_eq_false (by omega)];rfl);clear hch;go_wp2;refine bodyPost_ret (results_tmp (t:=6) rfl _ _ _) rfl ⟨?_,HG2.o⟩;rw [HRF.o];rfl
   ·obtain ⟨k,rfl⟩:∃k:Nat,z=(k:Int):=⟨z.toNat,by omega⟩;have hkl:k < L.length:=by omega
    obtain ⟨a2,ho2,hcp2,hat2⟩:=HEL.o w2 HG2.o k hkl;obtain ⟨-,g1,-⟩:=hat2 k hkl;have hca:=CA2.o L[k] (List.getElem_mem hkl);have HVK:Hd (veK L ((k:Int)).toNat=L[k].ve):=by
     have e1:((k:Int)).toNat=k:=by omega
     show _=_;rw [e1];exact veK_at L k hkl
    obtain ⟨x,hx⟩:=nm (L[k]);rw [hx] at g1 hca HVK;have HYQ:Hd (metY L C y=admT y.r x.ve):=by
     show _=_;rw [HY2.o,decide_eq_true (by omega),HVK.o];rfl
    obtain ⟨q,hq⟩:=nm (admT y.r x.ve);rw [hq] at hca HYQ;have CA3:Hd (∀w,Calls Tryz.prog 30 #[.string y.r,.string x.ve] w fun e w'=>e=.returned (.bool q)/\w.grownBy w' none):=hca;have hkc:k < c:=by omega
    have hklI:(k:Int) < (L.length:Int):=by omega
    have hnz:¬ ((k:Int) < 0):=by omega
    subst ho2;clear hat2 hcp2 hx hq hca hch hz0;go_upto_region 7 with fail
    go_region_with (first | (go_at_call 30;refine (CA3.o _).mono ?_;rintro e w3 ⟨rfl,hg3⟩))
    all_goals (
     have HG3:Hd (w.grownBy w3 none):=gb_trans HG2.o (gb_trans (show w2.grownBy w2.drew none from ⟨rfl,rfl,rfl,Nat.le_refl _,fun _ _ _=>rfl⟩) hg3);clear hg3 f1 g1
     cases q with
     | true =>
      have HN:Hd (metD (N.take (i+1)) L C=true):=HST2.o HYQ.o;go_wp2;go_roundw
      case rel=>exact ⟨i+1,by go_num,by omega,HN.o,HG3.o⟩
      case measure=>simp [intOf];omega
     | false =>
      have HRF:Hd (R=false):=HMI2.o HYQ.o;go_wp2;refine bodyPost_ret (results_tmp (t:=6) rfl _ _ _) rfl ⟨?_,HG3.o⟩;rw [HRF.o];rfl)
  ·have hil:i=N.length:=by omega
   have HRT:Hd (R=true):=by
    rw [hil,List.take_length] at hm;exact HR.o.symm.trans hm
   clear hm hg hil hi;go_wp2;refine bodyPost_ret (results_tmp (t:=6) rfl _ _ _) rfl ⟨?_,HG.o⟩;rw [HRT.o];rfl
end Go.Proofs.YticgahdffjnabaaGreatDoor
