import Derived.Test.YteciokcdpadmpaaGreatDoorS29
import Derived.Deep.CutRange
set_option linter.all false
set_option maxRecDepth 100000
set_option maxHeartbeats 0
open Go.Proofs.Tryz
namespace Go.Proofs.YteciokcdpadmpaaGreatDoor
open Go.RowKit
theorem ad3{p0 p1 p2 p3 p4 p5 p6 p7 p8 p9 p10 p11 p12:Addr}{c0 c1 c2 c3 c4 c5 c6 c7 c8 c9 c10 c11 c12:Value}{w w':World}(hg:w.grownBy w' none)(h:w.cell? p0=some c0/\w.cell? p1=some c1/\w.cell? p2=some c2/\w.cell? p3=some c3/\w.cell? p4=some c4/\w.cell? p5=some c5/\w.cell? p6=some c6/\w.cell? p7=some c7/\w.cell? p8=some c8/\w.cell? p9=some c9/\w.cell? p10=some c10/\w.cell? p11=some c11/\w.cell? p12=some c12):w'.cell? p0=some c0/\w'.cell? p1=some c1/\w'.cell? p2=some c2/\w'.cell? p3=some c3/\w'.cell? p4=some c4/\w'.cell? p5=some c5/\w'.cell? p6=some c6/\w'.cell? p7=some c7/\w'.cell? p8=some c8/\w'.cell? p9=some c9/\w'.cell? p10=some c10/\w'.cell? p11=some c11/\w'.cell? p12=some c12:=by
 obtain⟨h0,h1,h2,h3,h4,h5,h6,h7,h8,h9,h10,h11,h12⟩:=h;exact⟨hg.cell h0 (by simp),hg.cell h1 (by simp),hg.cell h2 (by simp),hg.cell h3 (by simp),hg.cell h4 (by simp),hg.cell h5 (by simp),hg.cell h6 (by simp),hg.cell h7 (by simp),hg.cell h8 (by simp),hg.cell h9 (by simp),hg.cell h10 (by simp),hg.cell h11 (by simp),hg.cell h12 (by simp)⟩
def TqAt(w:World)(p:Addr)(x:Tq):Prop:=w.cell? p=some (.int .i64 x.sg)/\w.cell? ⟨p.block,p.off+1,none⟩=some (.int .i64 x.m)/\w.cell? ⟨p.block,p.off+2,none⟩=some (.int .i64 x.a)/\w.cell? ⟨p.block,p.off+3,none⟩=some (.int .i64 x.b)/\w.cell? ⟨p.block,p.off+4,none⟩=some (.int .i64 x.c)/\w.cell? ⟨p.block,p.off+5,none⟩=some (.string x.p)/\w.cell? ⟨p.block,p.off+6,none⟩=some (.string x.q)
theorem TqAt.grow{w w':World}{p:Addr}{x:Tq}(h:TqAt w p x)(hg:w.grownBy w' none):TqAt w' p x:=by
 obtain⟨h0,h1,h2,h3,h4,h5,h6⟩:=h;exact⟨hg.cell h0 (by simp),hg.cell h1 (by simp),hg.cell h2 (by simp),hg.cell h3 (by simp),hg.cell h4 (by simp),hg.cell h5 (by simp),hg.cell h6 (by simp)⟩
theorem ad4{w:World}{a:Addr}{n:Nat}{s:Tq}(h:∀k v,(je s)[k]?=some v->w.cell? (a.add (n+k))=some v):TqAt w (a.add n) s :=
 ⟨by have:=h 0 _ rfl;simpa using this,by have:=h 1 _ rfl;rw[jg a n 1 (by omega)]at this;exact this,by have:=h 2 _ rfl;rw[jg a n 2 (by omega)]at this;exact this,by have:=h 3 _ rfl;rw[jg a n 3 (by omega)]at this;exact this,by have:=h 4 _ rfl;rw[jg a n 4 (by omega)]at this;exact this,by have:=h 5 _ rfl;rw[jg a n 5 (by omega)]at this;exact this,by have:=h 6 _ rfl;rw[jg a n 6 (by omega)]at this;exact this⟩
def TsAt(w:World)(sl:Value)(L:List Tq):Prop:=(sl=.slice none 0 0/\L=[])\/∃a cap,sl=.slice (some a) L.length cap/\L.length<=cap/\∀k (hk:k<L.length),TqAt w (a.add (k*7)) L[k]
theorem TsAt.grow{w w':World}{sl:Value}{L:List Tq}(h:TsAt w sl L)(hg:w.grownBy w' none):TsAt w' sl L:=by
 rcases h with h|⟨a,cap,h1,h2,h3⟩
 ·exact Or.inl h
 ·exact Or.inr ⟨a,cap,h1,h2,fun k hk=>(h3 k hk).grow hg⟩
def SsAt(w:World)(sv:Value)(A:List (List Tq)):Prop:=(sv=.slice none 0 0/\A=[])\/∃a cap,sv=.slice (some a) A.length cap/\A.length<=cap/\∀i (hi:i<A.length),∃sl,w.cell? (a.add i)=some sl/\TsAt w sl A[i]
theorem SsAt.grow{w w':World}{sv:Value}{A:List (List Tq)}(h:SsAt w sv A)(hg:w.grownBy w' none):SsAt w' sv A:=by
 rcases h with h|⟨a,cap,h1,h2,h3⟩
 ·exact Or.inl h
 ·exact Or.inr ⟨a,cap,h1,h2,fun k hk=>by obtain⟨sl,h4,h5⟩:=h3 k hk;exact⟨sl,hg.cell h4 (by simp),h5.grow hg⟩⟩
theorem ad5(l:List Tq):∀(i:Nat) (hi:i<l.length) (k:Nat) (u:Value),(je l[i])[k]?=some u->(l.flatMap je)[i*7+k]?=some u:=by
 induction l with
 | nil=>intro i hi;simp at hi
 | cons t l ih =>
  intro i hi k u h;rw[List.flatMap_cons];have hl:(je t).length=7:=rfl
  cases i with
  | zero =>
   simp only[List.getElem_cons_zero]at h;have hk:=(List.getElem?_eq_some_iff.1 h).1;rw[Nat.zero_mul,Nat.zero_add,List.getElem?_append_left hk];exact h
  | succ i =>
   simp only[List.getElem_cons_succ]at h;rw[List.getElem?_append_right (by rw[hl];omega),hl,show(i+1)*7+k-7=i*7+k by omega];exact ih i (by simpa using hi) k u h
theorem ad6{w:World}{base:Nat}{sl:Value}{L:List Tq}(h:OT w base sl L):TsAt w sl L:=by
 rcases h.2 with⟨h1,h2⟩|⟨g,cap,cur,hv,hb,hc,h3,h4,h5,h6⟩
 ·exact Or.inl ⟨h1,List.length_eq_zero_iff.1 h2⟩
 ·refine Or.inr ⟨⟨g,0,none⟩,cap,hv,h3,fun k hk=>ad4 fun q v hq=>?_⟩;have h':=h;unfold OT at h';rw[hv]at h';exact KP h' (k*7+q) v (ad5 L k hk q v hq)
theorem ad7{w:World}{base:Nat}{sv:Value}{A:List (List Tq)}(h:OA w base sv A):SsAt w sv A:=by
 obtain⟨vals,h1,h2,h3⟩:=h
 rcases h1.2 with⟨e1,e2⟩|⟨g,cap,cur,hv,hb,hc,e3,e4,e5,e6⟩
 ·exact Or.inl ⟨e1,List.length_eq_zero_iff.1 e2⟩
 ·refine Or.inr ⟨⟨g,0,none⟩,cap,hv,e3,fun i hi=>?_⟩;obtain⟨o,n,c,h4,h5⟩:=h3 i hi;rw[hv]at h1;exact⟨_,KP h1 i _ h4,ad6 h5⟩
theorem ad8(x:Tq)(hx:jZ x)(v1 v2 v3:Int)(v4 v5:ByteArray)(w:World)(hv:v4.size<=1048576) :
  Calls prog 98 #[.agg #[.int .i64 x.sg,.int .i64 x.m,.int .i64 x.a,.int .i64 x.b,.int .i64 x.c,.string x.p,.string x.q],.agg #[.int .i64 v1,.int .i64 v2,.int .i64 v3,.string v4,.string v5]] w fun e w'=>e=.returned (.bool (iD (cZ x) ⟨v1,v2,v3,v4.data.toList⟩))/\w.grownBy w' none:=by
 obtain⟨sg,m,a,b,c,p,q⟩:=x;have h1:=hx.s0;have h2:=hx.m0;have h3:=hx.sm;simp only at h1 h2 h3;have hm:m=0\/m=1\/m=2\/m=3:=by omega
 rcases hm with rfl|rfl|rfl|rfl
 ·exact aa3 sg h1 a b c v1 v2 v3 p q v4 v5 w (by omega) hv
 ·exact aa4 sg h1 a b c v1 v2 v3 p q v4 v5 w (by omega) hv
 ·exact aa5 sg h1 a b c v1 v2 v3 p q v4 v5 w (by omega) hv
 ·exact aa6 sg h1 a b c v1 v2 v3 p q v4 v5 w (by omega) hv
def wO(A:List (List Tq))(v:V):Bool:=A.any fun L=>L.all fun x=>iD (cZ x) v
theorem ad9(A:List (List Tq))(v:V):wO A v=jq (A.map (·.map cZ)) v:=by
 unfold wO jq lw;rw[List.any_map];congr 1;funext L;simp[List.all_map,Function.comp_def]
theorem aea(sv:Value)(A:List (List Tq))(v1 v2 v3:Int)(v4 v5:ByteArray)(w:World)(h:SsAt w sv A)(hA:A.length<=201)(hok:∀L∈A,L.length<=1000/\∀x∈L,jZ x)(hv:v4.size<=1048576) :
  Calls prog 76 #[sv,.agg #[.int .i64 v1,.int .i64 v2,.int .i64 v3,.string v4,.string v5]] w fun e w'=>e=.returned (.bool (wO A ⟨v1,v2,v3,v4.data.toList⟩))/\w.grownBy w' none:=by
 have CA:=ae (fun x w (hx:jZ x)=>ad8 x hx v1 v2 v3 v4 v5 w hv);obtain⟨v,hvv⟩:∃v:V,v=⟨v1,v2,v3,v4.data.toList⟩:=⟨_,rfl⟩;rw[<-hvv]at CA ⊢;obtain⟨R,hR⟩:=zN (wO A v);have HR:=ae hR;rw[hR];have dF:=ae hok;clear hR hvv hv hok
 rcases h with⟨rfl,rfl⟩|⟨a,cap,rfl,hcap,hcells⟩
 ·have nT:Hd (R=false):=HR.o.symm;go_enter func76,ntmps76;go_wp2;go_loopw [5] (fun vi wr=>vi=.int .i64 0/\w.grownBy wr none) (fun vi _=>0)
  case atStart=>exact⟨rfl,aj (ak _ _) _⟩
  case round =>
   obtain⟨rfl,hg⟩:=hrel;have HG:=ae hg;clear hg;go_wp2;go_ret;exact⟨aJ nT.o.symm,HG.o⟩
 ·obtain⟨N,hN⟩:=zN (A.length);have HN:=ae hN;have HC:=ae hcells;rw[hN]at hcap hA ⊢;clear hcells hN;go_enter func76,ntmps76;go_wp2;obtain⟨V0,hV0⟩:=zN (w.heap.size);obtain⟨W,hW⟩:=zN (w.alloc (.cells #[.int .i64 v1,.int .i64 v2,.int .i64 v3,.string v4,.string v5] 98));have jk:Hd (w.grownBy W none):=by show w.grownBy W none;rw[<-hW];exact aj (ak w none) _
  have STv:Hd (St V0 v1 v2 v3 v4 v5 W):=by show St _ _ _ _ _ _ W;rw[<-hW,<-hV0];exact l9 (t:=98) (heap_alloc_new w _)
  try rw[hW]
  try rw[hV0]
  clear hW hV0;go_loopw [5] (fun vi wr=>∃i:Nat,vi=.int .i64 i/\i<=N/\(∀j (hj:j<A.length),j<i->(A[j].all fun x=>iD (cZ x) v)=false)/\W.grownBy wr none) (fun vi _=>N-(intOf vi).toNat)
  case atStart=>exact⟨0,rfl,Nat.zero_le _,fun j hj h=>absurd h (by omega),ak _ _⟩
  case round =>
   rename World=>w0
   obtain⟨i,rfl,hi,hp,hg⟩:=hrel;have HP:=ae hp;have HG:=ae hg;clear hp hg
   by_cases hlt:i<N
   ·have hlA:i<A.length:=by rw[HN.o];exact hlt
    obtain⟨L,hL⟩:=zN (A[i]);obtain⟨sl,hsl,hts⟩:=HC.o i hlA;rw[hL]at hts;have Uk:Hd (L.length<=1000/\∀x∈L,jZ x):=by have:=dF.o A[i] (List.getElem_mem hlA);rw[hL]at this;exact this
    have TW:=ae hL;have hcw:=(HG.o.cell (jk.o.cell hsl (by simp)) (by simp));have zF:=ae ((hts.grow jk.o).grow HG.o);have NEXT:Hd (∀r:Bool,(L.all fun x=>iD (cZ x) v)=r->(r=true->R=true)/\(r=false->∀j (hj:j<A.length),j<i+1->(A[j].all fun x=>iD (cZ x) v)=false)):=by
     intro r hr;constructor
     ·intro h;rw[<-HR.o];unfold wO;rw[List.any_eq_true];exact⟨A[i],List.getElem_mem hlA,by rw[hL,hr];exact h⟩
     ·intro h j hj hji
      by_cases hji':j<i
      ·exact HP.o j hj hji'
      ·have e:j=i:=by omega
       subst e;rw[hL,hr];exact h
    clear hts hsl hL
    rcases zF.o with⟨rfl,hLn⟩|⟨q,c1,rfl,hc1,hcell⟩
    ·have tH:=ae ((NEXT.o true (by rw[hLn];rfl)).1 rfl);have bC:=ae HG.o;clear hLn zF;go_wp2;go_loopw [6,7] (fun va vk wk=>va=.bool true/\vk=.int .i64 0/\w0.grownBy wk none) (fun _ vk _=>0)
     case atStart=>exact⟨rfl,rfl,ak _ _⟩
     case round =>
      obtain⟨rfl,rfl,hgk⟩:=hrel;have hcw2:=hgk.cell hcw (by simp);have jY:=ae hgk;clear hgk hcw;go_wp2;go_ret;exact⟨aJ tH.o.symm,ag jk.o (ag HG.o jY.o)⟩
    ·obtain⟨n1,hn1⟩:=zN (L.length);have jQ:Hd (L.length=n1/\n1<=1000):=⟨hn1,by have:=Uk.o.1;omega⟩;have hn2:=jQ.o.2;have HCE:=ae hcell;rw[hn1]at hcw hc1;clear hcell hn1 zF;go_wp2;go_loopw [6,7] (fun va vk wk=>∃k:Nat,vk=.int .i64 k/\k<=n1/\va=.bool ((L.take k).all fun x=>iD (cZ x) v)/\w0.grownBy wk none) (fun _ vk _=>n1-(intOf vk).toNat)
     case atStart=>exact⟨0,rfl,Nat.zero_le _,rfl,ak _ _⟩
     case round =>
      obtain⟨k,rfl,hk,rfl,hgk⟩:=hrel;have hcw2:=hgk.cell hcw (by simp);have jY:=ae hgk;have bC:=ae hcw;clear hgk hcw
      by_cases hkl:k<n1
      ·have jH:k<L.length:=by rw[jQ.o.1];exact hkl
       obtain⟨x,hx⟩:=zN (L[k]);have HE:Hd (TqAt wr (q.add (k*7)) x):=by show TqAt wr _ x;rw[<-hx];exact(HCE.o k jH).grow jY.o
       have hxo:jZ x:=by rw[<-hx];exact Uk.o.2 _ (List.getElem_mem jH)
       obtain⟨r,hr⟩:=zN (iD (cZ x) v);have CX:Hd (∀w,Calls prog 98 #[.agg #[.int .i64 x.sg,.int .i64 x.m,.int .i64 x.a,.int .i64 x.b,.int .i64 x.c,.string x.p,.string x.q],.agg #[.int .i64 v1,.int .i64 v2,.int .i64 v3,.string v4,.string v5]] w fun e w'=>e=.returned (.bool r)/\w.grownBy w' none):=fun w=>by rw[<-hr];exact CA.o x w hxo
       obtain⟨al,hal⟩:=zN (((L.take k).all fun x=>iD (cZ x) v));have Ul:Hd (((L.take (k+1)).all fun x=>iD (cZ x) v)=(al && r)):=by
        show _=_;rw[List.take_succ_eq_append_getElem jH,List.all_append,hal,hx];simp[hr]
       rw[hal];have STk:=ae ((STv.o.grow HG.o).grow jY.o);clear hx hxo hr hal;obtain⟨e0,e1,e2,e3,e4,e5,e6⟩:=HE.o;obtain⟨s1,s2,s3,s4,s5⟩:=STk.o;go_wp2
       go_region_held3 (fun w'=>w'.cell? (a.add i)=some (.slice (some q) n1 c1)/\w'.cell? (q.add (k*7))=some (.int .i64 x.sg)/\w'.cell? ⟨(q.add (k*7)).block,(q.add (k*7)).off+1,none⟩=some (.int .i64 x.m)/\w'.cell? ⟨(q.add (k*7)).block,(q.add (k*7)).off+2,none⟩=some (.int .i64 x.a)/\w'.cell? ⟨(q.add (k*7)).block,(q.add (k*7)).off+3,none⟩=some (.int .i64 x.b)/\w'.cell? ⟨(q.add (k*7)).block,(q.add (k*7)).off+4,none⟩=some (.int .i64 x.c)/\w'.cell? ⟨(q.add (k*7)).block,(q.add (k*7)).off+5,none⟩=some (.string x.p)/\w'.cell? ⟨(q.add (k*7)).block,(q.add (k*7)).off+6,none⟩=some (.string x.q)/\w'.cell? ⟨V0,0,none⟩=some (.int .i64 v1)/\w'.cell? ⟨V0,1,none⟩=some (.int .i64 v2)/\w'.cell? ⟨V0,2,none⟩=some (.int .i64 v3)/\w'.cell? ⟨V0,3,none⟩=some (.string v4)/\w'.cell? ⟨V0,4,none⟩=some (.string v5)) (first|(simp only[F5];exact⟨hcw2,e0,e1,e2,e3,e4,e5,e6,s1,s2,s3,s4,s5⟩)|exact ad3 (by assumption) (by assumption)) (first|(go_at_call 98;refine(CX.o _).mono ?_;rintro e w1 ⟨rfl,hg1⟩))
       have Um:=ae (ag jY.o (bZ hg1));clear hg1 e0 e1 e2 e3 e4 e5 e6 s1 s2 s3 s4 s5 hcw2
       cases al with
       | true =>
        go_wp2;go_roundw
        case rel=>exact⟨k+1,by go_num,by omega,by rw[Ul.o];rfl,Um.o⟩
        case measure=>simp[intOf];omega
       | false =>
        go_wp2;go_roundw
        case rel=>exact⟨k+1,by go_num,by omega,by rw[Ul.o];rfl,Um.o⟩
        case measure=>simp[intOf];omega
      ·have hkn:k=n1:=by omega
       subst hkn;have hfull:=List.take_of_length_le (by rw[jQ.o.1];exact Nat.le_refl _);rw[hfull];obtain⟨r,hr⟩:=zN ((L.all fun x=>iD (cZ x) v));have zx:=NEXT.o r hr;have bD:=ae zx;rw[hr];clear hr hfull zx hk hkl
       cases r with
       | true =>
        go_wp2;go_ret;exact⟨aJ (bD.o.1 (by first|rfl|trivial)).symm,ag jk.o (ag HG.o jY.o)⟩
       | false =>
        go_wp2;go_roundw
        case rel=>exact⟨i+1,by go_num,by omega,bD.o.2 (by first|rfl|trivial),ag HG.o jY.o⟩
        case measure=>simp[intOf];omega
   ·have nT:Hd (R=false):=by
     show R=false;rw[<-HR.o];unfold wO;rw[List.any_eq_false];intro t ht;obtain⟨j,hj,rfl⟩:=List.getElem_of_mem ht;rw[HP.o j hj (by rw[HN.o]at hj;omega)];decide
    clear hi;go_wp2;go_ret;exact⟨aJ nT.o.symm,ag jk.o HG.o⟩
open Go.RowKit Go.Maps
def iQ(L:List Re)(C:List Int)(n:ByteArray):Int:=match C.find? (fun c=>decide (aZ L c.toNat=n)) with|some c=>c|none=>-1
theorem aeb(L:List Re)(C:List Int)(n:ByteArray)(i:Nat)(hi:i<C.length)(h:aZ L (C[i]).toNat=n)(h0:(C.take i).any (fun c=>decide (aZ L c.toNat=n))=false):iQ L C n=C[i]:=by
 have:C.find? (fun c=>decide (aZ L c.toNat=n))=some C[i]:=by
  rw[List.find?_eq_some_iff_getElem];refine⟨by simpa using h,i,hi,rfl,fun j hj=>?_⟩;rw[List.any_eq_false]at h0;have:=h0 C[j] (List.mem_take_iff_getElem.2 ⟨j,by omega,rfl⟩);simpa using this
 unfold iQ;rw[this]
theorem Un(L:List Re)(C:List Int)(n:ByteArray)(h0:C.any (fun c=>decide (aZ L c.toNat=n))=false):iQ L C n=-1:=by
 have:C.find? (fun c=>decide (aZ L c.toNat=n))=none:=by
  rw[List.find?_eq_none];rw[List.any_eq_false]at h0;exact h0
 unfold iQ;rw[this]
theorem GH(L:List Re)(C:List Int)(n:ByteArray):(∃c∈C,iQ L C n=c/\aZ L c.toNat=n)\/(iQ L C n=-1/\∀c∈C,¬aZ L c.toNat=n):=by
 unfold iQ
 cases hf:C.find? (fun c=>decide (aZ L c.toNat=n)) with
 | none =>
  right;refine⟨rfl,fun c hc e=>?_⟩;have:=List.find?_eq_none.1 hf c hc;exact this (by simpa using e)
 | some c =>
  left;refine⟨c,List.mem_of_find?_eq_some hf,rfl,?_⟩;have:=List.find?_some hf;simpa using this
theorem Uo{α:Type}(p:α->Bool)(C:List α)(i:Nat)(hi:i<C.length):(C.take (i+1)).any p=((C.take i).any p || p C[i]):=by
 rw[List.take_succ_eq_append_getElem hi,List.any_append];simp
theorem Ur(o oc:Option Addr)(c cc:Nat)(L:List Re)(C:List Int)(n:ByteArray)(w:World)(h:ReS w (.slice o L.length c) L)(hc:IS w (.slice oc C.length cc) C)(hL:L.length<=1048576)(hC:C.length<=1048576)(hin:∀z∈C,0<=z/\z<(L.length:Int)) :
  Calls prog 22 #[.slice o L.length c,.slice oc C.length cc,.string n] w fun e w'=>e=.returned (.int .i64 (iQ L C n))/\w.grownBy w' none:=by
 have HE:=ae (fun w' (hg:w.grownBy w' none) i (hi:i<L.length)=>rG (h.grow hg) hi);have HI:=ae (fun w' (hg:w.grownBy w' none) i (hi:i<C.length)=>uj (hc.grow hg) hi);have kW:=ae hin;have HH:=ae (aeb L C n);have HM:=ae (Un L C n);obtain⟨R,hR⟩:=zN (iQ L C n);rw[hR]at HH HM ⊢;clear h hc hin hR;go_enter func22,ntmps22;go_wp2;go_loopw [7] (fun vi wr=>∃i:Nat,vi=.int .i64 i/\i<=C.length/\(C.take i).any (fun c=>decide (aZ L c.toNat=n))=false/\w.grownBy wr none) (fun vi _=>C.length-(intOf vi).toNat)
 case atStart=>exact⟨0,rfl,Nat.zero_le _,rfl,ak _ _⟩
 case round =>
  obtain⟨i,rfl,hi,hno,hg⟩:=hrel;have HG:=ae hg;have aU:=ae hno
  by_cases hlt:i<C.length
  ·obtain⟨a1,ho1,hcp1,lJ⟩:=HI.o wr hg i hlt;have f0:=lJ i hlt;obtain⟨hz1,hz2⟩:=kW.o _ (List.getElem_mem hlt);obtain⟨k,hk⟩:∃k:Nat,C[i]=(k:Int):=⟨(C[i]).toNat,by omega⟩;have hkl:k<L.length:=by omega
   obtain⟨a2,ho2,hcp2,kC⟩:=HE.o wr hg k hkl;obtain⟨e0,-⟩:=kC k hkl;have hhi:=HH.o i hlt;have HST:Hd ((C.take (i+1)).any (fun c=>decide (aZ L c.toNat=n))=((C.take i).any (fun c=>decide (aZ L c.toNat=n)) || decide (aZ L (C[i]).toNat=n))):=Uo _ C i hlt;rw[hk]at f0 hhi HST;have e1:((k:Int)).toNat=k:=by omega
   rw[e1,qp L k hkl]at hhi HST;obtain⟨x,hx⟩:=zN (L[k].nm);rw[hx]at hhi HST e0;have hic:i<cc:=by omega
   have hkc:k<c:=by omega
   have DX:=ae hhi;subst ho1 ho2;clear lJ kC hg hno hcp1 hcp2 hz1 hz2 hk hx hhi e1
   by_cases hn:x=n
   ·have hnn:(x.toList == n.toList)=true:=by rw[hn];simp
    have pX:=ae (DX.o hn aU.o);clear hn;go_wp2;refine bodyPost_ret (results_tmp (t:=6) rfl _ _ _) rfl ⟨?_,HG.o⟩;rw[pX.o];rfl
   ·have hnn:=zO hn;have gy:Hd ((C.take (i+1)).any (fun c=>decide (aZ L c.toNat=n))=false):=by
     show _=_;rw[HST.o,aU.o,decide_eq_false hn];rfl
    clear hn;go_wp2;go_roundw
    case rel=>exact⟨i+1,by go_num,by omega,gy.o,HG.o⟩
    case measure=>simp[intOf];omega
  ·have hil:i=C.length:=by omega
   have pX:Hd (R=-1):=by
    rw[hil,List.take_length]at hno;exact HM.o hno
   clear hno hg hil hi;go_wp2;refine bodyPost_ret (results_tmp (t:=6) rfl _ _ _) rfl ⟨?_,HG.o⟩;rw[pX.o];rfl
theorem aec(r v:ByteArray)(w:World)(hr:r.size<2 ^ 60)(hv:v.size<2 ^ 60)(ho:okR r=true) :
  Calls prog 46 #[.string r,.string v] w fun e w'=>e=.returned (.bool (jd r v))/\w.grownBy w' none:=by
 have h0:=of_decide_eq_true ho;have CR:=ae (fun w=>TM r w hr);have CV:=ae (fun w=>JB v w (by omega));have hp:=zM v;have CQ:Hd (∀(sv:Value) (A:List (List Tq)) (w:World),SsAt w sv A->A.length<=201->(∀L∈A,L.length<=1000/\∀x∈L,jZ x)->Calls prog 76 #[sv,jP (bi v)] w fun e w'=>e=.returned (.bool (wO A (cutV (bi v))))/\w.grownBy w' none):=fun sv A w h1 h2 h3=>(aea sv A _ _ _ _ _ w h1 h2 h3 (by show(bi v).pre.toArray.size<=_;simp;omega)).mono fun e w' ⟨he,hg⟩=>⟨by rw[he];simp[cutV],hg⟩
 have HAD:Hd (∀A:List (List Tq),A.map (·.map cZ)=(fP r.data.toList).2.2->wO A (cutV (bi v))=jd r v):=fun A hA=>by
  show _=_;unfold jd;rw[ad9,hA]
 have HR0:=ae h0;unfold jP at CV CQ;obtain⟨v1,hv1⟩:=zN ((bi v).major);obtain⟨v2,hv2⟩:=zN ((bi v).minor);obtain⟨v3,hv3⟩:=zN ((bi v).patch);obtain⟨v4,hv4⟩:∃x:ByteArray,⟨(bi v).pre.toArray⟩=x:=⟨_,rfl⟩;obtain⟨v5,hv5⟩:∃x:ByteArray,⟨(bi v).build.toArray⟩=x:=⟨_,rfl⟩;rw[hv1,hv2,hv3,hv4,hv5]at CV CQ;obtain⟨R,hR⟩:=zN (jd r v);rw[hR]at HAD ⊢;clear hv1 hv2 hv3 hv4 hv5 hp h0 ho hr hv hR;go_enter func46,ntmps46;go_wp2_with (go_at_call 73;refine(CR.o _).mono ?_);rintro e w1 ⟨o,n,c,A,rfl,hg,hok⟩;obtain⟨h1,h2,h3,h4⟩:=hok HR0.o;have nR:Hd (SsAt w1 (.slice o n c) A/\A.length<=201/\∀L∈A,L.length<=1000/\∀x∈L,jZ x):=⟨ad7 h1,h3,h4⟩;have HQ:=ae (HAD.o A h2);have HG:=ae hg;clear hok h1 h2 h3 h4 hg;go_wp2_with (go_at_call 45;refine(CV.o _).mono ?_);rintro e w2 ⟨rfl,hg2⟩;have CQ2:Hd (Calls prog 76 #[.slice o n c,.agg #[.int .i64 v1,.int .i64 v2,.int .i64 v3,.string v4,.string v5]] w2 fun e w'=>e=.returned (.bool R)/\w2.grownBy w' none):=by
  have:=CQ.o (.slice o n c) A w2 (nR.o.1.grow hg2) nR.o.2.1 nR.o.2.2;rw[HQ.o]at this;exact this
 replace HG:=ae (ag HG.o hg2);clear hg2;go_wp2_with (go_at_call 76;refine CQ2.o.mono ?_;rintro e w3 ⟨rfl,hg3⟩);go_ret;exact⟨rfl,ag HG.o hg3⟩
def wP(N:List Nd)(n:ByteArray):Bool:=N.any fun y=>decide (y.n=n)
theorem Us(v:Value)(N:List Nd)(n:ByteArray)(w:World)(h:NdS w v N)(hN:N.length<=1048576) :
  Calls prog 47 #[v,.string n] w fun e w'=>e=.returned (.bool (wP N n))/\w.grownBy w' none:=by
 obtain⟨o,c,rfl⟩:∃o c,v=.slice o N.length c:=by
  rcases h with⟨rfl,rfl⟩|⟨_,_,rfl,-⟩
  ·exact⟨_,_,rfl⟩
  ·exact⟨_,_,rfl⟩
 have HE:=ae (fun w' (hg:w.grownBy w' none) i (hi:i<N.length)=>Gs (h.grow hg) hi);have HH:Hd (∀i (hi:i<N.length),N[i].n=n->wP N n=true):=fun i hi he=>by
  show wP N n=true;unfold wP;rw[List.any_eq_true];exact⟨N[i],List.getElem_mem _,by simpa using he⟩
 have HA:Hd (wP N n=N.any fun y=>decide (y.n=n)):=rfl;obtain⟨R,hR⟩:=zN (wP N n);rw[hR]at HH HA ⊢;clear h hR;go_enter func47,ntmps47;go_wp2;go_loopw [5] (fun vi wr=>∃i:Nat,vi=.int .i64 i/\i<=N.length/\(N.take i).any (fun y=>decide (y.n=n))=false/\w.grownBy wr none) (fun vi _=>N.length-(intOf vi).toNat)
 case atStart=>exact⟨0,rfl,Nat.zero_le _,rfl,ak _ _⟩
 case round =>
  obtain⟨i,rfl,hi,hno,hg⟩:=hrel;have HG:=ae hg;have aU:=ae hno
  by_cases hlt:i<N.length
  ·obtain⟨a1,ho1,hcp1,lJ⟩:=HE.o wr hg i hlt;obtain⟨e0,-⟩:=lJ i hlt;have DX:=HH.o i hlt;have HST:Hd ((N.take (i+1)).any (fun y=>decide (y.n=n))=((N.take i).any (fun y=>decide (y.n=n)) || decide (N[i].n=n))):=Uo _ N i hlt;obtain⟨x,hx⟩:=zN (N[i].n);rw[hx]at DX HST e0;have HHJ:=ae DX;have hic:i<c:=by omega
   subst ho1;clear lJ hg hno hcp1 hx DX
   by_cases hn:x=n
   ·have hnn:(x.toList == n.toList)=true:=by rw[hn];simp
    have pX:=ae (HHJ.o hn);clear hn;go_wp2;refine bodyPost_ret (results_tmp (t:=4) rfl _ _ _) rfl ⟨?_,HG.o⟩;rw[pX.o];rfl
   ·have hnn:=zO hn;have gy:Hd ((N.take (i+1)).any (fun y=>decide (y.n=n))=false):=by
     show _=_;rw[HST.o,aU.o,decide_eq_false hn];rfl
    clear hn;go_wp2;go_roundw
    case rel=>exact⟨i+1,by go_num,by omega,gy.o,HG.o⟩
    case measure=>simp[intOf];omega
  ·have hil:i=N.length:=by omega
   have pX:Hd (R=false):=by
    rw[hil,List.take_length]at hno;exact HA.o.trans hno
   clear hno hg hil hi;go_wp2;refine bodyPost_ret (results_tmp (t:=4) rfl _ _ _) rfl ⟨?_,HG.o⟩;rw[pX.o];rfl
open Go.RowKit Go.Maps
def wQ(L:List Re)(C:List Int)(y:Nd):Bool:=decide (0<=iQ L C y.n) && jd y.r (jr L (iQ L C y.n).toNat)
def kZ(N:List Nd)(L:List Re)(C:List Int):Bool:=N.all (wQ L C)
theorem aed(N:List Nd)(L:List Re)(C:List Int)(i:Nat)(hi:i<N.length)(h:wQ L C N[i]=false):kZ N L C=false:=by
 unfold kZ;rw[List.all_eq_false];exact⟨N[i],List.getElem_mem _,by rw[h];simp⟩
theorem aee(N:List Nd)(L:List Re)(C:List Int)(i:Nat)(hi:i<N.length)(h:wQ L C N[i]=true)(h0:kZ (N.take i) L C=true):kZ (N.take (i+1)) L C=true:=by
 unfold kZ at *;rw[List.take_succ_eq_append_getElem hi,List.all_append,h0];simp[h]
theorem Ut(v:Value)(o oc:Option Addr)(c cc:Nat)(N:List Nd)(L:List Re)(C:List Int)(w:World)(hn:NdS w v N)(h:ReS w (.slice o L.length c) L)(hc:IS w (.slice oc C.length cc) C)(hN:N.length<=1048576)(hL:L.length<=1048576)(hC:C.length<=1048576)(hin:∀z∈C,0<=z/\z<(L.length:Int))(hr:∀y∈N,okR y.r=true)(hS:∀y∈N,y.r.size<2 ^ 60)(hV:∀x∈L,x.ve.size<2 ^ 60) :
  Calls prog 21 #[v,.slice o L.length c,.slice oc C.length cc] w fun e w'=>e=.returned (.bool (kZ N L C))/\w.grownBy w' none:=by
 obtain⟨on,cn,rfl⟩:∃o c,v=.slice o N.length c:=by
  rcases hn with⟨rfl,rfl⟩|⟨_,_,rfl,-⟩
  ·exact⟨_,_,rfl⟩
  ·exact⟨_,_,rfl⟩
 have xQ:=ae (fun w' (hg:w.grownBy w' none) i (hi:i<N.length)=>Gs (hn.grow hg) hi);have kH:=ae (fun w' (hg:w.grownBy w' none) i (hi:i<L.length)=>rG (h.grow hg) hi);have CC:=ae (fun n w' (hg:w.grownBy w' none)=>Ur o oc c cc L C n w' (h.grow hg) (hc.grow hg) hL hC hin);have CA:=ae (fun y (hy:y∈N) x (hx:x∈L) w=>aec y.r x.ve w (hS y hy) (hV x hx) (hr y hy));have xm:Hd (∀n,iQ L C n=-1\/(0<=iQ L C n/\iQ L C n<(L.length:Int))):=fun n=>by
  rcases GH L C n with⟨z,hz,he,-⟩|⟨he,-⟩
  ·right;rw[he];exact hin z hz
  ·left;exact he
 have vT:=ae (aed N L C);have HST:=ae (aee N L C);have HMY:Hd (∀y,wQ L C y=(decide (0<=iQ L C y.n) && jd y.r (jr L (iQ L C y.n).toNat))):=fun y=>rfl
 obtain⟨R,hR⟩:=zN (kZ N L C);have HR:=ae hR;rw[hR]at vT ⊢;clear hn h hc hin hr hS hV hR;go_enter func21,ntmps21;go_wp2;go_loopw [7] (fun vi wr=>∃i:Nat,vi=.int .i64 i/\i<=N.length/\kZ (N.take i) L C=true/\w.grownBy wr none) (fun vi _=>N.length-(intOf vi).toNat)
 case atStart=>exact⟨0,rfl,Nat.zero_le _,rfl,ak _ _⟩
 case round =>
  obtain⟨i,rfl,hi,hm,hg⟩:=hrel;have HG:=ae hg;have HM:=ae hm
  by_cases hlt:i<N.length
  ·obtain⟨a1,ho1,hcp1,lJ⟩:=xQ.o wr hg i hlt;obtain⟨e0,e1⟩:=lJ i hlt;have xU:=vT.o i hlt;have hst:=HST.o i hlt;have hca:=CA.o N[i] (List.getElem_mem hlt);obtain⟨y,hy⟩:=zN (N[i]);rw[hy]at e0 e1 xU hst hca;have Uu:=ae xU;have Lu:=ae (fun(h:wQ L C y=true)=>hst h HM.o);have CA2:=ae hca;have C1:=CC.o y.n wr hg;have hch:=xm.o y.n;have lV:=ae (HMY.o y);obtain⟨z,hz⟩:=zN (iQ L C y.n);rw[hz]at C1 hch lV;have C1':=ae C1;have hic:i<cn:=by omega
   have Bo:=ae e1;subst ho1;clear lJ hg hm hcp1 hy xU hst hca C1 hz e1;go_wp2_with (go_at_call 22;refine C1'.o.mono ?_);rintro e w2 ⟨rfl,hg2⟩;have HG2:=ae (ag HG.o hg2);have f1:=hg2.cell Bo.o (by simp);clear hg2 e0
   by_cases hz0:z<0
   ·have nT:=ae (Uu.o (by rw[lV.o,decide_eq_false (by omega)];rfl));clear hch;go_wp2;refine bodyPost_ret (results_tmp (t:=6) rfl _ _ _) rfl ⟨?_,HG2.o⟩;rw[nT.o];rfl
   ·obtain⟨k,rfl⟩:∃k:Nat,z=(k:Int):=⟨z.toNat,by omega⟩;have hkl:k<L.length:=by omega
    obtain⟨a2,ho2,hcp2,kC⟩:=kH.o w2 HG2.o k hkl;obtain⟨-,g1,-⟩:=kC k hkl;have hca:=CA2.o L[k] (List.getElem_mem hkl);have uO:Hd (jr L ((k:Int)).toNat=L[k].ve):=by
     have e1:((k:Int)).toNat=k:=by omega
     show _=_;rw[e1];exact Tc L k hkl
    obtain⟨x,hx⟩:=zN (L[k]);rw[hx]at g1 hca uO;have LK:Hd (wQ L C y=jd y.r x.ve):=by
     show _=_;rw[lV.o,decide_eq_true (by omega),uO.o];rfl
    obtain⟨q,hq⟩:=zN (jd y.r x.ve);rw[hq]at hca LK;have CA3:=ae hca;have hkc:k<c:=by omega
    have YT:(k:Int)<(L.length:Int):=by omega
    have hnz:¬((k:Int)<0):=by omega
    subst ho2;clear kC hcp2 hx hq hca hch hz0;go_upto_region 7 with fail
    go_region_with (first|(go_at_call 46;refine(CA3.o _).mono ?_;rintro e w3 ⟨rfl,hg3⟩))
    all_goals (
     have dJ:=ae (ag HG2.o (ag (show w2.grownBy w2.drew none from⟨rfl,rfl,rfl,Nat.le_refl _,fun _ _ _=>rfl⟩) hg3));clear hg3 f1 g1
     cases q with
     | true =>
      have HN:=ae (Lu.o LK.o);go_wp2;go_roundw
      case rel=>exact⟨i+1,by go_num,by omega,HN.o,dJ.o⟩
      case measure=>simp[intOf];omega
     | false =>
      have nT:=ae (Uu.o LK.o);go_wp2;refine bodyPost_ret (results_tmp (t:=6) rfl _ _ _) rfl ⟨?_,dJ.o⟩;rw[nT.o];rfl)
  ·have hil:i=N.length:=by omega
   have tH:Hd (R=true):=by
    rw[hil,List.take_length]at hm;exact HR.o.symm.trans hm
   clear hm hg hil hi;go_wp2;refine bodyPost_ret (results_tmp (t:=6) rfl _ _ _) rfl ⟨?_,HG.o⟩;rw[tH.o];rfl
open Go.RowKit Go.Maps
def nC(L:List Re)(C:List Int)(i:Nat):ByteArray:=match C[i]? with|some c=>aZ L c.toNat|none=>⟨#[]⟩
theorem wR(L:List Re)(C:List Int)(i:Nat)(h:i<C.length):nC L C i=aZ L (C[i]).toNat:=by simp[nC,List.getElem?_eq_getElem h]
def GI(L:List Re)(k:Nat):List Nd:=match L[k]? with|some x=>x.nd|none=>[]
theorem AC(L:List Re)(k:Nat)(h:k<L.length):GI L k=L[k].nd:=by simp[GI,List.getElem?_eq_getElem h]
def wS(L:List Re)(C:List Int)(i:Nat):List Nd:=match C[i]? with|some c=>GI L c.toNat|none=>[]
theorem AL(L:List Re)(C:List Int)(i:Nat)(h:i<C.length):wS L C i=GI L (C[i]).toNat:=by simp[wS,List.getElem?_eq_getElem h]
def aI(N:List Nd)(L:List Re)(C:List Int)(i:Nat):Bool:=wP N (nC L C i)
def qI(L:List Re)(C:List Int)(k i:Nat):Bool:=wP (wS L C k) (nC L C i)
def bA(b:List Bool)(i:Nat):Bool:=b.getD i false
theorem yL(b:List Bool)(i:Nat)(h:i<b.length):bA b i=b[i]:=by simp[bA,List.getElem?_eq_getElem h]
theorem AO(b:List Bool)(i j:Nat)(v:Bool)(hi:i<b.length):bA (b.set i v) j=if j=i then v else bA b j:=by
 unfold bA
 by_cases h:j=i
 ·subst h;simp[hi]
 ·rw[if_neg h];have:¬i=j:=fun e=>h e.symm
  simp[List.getElem?_set_ne this]
def vK(N:List Nd)(L:List Re)(C:List Int)(b:List Bool)(i k:Nat):Bool:=bA b i || aI N L C i || (List.range k).any fun j=>bA b j && qI L C j i
theorem aef(N:List Nd)(L:List Re)(C:List Int)(b:List Bool)(i:Nat):vK N L C b i 0=(bA b i || aI N L C i):=by simp[vK]
theorem aeg(N:List Nd)(L:List Re)(C:List Int)(b:List Bool)(i k:Nat)(hi:i<b.length):vK N L C b i (k+1)=(vK N L C b i k || (bA (b.set i (vK N L C b i k)) k && qI L C k i)):=by
 have h1:vK N L C b i (k+1)=(vK N L C b i k || (bA b k && qI L C k i)):=by
  unfold vK;rw[List.range_succ,List.any_append];simp[Bool.or_assoc]
 rw[h1,AO b i k _ hi]
 by_cases h:k=i
 ·subst h;rw[if_pos rfl]
  cases hv:vK N L C b k k with
  | true=>rfl
  | false =>
   have:bA b k=false:=by
    unfold vK at hv
    cases hb:bA b k with
    | false=>rfl
    | true=>rw[hb]at hv;simp at hv
   rw[this]
   try simp
 ·rw[if_neg h]
def rn(N:List Nd)(L:List Re)(C:List Int)(b:List Bool):Nat->List Bool
 | 0=>b
 | i+1=>(rn N L C b i).set i (vK N L C (rn N L C b i) i C.length)
def wD(N:List Nd)(L:List Re)(C:List Int):Nat->List Bool
 | 0=>List.replicate C.length false
 | r+1=>rn N L C (wD N L C r) C.length
section
variable {N:List Nd} {L:List Re} {C:List Int}
theorem yM(b:List Bool):∀i,(rn N L C b i).length=b.length
 | 0=>rfl
 | i+1=>by rw[rn,List.length_set];exact yM b i
theorem yN:∀r,(wD N L C r).length=C.length
 | 0=>by simp[wD]
 | r+1=>by rw[wD,yM];exact yN r
theorem LM(b:List Bool)(hl:b.length=C.length)(j:Nat):∀i,i<=C.length->bA (rn N L C b i) j=true->∀t,i+t<=C.length->bA (rn N L C b (i+t)) j=true:=by
 intro i _ h t
 induction t with
 | zero=>intro _;exact h
 | succ t ih =>
  intro ht;have h1:=ih (by omega);rw[<-Nat.add_assoc,rn,AO _ _ _ _ (by rw[yM,hl];omega)];split
  ·rename_i he;unfold vK;rw[he]at h1;rw[h1];simp
  ·exact h1
def GK(N:List Nd)(L:List Re)(C:List Int)(b:List Bool):Prop:=∀i (hi:i<C.length),bA b i=true->Wt N L C (C[i]).toNat
theorem GL(i:Nat)(hi:i<C.length):jf C (C[i]).toNat=true:=by
 unfold jf;rw[List.any_eq_true];exact⟨C[i],List.getElem_mem _,by simp⟩
theorem aeh(hin:∀z∈C,0<=z/\z<(L.length:Int))(b:List Bool)(hb:GK N L C b)(i:Nat)(hi:i<C.length)(h:vK N L C b i C.length=true):Wt N L C (C[i]).toNat:=by
 have hl:(C[i]).toNat<L.length:=by have:=hin _ (List.getElem_mem hi);omega
 unfold vK at h;rw[Bool.or_eq_true,Bool.or_eq_true]at h
 rcases h with(h|h)|h
 ·exact hb i hi h
 ·refine .base _ (GL i hi) ?_;unfold aI at h;rw[wR L C i hi]at h;unfold qM;rw[decide_eq_true hl];exact h
 ·rw[List.any_eq_true]at h;obtain⟨j,hj,h2⟩:=h;have hjl:=List.mem_range.1 hj;rw[Bool.and_eq_true]at h2;have yO:(C[j]).toNat<L.length:=by have:=hin _ (List.getElem_mem hjl);omega
  refine .step _ (C[j]).toNat yO (hb j hjl h2.1) (GL i hi) ?_;have h3:=h2.2;unfold qI at h3;rw[wR L C i hi,AL L C j hjl,AC L _ yO]at h3;unfold qM;rw[decide_eq_true hl];exact h3
theorem Uw(hin:∀z∈C,0<=z/\z<(L.length:Int))(b:List Bool)(hl:b.length=C.length)(hb:GK N L C b):∀i,i<=C.length->GK N L C (rn N L C b i)
 | 0,_=>hb
 | i+1,h=>fun j hj hjb=>by
  have ih:=Uw hin b hl hb i (by omega);rw[rn,AO _ _ _ _ (by rw[yM,hl];omega)]at hjb;split at hjb
  ·rename_i he;subst he;exact aeh hin _ ih j hj hjb
  ·exact ih j hj hjb
theorem Ux(hin:∀z∈C,0<=z/\z<(L.length:Int)):∀r,GK N L C (wD N L C r)
 | 0=>fun i hi h=>by
  rw[wD,yL _ _ (by simpa using hi),List.getElem_replicate]at h
  cases h
 | r+1=>Uw hin _ (yN r) (Ux hin r) C.length (Nat.le_refl _)
def Cl(N:List Nd)(L:List Re)(C:List Int)(b:List Bool):Prop:=∀i,i<C.length->vK N L C b i C.length=bA b i
theorem Uy{b b':List Bool}(hl:b.length=b'.length)(h:∀j,bA b j=bA b' j):b=b':=by
 apply List.ext_getElem hl;intro i h1 h2;have:=h i;rw[yL b i h1,yL b' i h2]at this;exact this
theorem aei(b:List Bool)(hl:b.length=C.length)(h:rn N L C b C.length=b):Cl N L C b:=by
 have key:∀i,i<=C.length->rn N L C b i=b:=fun i hi=>by
  refine Uy (yM b i) fun j=>?_
  cases h1:bA b j with
  | true =>
   have:=LM (N:=N) (L:=L) (C:=C) b hl j 0 (Nat.zero_le _) h1 i (by omega);rw[Nat.zero_add]at this;exact this
  | false =>
   cases h2:bA (rn N L C b i) j with
   | false=>rfl
   | true =>
    have:=LM (N:=N) (L:=L) (C:=C) b hl j i hi h2 (C.length-i) (by omega);rw[show i+(C.length-i)=C.length by omega,h,h1]at this
    cases this
 intro i hi;have h1:=key (i+1) (by omega);rw[rn,key i (by omega)]at h1;have h2:=AO b i i (vK N L C b i C.length) (by omega);rw[h1,if_pos rfl]at h2;exact h2.symm
theorem Uz(b:List Bool)(hl:b.length=C.length)(h:Cl N L C b):∀i,i<=C.length->rn N L C b i=b
 | 0,_=>rfl
 | i+1,hi=>by
  rw[rn,Uz b hl h i (by omega),h i (by omega)];refine Uy (by simp) fun j=>?_
  rw[AO b i j _ (by omega)];split
  ·rename_i he;rw[he]
  ·rfl
theorem GM:∀(b b':List Bool),b.length=b'.length->(∀j,bA b j=true->bA b' j=true)->¬b=b'->b.countP id<b'.countP id
 | [],[],_,_,hn=>absurd rfl hn
 | [],_ :: _,hl,_,_=>by simp at hl
 | _ :: _,[],hl,_,_=>by simp at hl
 | x :: b,y :: b',hl,h,hn=>by
  have hl':b.length=b'.length:=by simpa using hl
  have h':∀j,bA b j=true->bA b' j=true:=fun j hj=>by
   have:=h (j+1);unfold bA at this hj ⊢;simpa using this (by simpa using hj)
  have h0:x=true->y=true:=fun hx=>by
   have:=h 0;unfold bA at this;simpa using this (by simpa using hx)
  have hle:b.countP id<=b'.countP id:=by
   by_cases he:b=b'
   ·rw[he];exact Nat.le_refl _
   ·exact Nat.le_of_lt (GM b b' hl' h' he)
  cases x with
  | true =>
   have hy:=h0 rfl;subst hy;have he:¬b=b':=fun e=>hn (by rw[e])
   have:=GM b b' hl' h' he;simp;omega
  | false =>
   cases y with
   | true=>simp;omega
   | false =>
    have he:¬b=b':=fun e=>hn (by rw[e])
    have:=GM b b' hl' h' he;simpa using this
theorem UA:∀r,Cl N L C (wD N L C r)\/r<=(wD N L C r).countP id
 | 0=>Or.inr (Nat.zero_le _)
 | r+1=>by
  have hl:=yN (N:=N) (L:=L) (C:=C) r
  rcases UA r with h|h
  ·left;rw[wD,Uz _ hl h C.length (Nat.le_refl _)];exact h
  ·by_cases he:rn N L C (wD N L C r) C.length=wD N L C r
   ·left;rw[wD,he];exact aei _ hl he
   ·right;rw[wD];have:=GM (wD N L C r) (rn N L C (wD N L C r) C.length) (by rw[yM]) (fun j hj=>by
     have:=LM (N:=N) (L:=L) (C:=C) _ hl j 0 (Nat.zero_le _) hj C.length (by omega);rw[Nat.zero_add]at this;exact this) (fun e=>he e.symm)
    omega
theorem aej:Cl N L C (wD N L C (C.length+1)):=by
 rcases UA (N:=N) (L:=L) (C:=C) (C.length+1) with h|h
 ·exact h
 ·have h1:=List.countP_le_length (p:=id) (l:=wD N L C (C.length+1));rw[yN]at h1;omega
theorem aek(hin:∀z∈C,0<=z/\z<(L.length:Int))(b:List Bool)(h:Cl N L C b){k:Nat}(hw:Wt N L C k):∀i (hi:i<C.length),(C[i]).toNat=k->bA b i=true:=by
 induction hw with
 | base k h1 h2 =>
  intro i hi he;rw[<-h i hi];unfold vK;have:aI N L C i=true:=by
   unfold aI;rw[wR L C i hi,he];unfold qM at h2;rw[Bool.and_eq_true]at h2;exact h2.2
  rw[this];simp
 | step k j hj hwj h1 h2 ih =>
  intro i hi he;have hc:=TZ hwj;unfold jf at hc;rw[List.any_eq_true]at hc;obtain⟨c,hcm,hcj⟩:=hc;obtain⟨i',hi',rfl⟩:=List.getElem_of_mem hcm;have UB:=of_decide_eq_true hcj;have hb:=ih i' hi' UB;rw[<-h i hi];unfold vK;have hq:qI L C i' i=true:=by
   unfold qI;rw[wR L C i hi,he,AL L C i' hi',UB,AC L j hj];unfold qM at h2;rw[Bool.and_eq_true]at h2;exact h2.2
  have:((List.range C.length).any fun j=>bA b j && qI L C j i)=true:=by
   rw[List.any_eq_true];exact⟨i',List.mem_range.2 hi',by rw[hb,hq];rfl⟩
  rw[this];simp
theorem ael(hin:∀z∈C,0<=z/\z<(L.length:Int)):(wD N L C (C.length+1)).all id=true↔∀k,jf C k=true->Wt N L C k:=by
 have hl:=yN (N:=N) (L:=L) (C:=C) (C.length+1);constructor
 ·intro h k hk;unfold jf at hk;rw[List.any_eq_true]at hk;obtain⟨c,hcm,hck⟩:=hk;obtain⟨i,hi,rfl⟩:=List.getElem_of_mem hcm;have e:=of_decide_eq_true hck;rw[<-e];refine Ux hin (C.length+1) i hi ?_;rw[yL _ i (by omega)];exact List.all_eq_true.1 h _ (List.getElem_mem _)
 ·intro h;rw[List.all_eq_true];intro x hx;obtain⟨i,hi,rfl⟩:=List.getElem_of_mem hx;have hi':i<C.length:=by omega
  have:=aek hin _ aej (h _ (GL i hi')) i hi' rfl;rw[yL _ i hi]at this;exact this
end
open Go.RowKit Go.Maps
def ok2(N:List Nd)(L:List Re)(C:List Int):Nat->Bool
 | 0=>kZ N L C
 | i+1=>ok2 N L C i && kZ (wS L C i) L C && decide (iQ L (C.take i) (nC L C i)<0)
section
variable {N:List Nd} {L:List Re} {C:List Int}
theorem UC:∀i,ok2 N L C i=true↔kZ N L C=true/\∀j,j<i->kZ (wS L C j) L C=true/\iQ L (C.take j) (nC L C j)<0
 | 0=>⟨fun h=>⟨h,fun j hj=>by omega⟩,fun h=>h.1⟩
 | i+1=>by
  rw[ok2,Bool.and_eq_true,Bool.and_eq_true,UC i,decide_eq_true_eq];constructor
  ·rintro⟨⟨⟨h1,h2⟩,h3⟩,h4⟩;refine⟨h1,fun j hj=>?_⟩
   by_cases he:j=i
   ·subst he;exact⟨h3,h4⟩
   ·exact h2 j (by omega)
  ·rintro⟨h1,h2⟩;exact⟨⟨⟨h1,fun j hj=>h2 j (by omega)⟩,(h2 i (by omega)).1⟩,(h2 i (by omega)).2⟩
theorem aem:(jm L C).length=C.length:=by unfold jm;simp
theorem same_iff(i:Nat)(hi:i<C.length)(hi':i<(jm L C).length):oq ((jm L C).take i) (jm L C)[i]=(C.take i).any fun c=>decide (aZ L c.toNat=nC L C i):=by
 unfold oq;rw[PG L C i hi hi',wR L C i hi];have e:(jm L C).take i=(C.take i).map fun c=>(⟨aZ L c.toNat,⟨#[]⟩⟩:Nd):=by unfold jm;rw[List.map_take]
 rw[e,List.any_map];rfl
theorem UD(hin:∀z∈C,0<=z/\z<(L.length:Int))(i:Nat)(n:ByteArray):iQ L (C.take i) n<0↔(C.take i).any (fun c=>decide (aZ L c.toNat=n))=false:=by
 constructor
 ·intro h
  rcases GH L (C.take i) n with⟨c,hc,he,-⟩|⟨-,h2⟩
  ·have:=hin c (List.mem_of_mem_take hc);omega
  ·rw[List.any_eq_false];intro c hc e;exact h2 c hc (by simpa using e)
 ·intro h;rw[Un L (C.take i) n h];decide
theorem UE(hin:∀z∈C,0<=z/\z<(L.length:Int)):∀i,i<=C.length->(eY (jm L C) i=false↔∀j,j<i->iQ L (C.take j) (nC L C j)<0)
 | 0,_=>⟨fun _ j hj=>by omega,fun _=>rfl⟩
 | i+1,h=>by
  have hi:i<(jm L C).length:=by rw[aem];omega
  rw[BV _ i hi,Bool.or_eq_false_iff,UE hin i (by omega),same_iff i (by omega) hi,<-UD hin];constructor
  ·rintro⟨h1,h2⟩ j hj
   by_cases he:j=i
   ·subst he;exact h2
   ·exact h1 j (by omega)
  ·intro h1;exact⟨fun j hj=>h1 j (by omega),h1 i (by omega)⟩
theorem aen(hin:∀z∈C,0<=z/\z<(L.length:Int)):kX L C C.length=true:=by
 unfold kX;rw[List.take_length,List.all_eq_true];intro z hz;exact decide_eq_true (hin z hz)
theorem LP(hin:∀z∈C,0<=z/\z<(L.length:Int)):kN L C C.length=true↔∀j,j<C.length->iQ L (C.take j) (nC L C j)<0:=by
 unfold kN;rw[aen hin,Bool.true_and,<-UE hin C.length (Nat.le_refl _)]
 cases eY (jm L C) C.length<;>simp
theorem aeo(hin:∀z∈C,0<=z/\z<(L.length:Int))(hok:kN L C C.length=true){c d:Int}(hc:c∈C)(hd:d∈C)(he:aZ L c.toNat=aZ L d.toNat):c=d:=by
 rw[LP hin]at hok;obtain⟨i,hi,rfl⟩:=List.getElem_of_mem hc;obtain⟨j,hj,rfl⟩:=List.getElem_of_mem hd;have key:∀(i j:Nat) (hi:i<C.length) (hj:j<C.length),i<j->aZ L (C[i]).toNat=aZ L (C[j]).toNat->False:=fun i j hi hj hij e=>by
  have h1:=(UD hin j _).1 (hok j hj);rw[List.any_eq_false]at h1;refine h1 C[i] (List.mem_take_iff_getElem.2 ⟨i,by omega,rfl⟩) ?_;rw[wR L C j hj];simpa using e
 by_cases h1:i<j
 ·exact(key i j hi hj h1 he).elim
 ·by_cases h2:j<i
  ·exact(key j i hj hi h2 he.symm).elim
  ·have:i=j:=by omega
   subst this;rfl
theorem GN(hin:∀z∈C,0<=z/\z<(L.length:Int))(hok:kN L C C.length=true)(M:List Nd):kZ M L C=true↔∀j,j<M.length->∃q,jf C q=true/\lG M L j q=true:=by
 unfold kZ;rw[List.all_eq_true];constructor
 ·intro h j hj;have h1:=h M[j] (List.getElem_mem _);unfold wQ at h1;rw[Bool.and_eq_true,decide_eq_true_eq]at h1
  rcases GH L C M[j].n with⟨c,hc,he,hn⟩|⟨he,-⟩
  ·have hz:=hin c hc;refine⟨c.toNat,?_,?_⟩
   ·unfold jf;rw[List.any_eq_true];exact⟨c,hc,by simp⟩
   ·rw[Ap M L j c.toNat hj (by omega),decide_eq_true hn.symm,Bool.true_and];rw[he]at h1;exact h1.2
  ·rw[he]at h1;exact absurd h1.1 (by decide)
 ·intro h y hy;obtain⟨j,hj,rfl⟩:=List.getElem_of_mem hy;obtain⟨q,h1,h2⟩:=h j hj;have sN:=Td h2;rw[Ap M L j q hj sN,Bool.and_eq_true,decide_eq_true_eq]at h2;unfold jf at h1;rw[List.any_eq_true]at h1;obtain⟨c,hc,hcq⟩:=h1;have LQ:=of_decide_eq_true hcq
  rcases GH L C M[j].n with⟨d,hd,he,hn⟩|⟨-,h3⟩
  ·have hcd:=aeo hin hok hc hd (by rw[LQ,hn];exact h2.1.symm);subst hcd;have hz:=hin c hc;unfold wQ;rw[he,LQ,decide_eq_true hz.1,h2.2];rfl
  ·exact absurd (by rw[LQ];exact h2.1.symm) (h3 c hc)
theorem aep(hf:fU N L=0)(hin:∀z∈C,0<=z/\z<(L.length:Int)):iO N L C↔ok2 N L C C.length=true/\(wD N L C (C.length+1)).all id=true:=by
 rw[UC,ael hin];constructor
 ·intro h;have hok:=h.ok;refine⟨⟨(GN hin hok N).2 h.m0,fun j hj=>⟨?_,(LP hin).1 hok j hj⟩⟩,h.wt⟩;have hjl:(C[j]).toNat<L.length:=by have:=hin _ (List.getElem_mem hj);omega
  rw[AL L C j hj,AC L _ hjl];exact(GN hin hok _).2 (h.m1 _ hjl (GL j hj))
 ·rintro⟨⟨h1,h2⟩,h3⟩;have hok:=(LP hin).2 fun j hj=>(h2 j hj).2
  refine⟨hf,hok,(GN hin hok N).1 h1,fun k hk hc=>?_,h3⟩;unfold jf at hc;rw[List.any_eq_true]at hc;obtain⟨c,hcm,hck⟩:=hc;obtain⟨j,hj,rfl⟩:=List.getElem_of_mem hcm;have e:=of_decide_eq_true hck;have h4:=(h2 j hj).1;rw[AL L C j hj,e,AC L k hk]at h4;exact(GN hin hok _).1 h4
theorem aeq(h:iO N L C):∀z∈C,0<=z/\z<(L.length:Int):=fun z hz=>by
 have:=h.ok;unfold kN kX at this;rw[Bool.and_eq_true,List.take_length,List.all_eq_true]at this;exact of_decide_eq_true (this.1 z hz)
end
open Go.RowKit Go.Maps Go.Joins
def bV(b:List Bool):Array Value:=(b.map Value.bool).toArray
theorem aer:(prog.info? 4).map (fun i=>(i.zero,i.size,i.bytes))=some (some (.bool false),1,1):=by kernel_rfl
theorem aes(n:Nat):madeCells #[Value.bool false] n=bV (List.replicate n false):=by
 unfold madeCells bV;apply Array.ext';simp;apply List.ext_getElem?;intro i;simp
 by_cases h:i<n
 ·simp[h,Nat.mod_one]
 ·simp[h]
theorem aet(n:Nat)(hn:n<=1048576)(W:World):(Instr.makeSlice 61 (.int .i64 (n:Int)) (.int .i64 (n:Int))).run prog W=.ok (.slice (some ⟨W.heap.size,0,none⟩) n n) (W.alloc (.cells (bV (List.replicate n false)) 4)):=by
 obtain⟨i0,hi0,hii⟩:=Option.map_eq_some_iff.1 aer;simp only[Prod.mk.injEq]at hii;obtain⟨hz0,hz1,hzb⟩:=hii;have:=run_make W 61 4 i0 (.bool false) underlying61 hi0 hz0 .i64 .i64 (n:Int) (n:Int) (by omega) (Int.le_refl _) (by rw[hzb];omega) (by omega);rw[this,hz1];have e:((n:Int)).toNat=n:=by omega
 rw[e,Nat.mul_one];have e2:(Value.bool false).cells=#[.bool false]:=rfl;rw[e2,aes]
def BB(w:World)(B:Nat)(b:List Bool):Prop:=w.heap[B]?=some (.cells (bV b) 4 (0,0))
theorem BB.grow{w w':World}{B:Nat}{b:List Bool}(h:BB w B b)(hg:w.grownBy w' none):BB w' B b:=(hg.block B (aB h) (by simp)).trans h
theorem BB.cell{w:World}{B:Nat}{b:List Bool}(h:BB w B b)(i:Nat)(hi:i<b.length):w.cell? ⟨B,i,none⟩=some (.bool (bA b i))/\w.frozen? ⟨B,i,none⟩=false:=by
 refine⟨?_,Lib.frozen_of_heap h i⟩;rw[ah h,yL b i hi];unfold bV;simp[hi]
theorem BB.set{w:World}{B:Nat}{b:List Bool}(h:BB w B b)(i:Nat)(v:Bool):BB (w.setCell ⟨B,i,none⟩ (.bool v)) B (b.set i v):=by
 have:=block_setCell (i:=i) h (.bool v);unfold BB;rw[this];congr 2;unfold bV;rw[List.map_set];simp
theorem UF{w W:World}{q:Nat}(h:w.grownBy W none)(hq:w.heap.size<=q)(o:Nat)(v:Value):w.grownBy (W.setCell ⟨q,o,none⟩ v) none :=
 ⟨h.os,h.tape,h.output,by simpa [World.setCell] using h.size,fun k hk hn=>(heap_setCell_other W _ k _ (by show ¬k=q;omega)).trans (h.block k hk hn)⟩
theorem aeu(v:Value)(o oc:Option Addr)(c cc:Nat)(N:List Nd)(L:List Re)(C:List Int)(w:World)(hn:NdS w v N)(h:ReS w (.slice o L.length c) L)(hc:IS w (.slice oc C.length cc) C)(hN:N.length<=1048576)(hL:L.length<=1048576)(hC:C.length<=1048576)(hin:∀z∈C,0<=z/\z<(L.length:Int))(hLN:∀x∈L,x.nd.length<=1048576) :
  Calls prog 23 #[v,.slice o L.length c,.slice oc C.length cc] w fun e w'=>∃B,e=.returned (.slice (some ⟨B,0,none⟩) C.length C.length)/\BB w' B (wD N L C (C.length+1))/\w.grownBy w' none:=by
 have CN:=ae (fun n w' (hg:w.grownBy w' none)=>Us v N n w' (hn.grow hg) hN);have CL:=ae Us;obtain⟨on,nn,cn,rfl⟩:∃o n c,v=.slice o n c:=by
  rcases hn with⟨rfl,-⟩|⟨_,_,rfl,-⟩<;>exact⟨_,_,_,rfl⟩
 have kH:=ae (fun w' (hg:w.grownBy w' none) i (hi:i<L.length)=>rG (h.grow hg) hi);have DY:=ae (fun w' (hg:w.grownBy w' none) i (hi:i<C.length)=>uj (hc.grow hg) hi);have kW:Hd (∀i (hi:i<C.length),∃k:Nat,C[i]=(k:Int)/\k<L.length):=fun i hi=>by
  have:=hin _ (List.getElem_mem hi);exact⟨(C[i]).toNat,by omega,by omega⟩
 have dW:=ae hLN;have GU:Hd (∀i (hi:i<C.length) (k:Nat) (hk:k<L.length),C[i]=(k:Int)->nC L C i=L[k].nm/\wS L C i=L[k].nd):=fun i hi k hk he=>by
  have e1:(C[i]).toNat=k:=by omega
  exact⟨by rw[wR L C i hi,e1,qp L k hk],by rw[AL L C i hi,e1,AC L k hk]⟩
 obtain⟨B,hB⟩:=zN (w.heap.size);have HB:=ae hB;have hmk:=aet C.length hC w;rw[hB]at hmk;have HI0:Hd (BB (w.alloc (.cells (bV (List.replicate C.length false)) 4)) B (wD N L C 0)/\w.grownBy (w.alloc (.cells (bV (List.replicate C.length false)) 4)) none):=by
  refine⟨?_,aj (ak w none) _⟩;have:=heap_alloc_new w (.cells (bV (List.replicate C.length false)) 4);rw[hB]at this;exact this
 clear hn h hc hin hLN;go_enter func23,ntmps23;go_wp2
 try rw[hB]
 clear hB hmk;go_loopw [8] (fun vr wr=>∃r:Nat,vr=.int .i64 r/\r<=C.length+1/\BB wr B (wD N L C r)/\w.grownBy wr none) (fun vr _=>C.length+1-(intOf vr).toNat)
 case atStart=>exact⟨0,rfl,Nat.zero_le _,HI0.o⟩
 case round =>
  obtain⟨r,rfl,hr,hbb,hg⟩:=hrel;have nU:=ae hbb;have HG:=ae hg;have GV:Hd ((wD N L C r).length=C.length):=yN r;have FT:Hd (wD N L C (r+1)=rn N L C (wD N L C r) C.length):=rfl;obtain⟨b0,hb0⟩:=zN (wD N L C r);rw[hb0]at nU GV FT;have HR0:Hd (rn N L C b0 0=b0):=rfl;have xI:Hd (∀i,(rn N L C b0 i).length=C.length):=fun i=>(yM b0 i).trans GV.o
  have az:Hd (∀i,rn N L C b0 (i+1)=(rn N L C b0 i).set i (vK N L C (rn N L C b0 i) i C.length)):=fun i=>rfl
  obtain⟨wo,hwo⟩:∃wo,wo=wr:=⟨_,rfl⟩;subst hwo
  by_cases hlt:r<=C.length
  ·have hrI:((r:Int)<=(C.length:Int)):=by omega
   clear hbb hg hb0;go_wp2;go_loopw [9] (fun vi wr=>∃i:Nat,vi=.int .i64 i/\i<=C.length/\BB wr B (rn N L C b0 i)/\w.grownBy wr none) (fun vi _=>C.length-(intOf vi).toNat)
   case atStart=>exact⟨0,rfl,Nat.zero_le _,nU.o,HG.o⟩
   case round =>
    obtain⟨i,rfl,hi,hbb,hg⟩:=hrel;have UG:=ae hbb;have AP:=ae hg;have hlen:=xI.o i;have gy:=ae (az.o i);obtain⟨b,hb⟩:=zN (rn N L C b0 i);rw[hb]at UG hlen gy;obtain⟨wp,hwp⟩:∃wp,wp=wr:=⟨_,rfl⟩;subst hwp
    by_cases hil:i<C.length
    ·obtain⟨k0,hk0,LU⟩:=kW.o i hil;obtain⟨a1,ho1,hcp1,lJ⟩:=DY.o wp hg i hil;have f0:=lJ i hil;obtain⟨a2,ho2,hcp2,kC⟩:=kH.o wp hg k0 LU;obtain⟨e0,-⟩:=kC k0 LU;have hnc:=(GU.o i hil k0 LU hk0).1;rw[hk0]at f0;obtain⟨nm,hnm⟩:=zN (L[k0].nm);rw[hnm]at e0 hnc;have HNM:=ae hnc;have wK:Hd (Calls prog 47 #[.slice on nn cn,.string nm] wp fun e w''=>e=.returned (.bool (aI N L C i))/\wp.grownBy w'' none):=by
      have:=CN.o nm wp hg;unfold aI;rw[hnc];exact this
     have GX:i<b.length:=by omega
     have LV:=ae (aef N L C b i);have yP:=ae (fun k=>aeg N L C b i k GX);obtain⟨q0,hq0⟩:=zN (aI N L C i);rw[hq0]at wK LV;have hic:i<cc:=by omega
     have hkc:k0<c:=by omega
     have hwB:=Nat.le_of_eq HB.o;have zu:=ae hwB;subst ho1 ho2;clear hbb hg lJ kC hk0 hnm hnc hq0 hcp1 hcp2 hb hwB;go_wp2_with (go_at_call 47;refine wK.o.mono ?_);rintro e w2 ⟨rfl,hg2⟩;have hb2:=UG.o.grow hg2;obtain⟨c0,c1⟩:=hb2.cell i GX;have HG2:=ae (ag AP.o hg2);have HB2:=ae hb2;obtain⟨u,hu⟩:=zN (bA b i);rw[hu]at c0 LV;have HS2:Hd (∀x:Bool,vK N L C b i 0=x->BB (w2.setCell ⟨B,i,none⟩ (.bool x)) B (b.set i (vK N L C b i 0))/\w.grownBy (w2.setCell ⟨B,i,none⟩ (.bool x)) none):=fun x hx=>⟨by rw[hx];exact HB2.o.set i x,UF HG2.o zu.o _ _⟩
     clear hb2 hg2 hu f0 e0;have key:∀x:Bool,(u || q0)=x->∃W3,w2.setCell ⟨B,i,none⟩ (.bool x)=W3/\BB W3 B (b.set i (vK N L C b i 0))/\w.grownBy W3 none:=fun x hx=>⟨_,rfl,HS2.o x (LV.o.trans hx)⟩
     have KEY:=ae key;clear key;go_upto_region 10 with fail
     go_cut [7] from 40 to 49 (fun v7 wx=>v7=.slice (some ⟨B,0,none⟩) C.length C.length/\BB wx B (b.set i (vK N L C b i 0))/\w.grownBy wx none)
     case first =>
      cases u with
      | true =>
       obtain⟨W3,hW3,h3⟩:=KEY.o true rfl;have H3:=ae h3;clear h3;go_wp2;go_meet
       case rel=>exact⟨rfl,H3.o⟩
      | false =>
       obtain⟨W3,hW3,h3⟩:=KEY.o q0 (by simp);have H3:=ae h3;clear h3;go_wp2;go_meet
       case rel=>exact⟨rfl,H3.o⟩
     case rest =>
      obtain⟨rfl,hb3,hg3⟩:=hcut;have HB3:Hd (BB wc B (b.set i (vK N L C b i 0))/\w.grownBy wc none):=⟨hb3,hg3⟩;clear hb3 hg3 KEY HS2 c0 c1;go_wp2;go_loopw [12] (fun vk wr=>∃k:Nat,vk=.int .i64 k/\k<=C.length/\BB wr B (b.set i (vK N L C b i k))/\w.grownBy wr none) (fun vk _=>C.length-(intOf vk).toNat)
      case atStart=>exact⟨0,rfl,Nat.zero_le _,HB3.o⟩
      case round =>
       obtain⟨k,rfl,hk,hbb,hg⟩:=hrel;have HBK:=ae hbb;have jY:=ae hg
       by_cases hkl:k<C.length
       ·obtain⟨k1,hk1,GY⟩:=kW.o k hkl;obtain⟨a3,ho3,aev,UH⟩:=DY.o wr hg k hkl;have f0:=UH k hkl;obtain⟨a4,ho4,aew,UI⟩:=kH.o wr hg k1 GY;obtain⟨-,-,⟨sv,e2,e3⟩,-⟩:=UI k1 GY;have hnq:=(GU.o k hkl k1 GY hk1).2;have UJ:=dW.o _ (List.getElem_mem GY);rw[hk1]at f0;have C5:Hd (Calls prog 47 #[sv,.string nm] wr fun e w''=>e=.returned (.bool (qI L C k i))/\wr.grownBy w'' none):=by
         have:=CL.o sv L[k1].nd nm wr e3 UJ;unfold qI;rw[hnq,HNM.o];exact this
        obtain⟨so,sn,sc,rfl⟩:∃o n c,sv=.slice o n c:=by
         rcases e3 with⟨rfl,-⟩|⟨_,_,rfl,-⟩<;>exact⟨_,_,_,rfl⟩
        have uO:=ae (yP.o k);obtain⟨q,hq⟩:=zN (qI L C k i);rw[hq]at C5 uO;have afi:k<cc:=by omega
        have afj:k1<c:=by omega
        cases ho3
        cases ho4
        clear hbb hg UH UI hk1 hnq UJ hq aev aew e3;go_wp2_with (go_at_call 47;refine C5.o.mono ?_);rintro e w5 ⟨rfl,hg5⟩;have hb5:=HBK.o.grow hg5;obtain⟨s0,s1⟩:=hb5.cell i (by rw[List.length_set];exact GX);obtain⟨s2,-⟩:=hb5.cell k (by rw[List.length_set];omega);have fC:=ae (ag jY.o hg5);have e5:bA (b.set i (vK N L C b i k)) i=vK N L C b i k:=by rw[AO _ _ _ _ GX,if_pos rfl]
        rw[e5]at s0;have LW:Hd (∀x:Bool,vK N L C b i (k+1)=x->BB (w5.setCell ⟨B,i,none⟩ (.bool x)) B (b.set i (vK N L C b i (k+1)))/\w.grownBy (w5.setCell ⟨B,i,none⟩ (.bool x)) none):=fun x hx=>by
         refine⟨?_,UF fC.o zu.o _ _⟩;have:=hb5.set i x;rw[List.set_set]at this;rw[hx];exact this
        obtain⟨v,hv⟩:=zN (vK N L C b i k);rw[hv]at s0 s2 uO;obtain⟨u,hu⟩:=zN (bA (b.set i v) k);rw[hu]at s2 uO;clear hb5 hg5 hv hu f0 e2 e5
        cases v with
        | true =>
         have H5:=ae (LW.o true (by rw[uO.o];rfl));go_wp2;go_roundw
         case rel=>exact⟨k+1,by go_num,by omega,H5.o⟩
         case measure=>simp[intOf];omega
        | false =>
         cases u with
         | true =>
          have H5:=ae (LW.o q (by rw[uO.o];simp));go_wp2;go_roundw
          case rel=>exact⟨k+1,by go_num,by omega,H5.o⟩
          case measure=>simp[intOf];omega
         | false =>
          have H5:=ae (LW.o false (by rw[uO.o];rfl));go_wp2;go_roundw
          case rel=>exact⟨k+1,by go_num,by omega,H5.o⟩
          case measure=>simp[intOf];omega
       ·have hke:k=C.length:=by omega
        have yQ:Hd (BB wr B (rn N L C b0 (i+1))):=by
         rw[hke]at hbb;rw[gy.o];exact hbb
        clear hbb hg hke hk;go_wp2;go_roundw
        case rel=>exact⟨i+1,by go_num,by omega,yQ.o,jY.o⟩
        case measure=>simp[intOf];omega
    ·have hie:i=C.length:=by omega
     have yQ:Hd (BB wp B (wD N L C (r+1))):=by
      rw[hie]at hbb;rw[FT.o];exact hbb
     clear hbb hg hie hi hb;go_wp2;go_roundw
     case rel=>exact⟨r+1,by go_num,by omega,yQ.o,AP.o⟩
     case measure=>simp[intOf];omega
  ·have hre:r=C.length+1:=by omega
   have yQ:Hd (BB wo B (wD N L C (C.length+1))):=by rw[hre]at hbb;exact hbb
   have hrI:¬((r:Int)<=(C.length:Int)):=by omega
   clear hbb hg hre hr hb0;go_wp2;refine bodyPost_ret (results_tmp (t:=6) rfl _ _ _) rfl ⟨B,rfl,yQ.o,HG.o⟩
end Go.Proofs.YteciokcdpadmpaaGreatDoor
