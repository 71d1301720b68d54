import Derived.Test.YtmkjelchiacogaaGreatDoorM17
import Derived.Test.YtmkjelchiacogaaGreatDoorM15
set_option linter.unusedVariables false
set_option linter.unusedSimpArgs false
set_option maxRecDepth 100000
set_option maxHeartbeats 6400000
open Go.Proofs.Tryz
namespace Go.Proofs.YtmkjelchiacogaaGreatDoor
open Go.RowKit
def VS(b:Nat)(s:ByteArray)(i:Nat)(E:Int)(a:Nat)(w:World):Prop:=w.heap[b]?=some (.cells #[.string s,.int .i64 (i:Int),.int .i64 E,.int .i64 (a:Int)] 182 (0,0))
theorem VS.c0{b:Nat}{s:ByteArray}{i:Nat}{E:Int}{a:Nat}{w:World}(h:VS b s i E a w):w.cell? ⟨b,0,none⟩=some (.string s):=by rw[ae h];rfl
theorem VS.c1{b:Nat}{s:ByteArray}{i:Nat}{E:Int}{a:Nat}{w:World}(h:VS b s i E a w):w.cell? ⟨b,1,none⟩=some (.int .i64 (i:Int)):=by rw[ae h];rfl
theorem VS.c2{b:Nat}{s:ByteArray}{i:Nat}{E:Int}{a:Nat}{w:World}(h:VS b s i E a w):w.cell? ⟨b,2,none⟩=some (.int .i64 E):=by rw[ae h];rfl
theorem VS.c3{b:Nat}{s:ByteArray}{i:Nat}{E:Int}{a:Nat}{w:World}(h:VS b s i E a w):w.cell? ⟨b,3,none⟩=some (.int .i64 (a:Int)):=by rw[ae h];rfl
theorem VS.f1{b:Nat}{s:ByteArray}{i:Nat}{E:Int}{a:Nat}{w:World}(h:VS b s i E a w):w.frozen? ⟨b,1,none⟩=false:=Lib.frozen_of_heap h 1
theorem VS.f2{b:Nat}{s:ByteArray}{i:Nat}{E:Int}{a:Nat}{w:World}(h:VS b s i E a w):w.frozen? ⟨b,2,none⟩=false:=Lib.frozen_of_heap h 2
theorem VS.f3{b:Nat}{s:ByteArray}{i:Nat}{E:Int}{a:Nat}{w:World}(h:VS b s i E a w):w.frozen? ⟨b,3,none⟩=false:=Lib.frozen_of_heap h 3
theorem VS.drew{b:Nat}{s:ByteArray}{i:Nat}{E:Int}{a:Nat}{w:World}(h:VS b s i E a w)(n:Nat):VS b s i E a (w.drewN n):=h
theorem VS.set1{b:Nat}{s:ByteArray}{i:Nat}{E:Int}{a:Nat}{w:World}(h:VS b s i E a w)(j:Nat):VS b s j E a (w.setCell ⟨b,1,none⟩ (.int .i64 (j:Int))):=by
 unfold VS at h ⊢;simp[World.setCell,Array.getElem?_modify,h]
theorem VS.set2{b:Nat}{s:ByteArray}{i:Nat}{E:Int}{a:Nat}{w:World}(h:VS b s i E a w)(F:Int):VS b s i F a (w.setCell ⟨b,2,none⟩ (.int .i64 F)):=by
 unfold VS at h ⊢;simp[World.setCell,Array.getElem?_modify,h]
theorem VS.set3{b:Nat}{s:ByteArray}{i:Nat}{E:Int}{a:Nat}{w:World}(h:VS b s i E a w)(c:Nat):VS b s i E c (w.setCell ⟨b,3,none⟩ (.int .i64 (c:Int))):=by
 unfold VS at h ⊢;simp[World.setCell,Array.getElem?_modify,h]
theorem jc(b:Nat)(s:ByteArray)(i:Nat)(a:Nat)(F:Int)(c:Nat)(w:World)(h:VS b s i 0 a w) :
  Calls prog 111 #[.pointer (some ⟨b,0,none⟩),.int .i64 F,.int .i64 (c:Int)] w fun e w'=>e=.returned (.tuple #[])/\VS b s i F c w'/\w.grownBy w' (some b):=by
 have h2:=h.c2;have h3:=h.c3;have f2:=h.f2;have f3:=h.f3;have HR:Hd (VS b s i 0 a w):=h;clear h;go_enter func111,ntmps111;go_wp2
 go_end0
 exact⟨rfl,(HR.o.set2 F).set3 c,dD (dD (ai w _) _ _) _ _⟩
theorem Vj(b:Nat)(s:ByteArray)(i:Nat)(E:Int)(hE:E≠0)(a:Nat)(F:Int)(c:Nat)(w:World)(h:VS b s i E a w) :
  Calls prog 111 #[.pointer (some ⟨b,0,none⟩),.int .i64 F,.int .i64 (c:Int)] w fun e w'=>e=.returned (.tuple #[])/\VS b s i E a w'/\w.grownBy w' (some b):=by
 have h2:=h.c2;have HR:Hd (VS b s i E a w):=h;have hn:(E == 0)=false:=by simpa using hE
 clear h hE;go_enter func111,ntmps111;go_wp2
 go_end0
 exact⟨rfl,HR.o,ai w _⟩
theorem adi(b:Nat)(s:ByteArray)(i:Nat)(E:Int)(a:Nat)(c:UInt8)(w:World)(hc:s.data.toList[i]?=some c)(h:VS b s i E a w)(hs:s.size<2 ^ 62) :
  Calls prog 109 #[.pointer (some ⟨b,0,none⟩),.int .u8 (c.toNat:Int)] w fun e w'=>e=.returned (.tuple #[])/\VS b s (i+1) E a w'/\w.grownBy w' (some b):=by
 have h0:=h.c0;have h1:=h.c1;have f1:=h.f1;have HR:Hd (VS b s i E a w):=h;clear h;have hlt:i<s.size:=by have:=(List.getElem?_eq_some_iff.1 hc).1;simpa using this
 rw[jY s i hlt]at hc;have hc':s[i]=c:=Option.some.inj hc;clear hc;subst hc';have hd:decide ((s.size:Int)<=(i:Int))=false:=by simp;omega
 have hw:IntKind.i64.wrap ((i:Int)+1)=((i+1:Nat):Int):=by rw[IntKind.wrap_i64];omega
 go_enter func109,ntmps109;go_wp2;go_quiet (fail);go_wp2
 go_end0
 exact⟨rfl,(HR.o.drew nq).set1 (i+1),dD (au (ai w _) _) _ _⟩
theorem adk(b:Nat)(s:ByteArray)(i:Nat)(a:Nat)(c:UInt8)(w:World)(hi:i<=s.size)(hc:¬s.data.toList[i]?=some c)(h:VS b s i 0 a w)(hs:s.size<2 ^ 62) :
  Calls prog 109 #[.pointer (some ⟨b,0,none⟩),.int .u8 (c.toNat:Int)] w fun e w'=>e=.returned (.tuple #[])/\VS b s i 2 i w'/\w.grownBy w' (some b):=by
 have h0:=h.c0;have h1:=h.c1;have HR:Hd (VS b s i 0 a w):=h;clear h
 by_cases hlt:i<s.size
 ·rw[jY s i hlt]at hc;have hne:s[i]≠c:=fun e=>hc (by rw[e])
  have hn:((s[i].toNat:Int) == (c.toNat:Int))=false:=by
   simp only[beq_eq_false_iff_ne,ne_eq];intro e;exact hne (UInt8.toNat_inj.1 (by omega))
  have hd:decide ((s.size:Int)<=(i:Int))=false:=by simp;omega
  have hm:((s[i].toNat:Int) != (c.toNat:Int))=true:=by rw[bne,hn];rfl
  clear hc hne;go_enter func109,ntmps109;go_wp2;go_quiet (fail);have e1:(w.drewN nq).cell? ⟨b,1,none⟩=some (.int .i64 (i:Int)):=h1;go_wp2_with (go_at_call 111;refine(jc b s i a 2 i _ (HR.o.drew _)).mono ?_);rintro e w1 ⟨rfl,hr,hg⟩;go_wp2
  (try simp only[Exit.inBlock,Exit.then])
  refine bodyPost_ret (results_none rfl _ _ _) rfl ?_;exact⟨rfl,hr,af (au (ai w _) _) hg⟩
 ·have hd:decide ((s.size:Int)<=(i:Int))=true:=by simp;omega
  clear hc;go_enter func109,ntmps109;go_wp2;go_quiet (fail);have e1:(w.drewN nq).cell? ⟨b,1,none⟩=some (.int .i64 (i:Int)):=h1;go_wp2_with (go_at_call 111;refine(jc b s i a 2 i _ (HR.o.drew _)).mono ?_);rintro e w1 ⟨rfl,hr,hg⟩;go_wp2
  (try simp only[Exit.inBlock,Exit.then])
  refine bodyPost_ret (results_none rfl _ _ _) rfl ?_;exact⟨rfl,hr,af (au (ai w _) _) hg⟩
open Go.RowKit
def wP(n:Int)(c:UInt8):Int:=if n<=999999999 then 10*n+((c.toNat:Int)-48) else n
def jF(l:List UInt8):Int:=l.foldl wP 0
theorem Vk(T:List UInt8)(m:Nat)(hm:m<T.length):jF (T.take (m+1))=wP (jF (T.take m)) T[m]:=by
 rw[List.take_succ_eq_append_getElem hm];unfold jF;rw[List.foldl_append];rfl
theorem adl(T:List UInt8)(h:T.all aC=true):∀m,m<=T.length->(0<=jF (T.take m)/\jF (T.take m)<=9999999999)/\(aK (T.take m)<=999999999->jF (T.take m)=aK (T.take m))/\(999999999<aK (T.take m)->999999999<jF (T.take m)):=by
 intro m
 induction m with
 | zero=>intro _;exact⟨⟨Int.le_refl 0,by show(0:Int)<=_;omega⟩,fun _=>rfl,fun h=>absurd h (by show ¬(999999999:Int)<0;omega)⟩
 | succ m ih =>
  intro hm;obtain⟨i1,i2,i3⟩:=ih (by omega);have hdg:=yU (List.all_eq_true.1 h T[m] (List.getElem_mem (by omega)));rw[Vk T m (by omega),U8 T m (by omega)];have hv0:0<=aK (T.take m):=EY _ (List.all_eq_true.2 (fun c hc=>List.all_eq_true.1 h c (List.mem_of_mem_take hc)));unfold wP
  by_cases hb:aK (T.take m)<=999999999
  ·have e:=i2 hb;rw[e,if_pos hb];refine⟨⟨by omega,by omega⟩,fun _=>rfl,fun h=>h⟩
  ·have e:=i3 (by omega);rw[if_neg (by omega)];exact⟨i1,fun h=>by omega,fun _=>e⟩
theorem VS.place{b:Nat}{s:ByteArray}{i:Nat}{E:Int}{a:Nat}{w:World}(h:VS b s i E a w):placeOf b w=i:=by unfold placeOf;rw[h.c1];simp
def MX(b:Nat)(s:ByteArray)(i:Nat)(w:World)(e:Ending)(w':World):Prop :=
 ∃(v:Int) (j:Nat) (E:Int) (c:Nat),e=.returned (.int .i64 v)/\VS b s j E c w'/\w.grownBy w' (some b)/\E=(rdNum s.data.toList i).1/\(E=0->v=(rdNum s.data.toList i).2.1/\j=(rdNum s.data.toList i).2.2/\j<=s.size)/\(E≠0->c=(rdNum s.data.toList i).2.2)
theorem adm(b:Nat)(s:ByteArray)(i:Nat)(a:Nat)(w:World)(hi:i<=s.size)(h:VS b s i 0 a w)(hs:s.size<2 ^ 62) :
  Calls prog 108 #[.pointer (some ⟨b,0,none⟩)] w (MX b s i w):=by
 have h1:=h.c1;have HR:Hd (VS b s i 0 a w):=h;have hsl:s.data.toList.length=s.size:=by simp
 have hle:i+runN aC s.data.toList i<=s.size:=by have:=rU aC s.data.toList i (by rw[hsl];exact hi);rw[hsl]at this;exact this
 have hln:=rX s.data.toList i (runN aC s.data.toList i) (by rw[hsl];exact hle);have hall:=Fg aC s.data.toList i;obtain⟨k,hk⟩:=zN (runN aC s.data.toList i);have HS:Hd (∀hj:i+k<s.size,aC s[i+k]=false):=by
  show ∀hj:i+k<s.size,aC s[i+k]=false;intro hj;have:=EX aC s.data.toList i (by rw[hk];simpa using hj);simp only[hk]at this;exact this
 rw[hk]at hle hln hall;obtain⟨T,hT⟩:=zN (ah s.data.toList i k);have MZ:Hd (∀m (hm:m<k) (h2:i+m<s.size) (h3:m<T.length),s[i+m]=T[m]):=by
  show ∀m (hm:m<k) (h2:i+m<s.size) (h3:m<T.length),s[i+m]=T[m];intro m hm h2 h3;have e1:T[m]?=s.data.toList[i+m]?:=by rw[<-hT];unfold ah;rw[List.getElem?_take_of_lt hm,List.getElem?_drop]
  rw[jY s (i+m) h2,List.getElem?_eq_getElem h3]at e1;exact(Option.some.inj e1).symm
 rw[hT]at hln hall;have HP:Hd (∀(v:Int) (j:Nat) (E:Int) (c:Nat) (w':World),VS b s j E c w'->w.grownBy w' (some b) →
   (k=0/\E=2/\c=i\/¬k=0/\(1<k/\s.data.toList[i]?=some 48)/\E=2/\c=i\/¬k=0/\¬(1<k/\s.data.toList[i]?=some 48)/\aK T > 999999999/\E=3/\c=i\/¬k=0/\¬(1<k/\s.data.toList[i]?=some 48)/\¬aK T > 999999999/\E=0/\v=aK T/\j=i+k)->MX b s i w (.returned (.int .i64 v)) w'):=by
  intro v j E c w' hv hg ho;refine⟨v,j,E,c,rfl,hv,hg,?_⟩;unfold rdNum;rw[hk,hT]
  rcases ho with⟨o1,rfl,rfl⟩|⟨o1,o2,rfl,rfl⟩|⟨o1,o2,o3,rfl,rfl⟩|⟨o1,o2,o3,rfl,rfl,rfl⟩
  ·rw[if_pos o1];exact⟨rfl,fun h=>absurd h (by decide),fun _=>rfl⟩
  ·rw[if_neg o1,if_pos o2];exact⟨rfl,fun h=>absurd h (by decide),fun _=>rfl⟩
  ·rw[if_neg o1,if_neg o2,if_pos o3];exact⟨rfl,fun h=>absurd h (by decide),fun _=>rfl⟩
  ·rw[if_neg o1,if_neg o2,if_neg o3];exact⟨rfl,fun _=>⟨rfl,rfl,hle⟩,fun h=>absurd rfl h⟩
 have HD:Hd (∀m j (hm:m<k) (hj:j=i+m) (h2:j<s.size),aC s[j]=true):=by
  show ∀m j (hm:m<k) (hj:j=i+m) (h2:j<s.size),aC s[j]=true;intro m j hm hj h2;subst hj;rw[MZ.o m hm h2 (by omega)];exact List.all_eq_true.1 hall _ (List.getElem_mem _)
 have G9:Hd (∀m j (hm:m<k) (hj:j=i+m) (h2:j<s.size),jF (T.take (m+1))=wP (jF (T.take m)) s[j]):=by
  show ∀m j (hm:m<k) (hj:j=i+m) (h2:j<s.size),jF (T.take (m+1))=wP (jF (T.take m)) s[j];intro m j hm hj h2;subst hj;rw[MZ.o m hm h2 (by omega)];exact Vk T m (by omega)
 have HC:Hd (T.length=k/\∀m,m<=k->(0<=jF (T.take m)/\jF (T.take m)<=9999999999)/\(aK (T.take m)<=999999999->jF (T.take m)=aK (T.take m))/\(999999999<aK (T.take m)->999999999<jF (T.take m))):=⟨hln,fun m hm=>adl T hall m (by omega)⟩;have HL:Hd (i+k<=s.size):=hle;clear hk hT hln hall h hsl hle hi;go_enter func108,ntmps108;go_wp2;go_loopw [4] (fun vn wr=>∃m j:Nat,j=i+m/\m<=k/\vn=.int .i64 (jF (T.take m))/\VS b s j 0 a wr/\w.grownBy wr (some b)) (fun _ wr=>s.size-placeOf b wr)
 case atStart=>exact⟨0,i,rfl,Nat.zero_le _,rfl,HR.o,ai _ _⟩
 case round =>
  obtain⟨m,j,hj,hmk,rfl,hrs,hgb⟩:=hrel;have d0:=hrs.c0;have d1:=hrs.c1;have df:=hrs.f1;have bK:Hd (VS b s j 0 a wr):=hrs;have bY:Hd (w.grownBy wr (some b)):=hgb;have hil:=HL.o;have hcb:=(HC.o.2 m hmk).1;clear hrs hgb h1 HR
  by_cases hlt:m<k
  ·have hjs:j<s.size:=by omega
   have hD:aC s[j]=true:=HD.o m j hlt hj hjs;have hdg:=yU hD;have gU:Hd (jF (T.take (m+1))=wP (jF (T.take m)) s[j]):=G9.o m j hlt hj hjs;have HK:Hd (m<k/\j=i+m/\j<s.size):=⟨hlt,hj,hjs⟩;obtain⟨v,hv⟩:∃v,v=jF (T.take m):=⟨_,rfl⟩;rw[<-hv]at hcb gU;rw[<-hv];clear hv hlt hil hmk hj;have hlt2:(j:Int)<(s.size:Int):=by omega
   have hw:IntKind.i64.wrap ((j:Int)+1)=((j+1:Nat):Int):=by rw[IntKind.wrap_i64];omega
   by_cases hb:v<=999999999
   ·have r1:IntKind.i64.wrap (10*v)=10*v:=by rw[IntKind.wrap_i64];omega
    have r2:IntKind.i64.wrap (10*v+(s[j].toNat:Int))=10*v+(s[j].toNat:Int):=by rw[IntKind.wrap_i64];omega
    have r3:IntKind.i64.wrap (10*v+(s[j].toNat:Int)-48)=10*v+(s[j].toNat:Int)-48:=by rw[IntKind.wrap_i64];omega
    have HN:Hd (10*v+(s[j].toNat:Int)-48=jF (T.take (m+1))):=by show _=_;rw[gU.o];unfold wP;rw[if_pos hb];omega
    go_wp2;go_quiet (first|(go_at_call 68;exact Calls.quiet_of_same (oW _ _)));go_wp2;have dF:Hd (placeOf b wr=j):=bK.o.place;obtain⟨W,hW⟩:=zN (wr.drewN nq);have e0:W.cell? ⟨b,0,none⟩=some (.string s):=by rw[<-hW];exact d0
    have e1:W.cell? ⟨b,1,none⟩=some (.int .i64 (j:Int)):=by rw[<-hW];exact d1
    have ef:W.frozen? ⟨b,1,none⟩=false:=by rw[<-hW];exact df
    have HW:Hd (VS b s j 0 a W/\w.grownBy W (some b)):=by
     show VS b s j 0 a W/\w.grownBy W (some b);rw[<-hW];exact⟨bK.o.drew _,au bY.o _⟩
    rw[hW];clear hW d0 d1 df bK bY;go_quiet (fail);go_wp2;go_roundw
    case rel=>exact⟨m+1,j+1,by have:=HK.o;omega,by have:=HK.o;omega,by rw[<-HN.o],(HW.o.1.drew _).set1 (j+1),dD (au HW.o.2 _) _ _⟩
    case measure =>
     have e2:=((HW.o.1.drew nq).set1 (j+1)).place;rw[dF.o];exact Nat.lt_of_le_of_lt (Nat.le_of_eq (congrArg (s.size - ·) e2)) (by omega)
   ·have HN:Hd (v=jF (T.take (m+1))):=by show _=_;rw[gU.o];unfold wP;rw[if_neg hb]
    go_wp2;go_quiet (first|(go_at_call 68;exact Calls.quiet_of_same (oW _ _)));go_wp2;go_roundw
    case rel=>exact⟨m+1,j+1,by have:=HK.o;omega,by have:=HK.o;omega,by rw[<-HN.o],(bK.o.drew _).set1 (j+1),dD (au bY.o _) _ _⟩
    case measure =>
     have e1:=bK.o.place;have e2:=((bK.o.drew nq).set1 (j+1)).place;rw[e1];exact Nat.lt_of_le_of_lt (Nat.le_of_eq (congrArg (s.size - ·) e2)) (by omega)
  ·have ahi:m=k:=by omega
   subst m;obtain⟨v,hv⟩:∃v,v=jF (T.take k):=⟨_,rfl⟩;have Vl:T.take k=T:=List.take_of_length_le (by rw[HC.o.1];exact Nat.le_refl _);have nS:Hd ((aK T<=999999999->v=aK T)/\(999999999<aK T->999999999<v)):=by
    have:=(HC.o.2 k hmk).2;rw[Vl]at this hv;show(aK T<=999999999->v=aK T)/\(999999999<aK T->999999999<v);rw[hv];exact this
   have hv0:k=0->v=0:=fun h=>by rw[hv,h];rfl
   rw[<-hv]at hcb;rw[<-hv];have Ar:Hd (j=i+k/\i+k<=s.size):=⟨hj,hil⟩;clear hv Vl HD G9 HC MZ hlt hmk hil
   by_cases hjs:j<s.size
   ·have hD:aC s[j]=false:=by subst hj;exact HS.o hjs
    have hlt2:(j:Int)<(s.size:Int):=by omega
    clear HS HL hj;go_wp2;go_quiet (first|(go_at_call 68;exact Calls.quiet_of_same (oW _ _)));obtain⟨W,hW⟩:=zN (wr.drewN nq);have e0:W.cell? ⟨b,0,none⟩=some (.string s):=by rw[<-hW];exact d0
    have e1:W.cell? ⟨b,1,none⟩=some (.int .i64 (j:Int)):=by rw[<-hW];exact d1
    have ef:W.frozen? ⟨b,1,none⟩=false:=by rw[<-hW];exact df
    have HW:Hd (VS b s j 0 a W/\w.grownBy W (some b)):=by
     show VS b s j 0 a W/\w.grownBy W (some b);rw[<-hW];exact⟨bK.o.drew _,au bY.o _⟩
    rw[hW];clear hW d0 d1 df bK bY;have hj:=Ar.o.1;have hil:=Ar.o.2;have q2:IntKind.i64.wrap ((j:Int)-(i:Int))=(k:Int):=by rw[IntKind.wrap_i64];omega
    by_cases hk0:k=0
    ·have q1:((j:Int) == (i:Int))=true:=by simp;omega
     have q5:decide ((999999999:Int)<v)=false:=by simp;have:=hv0 hk0;omega
     have HO:Hd (k=0):=hk0;clear hk0 hv0 hj hil q2;go_wp2_with (go_at_call 111;refine(jc b s j a 2 i _ HW.o.1).mono ?_);rintro e w1 ⟨rfl,hr,hg⟩;go_wp2;go_ret;exact HP.o _ j 2 i _ hr (af HW.o.2 hg) (Or.inl ⟨HO.o,rfl,rfl⟩)
    ·have q1:((j:Int) == (i:Int))=false:=by simp;omega
     have his:i<s.size:=by omega
     have hgd:=jY s i his
     by_cases h1k:1<k
     ·have q3:decide ((1:Int)<(k:Int))=true:=by simp;omega
      cases q4:((s[i].toNat:Int) == 48) with
      | true =>
       have HO:Hd (¬k=0/\(1<k/\s.data.toList[i]?=some 48)):=⟨hk0,h1k,by rw[hgd];congr 1;exact UInt8.toNat_inj.1 (by simp at q4;show s[i].toNat=48;omega)⟩;clear hgd hk0 hv0 hj hil
       cases q5:decide ((999999999:Int)<v) with
       | true =>
        go_wp2_with (go_at_call 111;refine(jc b s j a 2 i _ HW.o.1).mono ?_);rintro e w1 ⟨rfl,hr,hg⟩;go_wp2_with (go_at_call 111;refine(Vj b s j 2 (by decide) i 3 i _ hr).mono ?_);rintro e w2 ⟨rfl,hr2,hg2⟩;go_wp2;go_ret;exact HP.o _ j 2 i _ hr2 (af (af HW.o.2 hg) hg2) (Or.inr (Or.inl ⟨HO.o.1,HO.o.2,rfl,rfl⟩))
       | false =>
        go_wp2_with (go_at_call 111;refine(jc b s j a 2 i _ HW.o.1).mono ?_);rintro e w1 ⟨rfl,hr,hg⟩;go_wp2;go_ret;exact HP.o _ j 2 i _ hr (af HW.o.2 hg) (Or.inr (Or.inl ⟨HO.o.1,HO.o.2,rfl,rfl⟩))
      | false =>
       have HO:Hd (¬k=0/\¬(1<k/\s.data.toList[i]?=some 48)):=⟨hk0,fun h=>by
        have:=h.2;rw[hgd]at this;have e:=Option.some.inj this;rw[e]at q4;simp at q4⟩
       clear hgd hk0 hv0;have HJ:Hd (j=i+k):=hj;clear hj hil
       cases q5:decide ((999999999:Int)<v) with
       | true =>
        have HB:Hd (aK T > 999999999):=by
         show aK T > 999999999;have h1:=of_decide_eq_true q5;refine Int.not_le.1 (fun h2=>?_);have:=nS.o.1 h2;omega
        go_wp2_with (go_at_call 111;refine(jc b s j a 3 i _ HW.o.1).mono ?_);rintro e w1 ⟨rfl,hr,hg⟩;go_wp2;go_ret;exact HP.o _ j 3 i _ hr (af HW.o.2 hg) (Or.inr (Or.inr (Or.inl ⟨HO.o.1,HO.o.2,HB.o,rfl,rfl⟩)))
       | false =>
        have HB:Hd (¬aK T > 999999999):=by
         show ¬aK T > 999999999;have h1:=of_decide_eq_false q5;exact fun h2=>h1 (nS.o.2 h2)
        have HE:Hd (v=aK T):=nS.o.1 (Int.not_lt.1 HB.o);go_wp2;go_ret;exact HP.o _ j 0 a _ HW.o.1 HW.o.2 (Or.inr (Or.inr (Or.inr ⟨HO.o.1,HO.o.2,HB.o,rfl,HE.o,HJ.o⟩)))
     ·have q3:decide ((1:Int)<(k:Int))=false:=by simp;omega
      have HO:Hd (¬k=0/\¬(1<k/\s.data.toList[i]?=some 48)):=⟨hk0,fun h=>h1k h.1⟩;clear hgd hk0 hv0;have HJ:Hd (j=i+k):=hj;clear hj hil
      cases q5:decide ((999999999:Int)<v) with
      | true =>
       have HB:Hd (aK T > 999999999):=by
        show aK T > 999999999;have h1:=of_decide_eq_true q5;refine Int.not_le.1 (fun h2=>?_);have:=nS.o.1 h2;omega
       go_wp2_with (go_at_call 111;refine(jc b s j a 3 i _ HW.o.1).mono ?_);rintro e w1 ⟨rfl,hr,hg⟩;go_wp2;go_ret;exact HP.o _ j 3 i _ hr (af HW.o.2 hg) (Or.inr (Or.inr (Or.inl ⟨HO.o.1,HO.o.2,HB.o,rfl,rfl⟩)))
      | false =>
       have HB:Hd (¬aK T > 999999999):=by
        show ¬aK T > 999999999;have h1:=of_decide_eq_false q5;exact fun h2=>h1 (nS.o.2 h2)
       have HE:Hd (v=aK T):=nS.o.1 (Int.not_lt.1 HB.o);go_wp2;go_ret;exact HP.o _ j 0 a _ HW.o.1 HW.o.2 (Or.inr (Or.inr (Or.inr ⟨HO.o.1,HO.o.2,HB.o,rfl,HE.o,HJ.o⟩)))
   ·have hd2:decide ((j:Int)<(s.size:Int))=false:=by simp;omega
    clear HS HL hj;go_wp2;go_quiet (fail);obtain⟨W,hW⟩:=zN (wr.drewN nq);have e0:W.cell? ⟨b,0,none⟩=some (.string s):=by rw[<-hW];exact d0
    have e1:W.cell? ⟨b,1,none⟩=some (.int .i64 (j:Int)):=by rw[<-hW];exact d1
    have ef:W.frozen? ⟨b,1,none⟩=false:=by rw[<-hW];exact df
    have HW:Hd (VS b s j 0 a W/\w.grownBy W (some b)):=by
     show VS b s j 0 a W/\w.grownBy W (some b);rw[<-hW];exact⟨bK.o.drew _,au bY.o _⟩
    rw[hW];clear hW d0 d1 df bK bY;have hj:=Ar.o.1;have hil:=Ar.o.2;have q2:IntKind.i64.wrap ((j:Int)-(i:Int))=(k:Int):=by rw[IntKind.wrap_i64];omega
    by_cases hk0:k=0
    ·have q1:((j:Int) == (i:Int))=true:=by simp;omega
     have q5:decide ((999999999:Int)<v)=false:=by simp;have:=hv0 hk0;omega
     have HO:Hd (k=0):=hk0;clear hk0 hv0 hj hil q2;go_wp2_with (go_at_call 111;refine(jc b s j a 2 i _ HW.o.1).mono ?_);rintro e w1 ⟨rfl,hr,hg⟩;go_wp2;go_ret;exact HP.o _ j 2 i _ hr (af HW.o.2 hg) (Or.inl ⟨HO.o,rfl,rfl⟩)
    ·have q1:((j:Int) == (i:Int))=false:=by simp;omega
     have his:i<s.size:=by omega
     have hgd:=jY s i his
     by_cases h1k:1<k
     ·have q3:decide ((1:Int)<(k:Int))=true:=by simp;omega
      cases q4:((s[i].toNat:Int) == 48) with
      | true =>
       have HO:Hd (¬k=0/\(1<k/\s.data.toList[i]?=some 48)):=⟨hk0,h1k,by rw[hgd];congr 1;exact UInt8.toNat_inj.1 (by simp at q4;show s[i].toNat=48;omega)⟩;clear hgd hk0 hv0 hj hil
       cases q5:decide ((999999999:Int)<v) with
       | true =>
        go_wp2_with (go_at_call 111;refine(jc b s j a 2 i _ HW.o.1).mono ?_);rintro e w1 ⟨rfl,hr,hg⟩;go_wp2_with (go_at_call 111;refine(Vj b s j 2 (by decide) i 3 i _ hr).mono ?_);rintro e w2 ⟨rfl,hr2,hg2⟩;go_wp2;go_ret;exact HP.o _ j 2 i _ hr2 (af (af HW.o.2 hg) hg2) (Or.inr (Or.inl ⟨HO.o.1,HO.o.2,rfl,rfl⟩))
       | false =>
        go_wp2_with (go_at_call 111;refine(jc b s j a 2 i _ HW.o.1).mono ?_);rintro e w1 ⟨rfl,hr,hg⟩;go_wp2;go_ret;exact HP.o _ j 2 i _ hr (af HW.o.2 hg) (Or.inr (Or.inl ⟨HO.o.1,HO.o.2,rfl,rfl⟩))
      | false =>
       have HO:Hd (¬k=0/\¬(1<k/\s.data.toList[i]?=some 48)):=⟨hk0,fun h=>by
        have:=h.2;rw[hgd]at this;have e:=Option.some.inj this;rw[e]at q4;simp at q4⟩
       clear hgd hk0 hv0;have HJ:Hd (j=i+k):=hj;clear hj hil
       cases q5:decide ((999999999:Int)<v) with
       | true =>
        have HB:Hd (aK T > 999999999):=by
         show aK T > 999999999;have h1:=of_decide_eq_true q5;refine Int.not_le.1 (fun h2=>?_);have:=nS.o.1 h2;omega
        go_wp2_with (go_at_call 111;refine(jc b s j a 3 i _ HW.o.1).mono ?_);rintro e w1 ⟨rfl,hr,hg⟩;go_wp2;go_ret;exact HP.o _ j 3 i _ hr (af HW.o.2 hg) (Or.inr (Or.inr (Or.inl ⟨HO.o.1,HO.o.2,HB.o,rfl,rfl⟩)))
       | false =>
        have HB:Hd (¬aK T > 999999999):=by
         show ¬aK T > 999999999;have h1:=of_decide_eq_false q5;exact fun h2=>h1 (nS.o.2 h2)
        have HE:Hd (v=aK T):=nS.o.1 (Int.not_lt.1 HB.o);go_wp2;go_ret;exact HP.o _ j 0 a _ HW.o.1 HW.o.2 (Or.inr (Or.inr (Or.inr ⟨HO.o.1,HO.o.2,HB.o,rfl,HE.o,HJ.o⟩)))
     ·have q3:decide ((1:Int)<(k:Int))=false:=by simp;omega
      have HO:Hd (¬k=0/\¬(1<k/\s.data.toList[i]?=some 48)):=⟨hk0,fun h=>h1k h.1⟩;clear hgd hk0 hv0;have HJ:Hd (j=i+k):=hj;clear hj hil
      cases q5:decide ((999999999:Int)<v) with
      | true =>
       have HB:Hd (aK T > 999999999):=by
        show aK T > 999999999;have h1:=of_decide_eq_true q5;refine Int.not_le.1 (fun h2=>?_);have:=nS.o.1 h2;omega
       go_wp2_with (go_at_call 111;refine(jc b s j a 3 i _ HW.o.1).mono ?_);rintro e w1 ⟨rfl,hr,hg⟩;go_wp2;go_ret;exact HP.o _ j 3 i _ hr (af HW.o.2 hg) (Or.inr (Or.inr (Or.inl ⟨HO.o.1,HO.o.2,HB.o,rfl,rfl⟩)))
      | false =>
       have HB:Hd (¬aK T > 999999999):=by
        show ¬aK T > 999999999;have h1:=of_decide_eq_false q5;exact fun h2=>h1 (nS.o.2 h2)
       have HE:Hd (v=aK T):=nS.o.1 (Int.not_lt.1 HB.o);go_wp2;go_ret;exact HP.o _ j 0 a _ HW.o.1 HW.o.2 (Or.inr (Or.inr (Or.inr ⟨HO.o.1,HO.o.2,HB.o,rfl,HE.o,HJ.o⟩)))
end Go.Proofs.YtmkjelchiacogaaGreatDoor
