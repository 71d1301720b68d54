import Derived.Test.YtnnbgjaphfhibaaGreatDoorN17
import Derived.Test.YtnnbgjaphfhibaaGreatDoorN09
set_option linter.unusedVariables false
set_option linter.unusedSimpArgs false
set_option maxRecDepth 100000
set_option maxHeartbeats 6400000
open Go.Proofs.Tryz
namespace Go.Proofs.YtnnbgjaphfhibaaGreatDoor
open Go.RowKit
def VS(b:Nat)(s:ByteArray)(i:Nat)(E:Int)(a:Nat)(w:World):Prop:=w.heap[b]?=some (.cells #[.string s,.int .i64 (i:Int),.int .i64 E,.int .i64 (a:Int)] 237 (0,0))
theorem VS.c0{b:Nat}{s:ByteArray}{i:Nat}{E:Int}{a:Nat}{w:World}(h:VS b s i E a w):w.cell? ⟨b,0,none⟩=some (.string s):=by rw[af h];rfl
theorem VS.c1{b:Nat}{s:ByteArray}{i:Nat}{E:Int}{a:Nat}{w:World}(h:VS b s i E a w):w.cell? ⟨b,1,none⟩=some (.int .i64 (i:Int)):=by rw[af h];rfl
theorem VS.c2{b:Nat}{s:ByteArray}{i:Nat}{E:Int}{a:Nat}{w:World}(h:VS b s i E a w):w.cell? ⟨b,2,none⟩=some (.int .i64 E):=by rw[af h];rfl
theorem VS.c3{b:Nat}{s:ByteArray}{i:Nat}{E:Int}{a:Nat}{w:World}(h:VS b s i E a w):w.cell? ⟨b,3,none⟩=some (.int .i64 (a:Int)):=by rw[af h];rfl
theorem VS.f1{b:Nat}{s:ByteArray}{i:Nat}{E:Int}{a:Nat}{w:World}(h:VS b s i E a w):w.frozen? ⟨b,1,none⟩=false:=Lib.frozen_of_heap h 1
theorem VS.f2{b:Nat}{s:ByteArray}{i:Nat}{E:Int}{a:Nat}{w:World}(h:VS b s i E a w):w.frozen? ⟨b,2,none⟩=false:=Lib.frozen_of_heap h 2
theorem VS.f3{b:Nat}{s:ByteArray}{i:Nat}{E:Int}{a:Nat}{w:World}(h:VS b s i E a w):w.frozen? ⟨b,3,none⟩=false:=Lib.frozen_of_heap h 3
theorem VS.drew{b:Nat}{s:ByteArray}{i:Nat}{E:Int}{a:Nat}{w:World}(h:VS b s i E a w)(n:Nat):VS b s i E a (w.drewN n):=h
theorem VS.set1{b:Nat}{s:ByteArray}{i:Nat}{E:Int}{a:Nat}{w:World}(h:VS b s i E a w)(j:Nat):VS b s j E a (w.setCell ⟨b,1,none⟩ (.int .i64 (j:Int))):=by
 unfold VS at h ⊢;simp[World.setCell,Array.getElem?_modify,h]
theorem VS.set2{b:Nat}{s:ByteArray}{i:Nat}{E:Int}{a:Nat}{w:World}(h:VS b s i E a w)(F:Int):VS b s i F a (w.setCell ⟨b,2,none⟩ (.int .i64 F)):=by
 unfold VS at h ⊢;simp[World.setCell,Array.getElem?_modify,h]
theorem VS.set3{b:Nat}{s:ByteArray}{i:Nat}{E:Int}{a:Nat}{w:World}(h:VS b s i E a w)(c:Nat):VS b s i E c (w.setCell ⟨b,3,none⟩ (.int .i64 (c:Int))):=by
 unfold VS at h ⊢;simp[World.setCell,Array.getElem?_modify,h]
theorem ui(b:Nat)(s:ByteArray)(i:Nat)(a:Nat)(F:Int)(c:Nat)(w:World)(h:VS b s i 0 a w) :
  Calls prog 166 #[.pointer (some ⟨b,0,none⟩),.int .i64 F,.int .i64 (c:Int)] w fun e w'=>e=.returned (.tuple #[])/\VS b s i F c w'/\w.grownBy w' (some b):=by
 have h2:=h.c2;have h3:=h.c3;have f2:=h.f2;have f3:=h.f3;have HR:Hd (VS b s i 0 a w):=h;clear h;go_enter func166,ntmps166;go_wp2
 go_end0
 exact⟨rfl,(HR.o.set2 F).set3 c,aV (aV (ak w _) _ _) _ _⟩
theorem aaM(b:Nat)(s:ByteArray)(i:Nat)(E:Int)(hE:E≠0)(a:Nat)(F:Int)(c:Nat)(w:World)(h:VS b s i E a w) :
  Calls prog 166 #[.pointer (some ⟨b,0,none⟩),.int .i64 F,.int .i64 (c:Int)] w fun e w'=>e=.returned (.tuple #[])/\VS b s i E a w'/\w.grownBy w' (some b):=by
 have h2:=h.c2;have HR:Hd (VS b s i E a w):=h;have hn:(E == 0)=false:=by simpa using hE
 clear h hE;go_enter func166,ntmps166;go_wp2
 go_end0
 exact⟨rfl,HR.o,ak w _⟩
theorem aaN(b:Nat)(s:ByteArray)(i:Nat)(E:Int)(a:Nat)(c:UInt8)(w:World)(hc:s.data.toList[i]?=some c)(h:VS b s i E a w)(hs:s.size<2 ^ 62) :
  Calls prog 164 #[.pointer (some ⟨b,0,none⟩),.int .u8 (c.toNat:Int)] w fun e w'=>e=.returned (.tuple #[])/\VS b s (i+1) E a w'/\w.grownBy w' (some b):=by
 have h0:=h.c0;have h1:=h.c1;have f1:=h.f1;have HR:Hd (VS b s i E a w):=h;clear h;have hlt:i<s.size:=by have:=(List.getElem?_eq_some_iff.1 hc).1;simpa using this
 rw[kR s i hlt]at hc;have hc':s[i]=c:=Option.some.inj hc;clear hc;subst hc';have hd:decide ((s.size:Int)<=(i:Int))=false:=by simp;omega
 have hw:IntKind.i64.wrap ((i:Int)+1)=((i+1:Nat):Int):=by rw[IntKind.wrap_i64];omega
 go_enter func164,ntmps164;go_wp2;go_quiet (fail);go_wp2
 go_end0
 exact⟨rfl,(HR.o.drew nq).set1 (i+1),aV (au (ak w _) _) _ _⟩
theorem aaO(b:Nat)(s:ByteArray)(i:Nat)(a:Nat)(c:UInt8)(w:World)(hi:i<=s.size)(hc:¬s.data.toList[i]?=some c)(h:VS b s i 0 a w)(hs:s.size<2 ^ 62) :
  Calls prog 164 #[.pointer (some ⟨b,0,none⟩),.int .u8 (c.toNat:Int)] w fun e w'=>e=.returned (.tuple #[])/\VS b s i 2 i w'/\w.grownBy w' (some b):=by
 have h0:=h.c0;have h1:=h.c1;have HR:Hd (VS b s i 0 a w):=h;clear h
 by_cases hlt:i<s.size
 ·rw[kR s i hlt]at hc;have hne:s[i]≠c:=fun e=>hc (by rw[e])
  have hn:((s[i].toNat:Int) == (c.toNat:Int))=false:=by
   simp only[beq_eq_false_iff_ne,ne_eq];intro e;exact hne (UInt8.toNat_inj.1 (by omega))
  have hd:decide ((s.size:Int)<=(i:Int))=false:=by simp;omega
  have hm:((s[i].toNat:Int) != (c.toNat:Int))=true:=by rw[bne,hn];rfl
  clear hc hne;go_enter func164,ntmps164;go_wp2;go_quiet (fail);have e1:(w.drewN nq).cell? ⟨b,1,none⟩=some (.int .i64 (i:Int)):=h1;go_wp2_with (go_at_call 166;refine(ui b s i a 2 i _ (HR.o.drew _)).mono ?_);rintro e w1 ⟨rfl,hr,hg⟩;go_wp2
  (try simp only[Exit.inBlock,Exit.then])
  refine bodyPost_ret (results_none rfl _ _ _) rfl ?_;exact⟨rfl,hr,ai (au (ak w _) _) hg⟩
 ·have hd:decide ((s.size:Int)<=(i:Int))=true:=by simp;omega
  clear hc;go_enter func164,ntmps164;go_wp2;go_quiet (fail);have e1:(w.drewN nq).cell? ⟨b,1,none⟩=some (.int .i64 (i:Int)):=h1;go_wp2_with (go_at_call 166;refine(ui b s i a 2 i _ (HR.o.drew _)).mono ?_);rintro e w1 ⟨rfl,hr,hg⟩;go_wp2
  (try simp only[Exit.inBlock,Exit.then])
  refine bodyPost_ret (results_none rfl _ _ _) rfl ?_;exact⟨rfl,hr,ai (au (ak w _) _) hg⟩
open Go.RowKit
def vT(n:Int)(c:UInt8):Int:=if n<=999999999 then 10*n+((c.toNat:Int)-48) else n
def jr(l:List UInt8):Int:=l.foldl vT 0
theorem SC(T:List UInt8)(m:Nat)(hm:m<T.length):jr (T.take (m+1))=vT (jr (T.take m)) T[m]:=by
 rw[List.take_succ_eq_append_getElem hm];unfold jr;rw[List.foldl_append];rfl
theorem aaP(T:List UInt8)(h:T.all aI=true):∀m,m<=T.length->(0<=jr (T.take m)/\jr (T.take m)<=9999999999)/\(bJ (T.take m)<=999999999->jr (T.take m)=bJ (T.take m))/\(999999999<bJ (T.take m)->999999999<jr (T.take m)):=by
 intro m
 induction m with
 | zero=>intro _;exact⟨⟨Int.le_refl 0,by show(0:Int)<=_;omega⟩,fun _=>rfl,fun h=>absurd h (by show ¬(999999999:Int)<0;omega)⟩
 | succ m ih =>
  intro hm;obtain⟨i1,i2,i3⟩:=ih (by omega);have hdg:=yC (List.all_eq_true.1 h T[m] (List.getElem_mem (by omega)));rw[SC T m (by omega),Qo T m (by omega)];have hv0:0<=bJ (T.take m):=Ei _ (List.all_eq_true.2 (fun c hc=>List.all_eq_true.1 h c (List.mem_of_mem_take hc)));unfold vT
  by_cases hb:bJ (T.take m)<=999999999
  ·have e:=i2 hb;rw[e,if_pos hb];refine⟨⟨by omega,by omega⟩,fun _=>rfl,fun h=>h⟩
  ·have e:=i3 (by omega);rw[if_neg (by omega)];exact⟨i1,fun h=>by omega,fun _=>e⟩
theorem VS.place{b:Nat}{s:ByteArray}{i:Nat}{E:Int}{a:Nat}{w:World}(h:VS b s i E a w):placeOf b w=i:=by unfold placeOf;rw[h.c1];simp
def KA(b:Nat)(s:ByteArray)(i:Nat)(w:World)(e:Ending)(w':World):Prop :=
 ∃(v:Int) (j:Nat) (E:Int) (c:Nat),e=.returned (.int .i64 v)/\VS b s j E c w'/\w.grownBy w' (some b)/\E=(rdNum s.data.toList i).1/\(E=0->v=(rdNum s.data.toList i).2.1/\j=(rdNum s.data.toList i).2.2/\j<=s.size)/\(E≠0->c=(rdNum s.data.toList i).2.2)
theorem aaQ(b:Nat)(s:ByteArray)(i:Nat)(a:Nat)(w:World)(hi:i<=s.size)(h:VS b s i 0 a w)(hs:s.size<2 ^ 62) :
  Calls prog 163 #[.pointer (some ⟨b,0,none⟩)] w (KA b s i w):=by
 have h1:=h.c1;have HR:Hd (VS b s i 0 a w):=h;have hsl:s.data.toList.length=s.size:=by simp
 have hle:i+runN aI s.data.toList i<=s.size:=by have:=rD aI s.data.toList i (by rw[hsl];exact hi);rw[hsl]at this;exact this
 have hln:=tC s.data.toList i (runN aI s.data.toList i) (by rw[hsl];exact hle);have hall:=Em aI s.data.toList i;obtain⟨k,hk⟩:=zN (runN aI s.data.toList i);have HS:Hd (∀hj:i+k<s.size,aI s[i+k]=false):=by
  show ∀hj:i+k<s.size,aI s[i+k]=false;intro hj;have:=Eh aI s.data.toList i (by rw[hk];simpa using hj);simp only[hk]at this;exact this
 rw[hk]at hle hln hall;obtain⟨T,hT⟩:=zN (ag s.data.toList i k);have KC:Hd (∀m (hm:m<k) (h2:i+m<s.size) (h3:m<T.length),s[i+m]=T[m]):=by
  show ∀m (hm:m<k) (h2:i+m<s.size) (h3:m<T.length),s[i+m]=T[m];intro m hm h2 h3;have e1:T[m]?=s.data.toList[i+m]?:=by rw[<-hT];unfold ag;rw[List.getElem?_take_of_lt hm,List.getElem?_drop]
  rw[kR s (i+m) h2,List.getElem?_eq_getElem h3]at e1;exact(Option.some.inj e1).symm
 rw[hT]at hln hall;have HP:Hd (∀(v:Int) (j:Nat) (E:Int) (c:Nat) (w':World),VS b s j E c w'->w.grownBy w' (some b) →
   (k=0/\E=2/\c=i\/¬k=0/\(1<k/\s.data.toList[i]?=some 48)/\E=2/\c=i\/¬k=0/\¬(1<k/\s.data.toList[i]?=some 48)/\bJ T > 999999999/\E=3/\c=i\/¬k=0/\¬(1<k/\s.data.toList[i]?=some 48)/\¬bJ T > 999999999/\E=0/\v=bJ T/\j=i+k)->KA b s i w (.returned (.int .i64 v)) w'):=by
  intro v j E c w' hv hg ho;refine⟨v,j,E,c,rfl,hv,hg,?_⟩;unfold rdNum;rw[hk,hT]
  rcases ho with⟨o1,rfl,rfl⟩|⟨o1,o2,rfl,rfl⟩|⟨o1,o2,o3,rfl,rfl⟩|⟨o1,o2,o3,rfl,rfl,rfl⟩
  ·rw[if_pos o1];exact⟨rfl,fun h=>absurd h (by decide),fun _=>rfl⟩
  ·rw[if_neg o1,if_pos o2];exact⟨rfl,fun h=>absurd h (by decide),fun _=>rfl⟩
  ·rw[if_neg o1,if_neg o2,if_pos o3];exact⟨rfl,fun h=>absurd h (by decide),fun _=>rfl⟩
  ·rw[if_neg o1,if_neg o2,if_neg o3];exact⟨rfl,fun _=>⟨rfl,rfl,hle⟩,fun h=>absurd rfl h⟩
 have HD:Hd (∀m j (hm:m<k) (hj:j=i+m) (h2:j<s.size),aI s[j]=true):=by
  show ∀m j (hm:m<k) (hj:j=i+m) (h2:j<s.size),aI s[j]=true;intro m j hm hj h2;subst hj;rw[KC.o m hm h2 (by omega)];exact List.all_eq_true.1 hall _ (List.getElem_mem _)
 have SE:Hd (∀m j (hm:m<k) (hj:j=i+m) (h2:j<s.size),jr (T.take (m+1))=vT (jr (T.take m)) s[j]):=by
  show ∀m j (hm:m<k) (hj:j=i+m) (h2:j<s.size),jr (T.take (m+1))=vT (jr (T.take m)) s[j];intro m j hm hj h2;subst hj;rw[KC.o m hm h2 (by omega)];exact SC T m (by omega)
 have HC:Hd (T.length=k/\∀m,m<=k->(0<=jr (T.take m)/\jr (T.take m)<=9999999999)/\(bJ (T.take m)<=999999999->jr (T.take m)=bJ (T.take m))/\(999999999<bJ (T.take m)->999999999<jr (T.take m))):=⟨hln,fun m hm=>aaP T hall m (by omega)⟩;have HL:Hd (i+k<=s.size):=hle;clear hk hT hln hall h hsl hle hi;go_enter func163,ntmps163;go_wp2;go_loopw [4] (fun vn wr=>∃m j:Nat,j=i+m/\m<=k/\vn=.int .i64 (jr (T.take m))/\VS b s j 0 a wr/\w.grownBy wr (some b)) (fun _ wr=>s.size-placeOf b wr)
 case atStart=>exact⟨0,i,rfl,Nat.zero_le _,rfl,HR.o,ak _ _⟩
 case round =>
  obtain⟨m,j,hj,hmk,rfl,hrs,hgb⟩:=hrel;have d0:=hrs.c0;have d1:=hrs.c1;have df:=hrs.f1;have dD:Hd (VS b s j 0 a wr):=hrs;have aG:Hd (w.grownBy wr (some b)):=hgb;have hil:=HL.o;have hcb:=(HC.o.2 m hmk).1;clear hrs hgb h1 HR
  by_cases hlt:m<k
  ·have hjs:j<s.size:=by omega
   have hD:aI s[j]=true:=HD.o m j hlt hj hjs;have hdg:=yC hD;have gX:Hd (jr (T.take (m+1))=vT (jr (T.take m)) s[j]):=SE.o m j hlt hj hjs;have HK:Hd (m<k/\j=i+m/\j<s.size):=⟨hlt,hj,hjs⟩;obtain⟨v,hv⟩:∃v,v=jr (T.take m):=⟨_,rfl⟩;rw[<-hv]at hcb gX;rw[<-hv];clear hv hlt hil hmk hj;have hlt2:(j:Int)<(s.size:Int):=by omega
   have hw:IntKind.i64.wrap ((j:Int)+1)=((j+1:Nat):Int):=by rw[IntKind.wrap_i64];omega
   by_cases hb:v<=999999999
   ·have r1:IntKind.i64.wrap (10*v)=10*v:=by rw[IntKind.wrap_i64];omega
    have r2:IntKind.i64.wrap (10*v+(s[j].toNat:Int))=10*v+(s[j].toNat:Int):=by rw[IntKind.wrap_i64];omega
    have r3:IntKind.i64.wrap (10*v+(s[j].toNat:Int)-48)=10*v+(s[j].toNat:Int)-48:=by rw[IntKind.wrap_i64];omega
    have HN:Hd (10*v+(s[j].toNat:Int)-48=jr (T.take (m+1))):=by show _=_;rw[gX.o];unfold vT;rw[if_pos hb];omega
    go_wp2;go_quiet (first|(go_at_call 122;exact Calls.quiet_of_same (og _ _)));go_wp2;have kU:Hd (placeOf b wr=j):=dD.o.place;obtain⟨W,hW⟩:=zN (wr.drewN nq);have e0:W.cell? ⟨b,0,none⟩=some (.string s):=by rw[<-hW];exact d0
    have e1:W.cell? ⟨b,1,none⟩=some (.int .i64 (j:Int)):=by rw[<-hW];exact d1
    have ef:W.frozen? ⟨b,1,none⟩=false:=by rw[<-hW];exact df
    have HW:Hd (VS b s j 0 a W/\w.grownBy W (some b)):=by
     show VS b s j 0 a W/\w.grownBy W (some b);rw[<-hW];exact⟨dD.o.drew _,au aG.o _⟩
    rw[hW];clear hW d0 d1 df dD aG;go_quiet (fail);go_wp2;go_roundw
    case rel=>exact⟨m+1,j+1,by have:=HK.o;omega,by have:=HK.o;omega,by rw[<-HN.o],(HW.o.1.drew _).set1 (j+1),aV (au HW.o.2 _) _ _⟩
    case measure =>
     have e2:=((HW.o.1.drew nq).set1 (j+1)).place;rw[kU.o];exact Nat.lt_of_le_of_lt (Nat.le_of_eq (congrArg (s.size - ·) e2)) (by omega)
   ·have HN:Hd (v=jr (T.take (m+1))):=by show _=_;rw[gX.o];unfold vT;rw[if_neg hb]
    go_wp2;go_quiet (first|(go_at_call 122;exact Calls.quiet_of_same (og _ _)));go_wp2;go_roundw
    case rel=>exact⟨m+1,j+1,by have:=HK.o;omega,by have:=HK.o;omega,by rw[<-HN.o],(dD.o.drew _).set1 (j+1),aV (au aG.o _) _ _⟩
    case measure =>
     have e1:=dD.o.place;have e2:=((dD.o.drew nq).set1 (j+1)).place;rw[e1];exact Nat.lt_of_le_of_lt (Nat.le_of_eq (congrArg (s.size - ·) e2)) (by omega)
  ·have afI:m=k:=by omega
   subst m;obtain⟨v,hv⟩:∃v,v=jr (T.take k):=⟨_,rfl⟩;have SG:T.take k=T:=List.take_of_length_le (by rw[HC.o.1];exact Nat.le_refl _);have KE:Hd ((bJ T<=999999999->v=bJ T)/\(999999999<bJ T->999999999<v)):=by
    have:=(HC.o.2 k hmk).2;rw[SG]at this hv;show(bJ T<=999999999->v=bJ T)/\(999999999<bJ T->999999999<v);rw[hv];exact this
   have hv0:k=0->v=0:=fun h=>by rw[hv,h];rfl
   rw[<-hv]at hcb;rw[<-hv];have FC:Hd (j=i+k/\i+k<=s.size):=⟨hj,hil⟩;clear hv SG HD SE HC KC hlt hmk hil;have hen:(∃hjs:j<s.size,aI s[j]=false)\/(¬j<s.size/\decide ((j:Int)<(s.size:Int))=false):=by
    by_cases hjs:j<s.size
    ·exact .inl ⟨hjs,by subst hj;exact HS.o hjs⟩
    ·exact .inr ⟨hjs,by simp;omega⟩
   clear HS HL hj
   rcases hen with⟨hjs,hD⟩|⟨hjn,hd2⟩
   all_goals (
    first
     | (have hlt2:(j:Int)<(s.size:Int):=by omega
        go_wp2;go_quiet (first|(go_at_call 122;exact Calls.quiet_of_same (og _ _))))
     | (go_wp2
        go_quiet (fail))
    obtain⟨W,hW⟩:=zN (wr.drewN nq);have e0:W.cell? ⟨b,0,none⟩=some (.string s):=by rw[<-hW];exact d0
    have e1:W.cell? ⟨b,1,none⟩=some (.int .i64 (j:Int)):=by rw[<-hW];exact d1
    have ef:W.frozen? ⟨b,1,none⟩=false:=by rw[<-hW];exact df
    have HW:Hd (VS b s j 0 a W/\w.grownBy W (some b)):=by
     show VS b s j 0 a W/\w.grownBy W (some b);rw[<-hW];exact⟨dD.o.drew _,au aG.o _⟩
    rw[hW];clear hW d0 d1 df dD aG;have hj:=FC.o.1;have hil:=FC.o.2;have q2:IntKind.i64.wrap ((j:Int)-(i:Int))=(k:Int):=by rw[IntKind.wrap_i64];omega
    by_cases hk0:k=0
    ·have q1:((j:Int) == (i:Int))=true:=by simp;omega
     have q5:decide ((999999999:Int)<v)=false:=by simp;have:=hv0 hk0;omega
     have HO:Hd (k=0):=hk0;clear hk0 hv0 hj hil q2;go_wp2_with (go_at_call 166;refine(ui b s j a 2 i _ HW.o.1).mono ?_);rintro e w1 ⟨rfl,hr,hg⟩;go_wp2;go_ret;exact HP.o _ j 2 i _ hr (ai HW.o.2 hg) (Or.inl ⟨HO.o,rfl,rfl⟩)
    ·have q1:((j:Int) == (i:Int))=false:=by simp;omega
     have his:i<s.size:=by omega
     have hgd:=kR s i his;have HJ:Hd (j=i+k):=hj;have hz:(decide ((1:Int)<(k:Int))=true/\((s[i].toNat:Int) == 48)=true/\1<k/\s.data.toList[i]?=some 48)\/((decide ((1:Int)<(k:Int))=true/\((s[i].toNat:Int) == 48)=false)/\¬(1<k/\s.data.toList[i]?=some 48))\/(decide ((1:Int)<(k:Int))=false/\¬(1<k/\s.data.toList[i]?=some 48)):=by
      by_cases h1k:1<k
      ·have q3:decide ((1:Int)<(k:Int))=true:=by simp;omega
       cases q4:((s[i].toNat:Int) == 48) with
       | true=>exact .inl ⟨q3,rfl,h1k,by rw[hgd];congr 1;exact UInt8.toNat_inj.1 (by simp at q4;show s[i].toNat=48;omega)⟩
       | false=>exact .inr (.inl ⟨⟨q3,rfl⟩,fun h=>by
         have:=h.2;rw[hgd]at this;have e:=Option.some.inj this;rw[e]at q4;simp at q4⟩)
      ·exact .inr (.inr ⟨by simp;omega,fun h=>h1k h.1⟩)
     rcases hz with⟨q3,q4,ho⟩|⟨⟨q3,q4⟩,ho⟩|⟨q3,ho⟩
     ·have HO:Hd (¬k=0/\(1<k/\s.data.toList[i]?=some 48)):=⟨hk0,ho⟩;clear hgd hk0 hv0 hj hil ho
      cases q5:decide ((999999999:Int)<v) with
      | true =>
       go_wp2_with (go_at_call 166;refine(ui b s j a 2 i _ HW.o.1).mono ?_);rintro e w1 ⟨rfl,hr,hg⟩;go_wp2_with (go_at_call 166;refine(aaM b s j 2 (by decide) i 3 i _ hr).mono ?_);rintro e w2 ⟨rfl,hr2,hg2⟩;go_wp2;go_ret;exact HP.o _ j 2 i _ hr2 (ai (ai HW.o.2 hg) hg2) (Or.inr (Or.inl ⟨HO.o.1,HO.o.2,rfl,rfl⟩))
      | false =>
       go_wp2_with (go_at_call 166;refine(ui b s j a 2 i _ HW.o.1).mono ?_);rintro e w1 ⟨rfl,hr,hg⟩;go_wp2;go_ret;exact HP.o _ j 2 i _ hr (ai HW.o.2 hg) (Or.inr (Or.inl ⟨HO.o.1,HO.o.2,rfl,rfl⟩))
     all_goals (
      have HO:Hd (¬k=0/\¬(1<k/\s.data.toList[i]?=some 48)):=⟨hk0,ho⟩;clear hgd hk0 hv0 ho hj hil
      cases q5:decide ((999999999:Int)<v) with
      | true =>
       have HB:Hd (bJ T > 999999999):=by
        show bJ T > 999999999;have h1:=of_decide_eq_true q5;refine Int.not_le.1 (fun h2=>?_);have:=KE.o.1 h2;omega
       go_wp2_with (go_at_call 166;refine(ui b s j a 3 i _ HW.o.1).mono ?_);rintro e w1 ⟨rfl,hr,hg⟩;go_wp2;go_ret;exact HP.o _ j 3 i _ hr (ai HW.o.2 hg) (Or.inr (Or.inr (Or.inl ⟨HO.o.1,HO.o.2,HB.o,rfl,rfl⟩)))
      | false =>
       have HB:Hd (¬bJ T > 999999999):=by
        show ¬bJ T > 999999999;have h1:=of_decide_eq_false q5;exact fun h2=>h1 (KE.o.2 h2)
       have HE:Hd (v=bJ T):=KE.o.1 (Int.not_lt.1 HB.o);go_wp2;go_ret;exact HP.o _ j 0 a _ HW.o.1 HW.o.2 (Or.inr (Or.inr (Or.inr ⟨HO.o.1,HO.o.2,HB.o,rfl,HE.o,HJ.o⟩)))))
open Go.RowKit
def aaR:Value->Nat
 | .bool true=>1
 | _=>0
def KF(st:Bool)(b:Nat)(s:ByteArray)(i:Nat)(w:World)(e:Ending)(w':World):Prop :=
 ∃(v:ByteArray) (j:Nat) (E:Int) (c:Nat),e=.returned (.string v)/\VS b s j E c w'/\w.grownBy w' (some b)/\E=(aH st s.data.toList i).1/\(E=0->v=⟨(ag s.data.toList i (j-i)).toArray⟩/\j=(aH st s.data.toList i).2/\j<=s.size)/\(E≠0->c=(aH st s.data.toList i).2)
theorem aaS(st:Bool)(b:Nat)(s:ByteArray)(i:Nat)(a:Nat)(w:World)(hi:i<=s.size)(h:VS b s i 0 a w)(hs:s.size<2 ^ 62) :
  Calls prog 204 #[.pointer (some ⟨b,0,none⟩),.bool st] w (KF st b s i w):=by
 have h1:=h.c1;have HR:Hd (VS b s i 0 a w):=h;have HI:Hd (i<=s.size):=hi;obtain⟨R,hR⟩:=zN (aH st s.data.toList i);have HRR:Hd (aH st s.data.toList i=R):=hR;have HP:Hd (∀(v:ByteArray) (j:Nat) (E:Int) (c:Nat) (w':World),VS b s j E c w'->w.grownBy w' (some b)->v=⟨(ag s.data.toList i (j-i)).toArray⟩->j<=s.size->(E=0->R=(0,j))->(E≠0->R=(E,c))->KF st b s i w (.returned (.string v)) w'):=by
  intro v j E c w' hv hg he hj h0 h1;refine⟨v,j,E,c,rfl,hv,hg,?_⟩;rw[hR]
  by_cases hE:E=0
  ·have:=h0 hE;subst hE;rw[this];exact⟨rfl,fun _=>⟨he,rfl,hj⟩,fun h=>absurd rfl h⟩
  ·have:=h1 hE;rw[this];exact⟨rfl,fun h=>absurd h hE,fun _=>rfl⟩
 clear hR h hi;go_enter func204,ntmps204;go_wp2;go_loopw [6] (fun vm wr=>∃(mo:Bool) (j c:Nat) (E:Int),vm=.bool mo/\i<=j/\j<=s.size/\VS b s j E c wr/\w.grownBy wr (some b)/\(E=0->(mo=true->aH st s.data.toList j=R)/\(mo=false->R=(0,j)))/\(E≠0->R=(E,c))) (fun vm wr=>2*(s.size-placeOf b wr)+aaR vm)
 case atStart=>exact⟨true,i,a,0,rfl,Nat.le_refl _,HI.o,HR.o,ak _ _,fun _=>⟨fun _=>HRR.o,fun h=>absurd h (by decide)⟩,fun h=>absurd rfl h⟩
 case round =>
  obtain⟨mo,j,c,E,rfl,hij,hjs,hrs,hgb,hp0,hp1⟩:=hrel;have d0:=hrs.c0;have d1:=hrs.c1;have d2:=hrs.c2;have df:=hrs.f1;have dD:Hd (VS b s j E c wr):=hrs;have aG:Hd (w.grownBy wr (some b)):=hgb;have KG:Hd (E=0->(mo=true->aH st s.data.toList j=R)/\(mo=false->R=(0,j))):=hp0;have lQ:Hd (E≠0->R=(E,c)):=hp1;have HJ:Hd (i<=j/\j<=s.size):=⟨hij,hjs⟩;clear hrs hgb h1 HR hp0 hp1 hij hjs;have sl:∀wx,(Instr.slice 9 (.string s) (some (.int .i64 (i:Int))) (some (.int .i64 (j:Int))) none).run prog wx=.ok (.string ⟨(ag s.data.toList i (j-i)).toArray⟩) wx:=fun wx=>kS s i j HJ.o.1 HJ.o.2 wx
  cases mo with
  | false =>
   go_wp2;go_quiet (fail);go_wp2;go_ret;exact HP.o _ j E c _ (dD.o.drew _) (au aG.o _) rfl HJ.o.2 (fun h=>(KG.o h).2 (by first|rfl|trivial)) lQ.o
  | true =>
   cases hz:(E == 0) with
   | false =>
    go_wp2;go_quiet (fail);go_wp2;go_ret;exact HP.o _ j E c _ (dD.o.drew _) (au aG.o _) rfl HJ.o.2 (fun h=>absurd h (by simpa using hz)) lQ.o
   | true =>
    have hE:E=0:=by simpa using hz
    subst hE;have dG:Hd (aH st s.data.toList j=R):=(KG.o rfl).1 rfl;have kU:Hd (placeOf b wr=j):=dD.o.place;obtain⟨k,hk⟩:=zN (runN aY s.data.toList j);have hsl:s.data.toList.length=s.size:=by simp
    have HN:Hd (j+k<=s.size):=by
     show j+k<=s.size;have:=rD aY s.data.toList j (by rw[hsl];exact HJ.o.2);rw[hsl]at this;omega
    have HA:Hd (∀q,j<=q->(hq:q<s.size)->q<j+k->aY s[q]=true):=by
     show ∀q,j<=q->(hq:q<s.size)->q<j+k->aY s[q]=true;intro q h1 hq h2;obtain⟨g1,g2⟩:=II aY s.data.toList j (q-j) (by omega);have e:j+(q-j)=q:=by omega
     simp only[e]at g2;exact g2
    have HS:Hd (∀q,q=j+k->(hq:q<s.size)->aY s[q]=false):=by
     show ∀q,q=j+k->(hq:q<s.size)->aY s[q]=false;intro q e hq;have:=Eh aY s.data.toList j (by rw[hk];simpa [<-e] using hq);simp only[hk,<-e]at this;exact this
    obtain⟨T,hT⟩:=zN (ag s.data.toList j k);have SH:Hd (T.length=k):=by show T.length=k;rw[<-hT];exact tC s.data.toList j k (by rw[hsl];exact HN.o)
    obtain⟨X,hX⟩:∃X:ByteArray,X=⟨T.toArray⟩:=⟨_,rfl⟩;have KH:Hd (X.data.toList=T):=by show X.data.toList=T;rw[hX]
    have iW:Hd (∀q,q=j+k->∀wx,(Instr.slice 9 (.string s) (some (.int .i64 (j:Int))) (some (.int .i64 (q:Int))) none).run prog wx=.ok (.string X) wx):=by
     show ∀q,q=j+k->∀wx,(Instr.slice 9 (.string s) (some (.int .i64 (j:Int))) (some (.int .i64 (q:Int))) none).run prog wx=.ok (.string X) wx;intro q e wx;subst e;have:=kS s j (j+k) (by omega) HN.o wx;rw[show j+k-j=k by omega,hT,<-hX]at this;exact this
    have HST:Hd ((if k=0 then(2,j) else if jw st T=true then(2,j) else if s.data.toList[j+k]?=some 46 then aH st s.data.toList (j+k+1) else(0,j+k))=R):=by
     have:=dG.o;rw[Ej,hk,hT]at this;exact this
    clear hz sl hk hT hX dG KG lQ hsl;go_wp2;go_loopw [] (fun wq=>∃q:Nat,j<=q/\q<=j+k/\VS b s q 0 c wq/\w.grownBy wq (some b)) (fun wq=>s.size-placeOf b wq)
    case atStart=>exact⟨j,Nat.le_refl _,Nat.le_add_right _ _,dD.o,aG.o⟩
    clear dD aG d0 d1 d2 df;rename_i wr0 _ _ _;obtain⟨q,hjq,BC,hrs,hgb⟩:=hrel;have d0:=hrs.c0;have d1:=hrs.c1;have df:=hrs.f1;have dD:Hd (VS b s q 0 c wr):=hrs;have aG:Hd (w.grownBy wr (some b)):=hgb;have hns:=HN.o;clear hrs hgb
    by_cases hlt:q<j+k
    ·have nM:q<s.size:=by omega
     have hD:aY s[q]=true:=HA.o q hjq nM hlt;have HK:Hd (j<=q/\q<j+k/\q<s.size):=⟨hjq,hlt,nM⟩;have hlt2:(q:Int)<(s.size:Int):=by omega
     have hw:IntKind.i64.wrap ((q:Int)+1)=((q+1:Nat):Int):=by rw[IntKind.wrap_i64];omega
     clear hlt BC hns hjq;go_wp2;go_quiet (first|(go_at_call 220;exact Calls.quiet_of_same (PO _ _)));go_wp2;go_roundw
     case rel =>
      have:=HK.o;exact⟨q+1,by omega,by omega,(dD.o.drew _).set1 (q+1),aV (au aG.o _) _ _⟩
     case measure =>
      have e1:=dD.o.place;have e2:=((dD.o.drew nq).set1 (q+1)).place;rw[e1];exact Nat.lt_of_le_of_lt (Nat.le_of_eq (congrArg (s.size - ·) e2)) (by have:=HK.o;omega)
    ·have HQ:Hd (q=j+k):=by show q=j+k;omega
     have sl2:=iW.o q HQ.o;clear hlt BC hns hjq;have hen:(∃nM:q<s.size,aY s[q]=false/\((s[q].toNat:Int) == 46)=true/\s.data.toList[q]?=some 46/\q<s.size)\/(∃nM:q<s.size,aY s[q]=false/\((s[q].toNat:Int) == 46)=false/\¬s.data.toList[q]?=some 46)\/(¬q<s.size/\decide ((q:Int)<(s.size:Int))=false/\¬s.data.toList[q]?=some 46):=by
      by_cases nM:q<s.size
      ·have hD:=HS.o q HQ.o nM
       cases q46:((s[q].toNat:Int) == 46) with
       | true=>exact .inl ⟨nM,hD,q46,by rw[kR s q nM];congr 1;exact UInt8.toNat_inj.1 (by simp at q46;show s[q].toNat=46;omega),nM⟩
       | false=>exact .inr (.inl ⟨nM,hD,q46,by
         rw[kR s q nM];intro e;have:=Option.some.inj e;rw[this]at q46;exact absurd q46 (by decide)⟩)
      ·exact .inr (.inr ⟨nM,by simp;omega,by rw[List.getElem?_eq_none (by simp;omega)];simp⟩)
     rcases hen with⟨nM,hD,q46,hdt⟩|⟨nM,hD,q46,hdf⟩|⟨BC,hd2,hdf⟩
     all_goals (
      first
       | (have BD:Hd (s.data.toList[q]?=some 46/\q<s.size):=hdt
          clear hdt)
       | (have HDf:Hd (¬s.data.toList[q]?=some 46):=hdf
          clear hdf)
      first
       | (have hlt2:(q:Int)<(s.size:Int):=by omega
          go_wp2;go_quiet (first|(go_at_call 220;exact Calls.quiet_of_same (PO _ _))))
       | (go_wp2
          go_quiet (fail))
      obtain⟨W,hW⟩:=zN (wr.drewN nq);have e0:W.cell? ⟨b,0,none⟩=some (.string s):=by rw[<-hW];exact d0
      have e1:W.cell? ⟨b,1,none⟩=some (.int .i64 (q:Int)):=by rw[<-hW];exact d1
      have ef:W.frozen? ⟨b,1,none⟩=false:=by rw[<-hW];exact df
      have HW:Hd (VS b s q 0 c W/\w.grownBy W (some b)):=by
       show VS b s q 0 c W/\w.grownBy W (some b);rw[<-hW];exact⟨dD.o.drew _,au aG.o _⟩
      rw[hW];clear hW d0 d1 df dD aG;go_wp2;go_quiet (fail);obtain⟨U,hU⟩:=zN (W.drewN nq);have g0:U.cell? ⟨b,0,none⟩=some (.string s):=by rw[<-hU];exact e0
      have g1:U.cell? ⟨b,1,none⟩=some (.int .i64 (q:Int)):=by rw[<-hU];exact e1
      have gf:U.frozen? ⟨b,1,none⟩=false:=by rw[<-hU];exact ef
      have HU:Hd (VS b s q 0 c U/\w.grownBy U (some b)):=by
       show VS b s q 0 c U/\w.grownBy U (some b);rw[<-hU];exact⟨HW.o.1.drew _,au HW.o.2 _⟩
      rw[hU];clear hU e0 e1 ef HW sl2;have jd:X.size=k:=by
       have h1:=SH.o;rw[<-KH.o]at h1;simpa using h1
      obtain⟨ad,had⟩:=zN (X.data.toList.all aI);have CD:Hd (∀w,Calls prog 221 #[.string X] w fun e w'=>e=.returned (.bool ad)/\w'=w):=fun w=>by rw[<-had];exact Ya X w (by have:=HN.o;omega)
      have oZ:Hd (jw st T=(st && (ad && (decide (1<k) && decide (T[0]?=some 48))))):=by
       show _=_;rw[<-had,KH.o];unfold jw;rw[SH.o]
      clear had;have KI:Hd (i<=j/\j<=q/\q<=s.size):=by
       have a1:=HJ.o;have a2:=HQ.o;have a3:=HN.o;exact⟨a1.1,by omega,by omega⟩
      have hw:IntKind.i64.wrap ((q:Int)+1)=((q+1:Nat):Int):=by rw[IntKind.wrap_i64];have:=KI.o;omega
      obtain⟨QD,SK⟩:∃Q:Prop,(aH st s.data.toList (q+1)=R)=Q:=⟨_,rfl⟩;have SN:Hd ((aH st s.data.toList (q+1)=R)=QD):=SK;have HZ:Hd (¬k=0->(if jw st T=true then(2,j) else if s.data.toList[j+k]?=some 46 then aH st s.data.toList (j+k+1) else(0,j+k))=R):=fun hk0=>by
       have:=HST.o;rw[if_neg hk0]at this;exact this
      have HG:Hd (¬k=0->jw st T=false->(s.data.toList[q]?=some 46->QD)/\(¬s.data.toList[q]?=some 46->R=(0,q))):=fun hk0 h=>by
       have:=HZ.o hk0;rw[if_neg (by rw[h];decide),<-HQ.o]at this;exact⟨fun h2=>SN.o.mp (by rw[if_pos h2]at this;exact this),fun h2=>by rw[if_neg h2]at this;exact this.symm⟩
      have hbw:(k=0/\(st=false\/(st=true/\ad=false)\/(st=true/\ad=true)))\/(¬k=0/\∃F8:0<X.size,(jw st T=false/\(st=false\/(st=true/\ad=false)\/(st=true/\ad=true/\decide ((1:Int)<(X.size:Int))=false)\/(st=true/\ad=true/\decide ((1:Int)<(X.size:Int))=true/\((X[0].toNat:Int) == 48)=false)))\/(jw st T=true/\st=true/\ad=true/\decide ((1:Int)<(X.size:Int))=true/\((X[0].toNat:Int) == 48)=true)):=by
       by_cases hk0:k=0
       ·exact .inl ⟨hk0,by cases st;exact .inl rfl;cases ad;exact .inr (.inl ⟨rfl,rfl⟩);exact .inr (.inr ⟨rfl,rfl⟩)⟩
       ·have F8:0<X.size:=by omega
        have hT0:T[0]?=some X[0]:=by rw[<-KH.o,kR X 0 F8]
        have hbz:=oZ.o;rw[hT0,<-jd]at hbz;refine .inr ⟨hk0,F8,?_⟩
        cases st with
        | false=>exact .inl ⟨hbz,.inl rfl⟩
        | true =>
         cases ad with
         | false=>exact .inl ⟨hbz,.inr (.inl ⟨rfl,rfl⟩)⟩
         | true =>
          cases m2:decide ((1:Int)<(X.size:Int)) with
          | false=>exact .inl ⟨by rw[hbz,show decide (1<X.size)=false from by have:=of_decide_eq_false m2;simp;omega];rfl,.inr (.inr (.inl ⟨rfl,rfl,rfl⟩))⟩
          | true =>
           have h1:=of_decide_eq_true m2
           cases m3:((X[0].toNat:Int) == 48) with
           | false =>
            refine .inl ⟨?_,.inr (.inr (.inr ⟨rfl,rfl,rfl,rfl⟩))⟩;rw[hbz,show decide (some X[0]=some (48:UInt8))=false from by
             simp only[decide_eq_false_iff_not];intro e;have:=Option.some.inj e;rw[this]at m3;exact absurd m3 (by decide)]
            simp
           | true =>
            refine .inr ⟨?_,rfl,rfl,rfl,rfl⟩;rw[hbz,show decide (1<X.size)=true from by simp;omega,show X[0]=48 from UInt8.toNat_inj.1 (by simp at m3;show X[0].toNat=48;omega)];decide
      clear SK
      rcases hbw with⟨hk0,rfl|⟨rfl,rfl⟩|⟨rfl,rfl⟩⟩|⟨hk0,F8,⟨hb0,rfl|⟨rfl,rfl⟩|⟨rfl,rfl,m2⟩|⟨rfl,rfl,m2,m3⟩⟩|⟨hb1,rfl,rfl,m2,m3⟩⟩
      all_goals (
       first
        | (have m1:=EJ (jd.trans hk0)
           have m2:decide ((1:Int)<(X.size:Int))=false:=by simp;omega
           have vU:Hd (R=(2,q)):=by
            show R=(2,q);rw[HQ.o,<-HST.o,if_pos hk0,hk0];rfl
           clear hk0 jd oZ HST HZ HG;go_wp2_with (first|(go_at_call 221;refine(CD.o _).mono ?_;rintro e w' ⟨rfl,rfl⟩)|(go_at_call 166;refine(ui b s q c 2 q _ HU.o.1).mono ?_))
           all_goals (
            rintro e w1 ⟨rfl,hr,hg⟩;have hg2:=ai HU.o.2 hg;obtain⟨EE,cc,hr2,hv,hv2⟩:∃(EE:Int) (cc:Nat),VS b s q EE cc w1/\(EE=0->(s.data.toList[q]?=some 46->QD)/\(¬s.data.toList[q]?=some 46->R=(0,q)))/\(EE≠0->R=(EE,cc)):=⟨2,q,hr,fun h=>absurd h (by decide),fun _=>vU.o⟩;clear hr hg g0 g1 gf HU vU))
        | (have m1:=EK (fun h=>hk0 (jd.symm.trans h))
           first
            | (have vU:Hd (R=(2,j)):=by
                show R=(2,j);rw[<-HZ.o hk0,if_pos hb1]
               clear hb1 hk0 jd oZ HST HZ HG;go_wp2_with (first|(go_at_call 221;refine(CD.o _).mono ?_;rintro e w' ⟨rfl,rfl⟩)|(go_at_call 166;refine(ui b s q c 2 j _ HU.o.1).mono ?_))
               all_goals (
                rintro e w1 ⟨rfl,hr,hg⟩;have hg2:=ai HU.o.2 hg;obtain⟨EE,cc,hr2,hv,hv2⟩:∃(EE:Int) (cc:Nat),VS b s q EE cc w1/\(EE=0->(s.data.toList[q]?=some 46->QD)/\(¬s.data.toList[q]?=some 46->R=(0,q)))/\(EE≠0->R=(EE,cc)):=⟨2,j,hr,fun h=>absurd h (by decide),fun _=>vU.o⟩;clear hr hg g0 g1 gf HU vU))
            | (have vU:Hd ((s.data.toList[q]?=some 46->QD)/\(¬s.data.toList[q]?=some 46->R=(0,q))):=HG.o hk0 hb0
               clear hb0 hk0 jd oZ HST HZ HG;go_wp2_with (go_at_call 221;refine(CD.o _).mono ?_;rintro e w' ⟨rfl,hx⟩;obtain rfl:=hx.symm)
               all_goals (
                obtain⟨EE,cc,hr2,hv,hv2⟩:∃(EE:Int) (cc:Nat),VS b s q EE cc U/\(EE=0->(s.data.toList[q]?=some 46->QD)/\(¬s.data.toList[q]?=some 46->R=(0,q)))/\(EE≠0->R=(EE,cc)):=⟨0,c,HU.o.1,fun _=>vU.o,fun h=>absurd rfl h⟩;have hg2:=HU.o.2;obtain⟨w1,hw1⟩:∃W,U=W:=⟨_,rfl⟩;rw[hw1]at hr2 hg2 ⊢;clear hw1 g0 g1 gf HU vU)))
       all_goals (
        have y0:=hr2.c0;have y1:=hr2.c1;have yf:=hr2.f1;have HY:Hd (VS b s q EE cc w1/\w.grownBy w1 (some b)):=⟨hr2,hg2⟩;have HV:Hd (EE=0->(s.data.toList[q]?=some 46->QD)/\(¬s.data.toList[q]?=some 46->R=(0,q))):=hv;have qN:Hd (EE≠0->R=(EE,cc)):=hv2;clear hr2 hg2 hv hv2
        try go_wp2
        all_goals (
         go_quiet (fail);go_wp2;go_roundw
         case rel =>
          have:=KI.o
          first
           | exact⟨true,q+1,cc,EE,rfl,by omega,by have:=BD.o.2;omega,(HY.o.1.drew _).set1 (q+1),aV (au HY.o.2 _) _ _,fun h=>⟨fun _=>SN.o.mpr ((HV.o h).1 BD.o.1),fun h=>absurd h (by decide)⟩,qN.o⟩
           | exact⟨false,q,cc,EE,rfl,by omega,by omega,HY.o.1.drew _,au HY.o.2 _,fun h=>⟨fun h=>absurd h (by decide),fun _=>(HV.o h).2 HDf.o⟩,qN.o⟩
         case measure =>
          rw[kU.o];have:=KI.o
          first
           | (have:=BD.o.2
              refine Nat.lt_of_le_of_lt (Nat.le_of_eq (congrArg (fun x=>2*(s.size-x)+1) ((HY.o.1.drew nq).set1 (q+1)).place)) ?_;show 2*(s.size-(q+1))+1<2*(s.size-j)+1;omega)
           | (refine Nat.lt_of_le_of_lt (Nat.le_of_eq (congrArg (fun x=>2*(s.size-x)+0) (HY.o.1.drew nq).place)) ?_
              show 2*(s.size-q)+0<2*(s.size-j)+1;omega)))))
open Go.RowKit
def VR(v:Nat)(y1 y2 y3:Int)(x4 x5:ByteArray)(w:World):Prop:=w.heap[v]?=some (.cells #[.int .i64 y1,.int .i64 y2,.int .i64 y3,.string x4,.string x5] 182 (0,0))
theorem VR.cells{v:Nat}{y1 y2 y3:Int}{x4 x5:ByteArray}{w:World}(h:VR v y1 y2 y3 x4 x5 w):w.cell? ⟨v,0,none⟩=some (.int .i64 y1)/\w.cell? ⟨v,1,none⟩=some (.int .i64 y2)/\w.cell? ⟨v,2,none⟩=some (.int .i64 y3)/\w.cell? ⟨v,3,none⟩=some (.string x4)/\w.cell? ⟨v,4,none⟩=some (.string x5) :=
 ⟨by rw[af h];rfl,by rw[af h];rfl,by rw[af h];rfl,by rw[af h];rfl,by rw[af h];rfl⟩
theorem VR.f{v:Nat}{y1 y2 y3:Int}{x4 x5:ByteArray}{w:World}(h:VR v y1 y2 y3 x4 x5 w)(o:Nat):w.frozen? ⟨v,o,none⟩=false:=Lib.frozen_of_heap h o
theorem VR.grow{b v:Nat}{y1 y2 y3:Int}{x4 x5:ByteArray}{w w':World}(h:VR v y1 y2 y3 x4 x5 w)(hg:w.grownBy w' (some b))(hn:v≠b):VR v y1 y2 y3 x4 x5 w':=by
 unfold VR at h ⊢;rw[hg.block v ((kG h)) (by simpa using hn)];exact h
theorem VR.set3{v:Nat}{y1 y2 y3:Int}{x4 x5:ByteArray}{w:World}(h:VR v y1 y2 y3 x4 x5 w)(z:ByteArray):VR v y1 y2 y3 z x5 (w.setCell ⟨v,3,none⟩ (.string z)):=by
 unfold VR at h ⊢;simp[World.setCell,Array.getElem?_modify,h]
theorem VR.set4{v:Nat}{y1 y2 y3:Int}{x4 x5:ByteArray}{w:World}(h:VR v y1 y2 y3 x4 x5 w)(z:ByteArray):VR v y1 y2 y3 x4 z (w.setCell ⟨v,4,none⟩ (.string z)):=by
 unfold VR at h ⊢;simp[World.setCell,Array.getElem?_modify,h]
theorem VR.other{v u:Nat}{y1 y2 y3:Int}{x4 x5:ByteArray}{w:World}(h:VR v y1 y2 y3 x4 x5 w)(hn:v≠u)(o:Nat)(x:Value):VR v y1 y2 y3 x4 x5 (w.setCell ⟨u,o,none⟩ x):=by
 unfold VR at h ⊢;rw[<-h];exact heap_setCell_other w _ v x hn
theorem vV{w:World}{A:Nat}{z1 z2 z3:Int}{z4 z5:ByteArray}(h:VR A z1 z2 z3 z4 z5 w)(y1 y2 y3:Int)(x4 x5:ByteArray):VR A y1 y2 y3 x4 x5 (tV w A y1 y2 y3 x4 x5):=by
 unfold VR at h ⊢;unfold tV;simp[World.setCell,Array.getElem?_modify,h]
theorem VS.other{b v:Nat}{s:ByteArray}{i:Nat}{E:Int}{a:Nat}{w:World}(h:VS b s i E a w)(hn:b≠v)(o:Nat)(x:Value):VS b s i E a (w.setCell ⟨v,o,none⟩ x):=by
 unfold VS at h ⊢;rw[<-h];exact heap_setCell_other w _ b x hn
theorem G2.set1{b v:Nat}{w w1:World}(h:G2 b v w w1)(o:Nat)(x:Value):G2 b v w (w1.setCell ⟨b,o,none⟩ x) :=
 ⟨h.os,h.tape,h.output,by simpa [World.setCell] using h.size,fun k hk h1 h2=>by rw[<-h.block k hk h1 h2];exact heap_setCell_other w1 _ k x (fun e=>h1 e)⟩
def KJ(b v:Nat)(s:ByteArray)(i:Nat)(y1 y2 y3:Int)(w w':World):Prop :=
 ∃(j:Nat) (E:Int) (c:Nat) (P B:ByteArray),VS b s j E c w'/\VR v y1 y2 y3 P B w'/\G2 b v w w'/\E=(bf s.data.toList i).1/\(E=0->P=⟨(bf s.data.toList i).2.2.1.toArray⟩/\B=⟨(bf s.data.toList i).2.2.2.toArray⟩/\j=(bf s.data.toList i).2.1/\j<=s.size)/\(E≠0->c=(bf s.data.toList i).2.1)
theorem BF(b v:Nat)(s:ByteArray)(i:Nat)(E:Int)(hE:E≠0)(a:Nat)(w:World)(h:VS b s i E a w) :
  Calls prog 165 #[.pointer (some ⟨b,0,none⟩),.pointer (some ⟨v,0,none⟩)] w fun e w'=>e=.returned (.tuple #[])/\∃n,w'=w.drewN n:=by
 have h0:=h.c0;have h1:=h.c1;have h2:=h.c2;have HR:Hd (VS b s i E a w):=h;have hn:(E == 0)=false:=by simpa using hE
 clear h hE;go_enter func165,ntmps165;go_wp2;go_quiet (fail);go_wp2;obtain⟨W,hW⟩:=zN (w.drewN nq);have HW:Hd (W=w.drewN nq):=hW.symm;have e0:W.cell? ⟨b,0,none⟩=some (.string s):=by rw[<-hW];exact h0
 have e1:W.cell? ⟨b,1,none⟩=some (.int .i64 (i:Int)):=by rw[<-hW];exact h1
 have e2:W.cell? ⟨b,2,none⟩=some (.int .i64 E):=by rw[<-hW];exact h2
 rw[hW];clear hW h0 h1 h2;go_quiet (fail);go_wp2
 go_end0
 exact⟨rfl,_,by rw[HW.o,World.drewN_drewN]⟩
theorem SS(s:ByteArray)(j:Nat)(c:UInt8)(z:Int)(hz:(c.toNat:Int)=z):(∃h:j<s.size,((s[j].toNat:Int) == z)=true/\s.data.toList[j]?=some c)\/(∃h:j<s.size,((s[j].toNat:Int) == z)=false/\¬s.data.toList[j]?=some c)\/(¬j<s.size/\decide ((j:Int)<(s.size:Int))=false/\¬s.data.toList[j]?=some c):=by
 by_cases h:j<s.size
 ·rw[kR s j h]
  cases hc:((s[j].toNat:Int) == z) with
  | true=>exact .inl ⟨h,hc,by rw[show s[j]=c from UInt8.toNat_inj.1 (by have:=eq_of_beq hc;omega)]⟩
  | false =>
   refine .inr (.inl ⟨h,hc,fun e=>?_⟩);rw[Option.some.inj e,hz]at hc;simp at hc
 ·exact .inr (.inr ⟨h,by simp;omega,by rw[List.getElem?_eq_none (by simp;omega)];simp⟩)
theorem aaT(b v:Nat)(s:ByteArray)(i:Nat)(a:Nat)(y1 y2 y3:Int)(w:World)(hi:i<=s.size)(h:VS b s i 0 a w)(hv:VR v y1 y2 y3 ⟨#[]⟩ ⟨#[]⟩ w)(hbv:b≠v)(hs:s.size<2 ^ 62) :
  Calls prog 165 #[.pointer (some ⟨b,0,none⟩),.pointer (some ⟨v,0,none⟩)] w fun e w'=>e=.returned (.tuple #[])/\KJ b v s i y1 y2 y3 w w':=by
 have jZ:Hd (s.data.toList.length=s.size):=by show s.data.toList.length=s.size;simp
 have PP:Hd (∀st i a w,i<=s.size->VS b s i 0 a w->Calls prog 204 #[.pointer (some ⟨b,0,none⟩),.bool st] w (KF st b s i w)):=fun st i a w hi h=>aaS st b s i a w hi h hs
 have HI:Hd (VS b s i 0 a w):=h;have HVI:Hd (VR v y1 y2 y3 ⟨#[]⟩ ⟨#[]⟩ w):=hv;have dw:Hd (b≠v):=hbv;have jo:Hd (i<=s.size):=hi;have HS:Hd (s.size<2 ^ 62):=hs;have GET:Hd (∀i,(h:i<s.size)->s.data.toList[i]?=some s[i]):=fun i h=>kR s i h
 have g0:=h.c0;have g1:=h.c1;have g2:=h.c2;clear h hv hbv hi hs;go_enter func165,ntmps165
 rcases SS s i 45 45 rfl with⟨hlt1,hc1,ho1⟩|⟨hlt1,hc1,hn1⟩|⟨hlt1,hc1,hn1⟩
 all_goals (
  first
   | (have hl2:((i:Nat):Int)<(s.size:Int):=by omega)
   | skip
  go_wp2;go_quiet (fail);obtain⟨U1,hU⟩:∃U,(w).drewN nq=U:=⟨_,rfl⟩;have lg:Hd (VS b s (i) 0 a U1):=by show VS _ _ _ _ _ U1;rw[<-hU];exact HI.o.drew _
  have SV:Hd (VR v y1 y2 y3 ⟨#[]⟩ ⟨#[]⟩ U1):=by show VR _ _ _ _ _ _ U1;rw[<-hU];exact HVI.o
  have SX:Hd (G2 b v w U1):=by show G2 b v w U1;rw[<-hU];exact(G2.refl b v w).drew _
  try rw[hU]
  clear hU g0 g1 g2
  first
   | (have KL:Hd (bP 45 true s.data.toList (i)=((aH true s.data.toList (i+1)).1,(aH true s.data.toList (i+1)).2,ik true s.data.toList (i+1))):=yU (st:=true) ho1
      have SY:Hd (i<s.size):=hlt1;clear hc1 ho1;have k0:=lg.o.c0;have k1:=lg.o.c1;have k2:=lg.o.c2;have kf:=lg.o.f1;have hw:IntKind.i64.wrap ((i:Int)+1)=((i+1:Nat):Int):=by rw[IntKind.wrap_i64];have:=HS.o;have:=SY.o;omega
      go_wp2_with (go_at_call 204;refine(PP.o true (i+1) _ _ SY.o (lg.o.set1 (i+1))).mono ?_);rintro e u1 ⟨V1,j1,E1,c1,rfl,hvs,hg,hE,hok,herr⟩;have je:Hd (VS b s j1 E1 c1 u1):=hvs;have F9:Hd (VR v y1 y2 y3 ⟨#[]⟩ ⟨#[]⟩ u1):=(SV.o.other (Ne.symm dw.o) _ _).grow hg (Ne.symm dw.o);have S9:Hd (G2 b v w u1):=(SX.o.set1 _ _).step hg;have lm:Hd (E1=(aH true s.data.toList (i+1)).1/\(E1=0->V1=⟨(ag s.data.toList (i+1) (j1-(i+1))).toArray⟩/\j1=(aH true s.data.toList (i+1)).2/\j1<=s.size)/\(E1≠0->c1=(aH true s.data.toList (i+1)).2)):=⟨hE,hok,herr⟩;have kv:=F9.o.f;obtain⟨q0,q1,q2,q3,q4⟩:=F9.o.cells;clear hvs hg hE hok herr k0 k1 k2 kf hw;obtain⟨W1,hW⟩:∃W,u1.setCell ⟨v,3,none⟩ (.string V1)=W:=⟨_,rfl⟩;have HW1:Hd (VS b s j1 E1 c1 W1):=by show VS _ _ _ _ _ W1;rw[<-hW];exact je.o.other dw.o _ _
      have BG:Hd (VR v y1 y2 y3 V1 ⟨#[]⟩ W1):=by show VR _ _ _ _ _ _ W1;rw[<-hW];exact F9.o.set3 _
      have KN:Hd (G2 b v w W1):=by show G2 b v w W1;rw[<-hW];exact S9.o.set _ _
      go_wp2
      try rw[hW]
      clear hW kv q0 q1 q2 q3 q4;obtain⟨bz,hz⟩:=zN ((E1 == 0))
      rcases bz with - | -
      ·have HZ:Hd (¬E1=0):=by show ¬E1=0;simpa using hz
       have g0:=HW1.o.c0;have g1:=HW1.o.c1;have g2:=HW1.o.c2;go_quiet (fail);go_wp2
       go_end0
       have h9:¬(aH true s.data.toList (i+1)).1=0:=fun e=>HZ.o (lm.o.1.trans e)
       refine⟨rfl,j1,E1,c1,V1,⟨#[]⟩,HW1.o.drew _,BG.o,KN.o.drew _,?_,fun h=>absurd h HZ.o,fun _=>?_⟩
       ·unfold bf;rw[KL.o];simp only[if_neg h9];exact lm.o.1
       ·unfold bf;rw[KL.o];simp only[if_neg h9];exact lm.o.2.2 HZ.o
      have h0:E1=0:=by simpa using hz
      subst h0;clear hz;obtain⟨hk1,hk2,hk3⟩:=lm.o.2.1 rfl;obtain⟨jx,cx,VX,LX,hx,Gg,hox,hpx,KP⟩:∃jx cx VX LX,VS b s jx 0 cx W1/\VR v y1 y2 y3 VX ⟨#[]⟩ W1/\bP 45 true s.data.toList i=(0,jx,LX)/\VX=⟨LX.toArray⟩/\jx<=s.size:=⟨j1,c1,V1,ag s.data.toList (i+1) (j1-(i+1)),HW1.o,BG.o,by
       have h9:=lm.o.1.symm;rw[KL.o,h9,hk2];unfold ik;rw[if_pos h9],hk1,hk3⟩
      clear hk1 hk2 hk3 lm HW1 BG je F9 S9)
   | (obtain⟨jx,cx,VX,LX,hx,Gg,hox,hpx,KP⟩:∃jx cx VX LX,VS b s jx 0 cx U1/\VR v y1 y2 y3 VX ⟨#[]⟩ U1/\bP 45 true s.data.toList i=(0,jx,LX)/\VX=⟨LX.toArray⟩/\jx<=s.size:=⟨i,a,⟨#[]⟩,[],lg.o,SV.o,yV hn1,rfl,jo.o⟩
      obtain⟨W1,hW⟩:∃W,U1=W:=⟨_,rfl⟩;have KN:Hd (G2 b v w W1):=hW ▸ SX.o;rw[hW]at hx Gg ⊢;clear hW hc1 hn1)
  have HW1:Hd (VS b s jx 0 cx W1):=hx;have BG:Hd (VR v y1 y2 y3 VX ⟨#[]⟩ W1):=Gg;have nI:Hd (bP 45 true s.data.toList i=(0,jx,LX)):=hox;have lQ:Hd (VX=⟨LX.toArray⟩):=hpx;have KQ:Hd (jx<=s.size):=KP;have g0:=HW1.o.c0;have g1:=HW1.o.c1;have g2:=HW1.o.c2;clear hx Gg hox hpx KP
  try clear hl2
  clear hlt1
  rcases SS s jx 43 43 rfl with⟨hlt3,hc3,ho3⟩|⟨hlt3,hc3,hn3⟩|⟨hlt3,hc3,hn3⟩
  all_goals (
   first
    | (have hl2:((jx:Nat):Int)<(s.size:Int):=by omega)
    | skip
   try go_wp2
   go_quiet (fail);obtain⟨U3,hU⟩:∃U,(W1).drewN nq=U:=⟨_,rfl⟩;have lS:Hd (VS b s jx 0 cx U3):=by show VS _ _ _ _ _ U3;rw[<-hU];exact HW1.o.drew _
   have Tc:Hd (VR v y1 y2 y3 VX ⟨#[]⟩ U3):=by show VR _ _ _ _ _ _ U3;rw[<-hU];exact BG.o
   have Td:Hd (G2 b v w U3):=by show G2 b v w U3;rw[<-hU];exact KN.o.drew _
   have k0:=lS.o.c0;have k1:=lS.o.c1;have k2:=lS.o.c2;have kf:=lS.o.f1
   try rw[hU]
   clear hU g0 g1 g2
   first
    | (have lM:Hd (bP 43 false s.data.toList jx=((aH false s.data.toList (jx+1)).1,(aH false s.data.toList (jx+1)).2,ik false s.data.toList (jx+1))):=yU (st:=false) ho3
       have Tf:Hd (jx<s.size):=hlt3;clear hc3 ho3;have hw:IntKind.i64.wrap (((jx:Nat):Int)+1)=((jx+1:Nat):Int):=by rw[IntKind.wrap_i64];have:=HS.o;have:=Tf.o;omega
       go_wp2_with (go_at_call 204;refine(PP.o false (jx+1) _ _ Tf.o (lS.o.set1 (jx+1))).mono ?_);rintro e u3 ⟨V3,j3,E3,c3,rfl,hvs,hg,hE,hok,herr⟩;have HF3:Hd (VS b s j3 E3 c3 u3):=hvs;have KT:Hd (VR v y1 y2 y3 VX ⟨#[]⟩ u3):=(Tc.o.other (Ne.symm dw.o) _ _).grow hg (Ne.symm dw.o);have aaU:Hd (G2 b v w u3):=(Td.o.set1 _ _).step hg;have jE:Hd (E3=(aH false s.data.toList (jx+1)).1/\(E3=0->V3=⟨(ag s.data.toList (jx+1) (j3-(jx+1))).toArray⟩/\j3=(aH false s.data.toList (jx+1)).2/\j3<=s.size)/\(E3≠0->c3=(aH false s.data.toList (jx+1)).2)):=⟨hE,hok,herr⟩;have kv:=KT.o.f;obtain⟨q0,q1,q2,q3,q4⟩:=KT.o.cells;clear hvs hg hE hok herr k0 k1 k2 kf hw;go_wp2
       go_end0
       refine⟨rfl,j3,E3,c3,VX,V3,HF3.o.other dw.o _ _,KT.o.set4 _,aaU.o.set _ _,?_,?_,?_⟩
       ·rw[jE.o.1];unfold bf;rw[nI.o];simp only[if_true];rw[lM.o];simp only;split<;>simp_all
       ·intro h0;obtain⟨e1,e2,e3⟩:=jE.o.2.1 h0;have h9:=jE.o.1.symm.trans h0;have hp:ik false s.data.toList (jx+1)=ag s.data.toList (jx+1) ((aH false s.data.toList (jx+1)).2-(jx+1)):=by unfold ik;rw[if_pos h9]
        unfold bf;rw[nI.o];simp only[if_true];rw[lM.o];simp only[if_pos h9];exact⟨lQ.o,by rw[e1,e2,hp],e2,e3⟩
       ·intro h0;have h9:¬(aH false s.data.toList (jx+1)).1=0:=fun e=>h0 (jE.o.1.trans e)
        unfold bf;rw[nI.o];simp only[if_true];rw[lM.o];simp only[if_neg h9];exact jE.o.2.2 h0)
    | (have lM:Hd (bP 43 false s.data.toList jx=(0,jx,[])):=yV hn3
       clear hc3 hn3;go_wp2
       go_end0
       refine⟨rfl,jx,0,_,VX,⟨#[]⟩,lS.o,Tc.o,Td.o,?_,?_,fun h=>absurd rfl h⟩
       ·unfold bf;rw[nI.o];simp only[if_true];rw[lM.o];simp only[if_true]
       ·intro _;unfold bf;rw[nI.o];simp only[if_true];rw[lM.o];simp only[if_true];exact⟨lQ.o,by first|trivial|rfl,by first|trivial|rfl,KQ.o⟩)))
end Go.Proofs.YtnnbgjaphfhibaaGreatDoor
