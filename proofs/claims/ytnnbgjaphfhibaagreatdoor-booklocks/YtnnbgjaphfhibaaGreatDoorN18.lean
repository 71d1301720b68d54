import Derived.Test.YtnnbgjaphfhibaaGreatDoorN11
import Derived.Test.YtnnbgjaphfhibaaGreatDoorN09
import Derived.WalkKit
import Derived.WalkSpells
import Derived.WalkLawsBesides
import Derived.Deep.QuietTactic
import Derived.BigQuiet
import Derived.Below
set_option linter.unusedVariables false
set_option linter.unusedSimpArgs false
set_option maxRecDepth 100000
set_option maxHeartbeats 6400000
open Go.Proofs.Tryz
namespace Go.Proofs.YtnnbgjaphfhibaaGreatDoor
open Go.RowKit Go.Joins
theorem FH(l:List UInt8)(i k:Nat):nx l (i+k)=nx (l.drop i) k:=by unfold nx;rw[List.getElem?_drop]
def Bi(c a b d:Int):Nat :=
 if c<0 then 0
 else if c<128 then 1
 else if c<194\/244<c then 0
 else if decide ((if c=224 then 160 else if c=240 then 144 else 128)<=a/\a<=(if c=237 then 159 else if c=244 then 143 else 191))=false then 0
 else if c<224 then 2
 else if decide (128<=b/\b<=191)=false then 0
 else if c<240 then 3
 else if decide (128<=d/\d<=191)=false then 0
 else 4
theorem aae(l:List UInt8)(i:Nat):aJ l i=Bi (nx l i) (nx l (i+1)) (nx l (i+2)) (nx l (i+3)):=rfl
theorem aaf{a b c d a' b' c' d':Int}(h1:a=a')(h2:b=b')(h3:c=c')(h4:d=d'):Bi a b c d=Bi a' b' c' d':=by subst h1 h2 h3 h4;rfl
theorem aag(l:List UInt8)(i:Nat):aJ l i=aJ (l.drop i) 0:=aaf (FH l i 0) (FH l i 1) (FH l i 2) (FH l i 3)
theorem vM(c:UInt8)(s:List UInt8):aJ (c :: s) 0=if(c.toNat:Int)<128 then 1
 else if(c.toNat:Int)<194\/244<(c.toNat:Int) then 0
 else if decide ((if(c.toNat:Int)=224 then 160 else if(c.toNat:Int)=240 then 144 else 128)<=nx s 0/\nx s 0<=(if(c.toNat:Int)=237 then 159 else if(c.toNat:Int)=244 then 143 else 191))=false then 0
 else if(c.toNat:Int)<224 then 2
 else if decide (128<=nx s 1/\nx s 1<=191)=false then 0
 else if(c.toNat:Int)<240 then 3
 else if decide (128<=nx s 2/\nx s 2<=191)=false then 0
 else 4:=by
 have e:aJ (c :: s) 0=Bi (c.toNat:Int) (nx s 0) (nx s 1) (nx s 2):=aae _ _;rw[e,Bi,if_neg (by omega)]
theorem aah(s:List UInt8)(h:0<aJ s 0):∃q r,s=q++r/\q.length=aJ s 0/\(∀r',aJ (q++r') 0=q.length)/\((∃c,q=[c]/\c.toNat<128)\/∃c q',q=c :: q'/\128<=c.toNat/\∀b∈q,128<=b.toNat):=by
 match s,h with
 | [],h=>exact absurd h (by decide)
 | c :: s,h =>
  rw[vM]at h ⊢
  by_cases h1:(c.toNat:Int)<128
  ·exact⟨[c],s,rfl,by rw[if_pos h1];rfl,fun r'=>by show aJ (c :: r') 0=1;rw[vM,if_pos h1],Or.inl ⟨c,rfl,by omega⟩⟩
  ·rw[if_neg h1]at h ⊢
   by_cases h2:(c.toNat:Int)<194\/244<(c.toNat:Int)
   ·rw[if_pos h2]at h;exact absurd h (by decide)
   ·rw[if_neg h2]at h ⊢
    match s,h with
    | [],h =>
     rw[if_pos]at h
     ·exact absurd h (by decide)
     ·apply decide_eq_false;intro hh;have:nx [] 0=-1:=rfl;rw[this]at hh;have:=hh.1;split at this
      ·omega
      ·split at this<;>omega
    | b :: s,h =>
     have e0:∀r,nx (b :: r) 0=(b.toNat:Int):=fun _=>rfl
     rw[e0]at h ⊢
     by_cases h3:decide ((if(c.toNat:Int)=224 then 160 else if(c.toNat:Int)=240 then 144 else 128)<=(b.toNat:Int)/\(b.toNat:Int)<=(if(c.toNat:Int)=237 then 159 else if(c.toNat:Int)=244 then 143 else 191))=false
     ·rw[if_pos h3]at h;exact absurd h (by decide)
     ·rw[if_neg h3]at h ⊢;have hb:128<=b.toNat:=by
       have:=(of_decide_eq_true ((Bool.not_eq_false _).mp h3)).1;split at this
       ·omega
       ·split at this<;>omega
      by_cases h4:(c.toNat:Int)<224
      ·refine⟨[c,b],s,rfl,by rw[if_pos h4];rfl,fun r'=>?_,Or.inr ⟨c,[b],rfl,by omega,?_⟩⟩
       ·show aJ (c :: (b :: r')) 0=2;rw[vM,if_neg h1,if_neg h2,e0,if_neg h3,if_pos h4]
       ·intro x hx;simp only[List.mem_cons,List.not_mem_nil,or_false]at hx
        rcases hx with rfl|rfl<;>omega
      ·rw[if_neg h4]at h ⊢
       match s,h with
       | [],h =>
        rw[if_pos]at h
        ·exact absurd h (by decide)
        ·apply decide_eq_false;intro hh;have:nx [b] 1=-1:=rfl;omega
       | d :: s,h =>
        have e1:∀r,nx (b :: d :: r) 1=(d.toNat:Int):=fun _=>rfl
        rw[e1]at h ⊢
        by_cases h5:decide (128<=(d.toNat:Int)/\(d.toNat:Int)<=191)=false
        ·rw[if_pos h5]at h;exact absurd h (by decide)
        ·rw[if_neg h5]at h ⊢;have hd:128<=d.toNat:=by
          have:=(of_decide_eq_true ((Bool.not_eq_false _).mp h5)).1;omega
         by_cases h6:(c.toNat:Int)<240
         ·refine⟨[c,b,d],s,rfl,by rw[if_pos h6];rfl,fun r'=>?_,Or.inr ⟨c,[b,d],rfl,by omega,?_⟩⟩
          ·show aJ (c :: (b :: d :: r')) 0=3;rw[vM,if_neg h1,if_neg h2,e0,if_neg h3,if_neg h4,e1,if_neg h5,if_pos h6]
          ·intro x hx;simp only[List.mem_cons,List.not_mem_nil,or_false]at hx
           rcases hx with rfl|rfl|rfl<;>omega
         ·rw[if_neg h6]at h ⊢
          match s,h with
          | [],h =>
           rw[if_pos]at h
           ·exact absurd h (by decide)
           ·apply decide_eq_false;intro hh;have:nx [b,d] 2=-1:=rfl;omega
          | x :: s,h =>
           have e2:∀r,nx (b :: d :: x :: r) 2=(x.toNat:Int):=fun _=>rfl
           rw[e2]at h ⊢
           by_cases h7:decide (128<=(x.toNat:Int)/\(x.toNat:Int)<=191)=false
           ·rw[if_pos h7]at h;exact absurd h (by decide)
           ·rw[if_neg h7]at h ⊢;have hx':128<=x.toNat:=by
             have:=(of_decide_eq_true ((Bool.not_eq_false _).mp h7)).1;omega
            refine⟨[c,b,d,x],s,rfl,rfl,fun r'=>?_,Or.inr ⟨c,[b,d,x],rfl,by omega,?_⟩⟩
            ·show aJ (c :: (b :: d :: x :: r')) 0=4;rw[vM,if_neg h1,if_neg h2,e0,if_neg h3,if_neg h4,e1,if_neg h5,if_neg h6,e2,if_neg h7]
            ·intro y hy;simp only[List.mem_cons,List.not_mem_nil,or_false]at hy
             rcases hy with rfl|rfl|rfl|rfl<;>omega
inductive Us:List UInt8->Prop
 | nil:Us []
 | cons (q r:List UInt8):0<q.length->(∀r',aJ (q++r') 0=q.length)->((∃c,q=[c]/\c.toNat<128)\/∃c q',q=c :: q'/\128<=c.toNat/\∀b∈q,128<=b.toNat)->Us r->Us (q++r)
theorem Us.app{a b:List UInt8}(ha:Us a)(hb:Us b):Us (a++b):=by
 induction ha with
 | nil=>exact hb
 | cons q r h1 h2 h3 _ ih=>rw[List.append_assoc];exact Us.cons q _ h1 h2 h3 ih
theorem Rq(s:List UInt8)(h:0<aJ s 0):Us (s.take (aJ s 0)):=by
 obtain⟨q,r,h1,h2,h3,h4⟩:=aah s h;rw[<-h2,h1,List.take_left' rfl];have:=Us.cons q [] (by omega) h3 h4 Us.nil;simpa using this
theorem J6(c:UInt8)(h:c.toNat<128):Us [c]:=Us.cons [c] [] (by simp) (fun r'=>by show aJ (c :: r') 0=1;rw[vM,if_pos (by omega)]) (Or.inl ⟨c,rfl,h⟩) Us.nil
theorem Rt(s:List UInt8)(h:aJ s 0=s.length)(h0:0<s.length):Us s:=by
 have:=Rq s (by omega);rw[h,List.take_length]at this;exact this
theorem aai(n:Nat)(h:n<65536)(hs:¬(55296<=n/\n<=57343)):Us (fO n):=by
 unfold fO;have tn:∀m,m<256->((UInt8.ofNat m).toNat:Int)=(m:Int):=fun m hm=>by
  rw[UInt8.toNat_ofNat_of_lt' (by simpa using hm)]
 split
 ·exact J6 _ (by rw[UInt8.toNat_ofNat_of_lt' (by show n<256;omega)];assumption)
 ·split
  ·refine Rt _ ?_ (by simp);rw[vM,tn _ (by omega),if_neg (by omega),if_neg (by omega),if_neg,if_pos (by omega)]
   ·rfl
   ·rw[decide_eq_false_iff_not,Classical.not_not];have e:nx [UInt8.ofNat (128+n % 64)] 0=((UInt8.ofNat (128+n % 64)).toNat:Int):=rfl;rw[e,tn _ (by omega),if_neg (by omega),if_neg (by omega),if_neg (by omega),if_neg (by omega)];omega
  ·refine Rt _ ?_ (by simp);have e0:∀r,nx (UInt8.ofNat (128+n / 64 % 64) :: r) 0=((UInt8.ofNat (128+n / 64 % 64)).toNat:Int):=fun _=>rfl
   have e1:∀b,nx [b,UInt8.ofNat (128+n % 64)] 1=((UInt8.ofNat (128+n % 64)).toNat:Int):=fun _=>rfl
   rw[vM,tn _ (by omega),if_neg (by omega),if_neg (by omega),if_neg,if_neg (by omega),if_neg,if_pos (by omega)]
   ·rfl
   ·rw[decide_eq_false_iff_not,Classical.not_not,e1,tn _ (by omega)];omega
   ·rw[decide_eq_false_iff_not,Classical.not_not,e0,tn _ (by omega)];split
    ·rw[if_neg (by omega)];rw[if_neg (by omega)];omega
    ·rw[if_neg (by omega)];split
     ·omega
     ·rw[if_neg (by omega)];omega
open Go.RowKit Go.Joins
theorem aaj(l:List UInt8)(i:Nat)(b:List UInt8)(j:Nat)(h:esc l i=.ok (b,j)):Us b:=by
 unfold esc at h;have one:∀c:UInt8,c.toNat<128->∀m,(Except.ok ([c],m):Rs (List UInt8 × Nat))=.ok (b,j)->Us b:=fun c hc m hh=>by
  injection hh with hh
  injection hh with h1 h2
  rw[<-h1];exact J6 c hc
 split at h
 ·rename_i hu;have hl:i+1<l.length:=bu (by omega);split at h
  ·cases h
  ·rename_i n m hf;split at h
   ·cases h
   ·rename_i hs;injection h with h
    injection h with h1 h2
    rw[<-h1];have:=(Jh l 4 (i+2) 0 n m (by omega) hf).2.2;exact aai n (by omega) hs
 ·split at h
  ·exact one _ (by decide) _ h
  ·split at h
   ·exact one _ (by decide) _ h
   ·split at h
    ·exact one _ (by decide) _ h
    ·split at h
     ·exact one _ (by decide) _ h
     ·split at h
      ·exact one _ (by decide) _ h
      ·split at h
       ·exact one _ (by decide) _ h
       ·split at h
        ·exact one _ (by decide) _ h
        ·cases h
theorem FI(l:List UInt8):∀(f i:Nat) (acc t:List UInt8) (j:Nat),Us acc->str l f i acc=.ok (t,j)->Us t
 | 0,i,acc,t,j,_,h=>by cases h
 | f+1,i,acc,t,j,ha,h=>by
  rw[Az]at h;split at h
  ·injection h with h
   injection h with h1 h2
   rw[<-h1];exact ha
  ·split at h
   ·split at h
    ·cases h
    ·rename_i b k he;exact FI l f k _ t j (ha.app (aaj l i b k he)) h
   ·split at h
    ·cases h
    ·split at h
     ·cases h
     ·rename_i hs;refine FI l f _ _ t j (ha.app ?_) h;have h0:aJ l i=aJ (l.drop i) 0:=aag l i;unfold ag;rw[h0];exact Rq _ (by omega)
open Go.RowKit
def rX(c:UInt8):Bool:=decide (97<=c.toNat/\c.toNat<=122)
def qO(c:UInt8):Bool:=rX c || aI c || decide (c.toNat=45) || decide (c.toNat=95)
def FK(s:ByteArray):Prop:=1<=s.size/\s.size<=30/\(∀h:0<s.size,rX s[0]=true)/\∀j,(hj:j<s.size)->1<=j->qO s[j]=true
open Classical in
noncomputable def nameB(s:ByteArray):Bool:=decide (FK s)
theorem Ru{s:ByteArray}(h:FK s):nameB s=true:=by simp[nameB,h]
theorem rY{s:ByteArray}(h:¬FK s):nameB s=false:=by simp[nameB,h]
theorem Bj(c:UInt8)(w:World):Calls prog 88 #[.int .u8 (c.toNat:Int)] w fun e w'=>e=.returned (.bool (rX c))/\w'=w:=by
 go_enter func88,ntmps88;go_wp2
 all_goals go_ret
 all_goals (refine⟨bV ?_,rfl⟩;rw[Bool.eq_iff_iff];simp_all [rX]<;>omega)
theorem FM(c:UInt8)(w:World):Calls prog 89 #[.int .u8 (c.toNat:Int)] w fun e w'=>e=.returned (.bool (qO c))/\w'=w:=by
 go_enter func89,ntmps89;go_wp2_with (go_at_call 88;refine(Bj _ _).mono ?_;rintro e w' ⟨rfl,rfl⟩)
 all_goals go_ret
 all_goals (refine⟨bV ?_,rfl⟩;rw[Bool.eq_iff_iff];simp_all [qO,aI]<;>omega)
theorem xJ(c:UInt8)(w:World):Calls prog 124 #[.int .u8 (c.toNat:Int)] w fun e w'=>e=.returned (.bool (rX c))/\w'=w:=by
 go_enter func124,ntmps124;go_wp2
 all_goals go_ret
 all_goals (refine⟨bV ?_,rfl⟩;rw[Bool.eq_iff_iff];simp_all [rX]<;>omega)
theorem name_any(s:ByteArray)(w:World)(hs:s.size<2 ^ 62) :
  Calls prog 58 #[.string s] w fun e w'=>e=.returned (.bool (nameB s))/\w'=w:=by
 obtain⟨R,hR⟩:∃R,R=nameB s:=⟨_,rfl⟩;have HR:Hd (R=nameB s):=hR;rw[<-hR];clear hR
 by_cases h0:s.size=0
 ·have HN:Hd (R=false):=HR.o.trans (rY fun h=>absurd h.1 (by omega));go_enter func58,ntmps58;go_wp2;go_ret;exact⟨bV HN.o.symm,rfl⟩
 by_cases h30:30<s.size
 ·have HN:Hd (R=false):=HR.o.trans (rY fun h=>absurd h.2.1 (by omega));have h1:¬s.size<1:=by omega
  go_enter func58,ntmps58;go_wp2;go_ret;exact⟨bV HN.o.symm,rfl⟩
 have hpos:0<s.size:=by omega
 have g1:((s.size:Int) == 0)=false:=by rw[beq_eq_false_iff_ne];omega
 have g2:decide (30<(s.size:Int))=false:=by rw[decide_eq_false_iff_not];omega
 have g3:decide ((s.size:Int)<1)=false:=by rw[decide_eq_false_iff_not];omega
 cases hl:rX s[0] with
 | false =>
  have HN:Hd (R=false):=HR.o.trans (rY fun h=>by have:=h.2.2.1 hpos;rw[hl]at this;cases this);go_enter func58,ntmps58;go_wp2_with (first|(go_at_call 88;refine(Bj _ _).mono ?_;rintro e w' ⟨rfl,rfl⟩)|(go_at_call 89;refine(FM _ _).mono ?_;rintro e w' ⟨rfl,rfl⟩));go_ret;exact⟨bV HN.o.symm,rfl⟩
 | true =>
  go_enter func58,ntmps58;go_wp2_with (first|(go_at_call 88;refine(Bj _ _).mono ?_;rintro e w' ⟨rfl,rfl⟩)|(go_at_call 89;refine(FM _ _).mono ?_;rintro e w' ⟨rfl,rfl⟩))
  go_loop [3] (fun i=>∃k:Nat,1<=k/\k<=s.size/\i=.int .i64 k/\∀j,(hj:j<s.size)->j<k->1<=j->qO s[j]=true) (fun i=>s.size-(intOf i).toNat)
  case atStart=>exact⟨1,Nat.le_refl _,by omega,rfl,fun j hj h h'=>absurd h (by omega)⟩
  case round =>
   obtain⟨k,hk1,hk,rfl,hp⟩:=hrel;have HP:Hd (∀j,(hj:j<s.size)->j<k->1<=j->qO s[j]=true):=hp;clear hp;clear g1 g2 g3
   by_cases hlt:k<s.size
   ·cases hd:qO s[k] with
    | true =>
     go_wp2_with (first|(go_at_call 88;refine(Bj _ _).mono ?_;rintro e w' ⟨rfl,rfl⟩)|(go_at_call 89;refine(FM _ _).mono ?_;rintro e w' ⟨rfl,rfl⟩))
     all_goals go_round
     case rel =>
      refine⟨k+1,by omega,by omega,by go_num,fun j hj hjk hj1=>?_⟩
      by_cases hjk':j<k
      ·exact HP.o j hj hjk' hj1
      ·have e:j=k:=by omega
       subst e;exact hd
     case measure=>simp[intOf];omega
    | false =>
     have HN:Hd (R=false):=HR.o.trans (rY fun h=>by have:=h.2.2.2 k hlt hk1;rw[hd]at this;cases this);go_wp2_with (first|(go_at_call 88;refine(Bj _ _).mono ?_;rintro e w' ⟨rfl,rfl⟩)|(go_at_call 89;refine(FM _ _).mono ?_;rintro e w' ⟨rfl,rfl⟩));go_ret;exact⟨bV HN.o.symm,rfl⟩
   ·have HN:Hd (R=true):=HR.o.trans (Ru ⟨by omega,by omega,fun _=>hl,fun j hj h=>HP.o j hj (by omega) h⟩);clear hk;go_wp2;go_ret;exact⟨bV HN.o.symm,rfl⟩
theorem aak(s:ByteArray)(w:World)(hs:s.size<2 ^ 62) :
  Calls prog 85 #[.string s] w fun e w'=>e=.returned (.bool (nameB s))/\w'=w:=by
 obtain⟨R,hR⟩:∃R,R=nameB s:=⟨_,rfl⟩;have HR:Hd (R=nameB s):=hR;rw[<-hR];clear hR
 by_cases h0:s.size=0
 ·have HN:Hd (R=false):=HR.o.trans (rY fun h=>absurd h.1 (by omega));go_enter func85,ntmps85;go_wp2;go_ret;exact⟨bV HN.o.symm,rfl⟩
 by_cases h30:30<s.size
 ·have HN:Hd (R=false):=HR.o.trans (rY fun h=>absurd h.2.1 (by omega));have h1:¬s.size<1:=by omega
  go_enter func85,ntmps85;go_wp2;go_ret;exact⟨bV HN.o.symm,rfl⟩
 have hpos:0<s.size:=by omega
 have g1:((s.size:Int) == 0)=false:=by rw[beq_eq_false_iff_ne];omega
 have g2:decide (30<(s.size:Int))=false:=by rw[decide_eq_false_iff_not];omega
 have g3:decide ((s.size:Int)<1)=false:=by rw[decide_eq_false_iff_not];omega
 cases hl:rX s[0] with
 | false =>
  have HN:Hd (R=false):=HR.o.trans (rY fun h=>by have:=h.2.2.1 hpos;rw[hl]at this;cases this);go_enter func85,ntmps85;go_wp2_with (first|(go_at_call 124;refine(xJ _ _).mono ?_;rintro e w' ⟨rfl,rfl⟩)|(go_at_call 122;refine(og _ _).mono ?_;rintro e w' ⟨rfl,rfl⟩));go_ret;exact⟨bV HN.o.symm,rfl⟩
 | true =>
  go_enter func85,ntmps85;go_wp2_with (first|(go_at_call 124;refine(xJ _ _).mono ?_;rintro e w' ⟨rfl,rfl⟩)|(go_at_call 122;refine(og _ _).mono ?_;rintro e w' ⟨rfl,rfl⟩))
  go_loop [3] (fun i=>∃k:Nat,1<=k/\k<=s.size/\i=.int .i64 k/\∀j,(hj:j<s.size)->j<k->1<=j->qO s[j]=true) (fun i=>s.size-(intOf i).toNat)
  case atStart=>exact⟨1,Nat.le_refl _,by omega,rfl,fun j hj h h'=>absurd h (by omega)⟩
  case round =>
   obtain⟨k,hk1,hk,rfl,hp⟩:=hrel;have HP:Hd (∀j,(hj:j<s.size)->j<k->1<=j->qO s[j]=true):=hp;clear hp;clear g1 g2 g3
   by_cases hlt:k<s.size
   ·cases hd:qO s[k] with
    | true =>
     rcases Bool.eq_false_or_eq_true (rX s[k]) with a1|a1
     ·go_wp2_with (first|(go_at_call 124;refine(xJ _ _).mono ?_;rintro e w' ⟨rfl,rfl⟩)|(go_at_call 122;refine(og _ _).mono ?_;rintro e w' ⟨rfl,rfl⟩))
      go_round
      case rel =>
       refine⟨k+1,by omega,by omega,by go_num,fun j hj hjk hj1=>?_⟩
       by_cases hjk':j<k
       ·exact HP.o j hj hjk' hj1
       ·have e:j=k:=by omega
        subst e;exact hd
      case measure=>simp[intOf];omega
     rcases Bool.eq_false_or_eq_true (aI s[k]) with a2|a2
     ·go_wp2_with (first|(go_at_call 124;refine(xJ _ _).mono ?_;rintro e w' ⟨rfl,rfl⟩)|(go_at_call 122;refine(og _ _).mono ?_;rintro e w' ⟨rfl,rfl⟩))
      go_round
      case rel =>
       refine⟨k+1,by omega,by omega,by go_num,fun j hj hjk hj1=>?_⟩
       by_cases hjk':j<k
       ·exact HP.o j hj hjk' hj1
       ·have e:j=k:=by omega
        subst e;exact hd
      case measure=>simp[intOf];omega
     by_cases a3:s[k].toNat=45
     ·have b3:((s[k].toNat:Int) != 45)=false:=by rw[a3];rfl
      have b5:((s[k].toNat:Int) != 95)=true:=by rw[a3];rfl
      clear a3;go_wp2_with (first|(go_at_call 124;refine(xJ _ _).mono ?_;rintro e w' ⟨rfl,rfl⟩)|(go_at_call 122;refine(og _ _).mono ?_;rintro e w' ⟨rfl,rfl⟩))
      go_round
      case rel =>
       refine⟨k+1,by omega,by omega,by go_num,fun j hj hjk hj1=>?_⟩
       by_cases hjk':j<k
       ·exact HP.o j hj hjk' hj1
       ·have e:j=k:=by omega
        subst e;exact hd
      case measure=>simp[intOf];omega
     ·have b3:((s[k].toNat:Int) != 45)=true:=by rw[bne_iff_ne];omega
      have b4:((s[k].toNat:Int) != 95)=false:=by unfold qO at hd;simp[a1,a2,a3]at hd;rw[hd];rfl
      clear a3;go_wp2_with (first|(go_at_call 124;refine(xJ _ _).mono ?_;rintro e w' ⟨rfl,rfl⟩)|(go_at_call 122;refine(og _ _).mono ?_;rintro e w' ⟨rfl,rfl⟩))
      go_round
      case rel =>
       refine⟨k+1,by omega,by omega,by go_num,fun j hj hjk hj1=>?_⟩
       by_cases hjk':j<k
       ·exact HP.o j hj hjk' hj1
       ·have e:j=k:=by omega
        subst e;exact hd
      case measure=>simp[intOf];omega
    | false =>
     have HN:Hd (R=false):=HR.o.trans (rY fun h=>by have:=h.2.2.2 k hlt hk1;rw[hd]at this;cases this);obtain⟨a1,a2,a3,a4⟩:rX s[k]=false/\aI s[k]=false/\¬s[k].toNat=45/\¬s[k].toNat=95:=by
      unfold qO at hd;simpa [and_assoc] using hd
     have b3:((s[k].toNat:Int) != 45)=true:=by rw[bne_iff_ne];omega
     have b4:((s[k].toNat:Int) != 95)=true:=by rw[bne_iff_ne];omega
     clear a3 a4;go_wp2_with (first|(go_at_call 124;refine(xJ _ _).mono ?_;rintro e w' ⟨rfl,rfl⟩)|(go_at_call 122;refine(og _ _).mono ?_;rintro e w' ⟨rfl,rfl⟩));go_ret;exact⟨bV HN.o.symm,rfl⟩
   ·have HN:Hd (R=true):=HR.o.trans (Ru ⟨by omega,by omega,fun _=>hl,fun j hj h=>HP.o j hj (by omega) h⟩);clear hk;go_wp2;go_ret;exact⟨bV HN.o.symm,rfl⟩
end Go.Proofs.YtnnbgjaphfhibaaGreatDoor
