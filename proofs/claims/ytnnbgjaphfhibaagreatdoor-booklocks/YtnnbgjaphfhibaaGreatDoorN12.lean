import Derived.Test.YtnnbgjaphfhibaaGreatDoorN06
import Derived.Test.YtnnbgjaphfhibaaGreatDoorN02
import Derived.Lib.AtoiTie
import Derived.Deep.RegionHeld3
import Derived.Test.YtnnbgjaphfhibaaGreatDoorN08
set_option linter.unusedVariables false
set_option linter.unusedSimpArgs false
set_option maxRecDepth 100000
set_option maxHeartbeats 6400000
open Go.Proofs.Tryz
namespace Go.Proofs.YtnnbgjaphfhibaaGreatDoor
open Go.RowKit Go.Joins
theorem Yw:∀(d:List UInt8) (n:Nat),(∀c∈d,ax (c.toNat:Int)=true)->Lib.decFrom n d=some (gJ d n):=by
 intro d
 induction d with
 | nil=>intro n _;rfl
 | cons c r ih =>
  intro n h;have hc:=of_decide_eq_true (h c (by simp));have h1:48<=c.toNat/\c.toNat<=57:=by omega
  have e:Lib.digitVal c=some (c.toNat - 48):=by unfold Lib.digitVal;rw[if_pos h1]
  have:=ih (10*n+(c.toNat - 48)) (fun x hx=>h x (by simp[hx]));show(match Lib.digitVal c with|some d=>Lib.decFrom (n*10+d) r|none=>none)=some (gJ r (10*n+(c.toNat - 48)));rw[e,<-this,Nat.mul_comm 10 n]
theorem Jk(d:List UInt8)(hd:d≠[])(h:∀c∈d,ax (c.toNat:Int)=true):Lib.decNat d=some (gJ d 0):=by
 unfold Lib.decNat
 cases d with
 | nil=>exact absurd rfl hd
 | cons c r=>simpa using Yw (c :: r) 0 h
theorem Yx(d:List UInt8)(hd:d≠[])(hl:d.length<=18)(h:∀c∈d,ax (c.toNat:Int)=true):Lib.atoiAll d=.ok (gJ d 0:Int):=by
 cases d with
 | nil=>exact absurd rfl hd
 | cons c r =>
  have hc:=of_decide_eq_true (h c (by simp));rw[Lib.atoiAll_plain c r (by omega) (by omega),Lib.signless_short hl,Jk _ hd h];rfl
theorem Yy(d:List UInt8)(hd:d≠[])(hl:d.length<=18)(h:∀c∈d,ax (c.toNat:Int)=true):Lib.atoiAll (43 :: d)=.ok (gJ d 0:Int):=by
 rw[Lib.atoiAll_plus,Lib.signless_short hl,Jk _ hd h];rfl
theorem Yz(d:List UInt8)(hd:d≠[])(hl:d.length<=18)(h:∀c∈d,ax (c.toNat:Int)=true):Lib.atoiAll (45 :: d)=.ok (-(gJ d 0:Int)):=by
 rw[Lib.atoiAll_minus,Lib.signed_short hl,Jk _ hd h];rfl
open Go.RowKit Go.Joins
theorem Jl(p:Int->Bool)(l:List UInt8)(i:Nat):∀c∈ag l i (toR p l i-i),p (c.toNat:Int)=true:=by
 intro c hc;unfold ag toR runN at hc;rw[Nat.add_sub_cancel_left]at hc;have e:(l.drop i).take ((l.drop i).takeWhile (fun c=>p (c.toNat:Int))).length=(l.drop i).takeWhile (fun c=>p (c.toNat:Int)):=by
  have:=List.takeWhile_prefix (fun c:UInt8=>p (c.toNat:Int)) (l:=l.drop i);exact(List.prefix_iff_eq_take.1 this).symm
 rw[e]at hc;exact(List.all_takeWhile (p:=fun c:UInt8=>p (c.toNat:Int)) (l:=l.drop i) |> List.all_eq_true.1) c hc
theorem Qm(l:List UInt8)(i k:Nat)(h:i+k<=l.length):(ag l i k).length=k:=by
 unfold ag;rw[List.length_take,List.length_drop];omega
theorem Qn(l:List UInt8)(i k:Nat)(h:i<l.length):ag l i (k+1)=l[i] :: ag l (i+1) k:=by
 unfold ag;rw[List.drop_eq_getElem_cons h,List.take_succ_cons]
theorem YA(l:List UInt8)(i a j:Nat)(hj:j<=l.length)(haj:a<j)(hall:∀c∈ag l a (j-a),ax (c.toNat:Int)=true)(h18:j-a<=18)
  (h:(ax (nx l i)=true/\a=i)\/((nx l i=43\/nx l i=45)/\a=i+1)) :
  Lib.atoiAll (ag l i (j-i))=.ok (if nx l i=45 then -(gJ (ag l a (j-a)) 0:Int) else(gJ (ag l a (j-a)) 0:Int)):=by
 have hlen:=Qm l a (j-a) (by omega);have hne:ag l a (j-a)≠[]:=fun e=>by rw[e]at hlen;simp at hlen;omega
 rcases h with⟨h1,rfl⟩|⟨h1,rfl⟩
 ·rw[if_neg (fun e=>by rw[e]at h1;exact absurd h1 (by decide))];exact Yx _ hne (by omega) hall
 ·have hil:i<l.length:=by omega
  have e:j-i=(j-(i+1))+1:=by omega
  rw[e,Qn l i _ hil];have hx:=oP l i hil
  rcases h1 with h1|h1
  ·have:l[i]=43:=by
    apply UInt8.toNat_inj.1;have:(l[i].toNat:Int)=43:=by rw[<-hx];exact h1
    show l[i].toNat=43;omega
   rw[this,if_neg (by rw[h1];decide)];exact Yy _ hne (by omega) hall
  ·have:l[i]=45:=by
    apply UInt8.toNat_inj.1;have:(l[i].toNat:Int)=45:=by rw[<-hx];exact h1
    show l[i].toNat=45;omega
   rw[this,if_pos h1];exact Yz _ hne (by omega) hall
open Go.RowKit Go.Joins
theorem YB(w:World)(e:TypeId)(s:ByteArray):w.grownBy (Lib.bytesWorld w e s) none :=
 ⟨rfl,rfl,rfl,by rw[Lib.bytesWorld_size];omega,fun k hk _=>Lib.bytesWorld_at_old w e s k hk⟩
theorem YC(x:List UInt8)(v:Int)(hx:x.length<=1048576)(h:Lib.atoiAll x=.ok v)(w:World) :
  Calls prog 218 #[.string ⟨x.toArray⟩] w fun e w'=>e=.returned (.tuple #[.int .i64 v,.nilIface])/\w.grownBy w' none:=by
 have hz:(⟨x.toArray⟩:ByteArray).size=x.length:=by show x.toArray.size=_;simp
 refine(Any.strconv_Atoi_ok Tryz.lays172 ⟨x.toArray⟩ (by rw[hz];omega) v (by simpa using h) w).mono ?_;rintro e w' ⟨rfl,rfl|⟨t,rfl⟩⟩
 ·exact⟨rfl,ak _ _⟩
 ·refine⟨rfl,?_⟩;exact YB _ _ _
def fU(l:List UInt8)(i:Nat):Nat:=if ax (nx l i)=true then i else i+1
theorem YD(l:List UInt8)(i:Nat):iQ l i =
  if toR ax l (fU l i)=fU l i\/(1<toR ax l (fU l i)-fU l i/\nx l (fU l i)=48) then .error (2,fU l i)
  else if 18<toR ax l (fU l i)-fU l i then .error (3,i)
  else .ok (if nx l i=45 then -(gJ (ag l (fU l i) (toR ax l (fU l i)-fU l i)) 0:Int) else(gJ (ag l (fU l i) (toR ax l (fU l i)-fU l i)) 0:Int),toR ax l (fU l i)):=rfl
open Go.RowKit
theorem Qo(T:List UInt8)(m:Nat)(hm:m<T.length):bJ (T.take (m+1))=10*bJ (T.take m)+((T[m].toNat:Int)-48):=by
 rw[List.take_succ_eq_append_getElem hm,O6];rfl
theorem YE(b:Nat)(s:ByteArray)(i:Nat)(w:World)(hi:i<=s.size)(h:RS b s i w)(hs:s.size<2 ^ 62) :
  Calls prog 206 #[.pointer (some ⟨b,0,none⟩)] w fun e w'=>e=.returned (.tuple #[.int .i64 (rdNum s.data.toList i).2.1,.int .i64 (rdNum s.data.toList i).1])/\RS b s (rdNum s.data.toList i).2.2 w'/\w.grownBy w' (some b):=by
 obtain⟨E,V,Q,jl⟩:∃E V Q,rdNum s.data.toList i=(E,V,Q):=⟨_,_,_,rfl⟩;rw[jl];have hsl:s.data.toList.length=s.size:=by simp
 have CR:Hd (Calls prog 223 #[.pointer (some ⟨b,0,none⟩),.func (.func 224) #[] #[]] w fun e w'=>e=.returned (.string ⟨(ag s.data.toList i (runN aI s.data.toList i)).toArray⟩)/\RS b s (i+runN aI s.data.toList i) w'/\w.grownBy w' (some b)):=XU b s i w hi h hs;have d1:=h.c1;have hle:i+runN aI s.data.toList i<=s.size:=by have:=rD aI s.data.toList i (by rw[hsl];exact hi);rw[hsl]at this;exact this
 have hln:=tC s.data.toList i (runN aI s.data.toList i) (by rw[hsl];exact hle);have hall:=Em aI s.data.toList i;have hT0:∀k,0<k->i+k<=s.data.toList.length->(ag s.data.toList i k)[0]?=s.data.toList[i]?:=by
  intro k hk hik;unfold ag;rw[List.getElem?_take_of_lt hk,List.getElem?_drop];rfl
 unfold rdNum at jl;obtain⟨k,hk⟩:=zN (runN aI s.data.toList i);rw[hk]at CR jl hle hln hall;have Jm:=hT0 k;obtain⟨T,hT⟩:=zN (ag s.data.toList i k);rw[hT]at CR jl hln hall Jm;obtain⟨X,hX⟩:∃X:ByteArray,X=⟨T.toArray⟩:=⟨_,rfl⟩;rw[<-hX]at CR;have yG:Hd (X.data.toList=T):=by show X.data.toList=T;rw[hX]
 have jd:X.size=k:=by rw[hX];show T.toArray.size=k;simpa using hln
 have xy:Hd ((if k=0 then(2,0,i) else if 1<k/\s.data.toList[i]?=some 48 then(2,0,i) else if bJ T > 999999999 then(3,0,i) else(0,bJ T,i+k))=(E,V,Q)):=jl;have o6:Hd (T.all aI=true/\T.length=k/\(0<k->T[0]?=s.data.toList[i]?)):=⟨hall,hln,fun h=>Jm h (by rw[hsl];exact hle)⟩;clear hk hT hX jl hln hall hT0 Jm h hsl hi
 by_cases hk0:k=0
 ·have e1:=EJ (jd.trans hk0);have HZ:Hd (E=2/\V=0/\Q=i+k):=by
   have:=xy.o;rw[if_pos hk0]at this;exact⟨(congrArg Prod.fst this).symm,(congrArg (·.2.1) this).symm,by rw[hk0];exact(congrArg (·.2.2) this).symm⟩
  clear hk0 jd hle;go_enter func206,ntmps206;go_wp2_with (go_at_call 223;refine CR.o.mono ?_);rintro e w1 ⟨rfl,hr1,hg1⟩;have HF:Hd (RS b s Q w1/\w.grownBy w1 (some b)):=⟨by rw[HZ.o.2.2];exact hr1,hg1⟩;clear hr1 hg1;go_wp2;refine bodyPost_ret (results_tmp2 rfl _ _ _) rfl ⟨?_,HF.o.1,HF.o.2⟩;rw[HZ.o.1,HZ.o.2.1];rfl
 ·have e1:=EK (fun h=>hk0 (jd.symm.trans h));obtain⟨z,hz⟩:=zN ((decide (1<X.data.toList.length) && decide (X.data.toList[0]?=some 48)));have CZ:Hd (∀w,Calls prog 225 #[.string X] w fun e w'=>e=.returned (.bool z)/\w'=w):=fun w=>by rw[<-hz];exact PL X w
  have Qp:Hd (z=decide (1<k/\s.data.toList[i]?=some 48)):=by
   show z=_;rw[<-hz,yG.o,o6.o.2.1,o6.o.2.2 (by omega)];rw[Bool.eq_iff_iff];simp
  have HK:Hd (¬k=0):=hk0;clear hz hk0;go_enter func206,ntmps206;go_wp2_with (go_at_call 223;refine CR.o.mono ?_);rintro e w1 ⟨rfl,hr1,hg1⟩;have HR1:Hd (RS b s (i+k) w1):=hr1;have ay:Hd (w.grownBy w1 (some b)):=hg1;have f1:=hr1.c1;have f2:=hr1.f1;clear hr1 hg1
  cases z with
  | true =>
   have HZ:Hd (E=2/\V=0/\Q=i):=by
    have:=xy.o;rw[if_neg HK.o,if_pos (of_decide_eq_true Qp.o.symm)]at this;exact⟨(congrArg Prod.fst this).symm,(congrArg (·.2.1) this).symm,(congrArg (·.2.2) this).symm⟩
   go_wp2_with (go_at_call 225;refine(CZ.o _).mono ?_;rintro e w' ⟨rfl,rfl⟩);refine bodyPost_ret (results_tmp2 rfl _ _ _) rfl ⟨?_,by rw[HZ.o.2.2];exact HR1.o.set i,aV ay.o _ _⟩;rw[HZ.o.1,HZ.o.2.1];rfl
  | false =>
   have HV:Hd ((if bJ T > 999999999 then(3,0,i) else(0,bJ T,i+k))=(E,V,Q)):=by
    have:=xy.o;rw[if_neg HK.o,if_neg (of_decide_eq_false Qp.o.symm)]at this;exact this
   have kw:=Lib.run_convert_string_bytes (P:=prog) w1 9 90 5 X underlying9 underlying90 underlying5;obtain⟨W,hW⟩:=zN (Lib.bytesWorld w1 5 X);have HC:Hd (∀j,(hj:j<X.size)->W.cell? ⟨w1.heap.size,j,none⟩=some (.int .u8 (X[j].toNat:Int))):=by
    show ∀j,(hj:j<X.size)->W.cell? ⟨w1.heap.size,j,none⟩=some (.int .u8 (X[j].toNat:Int));intro j hj;rw[<-hW,Lib.bytesWorld_cell w1 _ X j hj];have:X.data.toList.getD j 0=X[j]:=by
     rw[List.getD_eq_getElem?_getD,kR X j hj];rfl
    rw[this]
   have hgW:w1.grownBy W none:=by rw[<-hW];exact Jd w1 _ X
   rw[hW]at kw;have HRW:Hd (RS b s (i+k) W):=HR1.o.grow hgW;have gV:Hd (w.grownBy W (some b)):=ai ay.o (EH hgW _);have g1:=HRW.o.c1;have g2:=HRW.o.f1;clear hW hgW f1 f2;go_wp2_with (go_at_call 225;refine(CZ.o _).mono ?_;rintro e w' ⟨rfl,rfl⟩);have YF:Hd (X.size=k):=jd;have hks:k<2 ^ 62:=by omega
   clear jd hle
   go_loop [6,26] (fun vn vi=>∃m:Nat,m<=k/\vi=.int .i64 m/\vn=.int .i64 (bJ (T.take m))/\bJ (T.take m)<=999999999) (fun _ vi=>k-(intOf vi).toNat)
   case atStart=>exact⟨0,Nat.zero_le _,rfl,rfl,by show(0:Int)<=_;omega⟩
   case round =>
    obtain⟨m,hm,rfl,rfl,hvm⟩:=hrel
    by_cases hlt:m<k
    ·have EZ:m<T.length:=by rw[o6.o.2.1];exact hlt
     have Jn:m<X.size:=by rw[YF.o];exact hlt
     have Qq:X[m]=T[m]:=by
      have:=kR X m Jn;rw[yG.o,List.getElem?_eq_getElem EZ]at this;exact(Option.some.inj this).symm
     have cm:=HC.o m Jn;have hdg:=yC (List.all_eq_true.1 o6.o.1 T[m] (List.getElem_mem EZ));have hvt:=Qo T m EZ;have hv0:0<=bJ (T.take m):=Ei _ (List.all_eq_true.2 (fun c hc=>List.all_eq_true.1 o6.o.1 c (List.mem_of_mem_take hc)));have hpre:bJ (T.take (m+1))<=bJ T:=by
      have:=O7 (T.take (m+1)) (T.drop (m+1)) (by rw[List.take_append_drop];exact o6.o.1);rw[List.take_append_drop]at this;exact this
     rw[Qq]at cm;obtain⟨c,hc⟩:∃c:Int,c=(T[m].toNat:Int):=⟨_,rfl⟩;rw[<-hc]at cm hvt;obtain⟨v,hv⟩:∃v,v=bJ (T.take m):=⟨_,rfl⟩;rw[<-hv]at hvt hv0 hvm;rw[<-hv];have hc0:48<=c/\c<=57:=by omega
     have r1:IntKind.i64.wrap (10*v)=10*v:=by rw[IntKind.wrap_i64];omega
     have r2:IntKind.u8.wrap (c-48)=c-48:=by rw[IntKind.wrap_u8];omega
     have r3:IntKind.i64.wrap (c-48)=c-48:=by rw[IntKind.wrap_i64];omega
     have r4:IntKind.i64.wrap (10*v+(c-48))=10*v+(c-48):=by rw[IntKind.wrap_i64];omega
     have Jo:Hd (bJ (T.take (m+1))=10*v+(c-48)/\bJ (T.take (m+1))<=bJ T):=⟨hvt,hpre⟩;clear hc hv Qq hdg hvt hpre EZ Jn
     by_cases hbig:999999999<10*v+(c-48)
     ·have HZ:Hd (E=3/\V=0/\Q=i):=by
       have h1:=Jo.o;have:=HV.o;rw[if_pos (by omega)]at this;exact⟨(congrArg Prod.fst this).symm,(congrArg (·.2.1) this).symm,(congrArg (·.2.2) this).symm⟩
      go_wp2;refine bodyPost_ret (results_tmp2 rfl _ _ _) rfl ⟨?_,by rw[HZ.o.2.2];exact HRW.o.set i,aV gV.o _ _⟩;rw[HZ.o.1,HZ.o.2.1];rfl
     ·go_wp2
      go_round
      case rel=>exact⟨m+1,by omega,by go_num,by rw[Jo.o.1],by rw[Jo.o.1];omega⟩
      case measure=>simp[intOf];omega
    ·have hmk:m=k:=by omega
     have YG:Hd (T.take m=T):=by show T.take m=T;rw[hmk];exact List.take_of_length_le (by rw[o6.o.2.1];exact Nat.le_refl _)
     have HZ:Hd (E=0/\V=bJ (T.take m)/\Q=i+k):=by
      have:=HV.o;rw[YG.o]at hvm ⊢;rw[if_neg (by omega)]at this;exact⟨(congrArg Prod.fst this).symm,(congrArg (·.2.1) this).symm,(congrArg (·.2.2) this).symm⟩
     clear hmk hm hvm;go_wp2;refine bodyPost_ret (results_tmp2 rfl _ _ _) rfl ⟨?_,by rw[HZ.o.2.2];exact HRW.o,gV.o⟩;rw[HZ.o.1,HZ.o.2.1];rfl
open Go.RowKit Go.Joins
theorem Qr(X:ByteArray):X.toList.length=X.size:=by rw[ByteArray.toList_eq];exact Array.length_toList
theorem YH(R:Nat)(s:ByteArray)(i T:Nat)(E:Int->TypeId × Value)(w:World)(h:Rd w R s i T)(hs:s.size<=1048576)(he:Es w E)(hR:Far R)
  (hx:ax (nx s.data.toList i)=true\/nx s.data.toList i=43\/nx s.data.toList i=45) :
  Calls prog 197 #[.pointer (some ⟨R,0,none⟩)] w (Ac R s T E (iQ s.data.toList i) w):=by
 have hl:s.data.toList.length=s.size:=by simp
 have hil:i<s.size:=by
  rw[<-hl]
  rcases hx with h|h|h
  ·have:=of_decide_eq_true h;exact bu (by omega)
  ·exact bu (by omega)
  ·exact bu (by omega)
 have CN:Hd (∀k w,Rd w R s k T->k<=s.size->Calls prog 104 #[.pointer (some ⟨R,0,none⟩)] w fun e w'=>e=.returned (.int .i64 (nx s.data.toList k))/\w.grownBy w' none):=fun k w h1 h2=>l7 R s k T w h1 h2 hs
 have CB:Hd (∀c w,Calls prog 151 #[.int .i64 c] w fun e w'=>e=.returned (.bool (ax c))/\w'=w):=Et;have Qs:Hd (∀p w,Calls prog 195 #[.iface (E 2).1 (E 2).2,.int .i64 (p:Nat)] w fun e w'=>(∃v,e=.returned v/\aS w' v E 2 p)/\w.grownBy w' none):=fun p w=>rE p _ _ w
 have Qu:Hd (∀p w,Calls prog 195 #[.iface (E 3).1 (E 3).2,.int .i64 (p:Nat)] w fun e w'=>(∃v,e=.returned v/\aS w' v E 3 p)/\w.grownBy w' none):=fun p w=>rE p _ _ w
 have lH:Hd (∀w',w.grownBy w' (some R)->w'.cell? ⟨6,0,none⟩=some (.iface (E 2).1 (E 2).2)):=fun w' hg=>(he.grow hR hg).te
 have AB:Hd (∀w',w.grownBy w' (some R)->w'.cell? ⟨1,0,none⟩=some (.iface (E 3).1 (E 3).2)):=fun w' hg=>(he.grow hR hg).ra
 have CH:Hd (∀k w',w.grownBy w' (some R)->Rd w' R s k T->Calls prog 156 #[.pointer (some ⟨R,0,none⟩)] w' fun e w''=>(∃v,e=.returned v/\aS w'' v E 2 k)/\w'.grownBy w'' none):=fun k w' hg hr=>uS R s k T (E 2).1 (E 2).2 w' hr (he.grow hR hg).te
 obtain⟨ty2,Qv⟩:∃ty,(E 2).1=ty:=⟨_,rfl⟩;obtain⟨pv2,hpv2⟩:∃pv,(E 2).2=pv:=⟨_,rfl⟩;obtain⟨ty3,Qw⟩:∃ty,(E 3).1=ty:=⟨_,rfl⟩;obtain⟨pv3,Qx⟩:∃pv,(E 3).2=pv:=⟨_,rfl⟩;rw[Qv,hpv2]at Qs lH;rw[Qw,Qx]at Qu AB;have HST:Hd (∀k,k<s.size->ax (nx s.data.toList k)=true->toR ax s.data.toList k=toR ax s.data.toList (k+1)):=fun k hk hb=>ql ax _ k (by omega) hb
 have jH:Hd (∀k,ax (nx s.data.toList k)=false->toR ax s.data.toList k=k):=fun k hb=>lG ax _ k hb
 have cZ:Hd (∀k,k<=s.size->ax (nx s.data.toList k)=true->k<s.size):=fun k hk hb=>by
  apply Classical.byContradiction;intro hn;rw[ji _ _ (by omega)]at hb;exact absurd hb (by decide)
 have Jp:i<=fU s.data.toList i/\fU s.data.toList i<=s.size/\((ax (nx s.data.toList i)=true/\fU s.data.toList i=i)\/((nx s.data.toList i=43\/nx s.data.toList i=45)/\fU s.data.toList i=i+1)):=by
  unfold fU
  by_cases hd:ax (nx s.data.toList i)=true
  ·rw[if_pos hd];exact⟨by omega,by omega,Or.inl ⟨hd,rfl⟩⟩
  ·rw[if_neg hd];refine⟨by omega,by omega,Or.inr ⟨?_,rfl⟩⟩
   rcases hx with h|h
   ·exact absurd h hd
   ·exact h
 have hA1:Hd (fU s.data.toList i=if ax (nx s.data.toList i)=true then i else i+1):=rfl;have hjj:=oQ ax s.data.toList (fU s.data.toList i) (by omega);rw[hl]at hjj;have hall:=Jl ax s.data.toList (fU s.data.toList i);have jX:Hd (iQ s.data.toList i=_):=YD s.data.toList i;have hat:∀j,j<=s.size->fU s.data.toList i<j->(∀c∈ag s.data.toList (fU s.data.toList i) (j-fU s.data.toList i),ax (c.toNat:Int)=true)->j-fU s.data.toList i<=18->Lib.atoiAll (ag s.data.toList i (j-i))=.ok (if nx s.data.toList i=45 then -(gJ (ag s.data.toList (fU s.data.toList i) (j-fU s.data.toList i)) 0:Int) else(gJ (ag s.data.toList (fU s.data.toList i) (j-fU s.data.toList i)) 0:Int)):=fun j h1 h2 h3 h4=>YA s.data.toList i _ j (by omega) h2 h3 h4 Jp.2.2
 obtain⟨a,ha⟩:=zN (fU s.data.toList i);obtain⟨J,hJ⟩:=zN (toR ax s.data.toList a);rw[ha]at Jp hA1 hjj hall jX hat;rw[hJ]at hjj hall jX;obtain⟨D,hD⟩:=zN (ag s.data.toList a (J-a));have hDl:D.length=J-a:=by rw[<-hD];exact Qm _ _ _ (by omega)
 have hAt:a<J->J-a<=18->Lib.atoiAll (ag s.data.toList i (J-i))=.ok (if nx s.data.toList i=45 then -(gJ D 0:Int) else(gJ D 0:Int)):=fun h1 h2=>by
  have:=hat J hjj.2 h1 (by rw[hD];rw[hD]at hall;exact hall) h2;rw[hD]at this;exact this
 rw[hD]at jX;obtain⟨val,hval⟩:∃v,(if nx s.data.toList i=45 then -(gJ D 0:Int) else(gJ D 0:Int))=v:=⟨_,rfl⟩;rw[hval]at jX hAt;have HJ:Hd (toR ax s.data.toList a=J):=hJ;obtain⟨W,hW⟩:=zN (ag s.data.toList i (J-i));have Qy:W.length<=1048576:=by rw[<-hW];unfold ag;rw[List.length_take,List.length_drop];omega
 rw[hW]at hAt;have s1:∀wx,(Instr.slice 9 (.string s) (some (.int .i64 (a:Int))) (some (.int .i64 (J:Int))) none).run prog wx=.ok (.string ⟨D.toArray⟩) wx:=fun wx=>by rw[<-hD];exact kS s a J hjj.1 hjj.2 wx
 have s2:∀wx,(Instr.slice 9 (.string s) (some (.int .i64 (i:Int))) (some (.int .i64 (J:Int))) none).run prog wx=.ok (.string ⟨W.toArray⟩) wx:=fun wx=>by rw[<-hW];exact kS s i J (by omega) hjj.2 wx
 have CA:Hd (a<J->J-a<=18->∀w,Calls prog 218 #[.string ⟨W.toArray⟩] w fun e w'=>e=.returned (.tuple #[.int .i64 val,.nilIface])/\w.grownBy w' none):=fun h1 h2 w=>YC W val Qy (hAt h1 h2) w
 have Qz:a<J->∃c r,D=c :: r/\(c.toNat:Int)=nx s.data.toList a:=fun h1=>by
  have hal:a<s.data.toList.length:=by omega
  refine⟨s.data.toList[a],ag s.data.toList (a+1) (J-a-1),?_,(oP s.data.toList a hal).symm⟩;rw[<-hD,show J-a=(J-a-1)+1 by omega];exact Qn _ _ _ hal
 obtain⟨X,hX⟩:∃X:ByteArray,⟨D.toArray⟩=X:=⟨_,rfl⟩;obtain⟨Y,hY⟩:∃Y:ByteArray,⟨W.toArray⟩=Y:=⟨_,rfl⟩;have YI:X.toList=D:=by rw[<-hX,ByteArray.toList_eq]
 have jd:X.size=J-a:=by rw[<-hX];show D.toArray.size=_;simp[hDl]
 have HX0:Hd (∀h:0<X.size,((X[0]'h).toNat:Int)=nx s.data.toList a):=fun h=>by
  obtain⟨c,r,e1,e2⟩:=Qz (by omega);subst hX;rw[<-e2];subst e1;rfl
 have QA:Hd (a=i->Y=X):=fun e=>by rw[<-hX,<-hY,<-hD,<-hW,e]
 rw[hX]at s1;rw[hY]at s2 CA;obtain⟨G,hG⟩:=zN (iQ s.data.toList i);rw[hG]at jX ⊢;obtain⟨hia,has,-⟩:=Jp;obtain⟨haJ,hJs⟩:=hjj;obtain⟨z,hz⟩:=zN (nx s.data.toList a);rw[hz]at jX HX0;have rM:Hd (G=if J=a\/(1<J-a/\z=48) then .error (2,a) else if 18<J-a then .error (3,i) else .ok (val,J)):=jX.o;have H0:Hd (Rd w R s i T):=h;have C0:Hd (∀w',Rd w' R s i T->Calls prog 104 #[.pointer (some ⟨R,0,none⟩)] w' fun e w''=>e=.returned (.int .i64 (nx s.data.toList i))/\w'.grownBy w'' none):=fun w' h1=>CN.o i w' h1 (by omega)
 obtain⟨x,hxx⟩:=zN (nx s.data.toList i);rw[hxx]at C0 hA1;have Jq:Hd (∀w,Calls prog 151 #[.int .i64 x] w fun e w'=>e=.returned (.bool (ax x))/\w'=w):=CB.o x;obtain⟨b0,hb0⟩:∃b,ax x=b:=⟨_,rfl⟩;rw[hb0]at Jq hA1;obtain⟨c0,c1,-,-⟩:=h.cells;obtain⟨p,hp⟩:=zN (i);rw[hp]at c1 s2 rM;clear h hJ hG hD hval hW hX hY YI hxx hb0 hz hAt hat Qz hDl Qy hall ha jX Qv hpv2 Qw Qx he hx hl hp;go_enter func197,ntmps197;go_wp2_with (go_at_call 104;refine(C0.o _ H0.o).mono ?_);rintro e w1 ⟨rfl,hg1⟩;have HR1:Hd (Rd w1 R s i T):=H0.o.grow hg1;have ay:Hd (w.grownBy w1 (some R)):=aF (ak w (some R)) hg1;obtain⟨-,e1,-,ef⟩:=HR1.o.cells;have ef1:=ef 1;have dD:Hd (Rd (w1.setCell ⟨R,1,none⟩ (.int .i64 ((i:Int)+1))) R s (i+1) T):=HR1.o.set (i+1);have eP:Hd (w.grownBy (w1.setCell ⟨R,1,none⟩ (.int .i64 ((i:Int)+1))) (some R)):=aV ay.o 1 _
 clear hg1 ef c0 c1
 rcases b0 with - | -
 all_goals (
  first
   | (have HA:a=i:=by have:=hA1.o;rw[if_pos rfl]at this;exact this
      subst HA;go_wp2_with (go_at_call 151;refine(Jq.o _).mono ?_;rintro e wZ ⟨rfl,rfl⟩);have QB:=HR1;have QC:=ay)
   | (have HA:Hd (a=i+1):=by have:=hA1.o;rw[if_neg (by decide)]at this;exact this
      have hai:(i:Int)+1=(a:Int):=by have:=HA.o;omega
      go_wp2_with (go_at_call 151;refine(Jq.o _).mono ?_;rintro e wZ ⟨rfl,rfl⟩);have QB:Hd (Rd (wZ.setCell ⟨R,1,none⟩ (.int .i64 (a:Int))) R s a T):=by
       have:=dD.o;rw[hai,<-HA.o]at this;exact this
      have QC:Hd (w.grownBy (wZ.setCell ⟨R,1,none⟩ (.int .i64 (a:Int))) (some R)):=by
       have:=eP.o;rw[hai]at this;exact this
      try rw[hai]
      clear hai)
  go_loopw [] (fun wr=>∃k:Nat,Rd wr R s k T/\k<=s.size/\toR ax s.data.toList k=J/\w.grownBy wr (some R)) (fun wr=>s.size-(match wr.cell? ⟨R,1,none⟩ with|some (.int _ k)=>k.toNat|_=>0))
  case atStart=>exact⟨a,QB.o,by omega,HJ.o,QC.o⟩
  case round =>
   obtain⟨k,hrd,hk,hbl,hg⟩:=hrel;have dG:Hd (Rd wr R s k T):=hrd;have fP:Hd (toR ax s.data.toList k=J):=hbl;have HG:Hd (w.grownBy wr (some R)):=hg;have C1:Hd (Calls prog 104 #[.pointer (some ⟨R,0,none⟩)] wr fun e w'=>e=.returned (.int .i64 (nx s.data.toList k))/\wr.grownBy w' none):=CN.o k wr hrd hk;have gI:Hd ((match wr.cell? ⟨R,1,none⟩ with|some (.int _ k)=>k.toNat|_=>0)=k):=by show _=_;rw[hrd.cells.2.1];simp
   have eH:Hd (ax (nx s.data.toList k)=true->toR ax s.data.toList k=toR ax s.data.toList (k+1)):=fun hb=>HST.o k (cZ.o k hk hb) hb
   have HS2:Hd (ax (nx s.data.toList k)=false->toR ax s.data.toList k=k):=jH.o k;have HL2:Hd (ax (nx s.data.toList k)=true->k<s.size):=cZ.o k hk;obtain⟨c,hc⟩:=zN (nx s.data.toList k);rw[hc]at C1 eH HS2 HL2;have iU:Hd (∀w,Calls prog 151 #[.int .i64 c] w fun e w'=>e=.returned (.bool (ax c))/\w'=w):=fun w=>CB.o c w
   obtain⟨b,hb⟩:=zN (ax c);rw[hb]at iU eH HS2 HL2;clear hrd hbl hg hc hb
   cases b with
   | true =>
    have hkl:k<s.size:=HL2.o (by trivial);have HN:Hd (toR ax s.data.toList (k+1)=J):=(eH.o (by trivial)).symm.trans fP.o;go_wp2_with (first|(go_at_call 104;refine C1.o.mono ?_;rintro e w2 ⟨rfl,hg2⟩;obtain⟨-,d1,-,df⟩:=(dG.o.grow hg2).cells;have df1:=df 1)|(go_at_call 151;refine(iU.o _).mono ?_;rintro e w' ⟨rfl,rfl⟩));have jW:Hd (Rd (w'.setCell ⟨R,1,none⟩ (.int .i64 ((k:Int)+1))) R s (k+1) T):=(dG.o.grow hg2).set (k+1);refine⟨⟨k+1,jW.o,by omega,HN.o,aV (aF HG.o hg2) 1 _⟩,?_⟩;rw[gI.o,jW.o.cells.2.1];simp;omega
   | false =>
    have xk:Hd (k=J):=(HS2.o (by trivial)).symm.trans fP.o;go_wp2_with (first|(go_at_call 104;refine C1.o.mono ?_;rintro e w2 ⟨rfl,hg2⟩)|(go_at_call 151;refine(iU.o _).mono ?_;rintro e w' ⟨rfl,rfl⟩));have HR2:Hd (Rd w' R s J T):=by rw[<-xk.o];exact dG.o.grow hg2
    have HG2:Hd (w.grownBy w' (some R)):=aF HG.o hg2;obtain⟨d0,d1,-,-⟩:=HR2.o.cells;have dte:=lH.o _ HG2.o;have dra:=AB.o _ HG2.o;clear hg2
    by_cases hJa:J=a
    ·have hbe:X.toList.isEmpty=true:=by
      have:X.toList.length=0:=by rw[Qr];omega
      rw[List.isEmpty_iff];exact List.length_eq_zero_iff.1 this
     have aB:Hd (G=.error (2,J)):=by
      show _=_;rw[rM.o,if_pos (Or.inl hJa),hJa]
     have uT:Hd (∀n,Calls prog 156 #[.pointer (some ⟨R,0,none⟩)] (w'.drewN n) fun e w''=>(∃v,e=.returned v/\aS w'' v E 2 J)/\(w'.drewN n).grownBy w'' none):=fun n=>CH.o J _ (au HG2.o n) HR2.o
     clear hJa;go_quiet (fail);go_wp2_with (go_at_call 156;refine(uT.o _).mono ?_;rintro e w3 ⟨⟨v,rfl,hv⟩,hg3⟩);refine bodyPost_ret (results_tmp2 (t:=2) (u:=3) rfl _ _ _) rfl ?_;rw[aB.o];exact⟨fun n j hh=>(by cases hh),fun c p hh=>(by cases hh;exact⟨v,rfl,hv,J,Rd.grow (w:=World.drewN w' _) HR2.o hg3⟩),aF (au HG2.o _) hg3⟩
    ·have hbe:X.toList.isEmpty=false:=by
      rw[Bool.eq_false_iff];intro hh;rw[List.isEmpty_iff]at hh;have:X.toList.length=0:=by rw[hh];rfl
      rw[Qr]at this;omega
     have hX0:0<X.size:=by omega
     have hz0:=HX0.o hX0;have YJ:a<J:=by omega
     by_cases hzz:z=48/\1<J-a
     ·have aB:Hd (G=.error (2,a)):=by
       show _=_;rw[rM.o,if_pos (Or.inr ⟨hzz.2,hzz.1⟩)]
      have hq1:(z == 48)=true:=by simp[hzz.1]
      have hq2:(1:Int)<(X.size:Int):=by omega
      clear hJa hzz;go_quiet (fail);go_wp2_with (go_at_call 195;refine(Qs.o _ _).mono ?_;rintro e w3 ⟨⟨v,rfl,hv⟩,hg3⟩);refine bodyPost_ret (results_tmp2 (t:=2) (u:=3) rfl _ _ _) rfl ?_;rw[aB.o];exact⟨fun n j hh=>(by cases hh),fun c p hh=>(by cases hh;exact⟨v,rfl,hv,J,Rd.grow (w:=World.drewN w' _) HR2.o hg3⟩),aF (au HG2.o _) hg3⟩
     ·have aO:Hd (G=if 18<J-a then .error (3,p) else .ok (val,J)):=by
       show _=_;rw[rM.o,if_neg (by rintro(h|h);exact hJa h;exact hzz ⟨h.2,h.1⟩)]
      have hcase:((z == 48)=true/\(X.size:Int)<=1)\/(z == 48)=false:=by
       by_cases h:z=48
       ·exact Or.inl ⟨by simp[h],by omega⟩
       ·exact Or.inr (by simp[h])
      clear hzz hJa
      by_cases h18:18<J-a
      ·have aB:Hd (G=.error (3,p)):=by show _=_;rw[aO.o,if_pos h18]
       have hq2:(18:Int)<(X.size:Int):=by omega
       clear h18;go_quiet (fail)
       rcases hcase with⟨hq,hq3⟩|hq
       ·exfalso;omega
       ·go_wp2_with (go_at_call 195;refine(Qu.o _ _).mono ?_;rintro e w3 ⟨⟨v,rfl,hv⟩,hg3⟩);refine bodyPost_ret (results_tmp2 (t:=2) (u:=3) rfl _ _ _) rfl ?_;rw[aB.o];exact⟨fun n j hh=>(by cases hh),fun c p hh=>(by cases hh;exact⟨v,rfl,hv,J,Rd.grow (w:=World.drewN w' _) HR2.o hg3⟩),aF (au HG2.o _) hg3⟩
      ·have aB:Hd (G=.ok (val,J)):=by show _=_;rw[aO.o,if_neg h18]
       have hq2:(X.size:Int)<=18:=by omega
       have yJ:Hd (∀w,Calls prog 218 #[.string Y] w fun e w'=>e=.returned (.tuple #[.int .i64 val,.nilIface])/\w.grownBy w' none):=CA.o YJ (by omega);clear h18;go_quiet (fail)
       rcases hcase with⟨hq,hq3⟩|hq
       all_goals (
        go_wp2
        go_region_held3 (fun u=>u.cell? ⟨R,0,none⟩=some (.string s)/\u.cell? ⟨R,1,none⟩=some (.int .i64 (J:Int))) ((first|exact⟨World.grownBy.cell (by assumption) (And.left (by assumption)) (by simp),World.grownBy.cell (by assumption) (And.right (by assumption)) (by simp)⟩|go_keep)) (first|(go_at_call 218;refine(yJ.o _).mono ?_;rintro e w6 ⟨rfl,eu⟩))
        have nC:w'.grownBy w6 none:=⟨eu.os,eu.tape,eu.output,eu.size,eu.block⟩;have nD:Hd (Rd w6 R s J T):=HR2.o.grow nC;have lK:Hd (w.grownBy w6 (some R)):=aF HG2.o nC;clear eu nC;go_wp2;refine bodyPost_ret (results_tmp2 (t:=2) (u:=3) rfl _ _ _) rfl ?_;rw[aB.o];exact⟨fun n j hh=>(by cases hh;exact⟨rfl,nD.o⟩),fun c p hh=>(by cases hh),lK.o⟩))
open Go.RowKit
structure G2(b v:Nat)(w w':World):Prop where
 os:w'.os=w.os
 tape:w'.tape=w.tape
 output:w'.output=w.output
 size:w.heap.size<=w'.heap.size
 block:∀k,k<w.heap.size->k≠b->k≠v->w'.heap[k]?=w.heap[k]?
theorem G2.refl(b v:Nat)(w:World):G2 b v w w:=⟨rfl,rfl,rfl,Nat.le_refl _,fun _ _ _ _=>rfl⟩
theorem G2.step{b v:Nat}{w w1 w2:World}(h:G2 b v w w1)(hg:w1.grownBy w2 (some b)):G2 b v w w2 :=
 ⟨hg.os.trans h.os,hg.tape.trans h.tape,hg.output.trans h.output,Nat.le_trans h.size hg.size,fun k hk h1 h2=>(hg.block k (Nat.lt_of_lt_of_le hk h.size) (by simpa using h1)).trans (h.block k hk h1 h2)⟩
theorem G2.drew{b v:Nat}{w w1:World}(h:G2 b v w w1)(n:Nat):G2 b v w (w1.drewN n):=⟨h.os,h.tape,h.output,h.size,h.block⟩
theorem G2.set{b v:Nat}{w w1:World}(h:G2 b v w w1)(o:Nat)(x:Value):G2 b v w (w1.setCell ⟨v,o,none⟩ x) :=
 ⟨h.os,h.tape,h.output,by simpa [World.setCell] using h.size,fun k hk h1 h2=>by rw[<-h.block k hk h1 h2];exact heap_setCell_other w1 _ k x (fun e=>h2 e)⟩
def VB(v:Nat)(x1 x2 x3:Int)(w:World):Prop:=w.heap[v]?=some (.cells #[.int .i64 x1,.int .i64 x2,.int .i64 x3,.string ⟨#[]⟩,.string ⟨#[]⟩] 147 (0,0))
theorem VB.cell{v:Nat}{x1 x2 x3:Int}{w:World}(h:VB v x1 x2 x3 w):w.cell? ⟨v,0,none⟩=some (.int .i64 x1)/\w.cell? ⟨v,1,none⟩=some (.int .i64 x2)/\w.cell? ⟨v,2,none⟩=some (.int .i64 x3) :=
 ⟨by rw[af h];rfl,by rw[af h];rfl,by rw[af h];rfl⟩
theorem VB.f{v:Nat}{x1 x2 x3:Int}{w:World}(h:VB v x1 x2 x3 w)(o:Nat):w.frozen? ⟨v,o,none⟩=false:=Lib.frozen_of_heap h o
theorem VB.grow{b v:Nat}{x1 x2 x3:Int}{w w':World}(h:VB v x1 x2 x3 w)(hg:w.grownBy w' (some b))(hn:v≠b):VB v x1 x2 x3 w':=by
 unfold VB at h ⊢;rw[hg.block v ((kG h)) (by simpa using hn)];exact h
theorem VB.drew{v:Nat}{x1 x2 x3:Int}{w:World}(h:VB v x1 x2 x3 w)(n:Nat):VB v x1 x2 x3 (w.drewN n):=h
theorem VB.set0{v:Nat}{x1 x2 x3:Int}{w:World}(h:VB v x1 x2 x3 w)(y:Int):VB v y x2 x3 (w.setCell ⟨v,0,none⟩ (.int .i64 y)):=by
 unfold VB at h ⊢;simp[World.setCell,Array.getElem?_modify,h]
theorem VB.set1{v:Nat}{x1 x2 x3:Int}{w:World}(h:VB v x1 x2 x3 w)(y:Int):VB v x1 y x3 (w.setCell ⟨v,1,none⟩ (.int .i64 y)):=by
 unfold VB at h ⊢;simp[World.setCell,Array.getElem?_modify,h]
theorem VB.set2{v:Nat}{x1 x2 x3:Int}{w:World}(h:VB v x1 x2 x3 w)(y:Int):VB v x1 x2 y (w.setCell ⟨v,2,none⟩ (.int .i64 y)):=by
 unfold VB at h ⊢;simp[World.setCell,Array.getElem?_modify,h]
theorem RS.other{b v:Nat}{s:ByteArray}{i:Nat}{w:World}(h:RS b s i w)(hn:b≠v)(o:Nat)(x:Value):RS b s i (w.setCell ⟨v,o,none⟩ x):=by
 obtain⟨t,h⟩:=h;exact⟨t,by rw[<-h];exact heap_setCell_other w _ b x hn⟩
def xB(l:List UInt8)(j:Nat)(x1 x2 x3:Int):Int × Nat × Int × Int × Int:=(0,j,x1,x2,x3)
def qC(l:List UInt8)(j:Nat)(x1 x2:Int):Int × Nat × Int × Int × Int :=
 if l[j]?=some 46 then(if(rdNum l (j+1)).1=0 then xB l (rdNum l (j+1)).2.2 x1 x2 (rdNum l (j+1)).2.1 else((rdNum l (j+1)).1,(rdNum l (j+1)).2.2,0,0,0)) else(2,j,0,0,0)
def o7(l:List UInt8)(j:Nat)(x1:Int):Int × Nat × Int × Int × Int :=
 if l[j]?=some 46 then(if(rdNum l (j+1)).1=0 then qC l (rdNum l (j+1)).2.2 x1 (rdNum l (j+1)).2.1 else((rdNum l (j+1)).1,(rdNum l (j+1)).2.2,0,0,0)) else(2,j,0,0,0)
theorem QE(l:List UInt8):bQ l=if(rdNum l 0).1=0 then o7 l (rdNum l 0).2.2 (rdNum l 0).2.1 else((rdNum l 0).1,(rdNum l 0).2.2,0,0,0):=rfl
theorem YK(l:List UInt8)(i:Nat)(hi:i<=l.length):(rdNum l i).2.2<=l.length:=by
 have:=rD aI l i hi;unfold rdNum
 repeat' split
 all_goals first|exact hi|(simp only;omega)
theorem YL(v:Nat)(w:World):(Instr.index 275 (.agg #[.pointer (some ⟨v,0,none⟩),.pointer (some ⟨v,1,none⟩),.pointer (some ⟨v,2,none⟩)]) (.int .i64 0)).run prog w=.ok (.pointer (some ⟨v,0,none⟩)) w:=by kernel_rfl
theorem YM(v:Nat)(w:World):(Instr.index 275 (.agg #[.pointer (some ⟨v,0,none⟩),.pointer (some ⟨v,1,none⟩),.pointer (some ⟨v,2,none⟩)]) (.int .i64 1)).run prog w=.ok (.pointer (some ⟨v,1,none⟩)) w:=by kernel_rfl
theorem YN(v:Nat)(w:World):(Instr.index 275 (.agg #[.pointer (some ⟨v,0,none⟩),.pointer (some ⟨v,1,none⟩),.pointer (some ⟨v,2,none⟩)]) (.int .i64 2)).run prog w=.ok (.pointer (some ⟨v,2,none⟩)) w:=by kernel_rfl
theorem YO(b v:Nat)(s:ByteArray)(w:World)(h:RS b s 0 w)(hv:VB v 0 0 0 w)(hbv:b≠v)(hs:s.size<2 ^ 62) :
  Calls prog 167 #[.pointer (some ⟨b,0,none⟩),.pointer (some ⟨v,0,none⟩)] w fun e w'=>e=.returned (.int .i64 (bQ s.data.toList).1)/\RS b s (bQ s.data.toList).2.1 w'/\(∃y1 y2 y3,VB v y1 y2 y3 w'/\((bQ s.data.toList).1=0->(y1,y2,y3)=(bQ s.data.toList).2.2))/\G2 b v w w':=by
 obtain⟨l,hl⟩:∃l,l=s.data.toList:=⟨_,rfl⟩;have hll:l.length=s.size:=by rw[hl];simp
 have jZ:Hd (l.length=s.size):=hll;obtain⟨R,hR⟩:=zN (bQ l);rw[<-hl,hR];have Jr:=QE l;rw[hR]at Jr;have HR:Hd (R=if(rdNum l 0).1=0 then o7 l (rdNum l 0).2.2 (rdNum l 0).2.1 else((rdNum l 0).1,(rdNum l 0).2.2,0,0,0)):=Jr;have CN:Hd (∀i w,i<=s.size->RS b s i w->Calls prog 206 #[.pointer (some ⟨b,0,none⟩)] w fun e w'=>e=.returned (.tuple #[.int .i64 (rdNum l i).2.1,.int .i64 (rdNum l i).1])/\RS b s (rdNum l i).2.2 w'/\w.grownBy w' (some b)):=fun i w hi h=>by rw[hl];exact YE b s i w hi h hs
 have TY:Hd (∀i w,l[i]?=some 46->RS b s i w->Calls prog 205 #[.pointer (some ⟨b,0,none⟩),.string ⟨#[46]⟩] w fun e w'=>e=.returned (.bool true)/\RS b s (i+1) w'/\w.grownBy w' (some b)):=fun i w hc h=>Am b s i 46 w (by rw[<-hl];exact hc) h hs
 have TN:Hd (∀i w,i<=s.size->¬l[i]?=some 46->RS b s i w->Calls prog 205 #[.pointer (some ⟨b,0,none⟩),.string ⟨#[46]⟩] w fun e w'=>e=.returned (.bool false)/\RS b s i w'/\w.grownBy w' (some b)):=fun i w hi hc h=>Ap b s i 46 w hi (by rw[<-hl];exact hc) h hs
 have HI:Hd (RS b s 0 w/\VB v 0 0 0 w):=⟨h,hv⟩;have dw:Hd (b≠v):=hbv;have Js:Hd (∀i,i<=s.size->(rdNum l i).2.2<=s.size):=fun i hi=>by have:=YK l i (by rw[hll];exact hi);rw[hll]at this;exact this
 clear hl hll hR Jr h hv hbv hs;go_enter func167,ntmps167;go_wp2;go_quiet (fail);go_wp2;go_loopw [18] (fun vi wr=>∃(k j:Nat) (x1 x2 x3:Int),vi=.int .i64 k/\j<=s.size/\RS b s j wr/\VB v x1 x2 x3 wr/\G2 b v w wr/\((k=0/\j=0/\x2=0/\x3=0)\/(k=1/\R=o7 l j x1/\x3=0)\/(k=2/\R=qC l j x1 x2)\/(k=3/\R=xB l j x1 x2 x3))) (fun vi _=>3-(intOf vi).toNat)
 case atStart=>exact⟨0,0,0,0,0,rfl,Nat.zero_le _,HI.o.1.drew _,HI.o.2.drew _,(G2.refl b v w).drew _,Or.inl ⟨rfl,rfl,rfl,rfl⟩⟩
 case round =>
  obtain⟨k,j,x1,x2,x3,rfl,hj,hrs,hvb,hg2,hcase⟩:=hrel;have HJ:Hd (j<=s.size):=hj;have dD:Hd (RS b s j wr):=hrs;have yK:Hd (VB v x1 x2 x3 wr):=hvb;have HG:Hd (G2 b v w wr):=hg2;clear hj hrs hvb hg2
  rcases hcase with⟨rfl,rfl,hx2,hx3⟩|⟨rfl,hrk,hx3⟩|⟨rfl,hrk⟩|⟨rfl,hrk⟩
  ·have ix:=YL v wr;have QF:Hd (x3=0):=hx3;have HRk:Hd (R=if(rdNum l 0).1=0 then o7 l (rdNum l 0).2.2 (rdNum l 0).2.1 else((rdNum l 0).1,(rdNum l 0).2.2,0,0,0)):=HR.o;have o8:Hd (0<=s.size):=HJ.o;have AC:Hd (RS b s 0 wr):=dD.o;have AL:Hd (VB v x1 x2 x3 wr):=yK.o;have AO:Hd (G2 b v w wr):=HG.o;clear hx2 hx3 HR;have vC:Hd (Calls prog 206 #[.pointer (some ⟨b,0,none⟩)] wr fun e w'=>e=.returned (.tuple #[.int .i64 (rdNum l (0)).2.1,.int .i64 (rdNum l (0)).1])/\RS b s (rdNum l (0)).2.2 w'/\wr.grownBy w' (some b)):=CN.o (0) wr o8.o AC.o;have vF:Hd ((rdNum l (0)).2.2<=s.size):=Js.o (0) o8.o;obtain⟨E,hE⟩:=zN ((rdNum l (0)).1);obtain⟨V,hV⟩:=zN ((rdNum l (0)).2.1);obtain⟨Q,hQ⟩:=zN ((rdNum l (0)).2.2);rw[hE,hV,hQ]at vC;rw[hQ]at vF;rw[hE,hV,hQ]at HRk;clear hE hV hQ;go_wp2_with (go_at_call 206;refine vC.o.mono ?_)
   rintro e wq ⟨rfl,hrq,hgq⟩;have nG:Hd (VB v x1 x2 x3 wq):=AL.o.grow hgq (Ne.symm dw.o);have vG:Hd (G2 b v w wq):=AO.o.step hgq;have vH:Hd (RS b s Q wq):=hrq;clear hrq hgq;have cc:=nG.o.cell.1;have ff:=nG.o.f 0
   cases hz:(E == 0) with
   | false =>
    have HZ:Hd (R=(E,Q,0,0,0)):=by show R=_;rw[HRk.o,if_neg (by simpa using hz)]
    go_wp2;go_ret;refine⟨dB (by rw[HZ.o]),by rw[HZ.o];exact vH.o.other dw.o _ _,⟨_,_,_,nG.o.set0 _,fun hh=>?_⟩,vG.o.set _ _⟩;rw[HZ.o]at hh;exact absurd hh (by simpa using hz)
   | true =>
    have HZ:Hd (R=o7 l Q V):=by show R=_;rw[HRk.o,if_pos (by simpa using hz)]
    go_wp2;go_roundw
    case rel=>exact⟨1,Q,V,x2,x3,rfl,vF.o,vH.o.other dw.o _ _,nG.o.set0 _,vG.o.set _ _,Or.inr (Or.inl ⟨rfl,HZ.o,QF.o⟩)⟩
    case measure=>simp[intOf]
  ·have ix:=YM v wr;have QF:Hd (x3=0):=hx3;have AP:Hd (R=o7 l j x1):=hrk;clear hrk hx3
   cases hc:decide (l[j]?=some 46) with
   | false =>
    have hc':=of_decide_eq_false hc;have HZ:Hd (R=(2,j,0,0,0)):=by show R=_;rw[AP.o];unfold o7;rw[if_neg hc']
    have CT:Hd (Calls prog 205 #[.pointer (some ⟨b,0,none⟩),.string ⟨#[46]⟩] wr fun e w'=>e=.returned (.bool false)/\RS b s j w'/\wr.grownBy w' (some b)):=TN.o j wr HJ.o hc' dD.o;clear hc hc';go_wp2_with (go_at_call 205;refine CT.o.mono ?_);rintro e wt ⟨rfl,hrt,hgt⟩;have HF:Hd (RS b s j wt/\G2 b v w wt):=⟨hrt,HG.o.step hgt⟩;have Ju:Hd (VB v x1 x2 x3 wt):=yK.o.grow hgt (Ne.symm dw.o);clear hrt hgt;go_wp2;go_ret;refine⟨dB (by rw[HZ.o]),by rw[HZ.o];exact HF.o.1,⟨_,_,_,Ju.o,fun hh=>?_⟩,HF.o.2⟩;rw[HZ.o]at hh;exact absurd hh (by show ¬(2:Int)=0;decide)
   | true =>
    have hc':=of_decide_eq_true hc;have HRk:Hd (R=if(rdNum l (j+1)).1=0 then qC l (rdNum l (j+1)).2.2 x1 (rdNum l (j+1)).2.1 else((rdNum l (j+1)).1,(rdNum l (j+1)).2.2,0,0,0)):=by show R=_;rw[AP.o];unfold o7;rw[if_pos hc']
    have CT:Hd (Calls prog 205 #[.pointer (some ⟨b,0,none⟩),.string ⟨#[46]⟩] wr fun e w'=>e=.returned (.bool true)/\RS b s (j+1) w'/\wr.grownBy w' (some b)):=TY.o j wr hc' dD.o;have o8:Hd (j+1<=s.size):=by have:=(List.getElem?_eq_some_iff.1 hc').1;rw[jZ.o]at this;exact this
    clear hc hc';go_wp2_with (go_at_call 205;refine CT.o.mono ?_);rintro e wt ⟨rfl,hrt,hgt⟩;have AC:Hd (RS b s (j+1) wt):=hrt;have AL:Hd (VB v x1 x2 x3 wt):=yK.o.grow hgt (Ne.symm dw.o);have AO:Hd (G2 b v w wt):=HG.o.step hgt;clear hrt hgt;have vC:Hd (Calls prog 206 #[.pointer (some ⟨b,0,none⟩)] wt fun e w'=>e=.returned (.tuple #[.int .i64 (rdNum l (j+1)).2.1,.int .i64 (rdNum l (j+1)).1])/\RS b s (rdNum l (j+1)).2.2 w'/\wt.grownBy w' (some b)):=CN.o (j+1) wt o8.o AC.o;have vF:Hd ((rdNum l (j+1)).2.2<=s.size):=Js.o (j+1) o8.o;obtain⟨E,hE⟩:=zN ((rdNum l (j+1)).1);obtain⟨V,hV⟩:=zN ((rdNum l (j+1)).2.1);obtain⟨Q,hQ⟩:=zN ((rdNum l (j+1)).2.2);rw[hE,hV,hQ]at vC;rw[hQ]at vF;rw[hE,hV,hQ]at HRk;clear hE hV hQ;go_wp2_with (go_at_call 206;refine vC.o.mono ?_);rintro e wq ⟨rfl,hrq,hgq⟩;have nG:Hd (VB v x1 x2 x3 wq):=AL.o.grow hgq (Ne.symm dw.o)
    have vG:Hd (G2 b v w wq):=AO.o.step hgq;have vH:Hd (RS b s Q wq):=hrq;clear hrq hgq;have cc:=nG.o.cell.2.1;have ff:=nG.o.f 1
    cases hz:(E == 0) with
    | false =>
     have HZ:Hd (R=(E,Q,0,0,0)):=by show R=_;rw[HRk.o,if_neg (by simpa using hz)]
     go_wp2;go_ret;refine⟨dB (by rw[HZ.o]),by rw[HZ.o];exact vH.o.other dw.o _ _,⟨_,_,_,nG.o.set1 _,fun hh=>?_⟩,vG.o.set _ _⟩;rw[HZ.o]at hh;exact absurd hh (by simpa using hz)
    | true =>
     have HZ:Hd (R=qC l Q x1 V):=by show R=_;rw[HRk.o,if_pos (by simpa using hz)]
     go_wp2;go_roundw
     case rel=>exact⟨2,Q,x1,V,x3,rfl,vF.o,vH.o.other dw.o _ _,nG.o.set1 _,vG.o.set _ _,Or.inr (Or.inr (Or.inl ⟨rfl,HZ.o⟩))⟩
     case measure=>simp[intOf]
  ·have ix:=YN v wr;have AP:Hd (R=qC l j x1 x2):=hrk;clear hrk
   cases hc:decide (l[j]?=some 46) with
   | false =>
    have hc':=of_decide_eq_false hc;have HZ:Hd (R=(2,j,0,0,0)):=by show R=_;rw[AP.o];unfold qC;rw[if_neg hc']
    have CT:Hd (Calls prog 205 #[.pointer (some ⟨b,0,none⟩),.string ⟨#[46]⟩] wr fun e w'=>e=.returned (.bool false)/\RS b s j w'/\wr.grownBy w' (some b)):=TN.o j wr HJ.o hc' dD.o;clear hc hc';go_wp2_with (go_at_call 205;refine CT.o.mono ?_);rintro e wt ⟨rfl,hrt,hgt⟩;have HF:Hd (RS b s j wt/\G2 b v w wt):=⟨hrt,HG.o.step hgt⟩;have Ju:Hd (VB v x1 x2 x3 wt):=yK.o.grow hgt (Ne.symm dw.o);clear hrt hgt;go_wp2;go_ret;refine⟨dB (by rw[HZ.o]),by rw[HZ.o];exact HF.o.1,⟨_,_,_,Ju.o,fun hh=>?_⟩,HF.o.2⟩;rw[HZ.o]at hh;exact absurd hh (by show ¬(2:Int)=0;decide)
   | true =>
    have hc':=of_decide_eq_true hc;have HRk:Hd (R=if(rdNum l (j+1)).1=0 then xB l (rdNum l (j+1)).2.2 x1 x2 (rdNum l (j+1)).2.1 else((rdNum l (j+1)).1,(rdNum l (j+1)).2.2,0,0,0)):=by show R=_;rw[AP.o];unfold qC;rw[if_pos hc']
    have CT:Hd (Calls prog 205 #[.pointer (some ⟨b,0,none⟩),.string ⟨#[46]⟩] wr fun e w'=>e=.returned (.bool true)/\RS b s (j+1) w'/\wr.grownBy w' (some b)):=TY.o j wr hc' dD.o;have o8:Hd (j+1<=s.size):=by have:=(List.getElem?_eq_some_iff.1 hc').1;rw[jZ.o]at this;exact this
    clear hc hc';go_wp2_with (go_at_call 205;refine CT.o.mono ?_);rintro e wt ⟨rfl,hrt,hgt⟩;have AC:Hd (RS b s (j+1) wt):=hrt;have AL:Hd (VB v x1 x2 x3 wt):=yK.o.grow hgt (Ne.symm dw.o);have AO:Hd (G2 b v w wt):=HG.o.step hgt;clear hrt hgt;have vC:Hd (Calls prog 206 #[.pointer (some ⟨b,0,none⟩)] wt fun e w'=>e=.returned (.tuple #[.int .i64 (rdNum l (j+1)).2.1,.int .i64 (rdNum l (j+1)).1])/\RS b s (rdNum l (j+1)).2.2 w'/\wt.grownBy w' (some b)):=CN.o (j+1) wt o8.o AC.o;have vF:Hd ((rdNum l (j+1)).2.2<=s.size):=Js.o (j+1) o8.o;obtain⟨E,hE⟩:=zN ((rdNum l (j+1)).1);obtain⟨V,hV⟩:=zN ((rdNum l (j+1)).2.1);obtain⟨Q,hQ⟩:=zN ((rdNum l (j+1)).2.2);rw[hE,hV,hQ]at vC;rw[hQ]at vF;rw[hE,hV,hQ]at HRk;clear hE hV hQ;go_wp2_with (go_at_call 206;refine vC.o.mono ?_);rintro e wq ⟨rfl,hrq,hgq⟩;have nG:Hd (VB v x1 x2 x3 wq):=AL.o.grow hgq (Ne.symm dw.o)
    have vG:Hd (G2 b v w wq):=AO.o.step hgq;have vH:Hd (RS b s Q wq):=hrq;clear hrq hgq;have cc:=nG.o.cell.2.2;have ff:=nG.o.f 2
    cases hz:(E == 0) with
    | false =>
     have HZ:Hd (R=(E,Q,0,0,0)):=by show R=_;rw[HRk.o,if_neg (by simpa using hz)]
     go_wp2;go_ret;refine⟨dB (by rw[HZ.o]),by rw[HZ.o];exact vH.o.other dw.o _ _,⟨_,_,_,nG.o.set2 _,fun hh=>?_⟩,vG.o.set _ _⟩;rw[HZ.o]at hh;exact absurd hh (by simpa using hz)
    | true =>
     have HZ:Hd (R=xB l Q x1 x2 V):=by show R=_;rw[HRk.o,if_pos (by simpa using hz)]
     go_wp2;go_roundw
     case rel=>exact⟨3,Q,x1,x2,V,rfl,vF.o,vH.o.other dw.o _ _,nG.o.set2 _,vG.o.set _ _,Or.inr (Or.inr (Or.inr ⟨rfl,HZ.o⟩))⟩
     case measure=>simp[intOf]
  ·have HZ:Hd (R=(0,j,x1,x2,x3)):=hrk;clear hrk;go_wp2;go_ret;refine⟨dB (by rw[HZ.o]),by rw[HZ.o];exact dD.o,⟨_,_,_,yK.o,fun _=>by rw[HZ.o]⟩,HG.o⟩
open Go.RowKit Go.Shelf
def ik(st:Bool)(l:List UInt8)(i:Nat):List UInt8:=if(aH st l i).1=0 then ag l i ((aH st l i).2-i) else[]
theorem YP(b:Nat)(s:ByteArray)(i:Nat)(w:World)(hi:i<=s.size)(h:RS b s i w)(hs:s.size<=281474976710656) :
  Calls prog 207 #[.pointer (some ⟨b,0,none⟩),.int .i64 0] w fun e w'=>e=.returned (.tuple #[.string ⟨(ik true s.data.toList i).toArray⟩,.int .i64 (aH true s.data.toList i).1])/\RS b s (aH true s.data.toList i).2 w'/\w.grownBy w' (some b):=by
 have hsl:s.data.toList.length=s.size:=by simp
 have CS:Hd (Calls prog 226 #[.pointer (some ⟨b,0,none⟩),.int .i64 0] w fun e w'=>e=.returned (.int .i64 (aH true s.data.toList i).1)/\RS b s (aH true s.data.toList i).2 w'/\w.grownBy w' (some b)):=XW b s i w hi h (by omega);have d1:=h.c1;have hpt:=IL true s.data.toList _ i rfl (by rw[hsl];exact hi);obtain⟨P,hP⟩:∃P,P=ik true s.data.toList i:=⟨_,rfl⟩;unfold ik at hP;have hP0:ik true s.data.toList i=P:=hP.symm;rw[hP0];obtain⟨E,Q,jl⟩:∃E Q,aH true s.data.toList i=(E,Q):=⟨_,_,rfl⟩;rw[jl]at CS hpt hP;rw[jl];simp only at hpt hP;have HP:Hd (P=if E=0 then ag s.data.toList i (Q-i) else[]):=hP;have mi:Hd (E=0->i<Q/\Q<=s.size):=fun h=>by have:=hpt h;rw[hsl]at this;exact⟨this.1,this.2.1⟩
 have HS:Hd (s.size<=281474976710656/\s.data.toList.length=s.size):=⟨hs,hsl⟩;clear hP0 jl hpt hP hi h hs hsl
 cases hz:(E == 0) with
 | false =>
  have HZ:Hd (P=[]):=by show P=[];rw[HP.o,if_neg (by simpa using hz)]
  go_enter func207,ntmps207;go_wp2_with (go_at_call 226;refine CS.o.mono ?_);rintro e w1 rfl hr1 hg1;have HF:Hd (RS b s Q w1/\w.grownBy w1 (some b)):=⟨hr1,hg1⟩;clear hr1 hg1;go_wp2;refine bodyPost_ret (results_tmp2 rfl _ _ _) rfl ⟨?_,HF.o.1,HF.o.2⟩;rw[HZ.o];rfl
 | true =>
  have hE:E=0:=by simpa using hz
  have hq:=mi.o hE;obtain⟨X,hX⟩:∃X:ByteArray,X=⟨P.toArray⟩:=⟨_,rfl⟩;have oh:P=ag s.data.toList i (Q-i):=by rw[HP.o,if_pos hE]
  have sl:∀wx,(Instr.slice 9 (.string s) (some (.int .i64 (i:Int))) (some (.int .i64 (Q:Int))) none).run prog wx=.ok (.string X) wx:=fun wx=>by rw[hX,oh];exact kS s i Q (by omega) hq.2 wx
  have CC:Hd (∀w,Calls prog 194 #[.string X] w fun e w'=>e=.returned (.string X)/\w.grownBy w' none):=fun w=>clone_any X w (by
   rw[hX];show P.toArray.size<=_;have:=tC s.data.toList i (Q-i) (by have:=HS.o.2;omega);rw[<-oh]at this;have h2:=HS.o.1;simp;omega)
  have HX:Hd (X=⟨P.toArray⟩):=hX;subst hE;clear hX oh hq hz mi;go_enter func207,ntmps207;go_wp2_with (go_at_call 226;refine CS.o.mono ?_);rintro e w1 rfl hr1 hg1;have HR1:Hd (RS b s Q w1):=hr1;have ay:Hd (w.grownBy w1 (some b)):=hg1;have f0:=hr1.c0;have f1:=hr1.c1;clear hr1 hg1;go_wp2
  go_region_held3 (fun w'=>w'.cell? ⟨b,0,none⟩=some (.string s)/\w'.cell? ⟨b,1,none⟩=some (.int .i64 (Q:Int))) ((first|go_keep|(refine⟨?_,?_⟩<;>(refine World.grownBy.cell (by assumption) ?_ (by simp);assumption)))) (first|(go_at_call 194;refine(CC.o _).mono ?_;rintro e w2 ⟨rfl,hg2⟩))
  have HF:Hd (RS b s Q w2/\w.grownBy w2 (some b)):=⟨HR1.o.grow (Ak hg2),ai ay.o (EH (Ak hg2) _)⟩;clear hg2;go_wp2;refine bodyPost_ret (results_tmp2 rfl _ _ _) rfl ⟨?_,HF.o.1,HF.o.2⟩;rw[<-HX.o];rfl
theorem YQ(b:Nat)(s:ByteArray)(i:Nat)(w:World)(hi:i<=s.size)(h:RS b s i w)(hs:s.size<=281474976710656) :
  Calls prog 207 #[.pointer (some ⟨b,0,none⟩),.int .i64 1] w fun e w'=>e=.returned (.tuple #[.string ⟨(ik false s.data.toList i).toArray⟩,.int .i64 (aH false s.data.toList i).1])/\RS b s (aH false s.data.toList i).2 w'/\w.grownBy w' (some b):=by
 have hsl:s.data.toList.length=s.size:=by simp
 have CS:Hd (Calls prog 226 #[.pointer (some ⟨b,0,none⟩),.int .i64 1] w fun e w'=>e=.returned (.int .i64 (aH false s.data.toList i).1)/\RS b s (aH false s.data.toList i).2 w'/\w.grownBy w' (some b)):=XY b s i w hi h (by omega);have d1:=h.c1;have hpt:=IL false s.data.toList _ i rfl (by rw[hsl];exact hi);obtain⟨P,hP⟩:∃P,P=ik false s.data.toList i:=⟨_,rfl⟩;unfold ik at hP;have hP0:ik false s.data.toList i=P:=hP.symm;rw[hP0];obtain⟨E,Q,jl⟩:∃E Q,aH false s.data.toList i=(E,Q):=⟨_,_,rfl⟩;rw[jl]at CS hpt hP;rw[jl];simp only at hpt hP;have HP:Hd (P=if E=0 then ag s.data.toList i (Q-i) else[]):=hP;have mi:Hd (E=0->i<Q/\Q<=s.size):=fun h=>by have:=hpt h;rw[hsl]at this;exact⟨this.1,this.2.1⟩
 have HS:Hd (s.size<=281474976710656/\s.data.toList.length=s.size):=⟨hs,hsl⟩;clear hP0 jl hpt hP hi h hs hsl
 cases hz:(E == 0) with
 | false =>
  have HZ:Hd (P=[]):=by show P=[];rw[HP.o,if_neg (by simpa using hz)]
  go_enter func207,ntmps207;go_wp2_with (go_at_call 226;refine CS.o.mono ?_);rintro e w1 rfl hr1 hg1;have HF:Hd (RS b s Q w1/\w.grownBy w1 (some b)):=⟨hr1,hg1⟩;clear hr1 hg1;go_wp2;refine bodyPost_ret (results_tmp2 rfl _ _ _) rfl ⟨?_,HF.o.1,HF.o.2⟩;rw[HZ.o];rfl
 | true =>
  have hE:E=0:=by simpa using hz
  have hq:=mi.o hE;obtain⟨X,hX⟩:∃X:ByteArray,X=⟨P.toArray⟩:=⟨_,rfl⟩;have oh:P=ag s.data.toList i (Q-i):=by rw[HP.o,if_pos hE]
  have sl:∀wx,(Instr.slice 9 (.string s) (some (.int .i64 (i:Int))) (some (.int .i64 (Q:Int))) none).run prog wx=.ok (.string X) wx:=fun wx=>by rw[hX,oh];exact kS s i Q (by omega) hq.2 wx
  have CC:Hd (∀w,Calls prog 194 #[.string X] w fun e w'=>e=.returned (.string X)/\w.grownBy w' none):=fun w=>clone_any X w (by
   rw[hX];show P.toArray.size<=_;have:=tC s.data.toList i (Q-i) (by have:=HS.o.2;omega);rw[<-oh]at this;have h2:=HS.o.1;simp;omega)
  have HX:Hd (X=⟨P.toArray⟩):=hX;subst hE;clear hX oh hq hz mi;go_enter func207,ntmps207;go_wp2_with (go_at_call 226;refine CS.o.mono ?_);rintro e w1 rfl hr1 hg1;have HR1:Hd (RS b s Q w1):=hr1;have ay:Hd (w.grownBy w1 (some b)):=hg1;have f0:=hr1.c0;have f1:=hr1.c1;clear hr1 hg1;go_wp2
  go_region_held3 (fun w'=>w'.cell? ⟨b,0,none⟩=some (.string s)/\w'.cell? ⟨b,1,none⟩=some (.int .i64 (Q:Int))) ((first|go_keep|(refine⟨?_,?_⟩<;>(refine World.grownBy.cell (by assumption) ?_ (by simp);assumption)))) (first|(go_at_call 194;refine(CC.o _).mono ?_;rintro e w2 ⟨rfl,hg2⟩))
  have HF:Hd (RS b s Q w2/\w.grownBy w2 (some b)):=⟨HR1.o.grow (Ak hg2),ai ay.o (EH (Ak hg2) _)⟩;clear hg2;go_wp2;refine bodyPost_ret (results_tmp2 rfl _ _ _) rfl ⟨?_,HF.o.1,HF.o.2⟩;rw[<-HX.o];rfl
end Go.Proofs.YtnnbgjaphfhibaaGreatDoor
