import Derived.Test.YtnnbgjaphfhibaaGreatDoorM06
import Derived.Lib.DecodeNEq
import Derived.Shelf.Small.Strs
import Derived.Test.YtnnbgjaphfhibaaGreatDoorProg
import Derived.Test.YtnnbgjaphfhibaaGreatDoorM09
import Derived.Shelf.Unicode.DecodeAny
import Derived.Shelf.Strings.BuilderRune
import Derived.Shelf.Strings.BuilderF
set_option linter.unusedVariables false
set_option linter.unusedSimpArgs false
set_option maxRecDepth 100000
set_option maxHeartbeats 6400000
open Go.Proofs.Tryz
namespace Go.Proofs.YtnnbgjaphfhibaaGreatDoor
def vU(c x1 x2 x3:Int):Nat :=
 if c<0 then 0
 else if c<128 then 1
 else if c<194\/244<c then 0
 else if decide ((if c=224 then 160 else if c=240 then 144 else 128)<=x1/\x1<=(if c=237 then 159 else if c=244 then 143 else 191))=false then 0
 else if c<224 then 2
 else if decide (128<=x2/\x2<=191)=false then 0
 else if c<240 then 3
 else if decide (128<=x3/\x3<=191)=false then 0
 else 4
theorem Zx(l:List UInt8)(i:Nat):aJ l i=vU (nx l i) (nx l (i+1)) (nx l (i+2)) (nx l (i+3)):=rfl
theorem Zy(b0:Nat)(x1 x2 x3:Int)(h:b0<128):vU (b0:Int) x1 x2 x3=1:=by
 unfold vU;rw[if_neg (by omega),if_pos (by omega)]
theorem Zz(b0:Nat)(x1 x2 x3:Int)(h:128<=b0)(h2:b0<194\/244<b0):vU (b0:Int) x1 x2 x3=0:=by
 unfold vU;rw[if_neg (by omega),if_neg (by omega),if_pos (by omega)]
theorem xR(b0:Nat)(x1 x2 x3:Int)(lo hi:Int)(h:194<=b0/\b0<=244)(hlo:(if(b0:Int)=224 then 160 else if(b0:Int)=240 then 144 else 128)=lo)(hhi:(if(b0:Int)=237 then 159 else if(b0:Int)=244 then 143 else 191)=hi) :
  vU (b0:Int) x1 x2 x3=if lo<=x1/\x1<=hi then(if b0<224 then 2 else if 128<=x2/\x2<=191 then(if b0<240 then 3 else if 128<=x3/\x3<=191 then 4 else 0) else 0) else 0:=by
 unfold vU;rw[if_neg (by omega),if_neg (by omega),if_neg (by omega),hlo,hhi]
 by_cases h1:lo<=x1/\x1<=hi
 ·rw[if_neg (by simp[h1]),if_pos h1]
  by_cases h2:b0<224
  ·rw[if_pos (by omega),if_pos h2]
  ·rw[if_neg (by omega),if_neg h2]
   by_cases h3:128<=x2/\x2<=191
   ·rw[if_neg (by simp[h3]),if_pos h3]
    by_cases h4:b0<240
    ·rw[if_pos (by omega),if_pos h4]
    ·rw[if_neg (by omega),if_neg h4]
     by_cases h5:128<=x3/\x3<=191
     ·rw[if_neg (by simp[h5]),if_pos h5]
     ·rw[if_pos (by simpa using h5),if_neg h5]
   ·rw[if_pos (by simpa using h3),if_neg h3]
 ·rw[if_pos (by simpa using h1),if_neg h1]
def Told(S:Nat)(q:Nat × Nat):Prop:=(S=0->q=(65533,1))/\(0<S->q.2=S/\¬(q.1=65533/\q.2=1))
theorem ZA(n b0 b1 b2 b3 sz lo hi:Nat)(hsz:sz=2\/sz=3\/sz=4)(h:n<sz\/(b1<lo\/hi<b1)\/(3<=sz/\(b2<128\/191<b2))\/(4<=sz/\(b3<128\/191<b3))):Lib.slowN n b0 b1 b2 b3 sz lo hi=(65533,1):=by
 unfold Lib.slowN
 by_cases a1:n<sz
 ·rw[if_pos a1]
 rw[if_neg a1]
 by_cases a2:b1<lo\/hi<b1
 ·rw[if_pos a2]
 rw[if_neg a2,if_neg (show ¬sz<=2 by omega)]
 by_cases a3:b2<128\/191<b2
 ·rw[if_pos a3]
 rw[if_neg a3,if_neg (show ¬sz<=3 by omega),if_pos (by omega)]
theorem ZB(n b0 b1 b2 b3 sz lo hi:Nat)(hsz:sz=2\/sz=3\/sz=4)(h:¬(n<sz\/(b1<lo\/hi<b1)\/(3<=sz/\(b2<128\/191<b2))\/(4<=sz/\(b3<128\/191<b3)))):(Lib.slowN n b0 b1 b2 b3 sz lo hi).2=sz:=by
 unfold Lib.slowN;rw[if_neg (by omega),if_neg (by omega)]
 by_cases a2:sz<=2
 ·rw[if_pos a2];show 2=sz;omega
 rw[if_neg a2,if_neg (by omega)]
 by_cases a3:sz<=3
 ·rw[if_pos a3];show 3=sz;omega
 rw[if_neg a3,if_neg (by omega)];show 4=sz;omega
theorem xU(n b0 b1 b2 b3 sz lo hi:Nat)(x1 x2 x3:Int)(hsz:(b0<224/\sz=2)\/(224<=b0/\b0<240/\sz=3)\/(240<=b0/\sz=4))(hlo:128<=lo)(hn:1<=n)
  (e1:x1=if 1<n then(b1:Int) else -1) (e2:x2=if 2<n then(b2:Int) else -1) (e3:x3=if 3<n then(b3:Int) else -1) :
  Told (if(lo:Int)<=x1/\x1<=(hi:Int) then(if b0<224 then 2 else if 128<=x2/\x2<=191 then(if b0<240 then 3 else if 128<=x3/\x3<=191 then 4 else 0) else 0) else 0) (Lib.slowN n b0 b1 b2 b3 sz lo hi):=by
 have f1:(1<n/\x1=b1)\/(n<=1/\x1=-1):=by
  by_cases a:1<n
  ·rw[if_pos a]at e1;exact Or.inl ⟨a,e1⟩
  ·rw[if_neg a]at e1;exact Or.inr ⟨by omega,e1⟩
 have f2:(2<n/\x2=b2)\/(n<=2/\x2=-1):=by
  by_cases a:2<n
  ·rw[if_pos a]at e2;exact Or.inl ⟨a,e2⟩
  ·rw[if_neg a]at e2;exact Or.inr ⟨by omega,e2⟩
 have f3:(3<n/\x3=b3)\/(n<=3/\x3=-1):=by
  by_cases a:3<n
  ·rw[if_pos a]at e3;exact Or.inl ⟨a,e3⟩
  ·rw[if_neg a]at e3;exact Or.inr ⟨by omega,e3⟩
 clear e1 e2 e3
 by_cases hb:n<sz\/(b1<lo\/hi<b1)\/(3<=sz/\(b2<128\/191<b2))\/(4<=sz/\(b3<128\/191<b3))
 ·rw[ZA n b0 b1 b2 b3 sz lo hi (by omega) hb];refine⟨fun _=>rfl,fun hp=>?_⟩;exfalso
  by_cases a1:(lo:Int)<=x1/\x1<=(hi:Int)
  ·rw[if_pos a1]at hp
   by_cases a2:b0<224
   ·omega
   rw[if_neg a2]at hp
   by_cases a3:128<=x2/\x2<=191
   ·rw[if_pos a3]at hp
    by_cases a4:b0<240
    ·omega
    rw[if_neg a4]at hp
    by_cases a5:128<=x3/\x3<=191
    ·omega
    ·rw[if_neg a5]at hp;omega
   ·rw[if_neg a3]at hp;omega
  ·rw[if_neg a1]at hp;omega
 ·have hg:=ZB n b0 b1 b2 b3 sz lo hi (by omega) hb;have hS:(if(lo:Int)<=x1/\x1<=(hi:Int) then(if b0<224 then 2 else if 128<=x2/\x2<=191 then(if b0<240 then 3 else if 128<=x3/\x3<=191 then 4 else 0) else 0) else 0)=sz:=by
   rw[if_pos (by omega)]
   by_cases a2:b0<224
   ·rw[if_pos a2];omega
   rw[if_neg a2,if_pos (by omega)]
   by_cases a4:b0<240
   ·rw[if_pos a4];omega
   rw[if_neg a4,if_pos (by omega)];omega
  rw[hS];exact⟨fun hz=>absurd hz (by omega),fun _=>⟨hg,fun hh=>by omega⟩⟩
theorem ZC(b0:Nat)(h:128<=b0)(h2:b0<194\/244<b0):Lib.firstT b0=241:=by
 unfold Lib.firstT;rw[if_neg (by omega)]
 by_cases a:b0<194
 ·rw[if_pos a]
 ·rw[if_neg a,if_neg (by omega),if_neg (by omega),if_neg (by omega),if_neg (by omega),if_neg (by omega),if_neg (by omega),if_neg (by omega),if_neg (by omega)]
theorem ZE(n b0 b1 b2 b3:Nat)(x1 x2 x3:Int)(hn:1<=n)(h0:b0<256)(h1:b1<256)(h2:b2<256)(h3:b3<256)
  (e1:x1=if 1<n then(b1:Int) else -1) (e2:x2=if 2<n then(b2:Int) else -1) (e3:x3=if 3<n then(b3:Int) else -1) :
  Told (vU (b0:Int) x1 x2 x3) (Lib.decodeN n b0 b1 b2 b3):=by
 by_cases ha:b0<128
 ·rw[Zy b0 x1 x2 x3 ha,Lib.ascii_eq n b0 b1 b2 b3 (by unfold Lib.firstT;rw[if_pos ha])];exact⟨fun h=>(by cases h),fun _=>⟨rfl,fun hh=>by simp at hh;omega⟩⟩
 by_cases hb:b0<194\/244<b0
 ·rw[Zz b0 x1 x2 x3 (by omega) hb,Lib.bad_eq n b0 b1 b2 b3 h0 (ZC b0 (by omega) hb)];exact⟨fun _=>rfl,fun h=>absurd h (by decide)⟩
 have hr:194<=b0/\b0<=244:=by omega
 by_cases c1:b0<224
 ·rw[<-Lib.slow_C2 n b0 b1 b2 b3 hn h1 h2 h3 (by omega),xR b0 x1 x2 x3 128 191 hr (by rw[if_neg (by omega),if_neg (by omega)]) (by rw[if_neg (by omega),if_neg (by omega)])];exact xU n b0 b1 b2 b3 2 128 191 x1 x2 x3 (by omega) (by omega) hn e1 e2 e3
 by_cases c2:b0=224
 ·rw[<-Lib.slow_E0 n b0 b1 b2 b3 hn h1 h2 h3 c2,xR b0 x1 x2 x3 160 191 hr (by rw[if_pos (by omega)]) (by rw[if_neg (by omega),if_neg (by omega)])];exact xU n b0 b1 b2 b3 3 160 191 x1 x2 x3 (by omega) (by omega) hn e1 e2 e3
 by_cases c3:b0=237
 ·rw[<-Lib.slow_ED n b0 b1 b2 b3 hn h1 h2 h3 c3,xR b0 x1 x2 x3 128 159 hr (by rw[if_neg (by omega),if_neg (by omega)]) (by rw[if_pos (by omega)])];exact xU n b0 b1 b2 b3 3 128 159 x1 x2 x3 (by omega) (by omega) hn e1 e2 e3
 by_cases c4:b0<240
 ·rw[<-Lib.slow_E1 n b0 b1 b2 b3 hn h1 h2 h3 (by omega),xR b0 x1 x2 x3 128 191 hr (by rw[if_neg (by omega),if_neg (by omega)]) (by rw[if_neg (by omega),if_neg (by omega)])];exact xU n b0 b1 b2 b3 3 128 191 x1 x2 x3 (by omega) (by omega) hn e1 e2 e3
 by_cases c5:b0=240
 ·rw[<-Lib.slow_F0 n b0 b1 b2 b3 hn h1 h2 h3 c5,xR b0 x1 x2 x3 144 191 hr (by rw[if_neg (by omega),if_pos (by omega)]) (by rw[if_neg (by omega),if_neg (by omega)])];exact xU n b0 b1 b2 b3 4 144 191 x1 x2 x3 (by omega) (by omega) hn e1 e2 e3
 by_cases c6:b0=244
 ·rw[<-Lib.slow_F4 n b0 b1 b2 b3 hn h1 h2 h3 c6,xR b0 x1 x2 x3 128 143 hr (by rw[if_neg (by omega),if_neg (by omega)]) (by rw[if_neg (by omega),if_pos (by omega)])];exact xU n b0 b1 b2 b3 4 128 143 x1 x2 x3 (by omega) (by omega) hn e1 e2 e3
 ·rw[<-Lib.slow_F1 n b0 b1 b2 b3 hn h1 h2 h3 (by omega),xR b0 x1 x2 x3 128 191 hr (by rw[if_neg (by omega),if_neg (by omega)]) (by rw[if_neg (by omega),if_neg (by omega)])];exact xU n b0 b1 b2 b3 4 128 191 x1 x2 x3 (by omega) (by omega) hn e1 e2 e3
end Go.Proofs.YtnnbgjaphfhibaaGreatDoor
namespace Go.Proofs
open Go.Shelf
def Tryz.lays137_ren:Go.Shelf.Ren:=⟨fun|137=>229|217=>239|266=>246|n=>n,fun|22=>244|24=>150|25=>151|27=>87|28=>43|30=>76|32=>153|33=>113|37=>90|40=>300|41=>110|42=>274|46=>157|47=>156|48=>185|49=>338|51=>199|52=>198|53=>201|54=>200|55=>297|67=>120|69=>98|70=>89|71=>91|72=>92|73=>162|74=>93|75=>94|76=>95|77=>96|79=>288|80=>100|81=>164|83=>97|84=>160|85=>306|86=>307|100=>161|101=>49|103=>152|104=>34|105=>289|106=>290|108=>315|111=>165|114=>251|119=>301|126=>298|127=>121|128=>299|131=>80|135=>207|137=>302|138=>303|139=>304|143=>317|144=>318|145=>319|164=>158|165=>159|166=>260|167=>305|168=>308|169=>309|170=>310|171=>202|172=>203|173=>204|174=>205|175=>311|176=>312|182=>192|183=>193|188=>255|189=>256|190=>257|191=>258|192=>259|209=>313|210=>314|211=>252|212=>253|213=>254|214=>316|218=>245|219=>246|220=>247|222=>249|224=>284|225=>285|228=>281|229=>282|231=>295|232=>293|233=>294|238=>320|239=>321|240=>322|241=>323|242=>324|243=>326|244=>174|245=>327|246=>328|247=>329|248=>330|249=>331|n=>n,fun|1=>7|3=>10|4=>11|15=>12|16=>13|17=>5|18=>8|19=>9|n=>n⟩
theorem Tryz.lays137:Go.Proofs.Lays.n137 prog Tryz.lays137_ren:={
 mixed:=by kernel_rfl
 f137:=func229.trans (congrArg some (by kernel_rfl))
 f217:=func239.trans (congrArg some (by kernel_rfl))
 f266:=func246.trans (congrArg some (by kernel_rfl))
 t3:=underlying3
 a3:=isAgg3
 z3:=sizeOf3
 v3:=zeroValue3
 t5:=underlying5
 a5:=isAgg5
 z5:=sizeOf5
 v5:=zeroValue5
 t9:=underlying9
 a9:=isAgg9
 z9:=sizeOf9
 v9:=zeroValue9 }
end Go.Proofs
namespace Go.Proofs.YtnnbgjaphfhibaaGreatDoor
open Go.RowKit Go.Joins
def lZ(x:Int):Option Nat:=if x=98 then some 8 else if x=116 then some 9 else if x=110 then some 10 else if x=102 then some 12 else if x=114 then some 13 else if x=34 then some 34 else if x=92 then some 92 else none
def l7(l:List UInt8)(i:Nat):Rs (Nat × Nat) :=
 if nx l (i+1)=117 then um l (i+2) i
 else match lZ (nx l (i+1)) with
  | some n=>.ok (n,i+2)
  | none=>.error (2,i+1)
def Q8:Rs (Nat × Nat)->Rs (List UInt8 × Nat)
 | .error e=>.error e
 | .ok (n,j)=>.ok (gz n,j)
theorem Ky(l:List UInt8)(i:Nat):esc l i=Q8 (l7 l i):=by
 unfold esc l7
 by_cases h:nx l (i+1)=117
 ·rw[if_pos h,if_pos h];unfold um Ko nO Bq
  cases four l 4 (i+2) 0 with
  | error e=>rfl
  | ok q =>
   obtain⟨n,j⟩:=q;simp only[decide_eq_true_eq]
   by_cases h2:55296<=n/\n<=57343
   ·rw[if_pos h2,if_pos (by omega)];rfl
   ·rw[if_neg h2,if_neg (by omega)];rfl
 ·rw[if_neg h,if_neg h];unfold lZ
  repeat' split
  all_goals first|rfl|(simp_all;done)|(simp_all;subst_vars;rfl)
theorem ZF{a b:Int}{v:Value}(h:a=b):Ending.returned (.tuple #[.int .i32 a,v])=.returned (.tuple #[.int .i32 b,v]):=by rw[h]
theorem ZG(b:UInt8)(h:lZ (b.toNat:Int)=none):Lib.indexByte [98,116,110,102,114,34,92] b=-1:=by
 have key:∀n:Fin 256,lZ ((UInt8.ofNat n.val).toNat:Int)=none->Lib.indexByte [98,116,110,102,114,34,92] (UInt8.ofNat n.val)=-1:=by decide
 have:=key ⟨b.toNat,b.toNat_lt⟩;simp only[UInt8.ofNat_toNat]at this;exact this h
theorem ZH(b:UInt8)(n:Nat)(h:lZ (b.toNat:Int)=some n):(Lib.indexByte [98,116,110,102,114,34,92] b=0/\n=8)\/(Lib.indexByte [98,116,110,102,114,34,92] b=1/\n=9)\/(Lib.indexByte [98,116,110,102,114,34,92] b=2/\n=10)\/(Lib.indexByte [98,116,110,102,114,34,92] b=3/\n=12)\/(Lib.indexByte [98,116,110,102,114,34,92] b=4/\n=13)\/(Lib.indexByte [98,116,110,102,114,34,92] b=5/\n=34)\/(Lib.indexByte [98,116,110,102,114,34,92] b=6/\n=92):=by
 have e:∀k:Nat,(b.toNat:Int)=(k:Int)->b=UInt8.ofNat k:=fun k hk=>by
  have:b.toNat=k:=by omega
  rw[<-this];simp
 unfold lZ at h;split at h
 ·rename_i hb;rw[e 98 hb];cases h;exact Or.inl ⟨by decide,rfl⟩
 split at h
 ·rename_i hb;rw[e 116 hb];cases h;exact Or.inr (Or.inl ⟨by decide,rfl⟩)
 split at h
 ·rename_i hb;rw[e 110 hb];cases h;exact Or.inr (Or.inr (Or.inl ⟨by decide,rfl⟩))
 split at h
 ·rename_i hb;rw[e 102 hb];cases h;exact Or.inr (Or.inr (Or.inr (Or.inl ⟨by decide,rfl⟩)))
 split at h
 ·rename_i hb;rw[e 114 hb];cases h;exact Or.inr (Or.inr (Or.inr (Or.inr (Or.inl ⟨by decide,rfl⟩))))
 split at h
 ·rename_i hb;rw[e 34 hb];cases h;exact Or.inr (Or.inr (Or.inr (Or.inr (Or.inr (Or.inl ⟨by decide,rfl⟩)))))
 split at h
 ·rename_i hb;rw[e 92 hb];cases h;exact Or.inr (Or.inr (Or.inr (Or.inr (Or.inr (Or.inr ⟨by decide,rfl⟩)))))
 ·cases h
theorem ZI(R:Nat)(s:ByteArray)(i T:Nat)(E:Int->TypeId × Value)(w:World)(h:Rd w R s i T)(hi:i<s.size)(hs:s.size<=1048576)(he:Es w E)(hR:Far R) :
  Calls prog 214 #[.pointer (some ⟨R,0,none⟩)] w (yZ R s T E (l7 s.data.toList i) w):=by
 have CN:Hd (∀k w,Rd w R s k T->k<=s.size->Calls prog 104 #[.pointer (some ⟨R,0,none⟩)] w fun e w'=>e=.returned (.int .i64 (nx s.data.toList k))/\w.grownBy w' none):=fun k w h1 h2=>mV R s k T w h1 h2 hs
 have CI:Hd (∀c w,Calls prog 229 #[.string ⟨#[98,116,110,102,114,34,92]⟩,.int .u8 c] w fun e w'=>e=.returned (.int .i64 (Lib.indexByte [98,116,110,102,114,34,92] c.toNat.toUInt8))/\w'=w):=fun c w=>Any.strings_IndexByte Tryz.lays137 ⟨#[98,116,110,102,114,34,92]⟩ c w
 have CU:Hd (∀k w',w.grownBy w' (some R)->Rd w' R s k T->k<=s.size->Calls prog 228 #[.pointer (some ⟨R,0,none⟩),.int .i64 (i:Nat)] w' (yZ R s T E (um s.data.toList k i) w')):=fun k w' hg hr hk=>Y9 R s k T i E w' hr hk hs (he.grow hR hg) hR
 have CH:Hd (∀k w',w.grownBy w' (some R)->Rd w' R s k T->Calls prog 156 #[.pointer (some ⟨R,0,none⟩)] w' fun e w''=>(∃v,e=.returned v/\aV w'' v E 2 k)/\w'.grownBy w'' none):=fun k w' hg hr=>vO R s k T (E 2).1 (E 2).2 w' hr (he.grow hR hg).te
 have hl:s.data.toList.length=s.size:=by simp
 obtain⟨G,hG⟩:=zN (l7 s.data.toList i);have jl:Hd ((if nx s.data.toList (i+1)=117 then um s.data.toList (i+2) i else match lZ (nx s.data.toList (i+1)) with|some n=>.ok (n,i+2)|none=>.error (2,i+1))=G):=hG;rw[hG];have H0:Hd (Rd w R s i T):=h;have HS:Hd (Rd (w.setCell ⟨R,1,none⟩ (.int .i64 ((i:Int)+1))) R s (i+1) T):=h.set (i+1);have fB:Hd (w.grownBy (w.setCell ⟨R,1,none⟩ (.int .i64 ((i:Int)+1))) (some R)):=aQ (ax w (some R)) 1 _;have cZ:Hd (∀k,k<=s.size->¬nx s.data.toList k=-1->k<s.size):=fun k hk hn=>by
  apply Classical.byContradiction;intro hh;exact hn (jG _ _ (by omega))
 have HAT:Hd (∀k (hk:k<s.size),nx s.data.toList k=(s[k].toNat:Int)):=fun k hk=>by
  rw[pG _ _ (by omega)];rfl
 have qM:Hd (lZ (-1)=none):=by show _=_;decide
 obtain⟨-,c1,-,df⟩:=h.cells;have df1:=df 1;clear h hG he df;go_enter func214,ntmps214;obtain⟨m,hm⟩:=zN (i+1);have hm2:i+2=m+1:=by omega
 rw[hm]at HS;rw[hm2,hm]at jl;have hml:m<=s.size:=by omega
 have C1:Hd (∀w,Rd w R s m T->Calls prog 104 #[.pointer (some ⟨R,0,none⟩)] w fun e w'=>e=.returned (.int .i64 (nx s.data.toList m))/\w.grownBy w' none):=fun w h1=>CN.o m w h1 hml
 have xW:=cZ.o m hml;have HA1:Hd (∀hk:m<s.size,nx s.data.toList m=(s[m].toNat:Int)):=HAT.o m;obtain⟨x,hx⟩:=zN (nx s.data.toList m);rw[hx]at C1 xW jl HA1;have HL2:Hd (¬x=-1->m<s.size):=xW;clear hx xW hm hm2;go_wp2_with (go_at_call 104;refine(C1.o _ HS.o).mono ?_);rintro e w2 ⟨rfl,hg2⟩;have HR2:Hd (Rd w2 R s m T):=HS.o.grow hg2;have HG2:Hd (w.grownBy w2 (some R)):=aG fB.o hg2;clear hg2
 by_cases h117:x=117
 ·have hb:(x == 117)=true:=by simp[h117]
  have Q9:m<s.size:=HL2.o (by rw[h117];decide);have aA:Hd (um s.data.toList (m+1) i=G):=by
   have:=jl.o;rw[if_pos h117]at this;exact this
  obtain⟨-,d1,-,df⟩:=HR2.o.cells;have df2:=df 1;have jH:Hd (Rd (w2.setCell ⟨R,1,none⟩ (.int .i64 ((m:Int)+1))) R s (m+1) T):=HR2.o.set (m+1);have aK:Hd (w.grownBy (w2.setCell ⟨R,1,none⟩ (.int .i64 ((m:Int)+1))) (some R)):=aQ HG2.o 1 _;have Rf:Hd (Calls prog 228 #[.pointer (some ⟨R,0,none⟩),.int .i64 (i:Nat)] (w2.setCell ⟨R,1,none⟩ (.int .i64 ((m:Int)+1))) (yZ R s T E G (w2.setCell ⟨R,1,none⟩ (.int .i64 ((m:Int)+1))))):=by
   rw[<-aA.o];exact CU.o (m+1) _ aK.o jH.o (by omega)
  clear h117 df
  cases G with
  | ok q =>
   obtain⟨n,j⟩:=q;go_wp2_with (go_at_call 228;refine Rf.o.mono ?_;rintro e w4 ⟨h1,h2,h3⟩;obtain⟨rfl,hr4⟩:=h1 n j rfl);refine bodyPost_ret (results_tmp2 (t:=2) (u:=3) rfl _ _ _) rfl ?_;exact⟨fun n j hh=>(by cases hh;exact⟨rfl,hr4⟩),fun c p hh=>(by cases hh),dH aK.o h3⟩
  | error q =>
   obtain⟨c,q⟩:=q;go_wp2_with (go_at_call 228;refine Rf.o.mono ?_;rintro e w4 ⟨h1,h2,h3⟩;obtain⟨v,rfl,hv,jj,hjj⟩:=h2 c q rfl);refine bodyPost_ret (results_tmp2 (t:=2) (u:=3) rfl _ _ _) rfl ?_;exact⟨fun n j hh=>(by cases hh),fun c p hh=>(by cases hh;exact⟨v,rfl,hv,jj,hjj⟩),dH aK.o h3⟩
 ·have hb:(x == 117)=false:=by simp[h117]
  by_cases he1:x=-1
  ·have hb2:(x == -1)=true:=by simp[he1]
   have aA:Hd (G=.error (2,m)):=by
    have:=jl.o;rw[if_neg h117,he1,qM.o]at this;exact this.symm
   clear h117 he1;go_wp2_with (first|(go_at_call 104;refine(C1.o _ HR2.o).mono ?_;rintro e w3 ⟨rfl,hg3⟩)|(go_at_call 156;refine(CH.o m _ (aG HG2.o hg3) (HR2.o.grow hg3)).mono ?_;rintro e w5 ⟨⟨v,rfl,hv⟩,hg5⟩));refine bodyPost_ret (results_tmp2 (t:=2) (u:=3) rfl _ _ _) rfl ?_;rw[aA.o];exact⟨fun n j hh=>(by cases hh),fun c p hh=>(by cases hh;exact⟨v,rfl,hv,_,(HR2.o.grow hg3).grow hg5⟩),aG (aG HG2.o hg3) hg5⟩
  ·have hb2:(x == -1)=false:=by simp[he1]
   have Q9:m<s.size:=HL2.o he1;obtain⟨b,hbm⟩:=zN (s[m]);have hxm:x=(b.toNat:Int):=by rw[<-hbm];exact HA1.o Q9
   have aA:Hd ((match lZ x with|some n=>.ok (n,m+1)|none=>.error (2,m))=G):=by
    have:=jl.o;rw[if_neg h117]at this;exact this
   have jI:Hd (∀w,Calls prog 229 #[.string ⟨#[98,116,110,102,114,34,92]⟩,.int .u8 (b.toNat:Int)] w fun e w'=>e=.returned (.int .i64 (Lib.indexByte [98,116,110,102,114,34,92] b))/\w'=w):=fun w=>by
    have:=CI.o (b.toNat:Int) w;simpa using this
   have qL:Hd (lZ x=none->Lib.indexByte [98,116,110,102,114,34,92] b=-1):=by rw[hxm];exact ZG b
   have FN:Hd (∀n,lZ x=some n->(Lib.indexByte [98,116,110,102,114,34,92] b=0/\n=8)\/(Lib.indexByte [98,116,110,102,114,34,92] b=1/\n=9)\/(Lib.indexByte [98,116,110,102,114,34,92] b=2/\n=10)\/(Lib.indexByte [98,116,110,102,114,34,92] b=3/\n=12)\/(Lib.indexByte [98,116,110,102,114,34,92] b=4/\n=13)\/(Lib.indexByte [98,116,110,102,114,34,92] b=5/\n=34)\/(Lib.indexByte [98,116,110,102,114,34,92] b=6/\n=92)):=by rw[hxm];exact ZH b
   obtain⟨K,hK⟩:=zN (Lib.indexByte [98,116,110,102,114,34,92] b);rw[hK]at jI qL FN;clear h117 he1 hxm hK;go_wp2_with (go_at_call 104;refine(C1.o _ HR2.o).mono ?_);rintro e w3 ⟨rfl,hg3⟩;have HR3:Hd (Rd w3 R s m T):=HR2.o.grow hg3;have aK:Hd (w.grownBy w3 (some R)):=aG HG2.o hg3;obtain⟨d0,d1,-,df⟩:=HR3.o.cells;have df2:=df 1;clear hg3 df;have rW:Hd (∀n,Rd ((w3.drewN n).setCell ⟨R,1,none⟩ (.int .i64 ((m:Int)+1))) R s (m+1) T):=fun n=>Rd.set (w:=w3.drewN n) (i:=m) HR3.o (m+1)
   have dS:Hd (∀n,w.grownBy ((w3.drewN n).setCell ⟨R,1,none⟩ (.int .i64 ((m:Int)+1))) (some R)):=fun n=>aQ (aj aK.o n) 1 _
   cases hc:lZ x with
   | none =>
    have hKn:=qL.o hc;rw[hc]at aA;subst hKn;clear hc;have rZ:Hd (∀n,Calls prog 156 #[.pointer (some ⟨R,0,none⟩)] (w3.drewN n) fun e w''=>(∃v,e=.returned v/\aV w'' v E 2 m)/\(w3.drewN n).grownBy w'' none):=fun n=>CH.o m _ (aj aK.o n) HR3.o
    go_wp2;go_quiet (first|(go_at_call 229;exact Calls.quiet_of_same (jI.o _)));go_wp2_with (go_at_call 156;refine(rZ.o _).mono ?_;rintro e w5 ⟨⟨v,rfl,hv⟩,hg5⟩);refine bodyPost_ret (results_tmp2 (t:=2) (u:=3) rfl _ _ _) rfl ?_;rw[<-aA.o];exact⟨fun n j hh=>(by cases hh),fun c p hh=>(by cases hh;exact⟨v,rfl,hv,_,Rd.grow (w:=World.drewN w3 _) HR3.o hg5⟩),aG (aj aK.o _) hg5⟩
   | some n =>
    have ZJ:=FN.o n hc;rw[hc]at aA;clear hc
    rcases ZJ with⟨rfl,rfl⟩|⟨rfl,rfl⟩|⟨rfl,rfl⟩|⟨rfl,rfl⟩|⟨rfl,rfl⟩|⟨rfl,rfl⟩|⟨rfl,rfl⟩
    all_goals (
     go_wp2;go_quiet (first|(go_at_call 229;exact Calls.quiet_of_same (jI.o _)));go_wp2;refine bodyPost_ret (results_tmp2 (t:=2) (u:=3) rfl _ _ _) rfl ?_;rw[<-aA.o];exact⟨fun n j hh=>(by cases hh;exact⟨ZF (by first|(unfold wrap32;decide)|(unfold wrap32;rfl)|(unfold wrap32;simp[ByteArray.getElem_eq_getElem_data];done)),rW.o _⟩),fun c p hh=>(by cases hh),dS.o _⟩)
end Go.Proofs.YtnnbgjaphfhibaaGreatDoor
namespace Go.Proofs
open Go.Shelf
def Tryz.lays197_ren:Go.Shelf.Ren:=⟨fun|197=>216|260=>231|n=>n,fun|22=>244|24=>150|25=>151|27=>87|28=>43|30=>76|32=>153|33=>113|37=>90|40=>300|41=>110|42=>274|46=>157|47=>156|48=>185|49=>338|51=>199|52=>198|53=>201|54=>200|55=>297|67=>120|69=>98|70=>89|71=>91|72=>92|73=>162|74=>93|75=>94|76=>95|77=>96|79=>288|80=>100|81=>164|83=>97|84=>160|85=>306|86=>307|100=>161|101=>49|103=>152|104=>34|105=>289|106=>290|108=>315|111=>165|114=>251|119=>301|126=>298|127=>121|128=>299|131=>80|135=>207|137=>302|138=>303|139=>304|143=>317|144=>318|145=>319|164=>158|165=>159|166=>260|167=>305|168=>308|169=>309|170=>310|171=>202|172=>203|173=>204|174=>205|175=>311|176=>312|182=>192|183=>193|188=>255|189=>256|190=>257|191=>258|192=>259|209=>313|210=>314|211=>252|212=>253|213=>254|214=>316|218=>245|219=>246|220=>247|222=>249|224=>284|225=>285|228=>281|229=>282|231=>295|232=>293|233=>294|238=>320|239=>321|240=>322|241=>323|242=>324|243=>326|244=>174|245=>327|246=>328|247=>329|248=>330|249=>331|n=>n,fun|1=>7|3=>10|4=>11|15=>12|16=>13|17=>5|18=>8|19=>9|n=>n⟩
theorem Tryz.lays197:Go.Proofs.Lays.n197 prog Tryz.lays197_ren:={
 mixed:=by kernel_rfl
 f197:=func216.trans (congrArg some (by kernel_rfl))
 f260:=func231.trans (congrArg some (by kernel_rfl))
 t0:=underlying0
 a0:=isAgg0
 z0:=sizeOf0
 v0:=zeroValue0
 t3:=underlying3
 a3:=isAgg3
 z3:=sizeOf3
 v3:=zeroValue3
 t4:=underlying4
 a4:=isAgg4
 z4:=sizeOf4
 v4:=zeroValue4
 t5:=underlying5
 a5:=isAgg5
 z5:=sizeOf5
 v5:=zeroValue5
 t9:=underlying9
 a9:=isAgg9
 z9:=sizeOf9
 v9:=zeroValue9
 t21:=underlying21
 a21:=isAgg21
 z21:=sizeOf21
 v21:=zeroValue21
 t46:=underlying157
 a46:=isAgg157
 z46:=sizeOf157
 v46:=zeroValue157
 t105:=underlying289
 a105:=isAgg289
 z105:=sizeOf289
 v105:=zeroValue289
 t119:=underlying301
 a119:=isAgg301
 z119:=sizeOf301
 t138:=underlying303
 a138:=isAgg303
 z138:=sizeOf303
 v138:=zeroValue303
 t139:=underlying304
 a139:=isAgg304
 z139:=sizeOf304
 v139:=zeroValue304
 g3:=by kernel_rfl
 g4:=by kernel_rfl }
end Go.Proofs
namespace Go.Proofs.YtnnbgjaphfhibaaGreatDoor
open Go.RowKit Go.Joins
theorem FO(l:List UInt8)(i k:Nat):((⟨(l.drop i).toArray⟩:ByteArray).get! k).toNat=(l[i+k]?.getD 0).toNat:=by
 show(((l.drop i).toArray)[k]!).toNat=_;rw[Array.getElem!_eq_getD];simp[Array.getD_eq_getD_getElem?,List.getElem?_drop];rfl
theorem FP(l:List UInt8)(i k:Nat)(hi:i<l.length):nx l (i+k)=if k<l.length-i then(((l[i+k]?.getD 0).toNat:Nat):Int) else -1:=by
 by_cases h:k<l.length-i
 ·rw[if_pos h,pG l (i+k) (by omega),List.getElem?_eq_getElem (by omega)];rfl
 ·rw[if_neg h,jG l (i+k) (by omega)]
theorem ZK(l:List UInt8)(i:Nat)(hi:i<l.length):Told (aJ l i) (Lib.decodeGo ⟨(l.drop i).toArray⟩):=by
 have hz:(⟨(l.drop i).toArray⟩:ByteArray).size=l.length-i:=by show(l.drop i).toArray.size=_;simp
 have e:Lib.decodeGo ⟨(l.drop i).toArray⟩=Lib.decodeN (l.length-i) (l[i]?.getD 0).toNat (l[i+1]?.getD 0).toNat (l[i+2]?.getD 0).toNat (l[i+3]?.getD 0).toNat:=by
  unfold Lib.decodeGo;rw[if_neg (by rw[hz];omega),Lib.decode_at,hz,FO,FO,FO,FO];rfl
 rw[e,Zx];have h0:=FP l i 0 hi;rw[if_pos (by omega)]at h0;have h00:nx l i=(((l[i]?.getD 0).toNat:Nat):Int):=h0;rw[h00];exact ZE _ _ _ _ _ _ _ _ (by omega) (UInt8.toNat_lt _) (UInt8.toNat_lt _) (UInt8.toNat_lt _) (UInt8.toNat_lt _) (FP l i 1 hi) (FP l i 2 hi) (FP l i 3 hi)
theorem ZL(l:List UInt8)(i:Nat)(hi:i<l.length)(w:World)(hT:Lib.Utf8Tabs 10 11 w) :
  Calls prog 216 #[.string ⟨(l.drop i).toArray⟩] w fun e w'=>∃r k:Nat,e=.returned (.tuple #[.int .i32 (r:Nat),.int .i64 (k:Nat)])/\Told (aJ l i) (r,k)/\Below w.heap.size w w' :=
 (Any.utf8_DecodeRuneInString Tryz.lays197 ⟨(l.drop i).toArray⟩ w hT).mono fun e w' h=>⟨_,_,h.1,ZK l i hi,h.2⟩
end Go.Proofs.YtnnbgjaphfhibaaGreatDoor
namespace Go.Proofs
open Go.Shelf
def Tryz.lays166_ren:Go.Shelf.Ren:=⟨fun|166=>42|240=>66|276=>97|n=>n,fun|22=>244|24=>150|25=>151|27=>87|28=>43|30=>76|32=>153|33=>113|37=>90|40=>300|41=>110|42=>274|46=>157|47=>156|48=>185|49=>338|51=>199|52=>198|53=>201|54=>200|55=>297|67=>120|69=>98|70=>89|71=>91|72=>92|73=>162|74=>93|75=>94|76=>95|77=>96|79=>288|80=>100|81=>164|83=>97|84=>160|85=>306|86=>307|100=>161|101=>49|103=>152|104=>34|105=>289|106=>290|108=>315|111=>165|114=>251|119=>301|126=>298|127=>121|128=>299|131=>80|135=>207|137=>302|138=>303|139=>304|143=>317|144=>318|145=>319|164=>158|165=>159|166=>260|167=>305|168=>308|169=>309|170=>310|171=>202|172=>203|173=>204|174=>205|175=>311|176=>312|182=>192|183=>193|188=>255|189=>256|190=>257|191=>258|192=>259|209=>313|210=>314|211=>252|212=>253|213=>254|214=>316|218=>245|219=>246|220=>247|222=>249|224=>284|225=>285|228=>281|229=>282|231=>295|232=>293|233=>294|238=>320|239=>321|240=>322|241=>323|242=>324|243=>326|244=>174|245=>327|246=>328|247=>329|248=>330|249=>331|n=>n,fun|1=>7|3=>10|4=>11|15=>12|16=>13|17=>5|18=>8|19=>9|n=>n⟩
theorem Tryz.lays166:Go.Proofs.Lays.n166 prog Tryz.lays166_ren:={
 mixed:=by kernel_rfl
 f166:=func42.trans (congrArg some (by kernel_rfl))
 f240:=func66.trans (congrArg some (by kernel_rfl))
 f276:=func97.trans (congrArg some (by kernel_rfl))
 t0:=underlying0
 a0:=isAgg0
 z0:=sizeOf0
 v0:=zeroValue0
 t3:=underlying3
 a3:=isAgg3
 z3:=sizeOf3
 v3:=zeroValue3
 t4:=underlying4
 a4:=isAgg4
 z4:=sizeOf4
 v4:=zeroValue4
 t9:=underlying9
 a9:=isAgg9
 z9:=sizeOf9
 v9:=zeroValue9
 t20:=underlying20
 a20:=isAgg20
 z20:=sizeOf20
 v20:=zeroValue20
 t37:=underlying90
 a37:=isAgg90
 z37:=sizeOf90
 v37:=zeroValue90
 t70:=underlying89
 a70:=isAgg89
 z70:=sizeOf89
 v70:=zeroValue89
 t72:=underlying92
 a72:=isAgg92
 z72:=sizeOf92
 v72:=zeroValue92
 t75:=underlying94
 a75:=isAgg94
 z75:=sizeOf94
 v75:=zeroValue94
 t164:=underlying158
 a164:=isAgg158
 z164:=sizeOf158
 v164:=zeroValue158 }
def Tryz.lays168_ren:Go.Shelf.Ren:=⟨fun|168=>215|240=>66|242=>230|276=>97|278=>240|n=>n,fun|22=>244|24=>150|25=>151|27=>87|28=>43|30=>76|32=>153|33=>113|37=>90|40=>300|41=>110|42=>274|46=>157|47=>156|48=>185|49=>338|51=>199|52=>198|53=>201|54=>200|55=>297|67=>120|69=>98|70=>89|71=>91|72=>92|73=>162|74=>93|75=>94|76=>95|77=>96|79=>288|80=>100|81=>164|83=>97|84=>160|85=>306|86=>307|100=>161|101=>49|103=>152|104=>34|105=>289|106=>290|108=>315|111=>165|114=>251|119=>301|126=>298|127=>121|128=>299|131=>80|135=>207|137=>302|138=>303|139=>304|143=>317|144=>318|145=>319|164=>158|165=>159|166=>260|167=>305|168=>308|169=>309|170=>310|171=>202|172=>203|173=>204|174=>205|175=>311|176=>312|182=>192|183=>193|188=>255|189=>256|190=>257|191=>258|192=>259|209=>313|210=>314|211=>252|212=>253|213=>254|214=>316|218=>245|219=>246|220=>247|222=>249|224=>284|225=>285|228=>281|229=>282|231=>295|232=>293|233=>294|238=>320|239=>321|240=>322|241=>323|242=>324|243=>326|244=>174|245=>327|246=>328|247=>329|248=>330|249=>331|n=>n,fun|1=>7|3=>10|4=>11|15=>12|16=>13|17=>5|18=>8|19=>9|n=>n⟩
theorem Tryz.lays168:Go.Proofs.Lays.n168 prog Tryz.lays168_ren:={
 mixed:=by kernel_rfl
 f168:=func215.trans (congrArg some (by kernel_rfl))
 f240:=func66.trans (congrArg some (by kernel_rfl))
 f242:=func230.trans (congrArg some (by kernel_rfl))
 f276:=func97.trans (congrArg some (by kernel_rfl))
 f278:=func240.trans (congrArg some (by kernel_rfl))
 t0:=underlying0
 a0:=isAgg0
 z0:=sizeOf0
 v0:=zeroValue0
 t3:=underlying3
 a3:=isAgg3
 z3:=sizeOf3
 v3:=zeroValue3
 t4:=underlying4
 a4:=isAgg4
 z4:=sizeOf4
 v4:=zeroValue4
 t5:=underlying5
 a5:=isAgg5
 z5:=sizeOf5
 v5:=zeroValue5
 t9:=underlying9
 a9:=isAgg9
 z9:=sizeOf9
 v9:=zeroValue9
 t20:=underlying20
 a20:=isAgg20
 z20:=sizeOf20
 v20:=zeroValue20
 t21:=underlying21
 a21:=isAgg21
 z21:=sizeOf21
 v21:=zeroValue21
 t37:=underlying90
 a37:=isAgg90
 z37:=sizeOf90
 v37:=zeroValue90
 t46:=underlying157
 a46:=isAgg157
 z46:=sizeOf157
 v46:=zeroValue157
 t51:=underlying199
 a51:=isAgg199
 z51:=sizeOf199
 v51:=zeroValue199
 t70:=underlying89
 a70:=isAgg89
 z70:=sizeOf89
 v70:=zeroValue89
 t72:=underlying92
 a72:=isAgg92
 z72:=sizeOf92
 v72:=zeroValue92
 t75:=underlying94
 a75:=isAgg94
 z75:=sizeOf94
 v75:=zeroValue94
 t164:=underlying158
 a164:=isAgg158
 z164:=sizeOf158
 v164:=zeroValue158 }
def Tryz.lays169_ren:Go.Shelf.Ren:=⟨fun|169=>46|n=>n,fun|22=>244|24=>150|25=>151|27=>87|28=>43|30=>76|32=>153|33=>113|37=>90|40=>300|41=>110|42=>274|46=>157|47=>156|48=>185|49=>338|51=>199|52=>198|53=>201|54=>200|55=>297|67=>120|69=>98|70=>89|71=>91|72=>92|73=>162|74=>93|75=>94|76=>95|77=>96|79=>288|80=>100|81=>164|83=>97|84=>160|85=>306|86=>307|100=>161|101=>49|103=>152|104=>34|105=>289|106=>290|108=>315|111=>165|114=>251|119=>301|126=>298|127=>121|128=>299|131=>80|135=>207|137=>302|138=>303|139=>304|143=>317|144=>318|145=>319|164=>158|165=>159|166=>260|167=>305|168=>308|169=>309|170=>310|171=>202|172=>203|173=>204|174=>205|175=>311|176=>312|182=>192|183=>193|188=>255|189=>256|190=>257|191=>258|192=>259|209=>313|210=>314|211=>252|212=>253|213=>254|214=>316|218=>245|219=>246|220=>247|222=>249|224=>284|225=>285|228=>281|229=>282|231=>295|232=>293|233=>294|238=>320|239=>321|240=>322|241=>323|242=>324|243=>326|244=>174|245=>327|246=>328|247=>329|248=>330|249=>331|n=>n,fun|1=>7|3=>10|4=>11|15=>12|16=>13|17=>5|18=>8|19=>9|n=>n⟩
theorem Tryz.lays169:Go.Proofs.Lays.n169 prog Tryz.lays169_ren:={
 mixed:=by kernel_rfl
 f169:=func46.trans (congrArg some (by kernel_rfl))
 t0:=underlying0
 a0:=isAgg0
 z0:=sizeOf0
 v0:=zeroValue0
 t3:=underlying3
 a3:=isAgg3
 z3:=sizeOf3
 v3:=zeroValue3
 t9:=underlying9
 a9:=isAgg9
 z9:=sizeOf9
 v9:=zeroValue9
 t37:=underlying90
 a37:=isAgg90
 z37:=sizeOf90
 v37:=zeroValue90
 t70:=underlying89
 a70:=isAgg89
 z70:=sizeOf89
 v70:=zeroValue89
 t72:=underlying92
 a72:=isAgg92
 z72:=sizeOf92
 v72:=zeroValue92
 t127:=underlying121
 a127:=isAgg121
 z127:=sizeOf121
 v127:=zeroValue121 }
theorem Tryz.Builder_Extra_166:Builder.Extra prog Tryz.lays166_ren:={
 sizeBuilder:=by kernel_rfl
 liesBuilder:=by kernel_rfl
 t5:=underlying5
 a5:=isAgg5
 z5:=sizeOf5
 v5:=zeroValue5
 infoByte:=by kernel_rfl
 cellsByte:=by kernel_rfl
 sizeByte:=by kernel_rfl
 neB5:=by decide }
theorem Tryz.Builder_Extra_168:Builder.Extra prog Tryz.lays168_ren:={
 sizeBuilder:=by kernel_rfl
 liesBuilder:=by kernel_rfl
 t5:=underlying5
 a5:=isAgg5
 z5:=sizeOf5
 v5:=zeroValue5
 infoByte:=by kernel_rfl
 cellsByte:=by kernel_rfl
 sizeByte:=by kernel_rfl
 neB5:=by decide }
theorem Tryz.Builder_Extra_169:Builder.Extra prog Tryz.lays169_ren:={
 sizeBuilder:=by kernel_rfl
 liesBuilder:=by kernel_rfl
 t5:=underlying5
 a5:=isAgg5
 z5:=sizeOf5
 v5:=zeroValue5
 infoByte:=by kernel_rfl
 cellsByte:=by kernel_rfl
 sizeByte:=by kernel_rfl
 neB5:=by decide }
end Go.Proofs
namespace Go.Proofs.YtnnbgjaphfhibaaGreatDoor
open Go.RowKit Go.Joins
def Bd(w:World)(B b:Nat)(acc:List UInt8):Prop:=Lib.IsBuilderF 92 5 B b (Lib.byteCells acc) w
theorem Rh{T e:TypeId}{B b R:Nat}{p:Value}{bs:List Value}{w w':World}(h:Lib.BuilderAtF T e B b p bs w)(hg:w.grownBy w' (some R))(hR:R<B):Lib.BuilderAtF T e B b p bs w':=by
 obtain⟨hB,v,hb,hown,hne⟩:=h;refine⟨hB,v,(hg.block b (jU hb) (fun e=>by cases e;omega)).trans hb,hown.kept hg ?_,hne⟩
 cases hv:v.ownBlock with
 | none=>exact Or.inl rfl
 | some k =>
  refine Or.inr fun e=>?_
  cases e
  have:=(hown.lt _ hv).1;omega
theorem Bd.grow{w w':World}{B b R:Nat}{acc:List UInt8}(h:Bd w B b acc)(hg:w.grownBy w' (some R))(hR:R<B):Bd w' B b acc:=h.imp (fun h=>Rh h hg hR) (fun h=>Rh h hg hR)
theorem ZM(n:Nat)(hn:n<65536)(hs:nO n=false):Lib.runeCells (n:Nat)=Lib.byteCells (gz n):=by
 have h1:∀k:Nat,k<256->(UInt8.ofNat k).toNat=k:=fun k hk=>by simp;omega
 have hs':¬(55296<=n/\n<=57343):=by
  have:=of_decide_eq_false (show decide (55296<=(n:Int)/\(n:Int)<=57343)=false from hs);omega
 unfold Lib.runeCells Lib.byteCells gz
 by_cases a:n<128
 ·rw[Lib.encodeRuneZ_one (by omega) (by omega),if_pos a];simp only[List.map_cons,List.map_nil,h1 n (by omega)]
 rw[if_neg a]
 by_cases b:n<2048
 ·rw[Lib.encodeRuneZ_two (by omega) (by omega),if_pos b];simp only[List.map_cons,List.map_nil,h1 (192+n / 64) (by omega),h1 (128+n % 64) (by omega)];simp
 rw[if_neg b,Lib.encodeRuneZ_three (by omega)];simp only[List.map_cons,List.map_nil,h1 (224+n / 4096) (by omega),h1 (128+n / 64 % 64) (by omega),h1 (128+n % 64) (by omega)];simp
theorem Ri(a b:List UInt8):Lib.byteCells (a++b)=Lib.byteCells a++Lib.byteCells b:=by simp[Lib.byteCells]
theorem Rj(a:List UInt8):(Lib.byteCells a).length=a.length:=by simp[Lib.byteCells]
theorem ZN(B b n:Nat)(acc:List UInt8)(w:World)(h:Bd w B b acc)(hn:n<65536)(hs:nO n=false)(hl:acc.length<=1099511627776)(hB:B<=w.heap.size) :
  Calls prog 215 #[.pointer (some ⟨b,0,none⟩),.int .i32 (n:Nat)] w fun e w'=>(∃k:Int,e=.returned (.tuple #[.int .i64 k,.nilIface]))/\Bd w' B b (acc++gz n)/\Below B w w':=by
 refine(Any.Builder_WriteRune_k Tryz.lays168 Tryz.Builder_Extra_168 B b (Lib.byteCells acc) (n:Nat) (by omega) (by omega) w h (by rw[Rj];omega) hB).mono ?_;rintro e w' ⟨rfl,h1,h2,h3⟩;refine⟨⟨_,rfl⟩,Or.inr ?_,h2⟩;rw[Ri,<-ZM n hn hs];exact h1
theorem ZO(B b:Nat)(acc x:List UInt8)(w:World)(h:Bd w B b acc)(hl:acc.length<=1099511627776)(hx:x.length<=1048576)(hB:B<=w.heap.size) :
  Calls prog 42 #[.pointer (some ⟨b,0,none⟩),.string ⟨x.toArray⟩] w fun e w'=>(∃k:Int,e=.returned (.tuple #[.int .i64 k,.nilIface]))/\Bd w' B b (acc++x)/\Below B w w':=by
 have hz:(⟨x.toArray⟩:ByteArray).size=x.length:=by show x.toArray.size=_;simp
 refine(Any.Builder_WriteString_f Tryz.lays166 Tryz.Builder_Extra_166 B b (Lib.byteCells acc) ⟨x.toArray⟩ w h (by rw[Rj,hz];omega) hB).mono ?_;rintro e w' ⟨rfl,h1,h2⟩;refine⟨⟨_,rfl⟩,Or.inr ?_,h2⟩;rw[Ri];exact h1
theorem ZP(B b:Nat)(acc:List UInt8)(w:World)(h:Bd w B b acc)(hB:B<=w.heap.size) :
  Calls prog 46 #[.pointer (some ⟨b,0,none⟩)] w fun e w'=>e=.returned (.string ⟨acc.toArray⟩)/\Below B w w' :=
 (Any.Builder_String_any_f Tryz.lays169 Tryz.Builder_Extra_169 B b acc w h hB).mono fun e w' h=>⟨h.1,h.2.2⟩
open Go.RowKit Go.Joins
theorem KA(l:List UInt8):∀k i n m j,i<=l.length->four l k i n=.ok (m,j)->j=i+k/\j<=l.length/\m<(n+1)*16 ^ k:=by
 intro k
 induction k with
 | zero =>
  intro i n m j hi h
  cases h
  exact⟨rfl,hi,by simp⟩
 | succ k ih =>
  intro i n m j hi h;rw[Bv]at h;split at h
  ·cases h
  ·rename_i hx;have hlt:i<l.length:=by
    apply Classical.byContradiction;intro hn;rw[jG l i (by omega),Kq]at hx;omega
   obtain⟨h1,h2,h3⟩:=ih (i+1) _ m j hlt h;have hb:=FI (nx l i);refine⟨by omega,h2,Nat.lt_of_lt_of_le h3 ?_⟩;rw[Nat.pow_succ,Nat.mul_comm (16 ^ k) 16,<-Nat.mul_assoc];exact Nat.mul_le_mul_right _ (by omega)
theorem Rk(x:Int)(n:Nat)(h:lZ x=some n):n<128/\0<=x:=by
 unfold lZ at h
 repeat' split at h
 all_goals first|(cases h;omega)|(cases h)
theorem KC(l:List UInt8)(i n j:Nat)(hi:i<l.length)(h:l7 l i=.ok (n,j)):n<65536/\nO n=false/\i+2<=j/\j<=l.length:=by
 unfold l7 at h;split at h
 ·rename_i hx;have hlt:i+1<l.length:=bH (by rw[hx];decide);unfold um at h
  cases hf:four l 4 (i+2) 0 with
  | error e=>rw[hf]at h;cases h
  | ok q =>
   obtain⟨m,k⟩:=q;rw[hf]at h;have h2:(if nO m=true then Except.error (2,i) else Except.ok (m,k):Rs (Nat × Nat))=.ok (n,j):=h;split at h2
   ·cases h2
   ·rename_i hs
    cases h2
    obtain⟨h3,h4,h5⟩:=KA l 4 (i+2) 0 n j (by omega) hf;refine⟨by simpa using h5,by simpa using hs,by omega,h4⟩
 ·cases hc:lZ (nx l (i+1)) with
  | none=>rw[hc]at h;cases h
  | some m =>
   rw[hc]at h
   cases h
   obtain⟨h1,h2⟩:=Rk _ _ hc;have:=bH h2;refine⟨by omega,decide_eq_false (by omega),by omega,by omega⟩
theorem FQ(n:Nat):(gz n).length<=3:=by
 unfold gz
 repeat' split
 all_goals simp
theorem KE(l:List UInt8)(i:Nat)(hi:i<=l.length):i+aJ l i<=l.length:=by
 have key:∀k lo hi',0<=lo->dF l (i+k) lo hi'=true->i+k<l.length:=fun k lo hi' h0 h=>by
  have:=of_decide_eq_true h;exact bH (by omega)
 have hlo:0<=(if nx l i=224 then(160:Int) else if nx l i=240 then 144 else 128):=by
  repeat' split
  all_goals omega
 unfold aJ;simp only[];generalize (if nx l i=224 then(160:Int) else if nx l i=240 then 144 else 128)=lo at hlo ⊢;generalize (if nx l i=237 then(159:Int) else if nx l i=244 then 143 else 191)=hi';split
 ·omega
 ·rename_i h0;have hlt:i<l.length:=bH (by omega);split
  ·omega
  split
  ·omega
  split
  ·omega
  ·rename_i h1;have a1:=key 1 lo hi' hlo (by simpa using h1);split
   ·omega
   split
   ·omega
   ·rename_i h2;have a2:=key 2 128 191 (by omega) (by simpa using h2);split
    ·omega
    split
    ·omega
    ·rename_i h3;have a3:=key 3 128 191 (by omega) (by simpa using h3);omega
theorem BD(l:List UInt8)(f i:Nat)(acc:List UInt8):str l (f+1) i acc =
  if nx l i=34 then .ok (acc,i+1)
  else if nx l i=92 then(match esc l i with | .error e=>.error e | .ok (b,j)=>str l f j (acc++b))
  else if nx l i=-1\/ik (nx l i)=true then .error (2,i)
  else if aJ l i=0 then .error (2,i)
  else str l f (i+aJ l i) (acc++ag l i (aJ l i)):=rfl
theorem ZQ{w w1 w2:World}{r:Option Nat}{B:Nat}(h:w.grownBy w1 r)(hB:w.heap.size<=B)(hb:Below B w1 w2):w.grownBy w2 r :=
 ⟨hb.os.trans h.os,hb.tape.trans h.tape,hb.output.trans h.output,Nat.le_trans h.size hb.size,fun k hk hn=>(hb.block k (by omega)).trans (h.block k hk hn)⟩
theorem Rd.bel{w w':World}{R:Nat}{s:ByteArray}{i T B:Nat}(h:Rd w R s i T)(hR:R<B)(hb:Below B w w'):Rd w' R s i T:=(hb.block R hR).trans h
theorem Rd.lt{w:World}{R:Nat}{s:ByteArray}{i T:Nat}(h:Rd w R s i T):R<w.heap.size:=(jU h)
theorem ZR{w w':World}{R g3 g4:Nat}(h:Lib.Utf8Tabs g3 g4 w)(h3:¬R=g3)(h4:¬R=g4)(hg:w.grownBy w' (some R)):Lib.Utf8Tabs g3 g4 w' :=
 ⟨fun c hc=>hg.cell (h.1 c hc) (by simp;exact fun e=>h3 e.symm),fun i hi=>⟨hg.cell (h.2 i hi).1 (by simp;exact fun e=>h4 e.symm),hg.cell (h.2 i hi).2 (by simp;exact fun e=>h4 e.symm)⟩⟩
open Go.RowKit Go.Joins
theorem ZT(R:Nat)(s:ByteArray)(L O:Value)(now de i:Nat)(w:World)(h:Dd w R s L O now de i 0 0)(hi:i<s.size)(hs:s.size<=1048576)(hn:i+1<s.size)(hx:nx s.data.toList (i+1)=117) :
  Calls prog 160 #[.pointer (some ⟨R,0,none⟩)] w (mZ 3 R s L O now de (esc s.data.toList i) w):=by
 have hl:s.data.toList.length=s.size:=by simp
 have HS:Hd (Dd (w.setCell ⟨R,1,none⟩ (.int .i64 ((i:Int)+1))) R s L O now de (i+1) 0 0):=h.setI (i+1);have fB:Hd (w.grownBy (w.setCell ⟨R,1,none⟩ (.int .i64 ((i:Int)+1))) (some R)):=aQ (ax w (some R)) 1 _;obtain⟨c0,c1,-,-,-,-,-,-,df⟩:=h.cells;have df1:=df 1;have HE:Hd (esc s.data.toList i=BC i (four s.data.toList 4 (i+2) 0)):=Ze _ _ hx;rw[HE.o];have fU:Hd (∀(hj:i+1<s.size),nx s.data.toList (i+1)=(s[i+1].toNat:Int)):=byte_at s (i+1);clear h df;obtain⟨j,hj⟩:=zN (i+1);have hij:i+2=j+1:=by omega
 have hlt:j<s.size:=by omega
 have hge:decide ((s.size:Int)<=(j:Int))=false:=by simp;omega
 have lJ:¬(s.size:Int)<=(j:Int):=by omega
 rw[hj]at HS hx fU;rw[hij];have HX:Hd (nx s.data.toList j=(s[j].toNat:Int)):=fU.o hlt;clear hj hij fU hn HE;have q98:((s[j].toNat:Int) == 98)=false:=by rw[<-HX.o,hx];rfl
 have q116:((s[j].toNat:Int) == 116)=false:=by rw[<-HX.o,hx];rfl
 have q110:((s[j].toNat:Int) == 110)=false:=by rw[<-HX.o,hx];rfl
 have q102:((s[j].toNat:Int) == 102)=false:=by rw[<-HX.o,hx];rfl
 have q114:((s[j].toNat:Int) == 114)=false:=by rw[<-HX.o,hx];rfl
 have q34:((s[j].toNat:Int) == 34)=false:=by rw[<-HX.o,hx];rfl
 have q92:((s[j].toNat:Int) == 92)=false:=by rw[<-HX.o,hx];rfl
 have q117:((s[j].toNat:Int) == 117)=true:=by rw[<-HX.o,hx];rfl
 clear HX hx;have Rl:Hd (∀wx,Dd wx R s L O now de (j+1) 0 0->Calls prog 201 #[.pointer (some ⟨R,0,none⟩)] wx (Q4 R s L O now de (four s.data.toList 4 (j+1) 0) wx)):=fun wx h=>Zd R s L O now de (j+1) wx h (by omega) hs
 have FT:Hd (∀n k,four s.data.toList 4 (j+1) 0=.ok (n,k)->n<65536):=fun n k hh=>by have:=Q5 _ _ _ _ _ _ hh;omega
 have CW:Hd (∀n:Nat,n<65536->∀w,Calls prog 202 #[.int .i64 (n:Nat)] w fun e w'=>e=.returned (.string ⟨(gz n).toArray⟩)/\w.grownBy w' none):=Q3;have ZU:Hd (∀w,Calls prog 202 #[.int .i64 0] w fun e w'=>e=.returned (.string ⟨(gz 0).toArray⟩)/\w.grownBy w' none):=Q3 0 (by omega);obtain⟨F,hF⟩:=zN (four s.data.toList 4 (j+1) 0);rw[hF]at Rl FT ⊢;clear hF;go_enter func160,ntmps160;go_wp2;obtain⟨wA,hwA⟩:∃W,w.setCell ⟨R,1,none⟩ (.int .i64 ((i:Int)+1))=W:=⟨_,rfl⟩;rw[hwA]at HS fB ⊢;obtain⟨d0,d1,-,-,-,-,-,-,dg⟩:=HS.o.cells;have dg1:=dg 1;clear hwA dg c0 c1 df1;go_quiet (fail);have aN:Hd (Dd (wA.drewN nq) R s L O now de j 0 0):=HS.o;have aH:Hd (w.grownBy (wA.drewN nq) (some R)):=aj fB.o nq;obtain⟨wB,hwB⟩:∃W,wA.drewN nq=W:=⟨_,rfl⟩;rw[hwB]at aN aH ⊢;obtain⟨f0,f1,-,-,-,-,-,-,fg⟩:=aN.o.cells;have fg1:=fg 1;clear hwB fg d0 d1 dg1
 go_wp2;go_quiet (fail);have dJ:Hd (Dd (wB.drewN nq) R s L O now de j 0 0):=aN.o;have bJ:Hd (w.grownBy (wB.drewN nq) (some R)):=aj aH.o nq;obtain⟨wC,fV⟩:∃W,wB.drewN nq=W:=⟨_,rfl⟩;rw[fV]at dJ bJ ⊢;obtain⟨g0,g1,-,-,-,-,-,-,gg⟩:=dJ.o.cells;have gg1:=gg 1;have fH:Hd (Dd (wC.setCell ⟨R,1,none⟩ (.int .i64 ((j:Int)+1))) R s L O now de (j+1) 0 0):=dJ.o.setI (j+1);have gX:Hd (w.grownBy (wC.setCell ⟨R,1,none⟩ (.int .i64 ((j:Int)+1))) (some R)):=aQ bJ.o 1 _;clear fV gg f0 f1 fg1;go_wp2_with (go_at_call 201;refine(Rl.o _ fH.o).mono ?_);rintro e w2 ⟨h1,h2,hg2⟩;have HG2:Hd (w.grownBy w2 (some R)):=dH gX.o hg2;clear hg2
 match F,h1,h2,FT with
 | .error (c,p),h1,h2,_ =>
  obtain⟨rfl,hne,k,hk,hd⟩:=h2 c p rfl;obtain⟨-,-,-,-,-,e5,-⟩:=hd.cells;have hb:(c == 0)=false:=by simpa using hne
  have HD:Hd (Dd w2 R s L O now de k c p):=hd;have o6:Hd (c≠0):=hne;have HK:Hd (k<=s.size):=hk;clear h1 h2 hd hne hk;go_wp2_with (go_at_call 202;refine(ZU.o _).mono ?_;rintro e w3 ⟨rfl,hg3⟩);go_ret;exact⟨fun t k hh=>(by have hh:(Except.error (c,p):Rs (List UInt8 × Nat))=.ok (t,k):=hh;cases hh),fun c' p' hh=>(by have hh:(Except.error (c,p):Rs (List UInt8 × Nat))=.error (c',p'):=hh;injection hh with hh;injection hh with e1 e2;subst e1 e2;exact⟨⟨gz 0,by decide,rfl⟩,o6.o,k,HK.o,HD.o.grow hg3⟩),aG HG2.o hg3⟩
 | .ok (n,k),h1,h2,FT =>
  obtain⟨rfl,hk,hd⟩:=h1 n k rfl;have hn:=FT.o n k rfl;obtain⟨-,-,-,-,-,e5,-⟩:=hd.cells;have HD:Hd (Dd w2 R s L O now de k 0 0):=hd;have HK:Hd (k<=s.size):=hk;have KF:Hd (∀w,Calls prog 202 #[.int .i64 (n:Nat)] w fun e w'=>e=.returned (.string ⟨(gz n).toArray⟩)/\w.grownBy w' none):=CW.o n hn;have FU:Hd ((gz n).length<=3):=by
   show _<=_;have:=FQ n;omega
  have CF:Hd (∀wx,Dd wx R s L O now de k 0 0->Calls prog 82 #[.pointer (some ⟨R,0,none⟩),.int .i64 2,.int .i64 (i:Nat)] wx fun en w'=>en=.returned (.tuple #[])/\Dd w' R s L O now de k 2 i/\wx.grownBy w' (some R)):=fun wx hg=>pJ R s L O now de k 2 i wx hg
  clear h1 h2 hd hk
  by_cases KG:55296<=n
  ·by_cases h57:n<=57343
   ·have HE:Hd (BC i (.ok (n,k))=.error (2,i)):=by show(if _ then _ else _)=_;exact if_pos ⟨KG,h57⟩
    have g1':(55296:Int)<=(n:Int):=by omega
    have g2':(n:Int)<=57343:=by omega
    go_wp2_with (first|(go_at_call 82;refine(CF.o _ HD.o).mono ?_;rintro e w3 ⟨rfl,hd3,hg3⟩)|(go_at_call 202;refine(KF.o _).mono ?_;rintro e w4 ⟨rfl,hg4⟩));go_ret;rw[HE.o];exact⟨fun t k hh=>(by cases hh),fun c p hh=>(by cases hh;exact⟨⟨gz n,FU.o,rfl⟩,by decide,k,HK.o,hd3.grow hg4⟩),aG (dH HG2.o hg3) hg4⟩
   ·have HE:Hd (BC i (.ok (n,k))=.ok (gz n,k)):=by show(if _ then _ else _)=_;exact if_neg (fun h=>h57 h.2)
    have g1':(55296:Int)<=(n:Int):=by omega
    have g2':(57343:Int)<(n:Int):=by omega
    go_wp2_with (go_at_call 202;refine(KF.o _).mono ?_;rintro e w4 ⟨rfl,hg4⟩);go_ret;rw[HE.o];exact⟨fun t k hh=>(by cases hh;exact⟨rfl,HK.o,HD.o.grow hg4⟩),fun c p hh=>(by cases hh),aG HG2.o hg4⟩
  ·have HE:Hd (BC i (.ok (n,k))=.ok (gz n,k)):=by show(if _ then _ else _)=_;exact if_neg (fun h=>KG h.1)
   have g1':(n:Int)<55296:=by omega
   have g0':decide ((55296:Int)<=(n:Int))=false:=by rw[decide_eq_false_iff_not];omega
   have g3':¬(55296:Int)<=(n:Int):=by omega
   clear KG hn g1';go_wp2_with (go_at_call 202;refine(KF.o _).mono ?_;rintro e w4 ⟨rfl,hg4⟩);go_ret;rw[HE.o];exact⟨fun t k hh=>(by cases hh;exact⟨rfl,HK.o,HD.o.grow hg4⟩),fun c p hh=>(by cases hh),aG HG2.o hg4⟩
open Go.RowKit Go.Joins
theorem ZV(R:Nat)(s:ByteArray)(L O:Value)(now de i:Nat)(w:World)(h:Dd w R s L O now de i 0 0)(hi:i<s.size)(hs:s.size<=1048576) :
  Calls prog 160 #[.pointer (some ⟨R,0,none⟩)] w (mZ 3 R s L O now de (esc s.data.toList i) w):=by
 by_cases hn:i+1<s.size
 ·by_cases m98:nx s.data.toList (i+1)=98
  ·exact Zn R s L O now de i w h hi hs hn m98
  by_cases m116:nx s.data.toList (i+1)=116
  ·exact Zo R s L O now de i w h hi hs hn m116
  by_cases m110:nx s.data.toList (i+1)=110
  ·exact Zp R s L O now de i w h hi hs hn m110
  by_cases m102:nx s.data.toList (i+1)=102
  ·exact Zq R s L O now de i w h hi hs hn m102
  by_cases m114:nx s.data.toList (i+1)=114
  ·exact Zt R s L O now de i w h hi hs hn m114
  by_cases m34:nx s.data.toList (i+1)=34
  ·exact Zu R s L O now de i w h hi hs hn m34
  by_cases m92:nx s.data.toList (i+1)=92
  ·exact Zv R s L O now de i w h hi hs hn m92
  by_cases m117:nx s.data.toList (i+1)=117
  ·exact ZT R s L O now de i w h hi hs hn m117
  exact Zw R s L O now de i w h hi hs hn m98 m116 m110 m102 m114 m34 m92 m117
 ·exact Zm R s L O now de i w h hi hs (by omega)
end Go.Proofs.YtnnbgjaphfhibaaGreatDoor
