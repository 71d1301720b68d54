import Derived.Test.YtmkjelchiacogaaGreatDoorM02
import Derived.Shelf.Unicode.DecodeAny
import Derived.Test.YtmkjelchiacogaaGreatDoorProg
import Derived.Test.YtmkjelchiacogaaGreatDoorM01
import Derived.Shelf.Strings.BuilderRune
import Derived.Shelf.Strings.BuilderF
import Derived.Maps.OwnOps
import Derived.Maps.Views
import Derived.DeepKeys4
import Derived.Deep.AppendLies
set_option linter.unusedVariables false
set_option linter.unusedSimpArgs false
set_option maxRecDepth 100000
set_option maxHeartbeats 6400000
open Go.Proofs.Tryz
namespace Go.Proofs.YtmkjelchiacogaaGreatDoor
open Go.RowKit Go.Joins
def lM(x:Int):Option Nat:=if x=98 then some 8 else if x=116 then some 9 else if x=110 then some 10 else if x=102 then some 12 else if x=114 then some 13 else if x=34 then some 34 else if x=92 then some 92 else none
def mF(l:List UInt8)(i:Nat):Rs (Nat × Nat) :=
 if nx l (i+1)=117 then uk l (i+2) i
 else match lM (nx l (i+1)) with
  | some n=>.ok (n,i+2)
  | none=>.error (2,i+1)
def Qg:Rs (Nat × Nat)->Rs (List UInt8 × Nat)
 | .error e=>.error e
 | .ok (n,j)=>.ok (jV n,j)
theorem Qh(l:List UInt8)(i:Nat):esc l i=Qg (mF l i):=by
 unfold esc mF
 by_cases h:nx l (i+1)=117
 ·rw[if_pos h,if_pos h];unfold uk Jl nH A8
  cases four l 4 (i+2) 0 with
  | error e=>rfl
  | ok q =>
   obtain⟨n,j⟩:=q;simp only[decide_eq_true_eq]
   by_cases h2:55296<=n/\n<=57343
   ·rw[if_pos h2,if_pos (by omega)];rfl
   ·rw[if_neg h2,if_neg (by omega)];rfl
 ·rw[if_neg h,if_neg h];unfold lM
  repeat' split
  all_goals first|rfl|(simp_all;done)|(simp_all;subst_vars;rfl)
theorem ZA{a b:Int}{v:Value}(h:a=b):Ending.returned (.tuple #[.int .i32 a,v])=.returned (.tuple #[.int .i32 b,v]):=by rw[h]
theorem ZB(b:UInt8)(h:lM (b.toNat:Int)=none):Lib.indexByte [98,116,110,102,114,34,92] b=-1:=by
 have key:∀n:Fin 256,lM ((UInt8.ofNat n.val).toNat:Int)=none->Lib.indexByte [98,116,110,102,114,34,92] (UInt8.ofNat n.val)=-1:=by decide
 have:=key ⟨b.toNat,b.toNat_lt⟩;simp only[UInt8.ofNat_toNat]at this;exact this h
theorem ZC(b:UInt8)(n:Nat)(h:lM (b.toNat:Int)=some n):(Lib.indexByte [98,116,110,102,114,34,92] b=0/\n=8)\/(Lib.indexByte [98,116,110,102,114,34,92] b=1/\n=9)\/(Lib.indexByte [98,116,110,102,114,34,92] b=2/\n=10)\/(Lib.indexByte [98,116,110,102,114,34,92] b=3/\n=12)\/(Lib.indexByte [98,116,110,102,114,34,92] b=4/\n=13)\/(Lib.indexByte [98,116,110,102,114,34,92] b=5/\n=34)\/(Lib.indexByte [98,116,110,102,114,34,92] b=6/\n=92):=by
 have e:∀k:Nat,(b.toNat:Int)=(k:Int)->b=UInt8.ofNat k:=fun k hk=>by
  have:b.toNat=k:=by omega
  rw[<-this];simp
 unfold lM at h;split at h
 ·rename_i hb;rw[e 98 hb];cases h;exact Or.inl ⟨by decide,rfl⟩
 split at h
 ·rename_i hb;rw[e 116 hb];cases h;exact Or.inr (Or.inl ⟨by decide,rfl⟩)
 split at h
 ·rename_i hb;rw[e 110 hb];cases h;exact Or.inr (Or.inr (Or.inl ⟨by decide,rfl⟩))
 split at h
 ·rename_i hb;rw[e 102 hb];cases h;exact Or.inr (Or.inr (Or.inr (Or.inl ⟨by decide,rfl⟩)))
 split at h
 ·rename_i hb;rw[e 114 hb];cases h;exact Or.inr (Or.inr (Or.inr (Or.inr (Or.inl ⟨by decide,rfl⟩))))
 split at h
 ·rename_i hb;rw[e 34 hb];cases h;exact Or.inr (Or.inr (Or.inr (Or.inr (Or.inr (Or.inl ⟨by decide,rfl⟩)))))
 split at h
 ·rename_i hb;rw[e 92 hb];cases h;exact Or.inr (Or.inr (Or.inr (Or.inr (Or.inr (Or.inr ⟨by decide,rfl⟩)))))
 ·cases h
theorem ZE(R:Nat)(s:ByteArray)(i T:Nat)(E:Int->TypeId × Value)(w:World)(h:Rd w R s i T)(hi:i<s.size)(hs:s.size<=1048576)(he:Es w E)(hR:Far R) :
  Calls prog 201 #[.pointer (some ⟨R,0,none⟩)] w (yZ R s T E (mF s.data.toList i) w):=by
 have CN:Hd (∀k w,Rd w R s k T->k<=s.size->Calls prog 74 #[.pointer (some ⟨R,0,none⟩)] w fun e w'=>e=.returned (.int .i64 (nx s.data.toList k))/\w.grownBy w' none):=fun k w h1 h2=>mr R s k T w h1 h2 hs
 have CI:Hd (∀c w,Calls prog 173 #[.string ⟨#[98,116,110,102,114,34,92]⟩,.int .u8 c] w fun e w'=>e=.returned (.int .i64 (Lib.indexByte [98,116,110,102,114,34,92] c.toNat.toUInt8))/\w'=w):=fun c w=>Any.strings_IndexByte Tryz.lays137 ⟨#[98,116,110,102,114,34,92]⟩ c w
 have CU:Hd (∀k w',w.grownBy w' (some R)->Rd w' R s k T->k<=s.size->Calls prog 226 #[.pointer (some ⟨R,0,none⟩),.int .i64 (i:Nat)] w' (yZ R s T E (uk s.data.toList k i) w')):=fun k w' hg hr hk=>Zy R s k T i E w' hr hk hs (he.grow hR hg) hR
 have CH:Hd (∀k w',w.grownBy w' (some R)->Rd w' R s k T->Calls prog 125 #[.pointer (some ⟨R,0,none⟩)] w' fun e w''=>(∃v,e=.returned v/\aF w'' v E 2 k)/\w'.grownBy w'' none):=fun k w' hg hr=>uU R s k T (E 2).1 (E 2).2 w' hr (he.grow hR hg).te
 have hl:s.data.toList.length=s.size:=by simp
 obtain⟨G,hG⟩:=zN (mF s.data.toList i);have iZ:Hd ((if nx s.data.toList (i+1)=117 then uk s.data.toList (i+2) i else match lM (nx s.data.toList (i+1)) with|some n=>.ok (n,i+2)|none=>.error (2,i+1))=G):=hG;rw[hG];have H0:Hd (Rd w R s i T):=h;have HS:Hd (Rd (w.setCell ⟨R,1,none⟩ (.int .i64 ((i:Int)+1))) R s (i+1) T):=h.set (i+1);have uY:Hd (w.grownBy (w.setCell ⟨R,1,none⟩ (.int .i64 ((i:Int)+1))) (some R)):=dD (ai w (some R)) 1 _;have dE:Hd (∀k,k<=s.size->¬nx s.data.toList k=-1->k<s.size):=fun k hk hn=>by
  apply Classical.byContradiction;intro hh;exact hn (oq _ _ (by omega))
 have HAT:Hd (∀k (hk:k<s.size),nx s.data.toList k=(s[k].toNat:Int)):=fun k hk=>by
  rw[ug _ _ (by omega)];rfl
 have xK:Hd (lM (-1)=none):=by show _=_;decide
 obtain⟨-,c1,-,df⟩:=h.cells;have df1:=df 1;clear h hG he df;go_enter func201,ntmps201;obtain⟨m,hm⟩:=zN (i+1);have hm2:i+2=m+1:=by omega
 rw[hm]at HS;rw[hm2,hm]at iZ;have hml:m<=s.size:=by omega
 have C1:Hd (∀w,Rd w R s m T->Calls prog 74 #[.pointer (some ⟨R,0,none⟩)] w fun e w'=>e=.returned (.int .i64 (nx s.data.toList m))/\w.grownBy w' none):=fun w h1=>CN.o m w h1 hml
 have qH:=dE.o m hml;have HA1:Hd (∀hk:m<s.size,nx s.data.toList m=(s[m].toNat:Int)):=HAT.o m;obtain⟨x,hx⟩:=zN (nx s.data.toList m);rw[hx]at C1 qH iZ HA1;have HL2:Hd (¬x=-1->m<s.size):=qH;clear hx qH hm hm2;go_wp2_with (go_at_call 74;refine(C1.o _ HS.o).mono ?_);rintro e w2 ⟨rfl,hg2⟩;have HR2:Hd (Rd w2 R s m T):=HS.o.grow hg2;have HG2:Hd (w.grownBy w2 (some R)):=aI uY.o hg2;clear hg2
 by_cases h117:x=117
 ·have hb:(x == 117)=true:=by simp[h117]
  have Qi:m<s.size:=HL2.o (by rw[h117];decide);have bC:Hd (uk s.data.toList (m+1) i=G):=by
   have:=iZ.o;rw[if_pos h117]at this;exact this
  obtain⟨-,d1,-,df⟩:=HR2.o.cells;have df2:=df 1;have fQ:Hd (Rd (w2.setCell ⟨R,1,none⟩ (.int .i64 ((m:Int)+1))) R s (m+1) T):=HR2.o.set (m+1);have aQ:Hd (w.grownBy (w2.setCell ⟨R,1,none⟩ (.int .i64 ((m:Int)+1))) (some R)):=dD HG2.o 1 _;have Qj:Hd (Calls prog 226 #[.pointer (some ⟨R,0,none⟩),.int .i64 (i:Nat)] (w2.setCell ⟨R,1,none⟩ (.int .i64 ((m:Int)+1))) (yZ R s T E G (w2.setCell ⟨R,1,none⟩ (.int .i64 ((m:Int)+1))))):=by
   rw[<-bC.o];exact CU.o (m+1) _ aQ.o fQ.o (by omega)
  clear h117 df
  cases G with
  | ok q =>
   obtain⟨n,j⟩:=q;go_wp2_with (go_at_call 226;refine Qj.o.mono ?_;rintro e w4 ⟨h1,h2,h3⟩;obtain⟨rfl,hr4⟩:=h1 n j rfl);refine bodyPost_ret (results_tmp2 (t:=2) (u:=3) rfl _ _ _) rfl ?_;exact⟨fun n j hh=>(by cases hh;exact⟨rfl,hr4⟩),fun c p hh=>(by cases hh),kK aQ.o h3⟩
  | error q =>
   obtain⟨c,q⟩:=q;go_wp2_with (go_at_call 226;refine Qj.o.mono ?_;rintro e w4 ⟨h1,h2,h3⟩;obtain⟨v,rfl,hv,jj,hjj⟩:=h2 c q rfl);refine bodyPost_ret (results_tmp2 (t:=2) (u:=3) rfl _ _ _) rfl ?_;exact⟨fun n j hh=>(by cases hh),fun c p hh=>(by cases hh;exact⟨v,rfl,hv,jj,hjj⟩),kK aQ.o h3⟩
 ·have hb:(x == 117)=false:=by simp[h117]
  by_cases he1:x=-1
  ·have hb2:(x == -1)=true:=by simp[he1]
   have bC:Hd (G=.error (2,m)):=by
    have:=iZ.o;rw[if_neg h117,he1,xK.o]at this;exact this.symm
   clear h117 he1;go_wp2_with (first|(go_at_call 74;refine(C1.o _ HR2.o).mono ?_;rintro e w3 ⟨rfl,hg3⟩)|(go_at_call 125;refine(CH.o m _ (aI HG2.o hg3) (HR2.o.grow hg3)).mono ?_;rintro e w5 ⟨⟨v,rfl,hv⟩,hg5⟩));refine bodyPost_ret (results_tmp2 (t:=2) (u:=3) rfl _ _ _) rfl ?_;rw[bC.o];exact⟨fun n j hh=>(by cases hh),fun c p hh=>(by cases hh;exact⟨v,rfl,hv,_,(HR2.o.grow hg3).grow hg5⟩),aI (aI HG2.o hg3) hg5⟩
  ·have hb2:(x == -1)=false:=by simp[he1]
   have Qi:m<s.size:=HL2.o he1;obtain⟨b,hbm⟩:=zN (s[m]);have hxm:x=(b.toNat:Int):=by rw[<-hbm];exact HA1.o Qi
   have bC:Hd ((match lM x with|some n=>.ok (n,m+1)|none=>.error (2,m))=G):=by
    have:=iZ.o;rw[if_neg h117]at this;exact this
   have lN:Hd (∀w,Calls prog 173 #[.string ⟨#[98,116,110,102,114,34,92]⟩,.int .u8 (b.toNat:Int)] w fun e w'=>e=.returned (.int .i64 (Lib.indexByte [98,116,110,102,114,34,92] b))/\w'=w):=fun w=>by
    have:=CI.o (b.toNat:Int) w;simpa using this
   have uX:Hd (lM x=none->Lib.indexByte [98,116,110,102,114,34,92] b=-1):=by rw[hxm];exact ZB b
   have Qk:Hd (∀n,lM x=some n->(Lib.indexByte [98,116,110,102,114,34,92] b=0/\n=8)\/(Lib.indexByte [98,116,110,102,114,34,92] b=1/\n=9)\/(Lib.indexByte [98,116,110,102,114,34,92] b=2/\n=10)\/(Lib.indexByte [98,116,110,102,114,34,92] b=3/\n=12)\/(Lib.indexByte [98,116,110,102,114,34,92] b=4/\n=13)\/(Lib.indexByte [98,116,110,102,114,34,92] b=5/\n=34)\/(Lib.indexByte [98,116,110,102,114,34,92] b=6/\n=92)):=by rw[hxm];exact ZC b
   obtain⟨K,hK⟩:=zN (Lib.indexByte [98,116,110,102,114,34,92] b);rw[hK]at lN uX Qk;clear h117 he1 hxm hK;go_wp2_with (go_at_call 74;refine(C1.o _ HR2.o).mono ?_);rintro e w3 ⟨rfl,hg3⟩;have HR3:Hd (Rd w3 R s m T):=HR2.o.grow hg3;have aQ:Hd (w.grownBy w3 (some R)):=aI HG2.o hg3;obtain⟨d0,d1,-,df⟩:=HR3.o.cells;have df2:=df 1;clear hg3 df;have qG:Hd (∀n,Rd ((w3.drewN n).setCell ⟨R,1,none⟩ (.int .i64 ((m:Int)+1))) R s (m+1) T):=fun n=>Rd.set (w:=w3.drewN n) (i:=m) HR3.o (m+1)
   have fD:Hd (∀n,w.grownBy ((w3.drewN n).setCell ⟨R,1,none⟩ (.int .i64 ((m:Int)+1))) (some R)):=fun n=>dD (au aQ.o n) 1 _
   cases hc:lM x with
   | none =>
    have hKn:=uX.o hc;rw[hc]at bC;subst hKn;clear hc;have xM:Hd (∀n,Calls prog 125 #[.pointer (some ⟨R,0,none⟩)] (w3.drewN n) fun e w''=>(∃v,e=.returned v/\aF w'' v E 2 m)/\(w3.drewN n).grownBy w'' none):=fun n=>CH.o m _ (au aQ.o n) HR3.o
    go_wp2;go_quiet (first|(go_at_call 173;exact Calls.quiet_of_same (lN.o _)));go_wp2_with (go_at_call 125;refine(xM.o _).mono ?_;rintro e w5 ⟨⟨v,rfl,hv⟩,hg5⟩);refine bodyPost_ret (results_tmp2 (t:=2) (u:=3) rfl _ _ _) rfl ?_;rw[<-bC.o];exact⟨fun n j hh=>(by cases hh),fun c p hh=>(by cases hh;exact⟨v,rfl,hv,_,Rd.grow (w:=World.drewN w3 _) HR3.o hg5⟩),aI (au aQ.o _) hg5⟩
   | some n =>
    have ZF:=Qk.o n hc;rw[hc]at bC;clear hc
    rcases ZF with⟨rfl,rfl⟩|⟨rfl,rfl⟩|⟨rfl,rfl⟩|⟨rfl,rfl⟩|⟨rfl,rfl⟩|⟨rfl,rfl⟩|⟨rfl,rfl⟩
    all_goals (
     go_wp2;go_quiet (first|(go_at_call 173;exact Calls.quiet_of_same (lN.o _)));go_wp2;refine bodyPost_ret (results_tmp2 (t:=2) (u:=3) rfl _ _ _) rfl ?_;rw[<-bC.o];exact⟨fun n j hh=>(by cases hh;exact⟨ZA (by first|(unfold wrap32;decide)|(unfold wrap32;rfl)|(unfold wrap32;simp[ByteArray.getElem_eq_getElem_data];done)),qG.o _⟩),fun c p hh=>(by cases hh),fD.o _⟩)
end Go.Proofs.YtmkjelchiacogaaGreatDoor
namespace Go.Proofs
open Go.Shelf
def Tryz.lays197_ren:Go.Shelf.Ren:=⟨fun|197=>203|260=>228|n=>n,fun|22=>263|24=>169|25=>170|27=>66|28=>88|31=>41|32=>172|33=>118|35=>219|37=>69|40=>312|41=>127|42=>220|43=>218|46=>176|47=>175|48=>132|49=>351|51=>235|52=>234|53=>237|54=>236|55=>258|67=>125|69=>75|70=>68|71=>70|72=>71|73=>112|74=>49|75=>50|76=>72|77=>73|78=>161|79=>283|80=>77|81=>140|83=>74|84=>178|85=>318|86=>319|94=>165|100=>179|101=>56|102=>57|103=>171|104=>78|105=>284|106=>285|108=>328|111=>141|112=>221|114=>270|119=>313|126=>303|127=>126|128=>304|131=>59|135=>243|137=>314|138=>315|139=>316|143=>330|144=>331|145=>332|164=>143|165=>177|166=>279|167=>317|168=>320|169=>321|170=>322|171=>238|172=>239|173=>240|174=>241|175=>324|176=>325|182=>228|183=>229|188=>274|189=>275|190=>276|191=>277|192=>278|209=>326|210=>327|211=>271|212=>272|213=>273|214=>329|218=>264|219=>265|220=>266|222=>268|224=>300|225=>301|228=>297|229=>298|231=>311|232=>309|233=>310|238=>333|239=>334|240=>335|241=>336|242=>337|243=>339|244=>151|245=>340|246=>341|247=>342|248=>343|249=>344|n=>n,fun|1=>7|3=>10|4=>11|15=>12|16=>13|17=>6|18=>8|19=>9|n=>n⟩
theorem Tryz.lays197:Go.Proofs.Lays.n197 prog Tryz.lays197_ren:={
 mixed:=by kernel_rfl
 f197:=func203.trans (congrArg some (by kernel_rfl))
 f260:=func228.trans (congrArg some (by kernel_rfl))
 t0:=underlying0
 a0:=isAgg0
 z0:=sizeOf0
 v0:=zeroValue0
 t3:=underlying3
 a3:=isAgg3
 z3:=sizeOf3
 v3:=zeroValue3
 t4:=underlying4
 a4:=isAgg4
 z4:=sizeOf4
 v4:=zeroValue4
 t5:=underlying5
 a5:=isAgg5
 z5:=sizeOf5
 v5:=zeroValue5
 t9:=underlying9
 a9:=isAgg9
 z9:=sizeOf9
 v9:=zeroValue9
 t21:=underlying21
 a21:=isAgg21
 z21:=sizeOf21
 v21:=zeroValue21
 t46:=underlying176
 a46:=isAgg176
 z46:=sizeOf176
 v46:=zeroValue176
 t105:=underlying284
 a105:=isAgg284
 z105:=sizeOf284
 v105:=zeroValue284
 t119:=underlying313
 a119:=isAgg313
 z119:=sizeOf313
 t138:=underlying315
 a138:=isAgg315
 z138:=sizeOf315
 v138:=zeroValue315
 t139:=underlying316
 a139:=isAgg316
 z139:=sizeOf316
 v139:=zeroValue316
 g3:=by kernel_rfl
 g4:=by kernel_rfl }
end Go.Proofs
namespace Go.Proofs.YtmkjelchiacogaaGreatDoor
open Go.RowKit Go.Joins
theorem FH(l:List UInt8)(i k:Nat):((⟨(l.drop i).toArray⟩:ByteArray).get! k).toNat=(l[i+k]?.getD 0).toNat:=by
 show(((l.drop i).toArray)[k]!).toNat=_;rw[Array.getElem!_eq_getD];simp[Array.getD_eq_getD_getElem?,List.getElem?_drop];rfl
theorem FI(l:List UInt8)(i k:Nat)(hi:i<l.length):nx l (i+k)=if k<l.length-i then(((l[i+k]?.getD 0).toNat:Nat):Int) else -1:=by
 by_cases h:k<l.length-i
 ·rw[if_pos h,ug l (i+k) (by omega),List.getElem?_eq_getElem (by omega)];rfl
 ·rw[if_neg h,oq l (i+k) (by omega)]
theorem ZG(l:List UInt8)(i:Nat)(hi:i<l.length):Told (aX l i) (Lib.decodeGo ⟨(l.drop i).toArray⟩):=by
 have hz:(⟨(l.drop i).toArray⟩:ByteArray).size=l.length-i:=by show(l.drop i).toArray.size=_;simp
 have e:Lib.decodeGo ⟨(l.drop i).toArray⟩=Lib.decodeN (l.length-i) (l[i]?.getD 0).toNat (l[i+1]?.getD 0).toNat (l[i+2]?.getD 0).toNat (l[i+3]?.getD 0).toNat:=by
  unfold Lib.decodeGo;rw[if_neg (by rw[hz];omega),Lib.decode_at,hz,FH,FH,FH,FH];rfl
 rw[e,Y8];have h0:=FI l i 0 hi;rw[if_pos (by omega)]at h0;have h00:nx l i=(((l[i]?.getD 0).toNat:Nat):Int):=h0;rw[h00];exact Ze _ _ _ _ _ _ _ _ (by omega) (UInt8.toNat_lt _) (UInt8.toNat_lt _) (UInt8.toNat_lt _) (UInt8.toNat_lt _) (FI l i 1 hi) (FI l i 2 hi) (FI l i 3 hi)
theorem ZH(l:List UInt8)(i:Nat)(hi:i<l.length)(w:World)(hT:Lib.Utf8Tabs 10 11 w) :
  Calls prog 203 #[.string ⟨(l.drop i).toArray⟩] w fun e w'=>∃r k:Nat,e=.returned (.tuple #[.int .i32 (r:Nat),.int .i64 (k:Nat)])/\Told (aX l i) (r,k)/\Below w.heap.size w w' :=
 (Any.utf8_DecodeRuneInString Tryz.lays197 ⟨(l.drop i).toArray⟩ w hT).mono fun e w' h=>⟨_,_,h.1,ZG l i hi,h.2⟩
end Go.Proofs.YtmkjelchiacogaaGreatDoor
namespace Go.Proofs
open Go.Shelf
def Tryz.lays166_ren:Go.Shelf.Ren:=⟨fun|166=>30|240=>62|276=>102|n=>n,fun|22=>263|24=>169|25=>170|27=>66|28=>88|31=>41|32=>172|33=>118|35=>219|37=>69|40=>312|41=>127|42=>220|43=>218|46=>176|47=>175|48=>132|49=>351|51=>235|52=>234|53=>237|54=>236|55=>258|67=>125|69=>75|70=>68|71=>70|72=>71|73=>112|74=>49|75=>50|76=>72|77=>73|78=>161|79=>283|80=>77|81=>140|83=>74|84=>178|85=>318|86=>319|94=>165|100=>179|101=>56|102=>57|103=>171|104=>78|105=>284|106=>285|108=>328|111=>141|112=>221|114=>270|119=>313|126=>303|127=>126|128=>304|131=>59|135=>243|137=>314|138=>315|139=>316|143=>330|144=>331|145=>332|164=>143|165=>177|166=>279|167=>317|168=>320|169=>321|170=>322|171=>238|172=>239|173=>240|174=>241|175=>324|176=>325|182=>228|183=>229|188=>274|189=>275|190=>276|191=>277|192=>278|209=>326|210=>327|211=>271|212=>272|213=>273|214=>329|218=>264|219=>265|220=>266|222=>268|224=>300|225=>301|228=>297|229=>298|231=>311|232=>309|233=>310|238=>333|239=>334|240=>335|241=>336|242=>337|243=>339|244=>151|245=>340|246=>341|247=>342|248=>343|249=>344|n=>n,fun|1=>7|3=>10|4=>11|15=>12|16=>13|17=>6|18=>8|19=>9|n=>n⟩
theorem Tryz.lays166:Go.Proofs.Lays.n166 prog Tryz.lays166_ren:={
 mixed:=by kernel_rfl
 f166:=func30.trans (congrArg some (by kernel_rfl))
 f240:=func62.trans (congrArg some (by kernel_rfl))
 f276:=func102.trans (congrArg some (by kernel_rfl))
 t0:=underlying0
 a0:=isAgg0
 z0:=sizeOf0
 v0:=zeroValue0
 t3:=underlying3
 a3:=isAgg3
 z3:=sizeOf3
 v3:=zeroValue3
 t4:=underlying4
 a4:=isAgg4
 z4:=sizeOf4
 v4:=zeroValue4
 t9:=underlying9
 a9:=isAgg9
 z9:=sizeOf9
 v9:=zeroValue9
 t20:=underlying20
 a20:=isAgg20
 z20:=sizeOf20
 v20:=zeroValue20
 t37:=underlying69
 a37:=isAgg69
 z37:=sizeOf69
 v37:=zeroValue69
 t70:=underlying68
 a70:=isAgg68
 z70:=sizeOf68
 v70:=zeroValue68
 t72:=underlying71
 a72:=isAgg71
 z72:=sizeOf71
 v72:=zeroValue71
 t75:=underlying50
 a75:=isAgg50
 z75:=sizeOf50
 v75:=zeroValue50
 t164:=underlying143
 a164:=isAgg143
 z164:=sizeOf143
 v164:=zeroValue143 }
def Tryz.lays168_ren:Go.Shelf.Ren:=⟨fun|168=>202|240=>62|242=>227|276=>102|278=>243|n=>n,fun|22=>263|24=>169|25=>170|27=>66|28=>88|31=>41|32=>172|33=>118|35=>219|37=>69|40=>312|41=>127|42=>220|43=>218|46=>176|47=>175|48=>132|49=>351|51=>235|52=>234|53=>237|54=>236|55=>258|67=>125|69=>75|70=>68|71=>70|72=>71|73=>112|74=>49|75=>50|76=>72|77=>73|78=>161|79=>283|80=>77|81=>140|83=>74|84=>178|85=>318|86=>319|94=>165|100=>179|101=>56|102=>57|103=>171|104=>78|105=>284|106=>285|108=>328|111=>141|112=>221|114=>270|119=>313|126=>303|127=>126|128=>304|131=>59|135=>243|137=>314|138=>315|139=>316|143=>330|144=>331|145=>332|164=>143|165=>177|166=>279|167=>317|168=>320|169=>321|170=>322|171=>238|172=>239|173=>240|174=>241|175=>324|176=>325|182=>228|183=>229|188=>274|189=>275|190=>276|191=>277|192=>278|209=>326|210=>327|211=>271|212=>272|213=>273|214=>329|218=>264|219=>265|220=>266|222=>268|224=>300|225=>301|228=>297|229=>298|231=>311|232=>309|233=>310|238=>333|239=>334|240=>335|241=>336|242=>337|243=>339|244=>151|245=>340|246=>341|247=>342|248=>343|249=>344|n=>n,fun|1=>7|3=>10|4=>11|15=>12|16=>13|17=>6|18=>8|19=>9|n=>n⟩
theorem Tryz.lays168:Go.Proofs.Lays.n168 prog Tryz.lays168_ren:={
 mixed:=by kernel_rfl
 f168:=func202.trans (congrArg some (by kernel_rfl))
 f240:=func62.trans (congrArg some (by kernel_rfl))
 f242:=func227.trans (congrArg some (by kernel_rfl))
 f276:=func102.trans (congrArg some (by kernel_rfl))
 f278:=func243.trans (congrArg some (by kernel_rfl))
 t0:=underlying0
 a0:=isAgg0
 z0:=sizeOf0
 v0:=zeroValue0
 t3:=underlying3
 a3:=isAgg3
 z3:=sizeOf3
 v3:=zeroValue3
 t4:=underlying4
 a4:=isAgg4
 z4:=sizeOf4
 v4:=zeroValue4
 t5:=underlying5
 a5:=isAgg5
 z5:=sizeOf5
 v5:=zeroValue5
 t9:=underlying9
 a9:=isAgg9
 z9:=sizeOf9
 v9:=zeroValue9
 t20:=underlying20
 a20:=isAgg20
 z20:=sizeOf20
 v20:=zeroValue20
 t21:=underlying21
 a21:=isAgg21
 z21:=sizeOf21
 v21:=zeroValue21
 t37:=underlying69
 a37:=isAgg69
 z37:=sizeOf69
 v37:=zeroValue69
 t46:=underlying176
 a46:=isAgg176
 z46:=sizeOf176
 v46:=zeroValue176
 t51:=underlying235
 a51:=isAgg235
 z51:=sizeOf235
 v51:=zeroValue235
 t70:=underlying68
 a70:=isAgg68
 z70:=sizeOf68
 v70:=zeroValue68
 t72:=underlying71
 a72:=isAgg71
 z72:=sizeOf71
 v72:=zeroValue71
 t75:=underlying50
 a75:=isAgg50
 z75:=sizeOf50
 v75:=zeroValue50
 t164:=underlying143
 a164:=isAgg143
 z164:=sizeOf143
 v164:=zeroValue143 }
def Tryz.lays169_ren:Go.Shelf.Ren:=⟨fun|169=>34|n=>n,fun|22=>263|24=>169|25=>170|27=>66|28=>88|31=>41|32=>172|33=>118|35=>219|37=>69|40=>312|41=>127|42=>220|43=>218|46=>176|47=>175|48=>132|49=>351|51=>235|52=>234|53=>237|54=>236|55=>258|67=>125|69=>75|70=>68|71=>70|72=>71|73=>112|74=>49|75=>50|76=>72|77=>73|78=>161|79=>283|80=>77|81=>140|83=>74|84=>178|85=>318|86=>319|94=>165|100=>179|101=>56|102=>57|103=>171|104=>78|105=>284|106=>285|108=>328|111=>141|112=>221|114=>270|119=>313|126=>303|127=>126|128=>304|131=>59|135=>243|137=>314|138=>315|139=>316|143=>330|144=>331|145=>332|164=>143|165=>177|166=>279|167=>317|168=>320|169=>321|170=>322|171=>238|172=>239|173=>240|174=>241|175=>324|176=>325|182=>228|183=>229|188=>274|189=>275|190=>276|191=>277|192=>278|209=>326|210=>327|211=>271|212=>272|213=>273|214=>329|218=>264|219=>265|220=>266|222=>268|224=>300|225=>301|228=>297|229=>298|231=>311|232=>309|233=>310|238=>333|239=>334|240=>335|241=>336|242=>337|243=>339|244=>151|245=>340|246=>341|247=>342|248=>343|249=>344|n=>n,fun|1=>7|3=>10|4=>11|15=>12|16=>13|17=>6|18=>8|19=>9|n=>n⟩
theorem Tryz.lays169:Go.Proofs.Lays.n169 prog Tryz.lays169_ren:={
 mixed:=by kernel_rfl
 f169:=func34.trans (congrArg some (by kernel_rfl))
 t0:=underlying0
 a0:=isAgg0
 z0:=sizeOf0
 v0:=zeroValue0
 t3:=underlying3
 a3:=isAgg3
 z3:=sizeOf3
 v3:=zeroValue3
 t9:=underlying9
 a9:=isAgg9
 z9:=sizeOf9
 v9:=zeroValue9
 t37:=underlying69
 a37:=isAgg69
 z37:=sizeOf69
 v37:=zeroValue69
 t70:=underlying68
 a70:=isAgg68
 z70:=sizeOf68
 v70:=zeroValue68
 t72:=underlying71
 a72:=isAgg71
 z72:=sizeOf71
 v72:=zeroValue71
 t127:=underlying126
 a127:=isAgg126
 z127:=sizeOf126
 v127:=zeroValue126 }
theorem Tryz.Builder_Extra_166:Builder.Extra prog Tryz.lays166_ren:={
 sizeBuilder:=by kernel_rfl
 liesBuilder:=by kernel_rfl
 t5:=underlying5
 a5:=isAgg5
 z5:=sizeOf5
 v5:=zeroValue5
 infoByte:=by kernel_rfl
 cellsByte:=by kernel_rfl
 sizeByte:=by kernel_rfl
 neB5:=by decide }
theorem Tryz.Builder_Extra_168:Builder.Extra prog Tryz.lays168_ren:={
 sizeBuilder:=by kernel_rfl
 liesBuilder:=by kernel_rfl
 t5:=underlying5
 a5:=isAgg5
 z5:=sizeOf5
 v5:=zeroValue5
 infoByte:=by kernel_rfl
 cellsByte:=by kernel_rfl
 sizeByte:=by kernel_rfl
 neB5:=by decide }
theorem Tryz.Builder_Extra_169:Builder.Extra prog Tryz.lays169_ren:={
 sizeBuilder:=by kernel_rfl
 liesBuilder:=by kernel_rfl
 t5:=underlying5
 a5:=isAgg5
 z5:=sizeOf5
 v5:=zeroValue5
 infoByte:=by kernel_rfl
 cellsByte:=by kernel_rfl
 sizeByte:=by kernel_rfl
 neB5:=by decide }
end Go.Proofs
namespace Go.Proofs.YtmkjelchiacogaaGreatDoor
open Go.RowKit Go.Joins
def Bd(w:World)(B b:Nat)(acc:List UInt8):Prop:=Lib.IsBuilderF 71 5 B b (Lib.byteCells acc) w
theorem Ql{T e:TypeId}{B b R:Nat}{p:Value}{bs:List Value}{w w':World}(h:Lib.BuilderAtF T e B b p bs w)(hg:w.grownBy w' (some R))(hR:R<B):Lib.BuilderAtF T e B b p bs w':=by
 obtain⟨hB,v,hb,hown,hne⟩:=h;refine⟨hB,v,(hg.block b (bz hb) (fun e=>by cases e;omega)).trans hb,hown.kept hg ?_,hne⟩
 cases hv:v.ownBlock with
 | none=>exact Or.inl rfl
 | some k =>
  refine Or.inr fun e=>?_
  cases e
  have:=(hown.lt _ hv).1;omega
theorem Bd.grow{w w':World}{B b R:Nat}{acc:List UInt8}(h:Bd w B b acc)(hg:w.grownBy w' (some R))(hR:R<B):Bd w' B b acc:=h.imp (fun h=>Ql h hg hR) (fun h=>Ql h hg hR)
theorem ZI(n:Nat)(hn:n<65536)(hs:nH n=false):Lib.runeCells (n:Nat)=Lib.byteCells (jV n):=by
 have h1:∀k:Nat,k<256->(UInt8.ofNat k).toNat=k:=fun k hk=>by simp;omega
 have hs':¬(55296<=n/\n<=57343):=by
  have:=of_decide_eq_false (show decide (55296<=(n:Int)/\(n:Int)<=57343)=false from hs);omega
 unfold Lib.runeCells Lib.byteCells jV
 by_cases a:n<128
 ·rw[Lib.encodeRuneZ_one (by omega) (by omega),if_pos a];simp only[List.map_cons,List.map_nil,h1 n (by omega)]
 rw[if_neg a]
 by_cases b:n<2048
 ·rw[Lib.encodeRuneZ_two (by omega) (by omega),if_pos b];simp only[List.map_cons,List.map_nil,h1 (192+n / 64) (by omega),h1 (128+n % 64) (by omega)];simp
 rw[if_neg b,Lib.encodeRuneZ_three (by omega)];simp only[List.map_cons,List.map_nil,h1 (224+n / 4096) (by omega),h1 (128+n / 64 % 64) (by omega),h1 (128+n % 64) (by omega)];simp
theorem y7(a b:List UInt8):Lib.byteCells (a++b)=Lib.byteCells a++Lib.byteCells b:=by simp[Lib.byteCells]
theorem FK(a:List UInt8):(Lib.byteCells a).length=a.length:=by simp[Lib.byteCells]
theorem ZJ(B b n:Nat)(acc:List UInt8)(w:World)(h:Bd w B b acc)(hn:n<65536)(hs:nH n=false)(hl:acc.length<=1099511627776)(hB:B<=w.heap.size) :
  Calls prog 202 #[.pointer (some ⟨b,0,none⟩),.int .i32 (n:Nat)] w fun e w'=>(∃k:Int,e=.returned (.tuple #[.int .i64 k,.nilIface]))/\Bd w' B b (acc++jV n)/\Below B w w':=by
 refine(Any.Builder_WriteRune_k Tryz.lays168 Tryz.Builder_Extra_168 B b (Lib.byteCells acc) (n:Nat) (by omega) (by omega) w h (by rw[FK];omega) hB).mono ?_;rintro e w' ⟨rfl,h1,h2,h3⟩;refine⟨⟨_,rfl⟩,Or.inr ?_,h2⟩;rw[y7,<-ZI n hn hs];exact h1
theorem Qm(B b:Nat)(acc x:List UInt8)(w:World)(h:Bd w B b acc)(hl:acc.length<=1099511627776)(hx:x.length<=1048576)(hB:B<=w.heap.size) :
  Calls prog 30 #[.pointer (some ⟨b,0,none⟩),.string ⟨x.toArray⟩] w fun e w'=>(∃k:Int,e=.returned (.tuple #[.int .i64 k,.nilIface]))/\Bd w' B b (acc++x)/\Below B w w':=by
 have hz:(⟨x.toArray⟩:ByteArray).size=x.length:=by show x.toArray.size=_;simp
 refine(Any.Builder_WriteString_f Tryz.lays166 Tryz.Builder_Extra_166 B b (Lib.byteCells acc) ⟨x.toArray⟩ w h (by rw[FK,hz];omega) hB).mono ?_;rintro e w' ⟨rfl,h1,h2⟩;refine⟨⟨_,rfl⟩,Or.inr ?_,h2⟩;rw[y7];exact h1
theorem Qn(B b:Nat)(acc:List UInt8)(w:World)(h:Bd w B b acc)(hB:B<=w.heap.size) :
  Calls prog 34 #[.pointer (some ⟨b,0,none⟩)] w fun e w'=>e=.returned (.string ⟨acc.toArray⟩)/\Below B w w' :=
 (Any.Builder_String_any_f Tryz.lays169 Tryz.Builder_Extra_169 B b acc w h hB).mono fun e w' h=>⟨h.1,h.2.2⟩
open Go.RowKit Go.Maps Go.WideMaps
theorem ZK:laidOutB prog=true:=by kernel_rfl
theorem Qo:(252:TypeId)<prog.types.size:=of_decide_eq_true (by kernel_rfl)
theorem ZL:KeyLaw prog 252:=deep_law_laid ZK (m:=2) (by omega) Qo (by kernel_rfl) (by rw[underlying252])
theorem FM:Keyed prog 252:=Keyed.of_law ZL
def holdL:List Value->Option (DataW Unit × List MemPlace)
 | [.int q n,.bool b]=>some (.agg [.lit (.int q n),.lit (.bool b)],[])
 | _=>none
def FN(v:Value):Option (DataW Unit × List MemPlace) :=
 match v with
 | .agg cs=>holdL cs.toList
 | _=>none
theorem ZM(q:IntKind)(n:Int)(b:Bool):FN (.agg #[.int q n,.bool b])=some (.agg [.lit (.int q n),.lit (.bool b)],[]):=rfl
theorem ZN{l:List Value}{q:IntKind}{n:Int}{b:Bool}{ps:List MemPlace}(h:holdL l=some (.agg [.lit (.int q n),.lit (.bool b)],ps)):l=[.int q n,.bool b]:=by
 unfold holdL at h;split at h
 ·injection h with h
  injection h with h _
  injection h with h
  injection h with h1 h2
  injection h2 with h2 _
  injection h1 with h1
  injection h2 with h2
  injection h1 with h3 h4
  injection h2 with h5
  rw[h3,h4,h5]
 ·cases h
theorem ZO{v:Value}{q:IntKind}{n:Int}{b:Bool}{ps:List MemPlace}(h:FN v=some (.agg [.lit (.int q n),.lit (.bool b)],ps)):v=.agg #[.int q n,.bool b]:=by
 unfold FN at h;split at h
 ·rename_i cs;have:=ZN h;congr 1;exact Array.ext' this
 ·cases h
def oH(t:Nat)(k:List UInt8):Value:=.agg #[.int .i64 (t:Nat),.string ⟨k.toArray⟩]
noncomputable def y8(t:Nat)(k:List UInt8):Lit:=(keyOf prog 252 (oH t k)).getD (.bool false)
theorem ZP(t:Nat)(k:List UInt8)(ht:t<4611686018427387904)(hk:k.length<=1048576):∃l,keyOf prog 252 (oH t k)=some l:=by
 have h1:prog.keyType 252=true:=by kernel_rfl
 have h2:∀a b:Value,(Value.agg #[a,b]).formed prog 252=true:=fun a b=>by
  have hc:prog.cellsOf 252=2:=by kernel_rfl
  simp[Value.formed,underlying252,hc]
 obtain⟨m,hm⟩:∃m,prog.types.size=m+1:=⟨prog.types.size-1,by have h0:0<prog.types.size:=Nat.lt_of_le_of_lt (Nat.zero_le _) Qo;omega⟩;have hc:prog.cellsOf 252=2:=by kernel_rfl
 have hci:prog.cellsOf 3=1:=by kernel_rfl
 have hcs:prog.cellsOf 9=1:=by kernel_rfl
 have hw:(Lit.int .i64 (t:Nat)).wf=true:=by
  have h1:IntKind.i64.min=-9223372036854775808:=by decide
  have h2:IntKind.i64.max=9223372036854775807:=by decide
  simp only[Lit.wf,h1,h2];simp;omega
 have hz:(⟨k.toArray⟩:ByteArray).size<=maxLen:=by
  show k.toArray.size<=_;unfold maxLen;simp;omega
 unfold keyOf oH;simp only[underlying252,h1,h2,Bool.and_self,if_true,hm];have e1:prog.keyLits (m+1) 3 [.int .i64 (t:Nat)]=some [.int .i64 (t:Nat)]:=by
  simp[Program.keyLits,underlying3,hw]
 have e2:prog.keyLits (m+1) 9 [.string ⟨k.toArray⟩]=some [.string k]:=by
  simp[Program.keyLits,underlying9,hz]
 refine⟨.string (keyBytes ([.int .i64 (t:Nat)]++[.string k])),?_⟩;unfold Program.keyLits;simp[underlying252,hc,hci,hcs,e1,e2,Value.cells]
theorem Ba(t:Nat)(k:List UInt8)(ht:t<4611686018427387904)(hk:k.length<=1048576):keyOf prog 252 (oH t k)=some (y8 t k):=by
 obtain⟨l,hl⟩:=ZP t k ht hk;unfold y8;rw[hl];rfl
theorem ZQ{t t':Nat}{k k':List UInt8}(ht:t<4611686018427387904)(hk:k.length<=1048576)(ht':t'<4611686018427387904)(hk':k'.length<=1048576)(h:y8 t k=y8 t' k'):t=t'/\k=k':=by
 have h1:=Ba t k ht hk;have h2:=Ba t' k' ht' hk';rw[<-h]at h2;have h3:=FM.inj h1 h2;unfold oH at h3;injection h3 with h3
 have h4:=congrArg Array.toList h3;simp only[List.cons.injEq,Value.int.injEq,Value.string.injEq,true_and,and_true]at h4;obtain⟨h5,h6⟩:=h4;refine⟨Int.ofNat_inj.1 h5,?_⟩;have h7:=congrArg (fun b:ByteArray=>b.data.toList) h6;simpa using h7
def HM(w:World)(M n:Nat)(f:Nat->List UInt8->Option (Nat × Bool)):Prop:=∃D:DataW Unit,w.ownsMap prog 252 FN M n D/\IsMap D/\∀t k,t<4611686018427387904->k.length<=1048576->∀zd,D.atKey (y8 t k) zd=match f t k with|some v=>.agg [.lit (.int .i64 (v.1:Nat)),.lit (.bool v.2)]|none=>zd
theorem HM.mono{w:World}{M n n':Nat}{f:Nat->List UInt8->Option (Nat × Bool)}(h:HM w M n f)(hn:n<=n'):HM w M n' f:=by
 obtain⟨D,h1,h2,h3⟩:=h;exact⟨D,h1.mono hn,h2,h3⟩
theorem HM.block{w w':World}{M n:Nat}{f:Nat->List UInt8->Option (Nat × Bool)}(h:HM w M n f)(hb:w'.heap[M]?=w.heap[M]?):HM w' M n f:=by
 obtain⟨D,⟨es,c,h1,h1'⟩,h2,h3⟩:=h;exact⟨D,⟨es,c,hb.trans h1,h1'⟩,h2,h3⟩
theorem HM.map{w:World}{M n:Nat}{f:Nat->List UInt8->Option (Nat × Bool)}(h:HM w M n f):∃es c,w.heap[M]?=some (.map es c):=by
 obtain⟨D,⟨es,c,h1,h1'⟩,h2,h3⟩:=h;exact⟨es,c,h1⟩
theorem HM.made(w:World):HM (w.alloc (.map #[] 0)) w.heap.size 0 (fun _ _=>none):=⟨.map [],World.ownsMap_made w _ _ _,isMap_empty,fun _ _ _ _ _=>rfl⟩
theorem ZR(w:World):(zeroValue 249).run prog w=.ok (.agg #[.int .i64 0,.bool false]) w:=by kernel_rfl
theorem HM.look{w:World}{M n:Nat}{f:Nat->List UInt8->Option (Nat × Bool)}(h:HM w M n f)(t:Nat)(k:List UInt8)(ht:t<4611686018427387904)(hk:k.length<=1048576) :
  (Instr.lookup 101 (.map (some M)) (oH t k) true).run prog w=.ok (match f t k with|some v=>.tuple #[.agg #[.int .i64 (v.1:Nat),.bool v.2],.bool true]|none=>.tuple #[.agg #[.int .i64 0,.bool false],.bool false]) w:=by
 obtain⟨D,⟨es,c,h1,F,hs,rfl⟩,h2,h3⟩:=h;have h4:=h3 t k ht hk
 rcases Maps.fit_look true FM underlying101 (ZR w) h1 F (Ba t k ht hk) with⟨hrun,-,hat⟩|⟨e0,y,-,-,hrun,hRv,hat,-⟩
 ·rw[hrun]
  cases hf:f t k with
  | none=>rfl
  | some v =>
   exfalso;have:=h4 .nil;rw[hf,hat .nil]at this
   cases this
 ·rw[hrun]
  cases hf:f t k with
  | none =>
   exfalso;have a1:=h4 .nil;have a2:=h4 (.map []);rw[hf,hat]at a1 a2;simp only[]at a1 a2;rw[a1]at a2
   cases a2
  | some v =>
   have a1:=h4 .nil;rw[hf,hat]at a1;obtain⟨y1,y2⟩:=y;simp only[]at a1;subst a1;have:=ZO hRv;rw[this];rfl
theorem HM.put{w:World}{M n:Nat}{f:Nat->List UInt8->Option (Nat × Bool)}(h:HM w M n f)(t:Nat)(k:List UInt8)(ht:t<4611686018427387904)(hk:k.length<=1048576)(hn:n<1099511627776)(q:Nat)(b:Bool) :
  ∃w',(Instr.mapUpdate 101 (.map (some M)) (oH t k) (.agg #[.int .i64 (q:Nat),.bool b])).run prog w=.ok () w'/\HM w' M (n+1) (xC f t k (q,b))/\w.grownBy w' (some M):=by
 obtain⟨D,h1,h2,h3⟩:=h;obtain⟨w',hr,ho,hg⟩:=h1.update FM underlying101 (by unfold maxLen;omega) (Ba t k ht hk) (ZM .i64 (q:Nat) b);refine⟨w',hr,⟨_,ho,h2.put _ _,fun t' k' ht' hk' zd=>?_⟩,hg⟩;unfold xC
 by_cases he:t'=t/\k'=k
 ·rw[if_pos he];obtain⟨rfl,rfl⟩:=he;have hk1:=Ba t' k' ht hk;have hk2:=Keyed.key FM hk1;generalize y8 t' k'=kl at hk2;rw[atKey_put_same h2 hk2]
 ·rw[if_neg he,atKey_put_other (fun e=>he (ZQ ht' hk' ht hk e))];exact h3 t' k' ht' hk' zd
open Go.RowKit Go.Joins
theorem Jp(l:List UInt8):∀k i n m j,i<=l.length->four l k i n=.ok (m,j)->j=i+k/\j<=l.length/\m<(n+1)*16 ^ k:=by
 intro k
 induction k with
 | zero =>
  intro i n m j hi h
  cases h
  exact⟨rfl,hi,by simp⟩
 | succ k ih =>
  intro i n m j hi h;rw[Jm]at h;split at h
  ·cases h
  ·rename_i hx;have hlt:i<l.length:=by
    apply Classical.byContradiction;intro hn;rw[oq l i (by omega),Qc]at hx;omega
   obtain⟨h1,h2,h3⟩:=ih (i+1) _ m j hlt h;have hb:=Qb (nx l i);refine⟨by omega,h2,Nat.lt_of_lt_of_le h3 ?_⟩;rw[Nat.pow_succ,Nat.mul_comm (16 ^ k) 16,<-Nat.mul_assoc];exact Nat.mul_le_mul_right _ (by omega)
theorem Qp(x:Int)(n:Nat)(h:lM x=some n):n<128/\0<=x:=by
 unfold lM at h
 repeat' split at h
 all_goals first|(cases h;omega)|(cases h)
theorem Qq(l:List UInt8)(i n j:Nat)(hi:i<l.length)(h:mF l i=.ok (n,j)):n<65536/\nH n=false/\i+2<=j/\j<=l.length:=by
 unfold mF at h;split at h
 ·rename_i hx;have hlt:i+1<l.length:=cZ (by rw[hx];decide);unfold uk at h
  cases hf:four l 4 (i+2) 0 with
  | error e=>rw[hf]at h;cases h
  | ok q =>
   obtain⟨m,k⟩:=q;rw[hf]at h;have h2:(if nH m=true then Except.error (2,i) else Except.ok (m,k):Rs (Nat × Nat))=.ok (n,j):=h;split at h2
   ·cases h2
   ·rename_i hs
    cases h2
    obtain⟨h3,h4,h5⟩:=Jp l 4 (i+2) 0 n j (by omega) hf;refine⟨by simpa using h5,by simpa using hs,by omega,h4⟩
 ·cases hc:lM (nx l (i+1)) with
  | none=>rw[hc]at h;cases h
  | some m =>
   rw[hc]at h
   cases h
   obtain⟨h1,h2⟩:=Qp _ _ hc;have:=cZ h2;refine⟨by omega,decide_eq_false (by omega),by omega,by omega⟩
theorem Qr(n:Nat):(jV n).length<=3:=by
 unfold jV
 repeat' split
 all_goals simp
theorem Qs(l:List UInt8)(i:Nat)(hi:i<=l.length):i+aX l i<=l.length:=by
 have key:∀k lo hi',0<=lo->E8 l (i+k) lo hi'=true->i+k<l.length:=fun k lo hi' h0 h=>by
  have:=of_decide_eq_true h;exact cZ (by omega)
 have hlo:0<=(if nx l i=224 then(160:Int) else if nx l i=240 then 144 else 128):=by
  repeat' split
  all_goals omega
 unfold aX;simp only[];generalize (if nx l i=224 then(160:Int) else if nx l i=240 then 144 else 128)=lo at hlo ⊢;generalize (if nx l i=237 then(159:Int) else if nx l i=244 then 143 else 191)=hi';split
 ·omega
 ·rename_i h0;have hlt:i<l.length:=cZ (by omega);split
  ·omega
  split
  ·omega
  split
  ·omega
  ·rename_i h1;have a1:=key 1 lo hi' hlo (by simpa using h1);split
   ·omega
   split
   ·omega
   ·rename_i h2;have a2:=key 2 128 191 (by omega) (by simpa using h2);split
    ·omega
    split
    ·omega
    ·rename_i h3;have a3:=key 3 128 191 (by omega) (by simpa using h3);omega
theorem y9(l:List UInt8)(f i:Nat)(acc:List UInt8):str l (f+1) i acc =
  if nx l i=34 then .ok (acc,i+1)
  else if nx l i=92 then(match esc l i with | .error e=>.error e | .ok (b,j)=>str l f j (acc++b))
  else if nx l i=-1\/lg (nx l i)=true then .error (2,i)
  else if aX l i=0 then .error (2,i)
  else str l f (i+aX l i) (acc++ah l i (aX l i)):=rfl
theorem ZT{w w1 w2:World}{r:Option Nat}{B:Nat}(h:w.grownBy w1 r)(hB:w.heap.size<=B)(hb:Below B w1 w2):w.grownBy w2 r :=
 ⟨hb.os.trans h.os,hb.tape.trans h.tape,hb.output.trans h.output,Nat.le_trans h.size hb.size,fun k hk hn=>(hb.block k (by omega)).trans (h.block k hk hn)⟩
theorem Rd.bel{w w':World}{R:Nat}{s:ByteArray}{i T B:Nat}(h:Rd w R s i T)(hR:R<B)(hb:Below B w w'):Rd w' R s i T:=(hb.block R hR).trans h
theorem Rd.lt{w:World}{R:Nat}{s:ByteArray}{i T:Nat}(h:Rd w R s i T):R<w.heap.size:=(bz h)
theorem ZU{w w':World}{R g3 g4:Nat}(h:Lib.Utf8Tabs g3 g4 w)(h3:¬R=g3)(h4:¬R=g4)(hg:w.grownBy w' (some R)):Lib.Utf8Tabs g3 g4 w' :=
 ⟨fun c hc=>hg.cell (h.1 c hc) (by simp;exact fun e=>h3 e.symm),fun i hi=>⟨hg.cell (h.2 i hi).1 (by simp;exact fun e=>h4 e.symm),hg.cell (h.2 i hi).2 (by simp;exact fun e=>h4 e.symm)⟩⟩
open Go.RowKit Go.Maps Go.WideMaps Go.Joins
theorem bW{w w':World}{B:Nat}{e:TypeId}{s:Nat}{v:Value}{n:Nat}{xs:List Value}(h:w.ownsRow B e s v n xs)(hb:∀g cur,v.ownBlock=some g->w.heap[g]?=some (.cells cur e (0,0))->w'.heap[g]?=w.heap[g]?):w'.ownsRow B e s v n xs:=by
 refine⟨h.1,?_⟩
 rcases h.2 with h1|⟨g,cap,cur,rfl,h2,h3,h4⟩
 ·exact Or.inl h1
 ·exact Or.inr ⟨g,cap,cur,rfl,h2,(hb g cur rfl h3).trans h3,h4⟩
theorem dV{w:World}{B:Nat}{e:TypeId}{s:Nat}{v:Value}{n:Nat}{xs:List Value}(h:w.ownsRow B e s v n xs){g:Nat}(hg:v.ownBlock=some g):B<=g/\∃cur,w.heap[g]?=some (.cells cur e (0,0)):=by
 rcases h.2 with⟨rfl,_⟩|⟨g',cap,cur,rfl,h2,h3,h4⟩
 ·cases hg
 ·cases hg
  exact⟨h2,cur,h3⟩
theorem aY{w:World}{a b:Nat}{c1 c2:Array Value}{t1 t2:TypeId}{f1 f2:Nat × Nat}(h1:w.heap[a]?=some (.cells c1 t1 f1))(h2:w.heap[b]?=some (.cells c2 t2 f2))(h:¬t1=t2):¬a=b:=fun e=>by
 subst e;rw[h1]at h2;injection h2 with h2
 injection h2 with _ e2 _
 exact h e2
theorem pI{w:World}{a b:Nat}{c1:Array Value}{t1:TypeId}{f1:Nat × Nat}{es:Array MapEntry}{c:Nat}(h1:w.heap[a]?=some (.cells c1 t1 f1))(h2:w.heap[b]?=some (.map es c)):¬a=b:=fun e=>by
 subst e;rw[h1]at h2
 cases h2
theorem aA{w:World}{b:Nat}{o:Obj}(h:w.heap[b]?=some o):b<w.heap.size:=(bz h)
structure TrD(w:World)(B T:Nat)(ns:List Tn)(now N c M:Nat)(xs:List Value)(ks:Nat->Value)(n:Nat)(f:Nat->List UInt8->Option (Nat × Bool)):Prop where
 blk:w.heap[T]?=some (.cells #[.slice (some ⟨N,0,none⟩) ns.length c,.map (some M),.int .i64 (now:Nat)] 103 (0,0))
 bT:B<=T
 row:w.ownsRow B 90 6 (.slice (some ⟨N,0,none⟩) ns.length c) ns.length xs
 cel:∀i (hi:i<ns.length),xs[i*6]?=some (.int .i64 ns[i].kd)/\xs[i*6+1]?=some (.string ⟨ns[i].ky.toArray⟩)/\xs[i*6+2]?=some (.string ⟨ns[i].tx.toArray⟩)/\xs[i*6+3]?=some (.int .i64 ns[i].nu)/\xs[i*6+4]?=some (ks i)/\xs[i*6+5]?=some (.int .i64 (ns[i].pl:Nat))
 kid:∀i (hi:i<ns.length),w.ownsRow B 3 1 (ks i) ns[i].ks.length (ns[i].ks.map fun q=>.int .i64 (q:Nat))
 apart:∀i j g,i<ns.length->j<ns.length->(ks i).ownBlock=some g->(ks j).ownBlock=some g->i=j
 map:HM w M n f
 bM:B<=M
section
variable {w w':World} {B T:Nat} {ns:List Tn} {now N c M:Nat} {xs:List Value} {ks:Nat->Value} {n:Nat} {f:Nat->List UInt8->Option (Nat × Bool)}
theorem TrD.rowT(h:TrD w B T ns now N c M xs ks n f):∃cur,w.heap[N]?=some (.cells cur 90 (0,0)):=(dV h.row rfl).2
theorem TrD.cells(h:TrD w B T ns now N c M xs ks n f):w.cell? ⟨T,0,none⟩=some (.slice (some ⟨N,0,none⟩) ns.length c)/\w.cell? ⟨T,1,none⟩=some (.map (some M))/\w.cell? ⟨T,2,none⟩=some (.int .i64 (now:Nat))/\∀k,w.frozen? ⟨T,k,none⟩=false :=
 ⟨by rw[ae h.blk];rfl,by rw[ae h.blk];rfl,by rw[ae h.blk];rfl,fun k=>Lib.frozen_of_heap h.blk k⟩
theorem sD(g k:Nat):(⟨g,0,none⟩:Addr).add k=⟨g,k,none⟩:=by
 unfold Addr.add;split
 ·rename_i h;rw[h]
 ·simp
theorem TrD.node(h:TrD w B T ns now N c M xs ks n f)(i:Nat)(hi:i<ns.length):w.cell? ⟨N,i*6,none⟩=some (.int .i64 ns[i].kd)/\w.cell? ⟨N,i*6+1,none⟩=some (.string ⟨ns[i].ky.toArray⟩)/\w.cell? ⟨N,i*6+2,none⟩=some (.string ⟨ns[i].tx.toArray⟩)/\w.cell? ⟨N,i*6+3,none⟩=some (.int .i64 ns[i].nu)/\w.cell? ⟨N,i*6+4,none⟩=some (ks i)/\w.cell? ⟨N,i*6+5,none⟩=some (.int .i64 (ns[i].pl:Nat))/\∀k,w.frozen? ⟨N,k,none⟩=false:=by
 obtain⟨h0,h1,h2,h3,h4,h5⟩:=h.cel i hi;have key:∀j u,xs[j]?=some u->w.cell? ⟨N,j,none⟩=some u:=fun j u hu=>by
  have:=h.row.cells (g:=N) rfl j u hu;rw[sD]at this;exact this
 obtain⟨cur,hc⟩:=h.rowT;exact⟨key _ _ h0,key _ _ h1,key _ _ h2,key _ _ h3,key _ _ h4,key _ _ h5,fun k=>Lib.frozen_of_heap hc k⟩
def FO(w w':World):Prop:=(∀(b:Nat) (cs:Array Value) (t:TypeId) (fz:Nat × Nat),w.heap[b]?=some (.cells cs t fz)->(t=103\/t=90\/t=3)->w'.heap[b]?=w.heap[b]?)/\∀(b:Nat) (es:Array MapEntry) (c:Nat),w.heap[b]?=some (.map es c)->w'.heap[b]?=w.heap[b]?
theorem TrD.keeps(h:TrD w B T ns now N c M xs ks n f)(hk:FO w w'):TrD w' B T ns now N c M xs ks n f:=by
 refine⟨(hk.1 _ _ _ _ h.blk (Or.inl rfl)).trans h.blk,h.bT,bW h.row fun g cur _ hc=>hk.1 _ _ _ _ hc (Or.inr (Or.inl rfl)),h.cel,fun i hi=>bW (h.kid i hi) fun g cur _ hc=>hk.1 _ _ _ _ hc (Or.inr (Or.inr rfl)),h.apart,?_,h.bM⟩;obtain⟨es,cc,hm⟩:=h.map.map;exact h.map.block (hk.2 _ _ _ hm)
theorem mG(hg:w.grownBy w' none):FO w w':=⟨fun b cs t fz hb _=>hg.block b (aA hb) (by simp),fun b es c hb=>hg.block b (aA hb) (by simp)⟩
theorem ZV{R:Nat}{s:ByteArray}{i T':Nat}(h:Rd w R s i T')(hg:w.grownBy w' (some R)):FO w w' :=
 ⟨fun b cs t fz hb ht=>hg.block b (aA hb) (by
  simp only[ne_eq,Option.some.injEq];refine aY hb h ?_
  rcases ht with rfl|rfl|rfl<;>decide),fun b es c hb=>hg.block b (aA hb) (by
  simp only[ne_eq,Option.some.injEq];exact fun e=>pI h hb e.symm)⟩
structure Fr(B:Nat)(w w':World):Prop where
 bel:Below B w w'
 oth:∀(b:Nat) (cs:Array Value) (t:TypeId) (fz:Nat × Nat),w.heap[b]?=some (.cells cs t fz)->¬t=103->¬t=90->¬t=3->w'.heap[b]?=w.heap[b]?
theorem Fr.two{w1 w2:World}(h:Fr B w w1)(h':Fr B w1 w2):Fr B w w2 :=
 ⟨h.bel.trans h'.bel,fun b cs t fz hb h1 h2 h3=>by
  have e1:=h.oth b cs t fz hb h1 h2 h3;exact(h'.oth b cs t fz (e1.trans hb) h1 h2 h3).trans e1⟩
theorem Fr.gb(hg:w.grownBy w' none)(hB:B<=w.heap.size):Fr B w w' :=
 ⟨⟨hg.os,hg.tape,hg.output,hg.size,fun k hk=>hg.block k (by omega) (by simp)⟩,fun b cs t fz hb _ _ _=>hg.block b (aA hb) (by simp)⟩
theorem Fr.row{t:TypeId}{g:Nat}{cur:Array Value}{fz:Nat × Nat}(hg:w.grownBy w' (some g))(hB:B<=w.heap.size)(hgB:B<=g)(hb:w.heap[g]?=some (.cells cur t fz))(ht:t=103\/t=90\/t=3):Fr B w w' :=
 ⟨⟨hg.os,hg.tape,hg.output,hg.size,fun k hk=>hg.block k (by omega) (by simp;omega)⟩,fun b cs t' fz' hb' h1 h2 h3=>hg.block b (aA hb') (by
  simp only[ne_eq,Option.some.injEq];refine aY hb' hb ?_
  rcases ht with rfl|rfl|rfl
  ·exact h1
  ·exact h2
  ·exact h3)⟩
theorem Fr.mapd{M:Nat}{es:Array MapEntry}{c:Nat}(hg:w.grownBy w' (some M))(hB:B<=w.heap.size)(hgB:B<=M)(hb:w.heap[M]?=some (.map es c)):Fr B w w' :=
 ⟨⟨hg.os,hg.tape,hg.output,hg.size,fun k hk=>hg.block k (by omega) (by simp;omega)⟩,fun b cs t' fz' hb' h1 h2 h3=>hg.block b (aA hb') (by
  simp only[ne_eq,Option.some.injEq];exact pI hb' hb)⟩
theorem jL(w:World)(g o:Nat)(v:Value):w.grownBy (w.setCell ⟨g,o,none⟩ v) (some g) :=
 ⟨rfl,rfl,rfl,by simp[World.setCell],fun k hk hn=>heap_setCell_other w _ k v (fun e=>hn (by rw[e]))⟩
theorem TrD.push(h:TrD w B T ns now N c M xs ks n f){w1:World}{g cap L:Nat}(x:Tn)(hx:x.ks=[])(hL:ns.length+1=L)
  (ho:w1.ownsRow B 90 6 (.slice (some ⟨g,0,none⟩) L cap) L (xs++[.int .i64 x.kd,.string ⟨x.ky.toArray⟩,.string ⟨x.tx.toArray⟩,.int .i64 x.nu,.slice none 0 0,.int .i64 (x.pl:Nat)])) (hg:w.grownBy w1 (some N)) :
  TrD (w1.setCell ⟨T,0,none⟩ (.slice (some ⟨g,0,none⟩) L cap)) B T (ns++[x]) now g cap M (xs++[.int .i64 x.kd,.string ⟨x.ky.toArray⟩,.string ⟨x.tx.toArray⟩,.int .i64 x.nu,.slice none 0 0,.int .i64 (x.pl:Nat)]) (fun i=>if i=ns.length then .slice none 0 0 else ks i) n f:=by
 obtain⟨cur,hN⟩:=h.rowT;have hT1:w1.heap[T]?=w.heap[T]?:=hg.block T (aA h.blk) (by simp only[ne_eq,Option.some.injEq];exact aY h.blk hN (by decide));have hb1:=hT1.trans h.blk;obtain⟨cg,hcg⟩:=(dV ho rfl).2;have hxl:xs.length=ns.length*6:=h.row.1;have hlen:(ns++[x]).length=L:=by simp[hL]
 have hset:=block_setCell (i:=0) hb1 (.slice (some ⟨g,0,none⟩) L cap);refine⟨?_,h.bT,?_,?_,?_,?_,?_,h.bM⟩
 ·rw[hlen];exact hset
 ·rw[hlen];exact bW ho fun g' cur' _ hc=>heap_setCell_other _ _ _ _ (aY hc hb1 (by decide))
 ·intro i hi;rw[hlen]at hi
  by_cases he:i=ns.length
  ·subst he;simp only[List.getElem_append_right (Nat.le_refl _),Nat.sub_self,List.getElem_cons_zero];rw[<-hxl];refine⟨?_,?_,?_,?_,?_,?_⟩
   ·rw[List.getElem?_append_right (by omega),Nat.sub_self];rfl
   ·rw[List.getElem?_append_right (by omega),show xs.length+1-xs.length=1 by omega];rfl
   ·rw[List.getElem?_append_right (by omega),show xs.length+2-xs.length=2 by omega];rfl
   ·rw[List.getElem?_append_right (by omega),show xs.length+3-xs.length=3 by omega];rfl
   ·rw[List.getElem?_append_right (by omega),show xs.length+4-xs.length=4 by omega];simp
   ·rw[List.getElem?_append_right (by omega),show xs.length+5-xs.length=5 by omega];rfl
  ·have hlt:i<ns.length:=by omega
   obtain⟨h0,h1,h2,h3,h4,h5⟩:=h.cel i hlt;simp only[List.getElem_append_left hlt,if_neg he];refine⟨?_,?_,?_,?_,?_,?_⟩
   all_goals (rw[List.getElem?_append_left (by omega)];assumption)
 ·intro i hi;rw[hlen]at hi
  by_cases he:i=ns.length
  ·subst he;simp only[List.getElem_append_right (Nat.le_refl _),Nat.sub_self,List.getElem_cons_zero,hx,if_true];exact⟨rfl,Or.inl ⟨rfl,rfl⟩⟩
  ·have hlt:i<ns.length:=by omega
   simp only[List.getElem_append_left hlt,if_neg he];refine bW (h.kid i hlt) fun g' cur' _ hc=>?_
   have e1:w1.heap[g']?=w.heap[g']?:=hg.block g' (aA hc) (by simp only[ne_eq,Option.some.injEq];exact aY hc hN (by decide));exact(heap_setCell_other _ _ _ _ (aY (e1.trans hc) hb1 (by decide))).trans e1
 ·intro i j g' hi hj h1 h2;rw[hlen]at hi hj
  by_cases hei:i=ns.length
  ·rw[if_pos hei]at h1;cases h1
  ·by_cases hej:j=ns.length
   ·rw[if_pos hej]at h2;cases h2
   ·rw[if_neg hei]at h1;rw[if_neg hej]at h2;exact h.apart i j g' (by omega) (by omega) h1 h2
 ·obtain⟨es,cc,hm⟩:=h.map.map;have e1:w1.heap[M]?=w.heap[M]?:=hg.block M (aA hm) (by simp only[ne_eq,Option.some.injEq];exact fun e=>pI hN hm e.symm);exact h.map.block ((heap_setCell_other _ _ _ _ (fun e=>pI hb1 (e1.trans hm) e.symm)).trans e1)
theorem TrD.kidOwn(h:TrD w B T ns now N c M xs ks n f){i:Nat}(hi:i<ns.length){g:Nat}(hg:(ks i).ownBlock=some g):∃cur,w.heap[g]?=some (.cells cur 3 (0,0)):=(dV (h.kid i hi) hg).2
theorem TrD.kidp(h:TrD w B T ns now N c M xs ks n f){w1:World}{g cap L:Nat}(p:Nat)(hp:p<ns.length)(q:Nat)(hL:ns[p].ks.length+1=L)
  (ho:w1.ownsRow B 3 1 (.slice (some ⟨g,0,none⟩) L cap) L ((ns[p].ks.map fun q=>.int .i64 (q:Nat))++[.int .i64 (q:Nat)])) (hg:w.grownBy w1 (ks p).ownBlock) (hat:(ks p).ownBlock=some g\/w.heap.size<=g) :
  TrD (w1.setCell ⟨N,p*6+4,none⟩ (.slice (some ⟨g,0,none⟩) L cap)) B T (ns.set p { ns[p] with ks:=ns[p].ks++[q] }) now N c M (xs.set (p*6+4) (.slice (some ⟨g,0,none⟩) L cap)) (fun i=>if i=p then .slice (some ⟨g,0,none⟩) L cap else ks i) n f:=by
 obtain⟨cur,hN⟩:=h.rowT;have Jq:∀(b:Nat) (cs:Array Value) (t:TypeId) (fz:Nat × Nat),w.heap[b]?=some (.cells cs t fz)->¬t=3->w1.heap[b]?=w.heap[b]?:=fun b cs t fz hb ht=>hg.block b (aA hb) (fun e=>by
  obtain⟨cc,hcc⟩:=h.kidOwn hp e.symm;exact aY hb hcc ht rfl)
 have hN1:=Jq _ _ _ _ hN (by decide);have hT1:=Jq _ _ _ _ h.blk (by decide);have hxl:xs.length=ns.length*6:=h.row.1;have hlen:(ns.set p { ns[p] with ks:=ns[p].ks++[q] }).length=ns.length:=by simp
 obtain⟨cg,hcg⟩:=(dV ho rfl).2;refine⟨?_,h.bT,?_,?_,?_,?_,?_,h.bM⟩
 ·rw[hlen];exact(heap_setCell_other _ _ _ _ (aY (hT1.trans h.blk) (hN1.trans hN) (by decide))).trans (hT1.trans h.blk)
 ·rw[hlen];have r1:w1.ownsRow B 90 6 (.slice (some ⟨N,0,none⟩) ns.length c) ns.length xs:=bW h.row fun g' cur' hh hc=>Jq _ _ _ _ hc (by decide)
  refine⟨by rw[List.length_set];exact r1.1,?_⟩
  rcases r1.2 with⟨e1,_⟩|⟨g',cap',cu,e1,hb,hgg,hn,hm,hs,ht⟩
  ·cases e1
  ·cases e1
   refine Or.inr ⟨N,c,cu.setIfInBounds (p*6+4) _,rfl,hb,block_setCell hgg _,hn,hm,by simpa using hs,?_⟩;rw[Array.toList_setIfInBounds,List.take_set,ht]
 ·intro i hi;rw[hlen]at hi;obtain⟨h0,h1,h2,h3,h4,h5⟩:=h.cel i hi;have keep:∀j,j<xs.length->¬j=p*6+4->(xs.set (p*6+4) (.slice (some ⟨g,0,none⟩) L cap))[j]?=xs[j]?:=fun j hj hne=>List.getElem?_set_ne (fun e=>hne e.symm)
  by_cases he:i=p
  ·subst he;simp only[List.getElem_set_self,if_true];refine⟨(keep _ (by omega) (by omega)).trans h0,(keep _ (by omega) (by omega)).trans h1,(keep _ (by omega) (by omega)).trans h2,(keep _ (by omega) (by omega)).trans h3,List.getElem?_set_self (by omega),(keep _ (by omega) (by omega)).trans h5⟩
  ·have hpi:¬p=i:=fun e=>he e.symm
   simp only[List.getElem_set_ne hpi,if_neg he];refine⟨(keep _ (by omega) (by omega)).trans h0,(keep _ (by omega) (by omega)).trans h1,(keep _ (by omega) (by omega)).trans h2,(keep _ (by omega) (by omega)).trans h3,(keep _ (by omega) (by omega)).trans h4,(keep _ (by omega) (by omega)).trans h5⟩
 ·intro i hi;rw[hlen]at hi;have hs:∀(g':Nat) (cur':Array Value),w1.heap[g']?=some (.cells cur' 3 (0,0))->(w1.setCell ⟨N,p*6+4,none⟩ (.slice (some ⟨g,0,none⟩) L cap)).heap[g']?=w1.heap[g']?:=fun g' cur' hc=>heap_setCell_other _ _ _ _ (aY hc (hN1.trans hN) (by decide))
  by_cases he:i=p
  ·subst he;simp only[List.getElem_set_self,if_true];rw[List.map_append,List.length_append,List.length_singleton,hL];exact bW ho fun g' cur' _ hc=>hs g' cur' hc
  ·have hpi:¬p=i:=fun e=>he e.symm
   simp only[List.getElem_set_ne hpi,if_neg he];refine bW (h.kid i hi) fun g' cur' hgo hc=>?_
   have e1:w1.heap[g']?=w.heap[g']?:=hg.block g' (aA hc) (fun e=>he (h.apart i p g' hi hp hgo e.symm));exact(hs g' cur' (e1.trans hc)).trans e1
 ·intro i j g' hi hj h1 h2;rw[hlen]at hi hj;have fresh:∀k,k<ns.length->¬k=p->(ks k).ownBlock=some g->False:=fun k hk hne e=>by
   rcases hat with e2|e2
   ·exact hne (h.apart k p g hk hp e e2)
   ·obtain⟨cc,hcc⟩:=h.kidOwn hk e;have:=aA hcc;omega
  by_cases hei:i=p
  ·by_cases hej:j=p
   ·rw[hei,hej]
   ·rw[if_pos hei]at h1;rw[if_neg hej]at h2
    cases h1
    exact(fresh j hj hej h2).elim
  ·by_cases hej:j=p
   ·rw[if_pos hej]at h2;rw[if_neg hei]at h1
    cases h2
    exact(fresh i hi hei h1).elim
   ·rw[if_neg hei]at h1;rw[if_neg hej]at h2;exact h.apart i j g' hi hj h1 h2
 ·obtain⟨es,cc,hm⟩:=h.map.map;have e1:w1.heap[M]?=w.heap[M]?:=hg.block M (aA hm) (fun e=>by
   obtain⟨cc,hcc⟩:=h.kidOwn hp e.symm;exact pI hcc hm rfl)
  exact h.map.block ((heap_setCell_other _ _ _ _ (fun e=>pI (hN1.trans hN) (e1.trans hm) e.symm)).trans e1)
theorem TrD.mapd(h:TrD w B T ns now N c M xs ks n f){n':Nat}{f':Nat->List UInt8->Option (Nat × Bool)}(hm:HM w' M n' f')(hg:w.grownBy w' (some M)):TrD w' B T ns now N c M xs ks n' f':=by
 obtain⟨es,cc,hm0⟩:=h.map.map;have hb:∀(b:Nat) (cs:Array Value) (t:TypeId) (fz:Nat × Nat),w.heap[b]?=some (.cells cs t fz)->w'.heap[b]?=w.heap[b]?:=fun b cs t fz hb=>hg.block b (aA hb) (by simp only[ne_eq,Option.some.injEq];exact pI hb hm0)
 exact⟨(hb _ _ _ _ h.blk).trans h.blk,h.bT,bW h.row fun g cur _ hc=>hb _ _ _ _ hc,h.cel,fun i hi=>bW (h.kid i hi) fun g cur _ hc=>hb _ _ _ _ hc,h.apart,hm,h.bM⟩
theorem TrD.hand(h:TrD w B T ns now N c M xs ks n f)(m:Nat):TrD (w.setCell ⟨T,2,none⟩ (.int .i64 (m:Nat))) B T ns m N c M xs ks n f:=by
 have hb:∀(b:Nat) (cs:Array Value) (t:TypeId) (fz:Nat × Nat),w.heap[b]?=some (.cells cs t fz)->¬t=103->(w.setCell ⟨T,2,none⟩ (.int .i64 (m:Nat))).heap[b]?=w.heap[b]?:=fun b cs t fz hb ht=>heap_setCell_other _ _ _ _ (aY hb h.blk ht)
 refine⟨block_setCell (i:=2) h.blk _,h.bT,bW h.row fun g cur _ hc=>hb _ _ _ _ hc (by decide),h.cel,fun i hi=>bW (h.kid i hi) fun g cur _ hc=>hb _ _ _ _ hc (by decide),h.apart,?_,h.bM⟩;obtain⟨es,cc,hm⟩:=h.map.map;exact h.map.block (heap_setCell_other _ _ _ _ (fun e=>pI h.blk hm e.symm))
theorem TrD.cellSet(h:TrD w B T ns now N c M xs ks n f)(q o:Nat)(v:Value)(x:Tn)(hq:q<ns.length)(ho:o<6)(h4:¬o=4)(hk:x.ks=ns[q].ks)
  (hv:∀j u,(if j=o then some v else([.int .i64 ns[q].kd,.string ⟨ns[q].ky.toArray⟩,.string ⟨ns[q].tx.toArray⟩,.int .i64 ns[q].nu,ks q,.int .i64 (ns[q].pl:Nat)]:List Value)[j]?)=some u->([.int .i64 x.kd,.string ⟨x.ky.toArray⟩,.string ⟨x.tx.toArray⟩,.int .i64 x.nu,ks q,.int .i64 (x.pl:Nat)]:List Value)[j]?=some u) :
  TrD (w.setCell ⟨N,q*6+o,none⟩ v) B T (ns.set q x) now N c M (xs.set (q*6+o) v) ks n f:=by
 obtain⟨cur,hN⟩:=h.rowT;have hb:∀(b:Nat) (cs:Array Value) (t:TypeId) (fz:Nat × Nat),w.heap[b]?=some (.cells cs t fz)->¬t=90->(w.setCell ⟨N,q*6+o,none⟩ v).heap[b]?=w.heap[b]?:=fun b cs t fz hb ht=>heap_setCell_other _ _ _ _ (aY hb hN ht)
 have hxl:xs.length=ns.length*6:=h.row.1;have hlen:(ns.set q x).length=ns.length:=by simp
 refine⟨?_,h.bT,?_,?_,?_,?_,?_,h.bM⟩
 ·rw[hlen];exact(hb _ _ _ _ h.blk (by decide)).trans h.blk
 ·rw[hlen];refine⟨by rw[List.length_set];exact h.row.1,?_⟩
  rcases h.row.2 with⟨e1,_⟩|⟨g',cap',cu,e1,hb,hgg,hn,hm,hs,ht⟩
  ·cases e1
  ·cases e1
   refine Or.inr ⟨N,c,cu.setIfInBounds (q*6+o) v,rfl,hb,block_setCell hgg _,hn,hm,by simpa using hs,?_⟩;rw[Array.toList_setIfInBounds,List.take_set,ht]
 ·intro i hi;rw[hlen]at hi;obtain⟨h0,h1,h2,h3,h4',h5⟩:=h.cel i hi;have keep:∀j,¬j=q*6+o->(xs.set (q*6+o) v)[j]?=xs[j]?:=fun j hne=>List.getElem?_set_ne (fun e=>hne e.symm)
  by_cases he:i=q
  ·subst he;simp only[List.getElem_set_self];have get:∀j u,j<6->([.int .i64 ns[i].kd,.string ⟨ns[i].ky.toArray⟩,.string ⟨ns[i].tx.toArray⟩,.int .i64 ns[i].nu,ks i,.int .i64 (ns[i].pl:Nat)]:List Value)[j]?=some u->xs[i*6+j]?=some u:=fun j u hj hu=>by
    match j,hj,hu with
    | 0,_,hu=>cases hu;exact h0
    | 1,_,hu=>cases hu;exact h1
    | 2,_,hu=>cases hu;exact h2
    | 3,_,hu=>cases hu;exact h3
    | 4,_,hu=>cases hu;exact h4'
    | 5,_,hu=>cases hu;exact h5
   have main:∀j (hj:j<6),∀u,(xs.set (i*6+o) v)[i*6+j]?=some u->([.int .i64 x.kd,.string ⟨x.ky.toArray⟩,.string ⟨x.tx.toArray⟩,.int .i64 x.nu,ks i,.int .i64 (x.pl:Nat)]:List Value)[j]?=some u:=fun j hj u hu=>by
    apply hv j u
    by_cases hjo:j=o
    ·subst hjo;rw[List.getElem?_set_self (by omega)]at hu;rw[if_pos rfl];exact hu
    ·rw[keep _ (by omega)]at hu;rw[if_neg hjo];have hlt:j<([.int .i64 ns[i].kd,.string ⟨ns[i].ky.toArray⟩,.string ⟨ns[i].tx.toArray⟩,.int .i64 ns[i].nu,ks i,.int .i64 (ns[i].pl:Nat)]:List Value).length:=hj;have:=get j _ hj (List.getElem?_eq_getElem hlt);rw[this]at hu;rw[List.getElem?_eq_getElem hlt];exact hu
   have has:∀j,j<6->∃u,(xs.set (i*6+o) v)[i*6+j]?=some u:=fun j hj=>⟨_,List.getElem?_eq_getElem (by rw[List.length_set];omega)⟩
   have fin:∀j (hj:j<6),(xs.set (i*6+o) v)[i*6+j]?=([.int .i64 x.kd,.string ⟨x.ky.toArray⟩,.string ⟨x.tx.toArray⟩,.int .i64 x.nu,ks i,.int .i64 (x.pl:Nat)]:List Value)[j]?:=fun j hj=>by
    obtain⟨u,hu⟩:=has j hj;rw[hu,main j hj u hu]
   exact⟨fin 0 (by omega),fin 1 (by omega),fin 2 (by omega),fin 3 (by omega),fin 4 (by omega),fin 5 (by omega)⟩
  ·have hqi:¬q=i:=fun e=>he e.symm
   simp only[List.getElem_set_ne hqi];exact⟨(keep _ (by omega)).trans h0,(keep _ (by omega)).trans h1,(keep _ (by omega)).trans h2,(keep _ (by omega)).trans h3,(keep _ (by omega)).trans h4',(keep _ (by omega)).trans h5⟩
 ·intro i hi;rw[hlen]at hi
  by_cases he:i=q
  ·subst he;simp only[List.getElem_set_self,hk];exact bW (h.kid i hq) fun g cur _ hc=>hb _ _ _ _ hc (by decide)
  ·have hqi:¬q=i:=fun e=>he e.symm
   simp only[List.getElem_set_ne hqi];exact bW (h.kid i hi) fun g cur _ hc=>hb _ _ _ _ hc (by decide)
 ·intro i j g' hi hj;rw[hlen]at hi hj;exact h.apart i j g' hi hj
 ·obtain⟨es,cc,hm⟩:=h.map.map;exact h.map.block (heap_setCell_other _ _ _ _ (fun e=>pI hN hm e.symm))
end
def Tr(w:World)(B T:Nat)(ns:List Tn)(own:List Nat)(now:Nat):Prop:=∃N c M xs ks,TrD w B T ns now N c M xs ks (ns.length+own.length) (hold ns own)
end Go.Proofs.YtmkjelchiacogaaGreatDoor
