import Derived.Test.YtbgnflcebafjjaaGreatDoorA02
import Derived.Shelf.Unicode.DecodeAny
import Derived.Test.YtbgnflcebafjjaaGreatDoorProg
import Derived.Test.YtbgnflcebafjjaaGreatDoorA01
import Derived.Shelf.Strings.BuilderRune
import Derived.Shelf.Strings.BuilderF
import Derived.Maps.OwnOps
import Derived.Maps.Views
import Derived.DeepKeys4
import Derived.Deep.AppendLies
namespace Go.Proofs.YtbgnflcebafjjaaGreatDoor
open Go.RowKit Go.Joins
set_option linter.unusedVariables false
def escC (x:Int):Option Nat:=if x=98 then some 8 else if x=116 then some 9 else if x=110 then some 10 else if x=102 then some 12 else if x=114 then some 13 else if x=34 then some 34 else if x=92 then some 92 else none
def escN (l:List UInt8) (i:Nat):Rs (Nat × Nat) :=
 if nx l (i+1)=117 then numB l (i+2) i
 else match escC (nx l (i+1)) with
  | some n=>.ok (n,i+2)
  | none=>.error (2,i+1)
def wrtR:Rs (Nat × Nat)->Rs (List UInt8 × Nat)
 | .error e=>.error e
 | .ok (n,j)=>.ok (wrt n,j)
theorem esc_escN (l:List UInt8) (i:Nat):esc l i=wrtR (escN l i):=by
 unfold esc escN
 by_cases h:nx l (i+1)=117
 ·rw [if_pos h,if_pos h]
  unfold numB numE sur surI
  cases four l 4 (i+2) 0 with
  | error e=>rfl
  | ok q =>
   obtain ⟨n,j⟩:=q
   simp only [decide_eq_true_eq]
   by_cases h2:55296<=n/\n<=57343
   ·rw [if_pos h2,if_pos (by omega)];rfl
   ·rw [if_neg h2,if_neg (by omega)];rfl
 ·rw [if_neg h,if_neg h]
  unfold escC
  repeat' split
  all_goals first | rfl | (simp_all;done) | (simp_all;subst_vars;rfl)
theorem ret_ru {a b:Int} {v:Value} (h:a=b):Ending.returned (.tuple #[.int .i32 a,v])=.returned (.tuple #[.int .i32 b,v]):=by rw [h]
set_option maxRecDepth 100000 in
theorem idx_no (b:UInt8) (h:escC (b.toNat:Int)=none):Lib.indexByte [98,116,110,102,114,34,92] b=-1:=by
 have key:∀n:Fin 256,escC ((UInt8.ofNat n.val).toNat:Int)=none->Lib.indexByte [98,116,110,102,114,34,92] (UInt8.ofNat n.val)=-1:=by decide
 have:=key ⟨b.toNat,b.toNat_lt⟩
 simp only [UInt8.ofNat_toNat] at this
 exact this h
theorem idx_yes (b:UInt8) (n:Nat) (h:escC (b.toNat:Int)=some n):(Lib.indexByte [98,116,110,102,114,34,92] b=0/\n=8)\/(Lib.indexByte [98,116,110,102,114,34,92] b=1/\n=9)\/(Lib.indexByte [98,116,110,102,114,34,92] b=2/\n=10)\/(Lib.indexByte [98,116,110,102,114,34,92] b=3/\n=12)\/(Lib.indexByte [98,116,110,102,114,34,92] b=4/\n=13)\/(Lib.indexByte [98,116,110,102,114,34,92] b=5/\n=34)\/(Lib.indexByte [98,116,110,102,114,34,92] b=6/\n=92):=by
 have e:∀k:Nat,(b.toNat:Int)=(k:Int)->b=UInt8.ofNat k:=fun k hk=>by
  have:b.toNat=k:=by omega
  rw [<-this];simp
 unfold escC at h
 split at h
 ·rename_i hb;rw [e 98 hb];cases h;exact Or.inl ⟨by decide,rfl⟩
 split at h
 ·rename_i hb;rw [e 116 hb];cases h;exact Or.inr (Or.inl ⟨by decide,rfl⟩)
 split at h
 ·rename_i hb;rw [e 110 hb];cases h;exact Or.inr (Or.inr (Or.inl ⟨by decide,rfl⟩))
 split at h
 ·rename_i hb;rw [e 102 hb];cases h;exact Or.inr (Or.inr (Or.inr (Or.inl ⟨by decide,rfl⟩)))
 split at h
 ·rename_i hb;rw [e 114 hb];cases h;exact Or.inr (Or.inr (Or.inr (Or.inr (Or.inl ⟨by decide,rfl⟩))))
 split at h
 ·rename_i hb;rw [e 34 hb];cases h;exact Or.inr (Or.inr (Or.inr (Or.inr (Or.inr (Or.inl ⟨by decide,rfl⟩)))))
 split at h
 ·rename_i hb;rw [e 92 hb];cases h;exact Or.inr (Or.inr (Or.inr (Or.inr (Or.inr (Or.inr ⟨by decide,rfl⟩)))))
 ·cases h
set_option maxRecDepth 100000 in
set_option maxHeartbeats 1600000 in
theorem tEscape_any (R:Nat) (s:ByteArray) (i T:Nat) (E:Int->TypeId × Value) (w:World) (h:Rd w R s i T) (hi:i < s.size) (hs:s.size<=1048576) (he:Es w E) (hR:Far R) :
  Calls Tryz.prog 117 #[.pointer (some ⟨R,0,none⟩)] w (RuPost R s T E (escN s.data.toList i) w):=by
 have CN:Hid (∀k w,Rd w R s k T->k<=s.size->Calls Tryz.prog 40 #[.pointer (some ⟨R,0,none⟩)] w fun e w'=>e=.returned (.int .i64 (nx s.data.toList k))/\w.grownBy w' none):=fun k w h1 h2=>tNext_any R s k T w h1 h2 hs
 have CI:Hid (∀c w,Calls Tryz.prog 114 #[.string ⟨#[98,116,110,102,114,34,92]⟩,.int .u8 c] w fun e w'=>e=.returned (.int .i64 (Lib.indexByte [98,116,110,102,114,34,92] c.toNat.toUInt8))/\w'=w):=fun c w=>Any.strings_IndexByte Tryz.lays137 ⟨#[98,116,110,102,114,34,92]⟩ c w
 have CU:Hid (∀k w',w.grownBy w' (some R)->Rd w' R s k T->k<=s.size->Calls Tryz.prog 139 #[.pointer (some ⟨R,0,none⟩),.int .i64 (i:Nat)] w' (RuPost R s T E (numB s.data.toList k i) w')):=fun k w' hg hr hk=>tNumbered_any R s k T i E w' hr hk hs (he.grow hR hg) hR
 have CH:Hid (∀k w',w.grownBy w' (some R)->Rd w' R s k T->Calls Tryz.prog 79 #[.pointer (some ⟨R,0,none⟩)] w' fun e w''=>(∃v,e=.returned v/\FaultE w'' v E 2 k)/\w'.grownBy w'' none):=fun k w' hg hr=>tHere_any R s k T (E 2).1 (E 2).2 w' hr (he.grow hR hg).te
 have hl:s.data.toList.length=s.size:=by simp
 obtain ⟨G,hG⟩:∃G,escN s.data.toList i=G:=⟨_,rfl⟩
 have HG0:Hid ((if nx s.data.toList (i+1)=117 then numB s.data.toList (i+2) i else match escC (nx s.data.toList (i+1)) with | some n=>.ok (n,i+2) | none=>.error (2,i+1))=G):=hG
 rw [hG]
 have H0:Hid (Rd w R s i T):=h
 have HS:Hid (Rd (w.setCell ⟨R,1,none⟩ (.int .i64 ((i:Int)+1))) R s (i+1) T):=h.set (i+1)
 have HGS:Hid (w.grownBy (w.setCell ⟨R,1,none⟩ (.int .i64 ((i:Int)+1))) (some R)):=gb_set (gb_refl w (some R)) 1 _
 have HLT:Hid (∀k,k<=s.size->¬ nx s.data.toList k=-1->k < s.size):=fun k hk hn=>by
  apply Classical.byContradiction
  intro hh
  exact hn (nx_end _ _ (by omega))
 have HAT:Hid (∀k (hk:k < s.size),nx s.data.toList k=(s[k].toNat:Int)):=fun k hk=>by
  rw [nx_at _ _ (by omega)];rfl
 have HEN:Hid (escC (-1)=none):=by show _=_;decide
 obtain ⟨-,c1,-,df⟩:=h.cells
 have df1:=df 1
 clear h hG he df
 go_enter Tryz.func117,Tryz.ntmps117
 obtain ⟨m,hm⟩:∃m,i+1=m:=⟨_,rfl⟩
 have hm2:i+2=m+1:=by omega
 rw [hm] at HS
 rw [hm2,hm] at HG0
 have hml:m<=s.size:=by omega
 have C1:Hid (∀w,Rd w R s m T->Calls Tryz.prog 40 #[.pointer (some ⟨R,0,none⟩)] w fun e w'=>e=.returned (.int .i64 (nx s.data.toList m))/\w.grownBy w' none):=fun w h1=>CN.out m w h1 hml
 have HL1:=HLT.out m hml
 have HA1:Hid (∀hk:m < s.size,nx s.data.toList m=(s[m].toNat:Int)):=HAT.out m
 obtain ⟨x,hx⟩:∃x,nx s.data.toList m=x:=⟨_,rfl⟩
 rw [hx] at C1 HL1 HG0 HA1
 have HL2:Hid (¬ x=-1->m < s.size):=HL1
 clear hx HL1 hm hm2
 go_wp2_with (first | (go_at_call 40;refine (C1.out _ HS.out).mono ?_))
 rintro e w2 ⟨rfl,hg2⟩
 have HR2:Hid (Rd w2 R s m T):=HS.out.grow hg2
 have HG2:Hid (w.grownBy w2 (some R)):=gb_more HGS.out hg2
 clear hg2
 by_cases h117:x=117
 ·have hb:(x == 117)=true:=by simp [h117]
  have hml2:m < s.size:=HL2.out (by rw [h117];decide)
  have HGG:Hid (numB s.data.toList (m+1) i=G):=by
   have:=HG0.out
   rw [if_pos h117] at this
   exact this
  obtain ⟨-,d1,-,df⟩:=HR2.out.cells
  have df2:=df 1
  have HS3:Hid (Rd (w2.setCell ⟨R,1,none⟩ (.int .i64 ((m:Int)+1))) R s (m+1) T):=HR2.out.set (m+1)
  have HG3:Hid (w.grownBy (w2.setCell ⟨R,1,none⟩ (.int .i64 ((m:Int)+1))) (some R)):=gb_set HG2.out 1 _
  have CU1:Hid (Calls Tryz.prog 139 #[.pointer (some ⟨R,0,none⟩),.int .i64 (i:Nat)] (w2.setCell ⟨R,1,none⟩ (.int .i64 ((m:Int)+1))) (RuPost R s T E G (w2.setCell ⟨R,1,none⟩ (.int .i64 ((m:Int)+1))))):=by
   rw [<-HGG.out];exact CU.out (m+1) _ HG3.out HS3.out (by omega)
  clear h117 df
  cases G with
  | ok q =>
   obtain ⟨n,j⟩:=q
   go_wp2_with (first | (go_at_call 139;refine CU1.out.mono ?_;rintro e w4 ⟨h1,h2,h3⟩;obtain ⟨rfl,hr4⟩:=h1 n j rfl))
   refine bodyPost_ret (results_tmp2 (t:=2) (u:=3) rfl _ _ _) rfl ?_
   exact ⟨fun n j hh=>(by cases hh;exact ⟨rfl,hr4⟩),fun c p hh=>(by cases hh),gb_two HG3.out h3⟩
  | error q =>
   obtain ⟨c,q⟩:=q
   go_wp2_with (first | (go_at_call 139;refine CU1.out.mono ?_;rintro e w4 ⟨h1,h2,h3⟩;obtain ⟨v,rfl,hv,jj,hjj⟩:=h2 c q rfl))
   refine bodyPost_ret (results_tmp2 (t:=2) (u:=3) rfl _ _ _) rfl ?_
   exact ⟨fun n j hh=>(by cases hh),fun c p hh=>(by cases hh;exact ⟨v,rfl,hv,jj,hjj⟩),gb_two HG3.out h3⟩
 ·have hb:(x == 117)=false:=by simp [h117]
  by_cases he1:x=-1
  ·have hb2:(x == -1)=true:=by simp [he1]
   have HGG:Hid (G=.error (2,m)):=by
    have:=HG0.out
    rw [if_neg h117,he1,HEN.out] at this
    exact this.symm
   clear h117 he1
   go_wp2_with (first | (go_at_call 40;refine (C1.out _ HR2.out).mono ?_;rintro e w3 ⟨rfl,hg3⟩) | (go_at_call 79;refine (CH.out m _ (gb_more HG2.out hg3) (HR2.out.grow hg3)).mono ?_;rintro e w5 ⟨⟨v,rfl,hv⟩,hg5⟩))
   refine bodyPost_ret (results_tmp2 (t:=2) (u:=3) rfl _ _ _) rfl ?_
   rw [HGG.out]
   exact ⟨fun n j hh=>(by cases hh),fun c p hh=>(by cases hh;exact ⟨v,rfl,hv,_,(HR2.out.grow hg3).grow hg5⟩),gb_more (gb_more HG2.out hg3) hg5⟩
  ·have hb2:(x == -1)=false:=by simp [he1]
   have hml2:m < s.size:=HL2.out he1
   obtain ⟨b,hbm⟩:∃b,s[m]=b:=⟨_,rfl⟩
   have hxm:x=(b.toNat:Int):=by rw [<-hbm];exact HA1.out hml2
   have HGG:Hid ((match escC x with | some n=>.ok (n,m+1) | none=>.error (2,m))=G):=by
    have:=HG0.out
    rw [if_neg h117] at this
    exact this
   have CI1:Hid (∀w,Calls Tryz.prog 114 #[.string ⟨#[98,116,110,102,114,34,92]⟩,.int .u8 (b.toNat:Int)] w fun e w'=>e=.returned (.int .i64 (Lib.indexByte [98,116,110,102,114,34,92] b))/\w'=w):=fun w=>by
    have:=CI.out (b.toNat:Int) w
    simpa using this
   have HNO:Hid (escC x=none->Lib.indexByte [98,116,110,102,114,34,92] b=-1):=by rw [hxm];exact idx_no b
   have HYE:Hid (∀n,escC x=some n->(Lib.indexByte [98,116,110,102,114,34,92] b=0/\n=8)\/(Lib.indexByte [98,116,110,102,114,34,92] b=1/\n=9)\/(Lib.indexByte [98,116,110,102,114,34,92] b=2/\n=10)\/(Lib.indexByte [98,116,110,102,114,34,92] b=3/\n=12)\/(Lib.indexByte [98,116,110,102,114,34,92] b=4/\n=13)\/(Lib.indexByte [98,116,110,102,114,34,92] b=5/\n=34)\/(Lib.indexByte [98,116,110,102,114,34,92] b=6/\n=92)):=by rw [hxm];exact idx_yes b
   obtain ⟨K,hK⟩:∃K,Lib.indexByte [98,116,110,102,114,34,92] b=K:=⟨_,rfl⟩
   rw [hK] at CI1 HNO HYE
   clear h117 he1 hxm hK
   go_wp2_with (first | (go_at_call 40;refine (C1.out _ HR2.out).mono ?_))
   rintro e w3 ⟨rfl,hg3⟩
   have HR3:Hid (Rd w3 R s m T):=HR2.out.grow hg3
   have HG3:Hid (w.grownBy w3 (some R)):=gb_more HG2.out hg3
   obtain ⟨d0,d1,-,df⟩:=HR3.out.cells
   have df2:=df 1
   clear hg3 df
   have HS4:Hid (∀n,Rd ((w3.drewN n).setCell ⟨R,1,none⟩ (.int .i64 ((m:Int)+1))) R s (m+1) T):=fun n=>Rd.set (w:=w3.drewN n) (i:=m) HR3.out (m+1)
   have HG4:Hid (∀n,w.grownBy ((w3.drewN n).setCell ⟨R,1,none⟩ (.int .i64 ((m:Int)+1))) (some R)):=fun n=>gb_set (gb_drew HG3.out n) 1 _
   cases hc:escC x with
   | none =>
    have hKn:=HNO.out hc
    rw [hc] at HGG
    subst hKn
    clear hc
    have CH1:Hid (∀n,Calls Tryz.prog 79 #[.pointer (some ⟨R,0,none⟩)] (w3.drewN n) fun e w''=>(∃v,e=.returned v/\FaultE w'' v E 2 m)/\(w3.drewN n).grownBy w'' none):=fun n=>CH.out m _ (gb_drew HG3.out n) HR3.out
    go_wp2
    go_quiet (first | (go_at_call 114;exact Calls.quiet_of_same (CI1.out _)))
    go_wp2_with (first | (go_at_call 79;refine (CH1.out _).mono ?_;rintro e w5 ⟨⟨v,rfl,hv⟩,hg5⟩))
    refine bodyPost_ret (results_tmp2 (t:=2) (u:=3) rfl _ _ _) rfl ?_
    rw [<-HGG.out]
    exact ⟨fun n j hh=>(by cases hh),fun c p hh=>(by cases hh;exact ⟨v,rfl,hv,_,Rd.grow (w:=World.drewN w3 _) HR3.out hg5⟩),gb_more (gb_drew HG3.out _) hg5⟩
   | some n =>
    have hKy:=HYE.out n hc
    rw [hc] at HGG
    clear hc
    rcases hKy with ⟨rfl,rfl⟩ | ⟨rfl,rfl⟩ | ⟨rfl,rfl⟩ | ⟨rfl,rfl⟩ | ⟨rfl,rfl⟩ | ⟨rfl,rfl⟩ | ⟨rfl,rfl⟩
    all_goals (
     go_wp2
     go_quiet (first | (go_at_call 114;exact Calls.quiet_of_same (CI1.out _)))
     go_wp2
     refine bodyPost_ret (results_tmp2 (t:=2) (u:=3) rfl _ _ _) rfl ?_
     rw [<-HGG.out]
     exact ⟨fun n j hh=>(by cases hh;exact ⟨ret_ru (by first | (unfold wrap32;decide) | (unfold wrap32;rfl) | (unfold wrap32;simp [ByteArray.getElem_eq_getElem_data];done)),HS4.out _⟩),fun c p hh=>(by cases hh),HG4.out _⟩)
end Go.Proofs.YtbgnflcebafjjaaGreatDoor
namespace Go.Proofs
open Go.Shelf
def Tryz.lays197_ren:Go.Shelf.Ren:=⟨fun | 197=>119 | 260=>141 | n=>n,fun | 22=>41 | 27=>155 | 28=>31 | 31=>108 | 34=>54 | 35=>157 | 37=>74 | 40=>212 | 41=>71 | 42=>158 | 43=>156 | 46=>175 | 47=>174 | 48=>200 | 49=>258 | 51=>193 | 52=>192 | 53=>195 | 54=>194 | 55=>177 | 69=>87 | 70=>73 | 71=>75 | 72=>76 | 73=>79 | 74=>42 | 75=>43 | 76=>118 | 77=>119 | 78=>121 | 79=>180 | 80=>85 | 81=>90 | 83=>127 | 84=>196 | 85=>218 | 86=>219 | 94=>125 | 104=>34 | 105=>181 | 106=>182 | 108=>233 | 111=>91 | 112=>159 | 114=>211 | 119=>213 | 126=>198 | 127=>126 | 128=>199 | 131=>190 | 137=>214 | 138=>215 | 139=>216 | 143=>235 | 144=>236 | 145=>237 | 164=>93 | 165=>176 | 167=>217 | 168=>220 | 169=>221 | 170=>222 | 171=>207 | 172=>208 | 173=>209 | 174=>210 | 175=>229 | 176=>230 | 182=>185 | 183=>186 | 209=>231 | 210=>232 | 211=>226 | 212=>227 | 213=>228 | 214=>234 | 218=>201 | 219=>202 | 220=>203 | 222=>205 | 228=>223 | 229=>224 | 232=>238 | 233=>239 | 238=>240 | 239=>241 | 240=>242 | 241=>243 | 242=>244 | 243=>246 | 244=>101 | 245=>247 | 246=>248 | 247=>249 | 248=>250 | 249=>251 | n=>n,fun | 1=>6 | 3=>7 | 4=>8 | 15=>10 | 16=>11 | 17=>9 | 18=>12 | 19=>13 | n=>n⟩
set_option maxRecDepth 100000 in
theorem Tryz.lays197:Go.Proofs.Lays.n197 Tryz.prog Tryz.lays197_ren:={
 mixed:=by kernel_rfl
 f197:=Tryz.func119.trans (congrArg some (by kernel_rfl))
 f260:=Tryz.func141.trans (congrArg some (by kernel_rfl))
 t0:=Tryz.underlying0
 a0:=Tryz.isAgg0
 z0:=Tryz.sizeOf0
 v0:=Tryz.zeroValue0
 t3:=Tryz.underlying3
 a3:=Tryz.isAgg3
 z3:=Tryz.sizeOf3
 v3:=Tryz.zeroValue3
 t4:=Tryz.underlying4
 a4:=Tryz.isAgg4
 z4:=Tryz.sizeOf4
 v4:=Tryz.zeroValue4
 t5:=Tryz.underlying5
 a5:=Tryz.isAgg5
 z5:=Tryz.sizeOf5
 v5:=Tryz.zeroValue5
 t9:=Tryz.underlying9
 a9:=Tryz.isAgg9
 z9:=Tryz.sizeOf9
 v9:=Tryz.zeroValue9
 t21:=Tryz.underlying21
 a21:=Tryz.isAgg21
 z21:=Tryz.sizeOf21
 v21:=Tryz.zeroValue21
 t46:=Tryz.underlying175
 a46:=Tryz.isAgg175
 z46:=Tryz.sizeOf175
 v46:=Tryz.zeroValue175
 t105:=Tryz.underlying181
 a105:=Tryz.isAgg181
 z105:=Tryz.sizeOf181
 v105:=Tryz.zeroValue181
 t119:=Tryz.underlying213
 a119:=Tryz.isAgg213
 z119:=Tryz.sizeOf213
 t138:=Tryz.underlying215
 a138:=Tryz.isAgg215
 z138:=Tryz.sizeOf215
 v138:=Tryz.zeroValue215
 t139:=Tryz.underlying216
 a139:=Tryz.isAgg216
 z139:=Tryz.sizeOf216
 v139:=Tryz.zeroValue216
 g3:=by kernel_rfl
 g4:=by kernel_rfl }
end Go.Proofs
namespace Go.Proofs.YtbgnflcebafjjaaGreatDoor
open Go.RowKit Go.Joins
set_option linter.unusedVariables false
theorem get_suf (l:List UInt8) (i k:Nat):((⟨(l.drop i).toArray⟩:ByteArray).get! k).toNat=(l[i+k]?.getD 0).toNat:=by
 show (((l.drop i).toArray)[k]!).toNat=_
 rw [Array.getElem!_eq_getD]
 simp [Array.getD_eq_getD_getElem?,List.getElem?_drop]
 rfl
theorem nx_suf (l:List UInt8) (i k:Nat) (hi:i < l.length):nx l (i+k)=if k < l.length - i then (((l[i+k]?.getD 0).toNat:Nat):Int) else -1:=by
 by_cases h:k < l.length - i
 ·rw [if_pos h,nx_at l (i+k) (by omega),List.getElem?_eq_getElem (by omega)];rfl
 ·rw [if_neg h,nx_end l (i+k) (by omega)]
theorem decGo_told (l:List UInt8) (i:Nat) (hi:i < l.length):Told (seqN l i) (Lib.decodeGo ⟨(l.drop i).toArray⟩):=by
 have hz:(⟨(l.drop i).toArray⟩:ByteArray).size=l.length - i:=by show (l.drop i).toArray.size=_;simp
 have e:Lib.decodeGo ⟨(l.drop i).toArray⟩=Lib.decodeN (l.length - i) (l[i]?.getD 0).toNat (l[i+1]?.getD 0).toNat (l[i+2]?.getD 0).toNat (l[i+3]?.getD 0).toNat:=by
  unfold Lib.decodeGo
  rw [if_neg (by rw [hz];omega),Lib.decode_at,hz,get_suf,get_suf,get_suf,get_suf]
  rfl
 rw [e,seqN_seqV]
 have h0:=nx_suf l i 0 hi
 rw [if_pos (by omega)] at h0
 have h00:nx l i=(((l[i]?.getD 0).toNat:Nat):Int):=h0
 rw [h00]
 exact told_at _ _ _ _ _ _ _ _ (by omega) (UInt8.toNat_lt _) (UInt8.toNat_lt _) (UInt8.toNat_lt _) (UInt8.toNat_lt _) (nx_suf l i 1 hi) (nx_suf l i 2 hi) (nx_suf l i 3 hi)
theorem tDecode_any (l:List UInt8) (i:Nat) (hi:i < l.length) (w:World) (hT:Lib.Utf8Tabs 7 8 w) :
  Calls Tryz.prog 119 #[.string ⟨(l.drop i).toArray⟩] w fun e w'=>∃r k:Nat,e=.returned (.tuple #[.int .i32 (r:Nat),.int .i64 (k:Nat)])/\Told (seqN l i) (r,k)/\Below w.heap.size w w' :=
 (Any.utf8_DecodeRuneInString Tryz.lays197 ⟨(l.drop i).toArray⟩ w hT).mono fun e w' h=>⟨_,_,h.1,decGo_told l i hi,h.2⟩
end Go.Proofs.YtbgnflcebafjjaaGreatDoor
namespace Go.Proofs
open Go.Shelf
def Tryz.lays166_ren:Go.Shelf.Ren:=⟨fun | 166=>60 | 240=>90 | 276=>113 | n=>n,fun | 22=>41 | 27=>155 | 28=>31 | 31=>108 | 34=>54 | 35=>157 | 37=>74 | 40=>212 | 41=>71 | 42=>158 | 43=>156 | 46=>175 | 47=>174 | 48=>200 | 49=>258 | 51=>193 | 52=>192 | 53=>195 | 54=>194 | 55=>177 | 69=>87 | 70=>73 | 71=>75 | 72=>76 | 73=>79 | 74=>42 | 75=>43 | 76=>118 | 77=>119 | 78=>121 | 79=>180 | 80=>85 | 81=>90 | 83=>127 | 84=>196 | 85=>218 | 86=>219 | 94=>125 | 104=>34 | 105=>181 | 106=>182 | 108=>233 | 111=>91 | 112=>159 | 114=>211 | 119=>213 | 126=>198 | 127=>126 | 128=>199 | 131=>190 | 137=>214 | 138=>215 | 139=>216 | 143=>235 | 144=>236 | 145=>237 | 164=>93 | 165=>176 | 167=>217 | 168=>220 | 169=>221 | 170=>222 | 171=>207 | 172=>208 | 173=>209 | 174=>210 | 175=>229 | 176=>230 | 182=>185 | 183=>186 | 209=>231 | 210=>232 | 211=>226 | 212=>227 | 213=>228 | 214=>234 | 218=>201 | 219=>202 | 220=>203 | 222=>205 | 228=>223 | 229=>224 | 232=>238 | 233=>239 | 238=>240 | 239=>241 | 240=>242 | 241=>243 | 242=>244 | 243=>246 | 244=>101 | 245=>247 | 246=>248 | 247=>249 | 248=>250 | 249=>251 | n=>n,fun | 1=>6 | 3=>7 | 4=>8 | 15=>10 | 16=>11 | 17=>9 | 18=>12 | 19=>13 | n=>n⟩
set_option maxRecDepth 100000 in
theorem Tryz.lays166:Go.Proofs.Lays.n166 Tryz.prog Tryz.lays166_ren:={
 mixed:=by kernel_rfl
 f166:=Tryz.func60.trans (congrArg some (by kernel_rfl))
 f240:=Tryz.func90.trans (congrArg some (by kernel_rfl))
 f276:=Tryz.func113.trans (congrArg some (by kernel_rfl))
 t0:=Tryz.underlying0
 a0:=Tryz.isAgg0
 z0:=Tryz.sizeOf0
 v0:=Tryz.zeroValue0
 t3:=Tryz.underlying3
 a3:=Tryz.isAgg3
 z3:=Tryz.sizeOf3
 v3:=Tryz.zeroValue3
 t4:=Tryz.underlying4
 a4:=Tryz.isAgg4
 z4:=Tryz.sizeOf4
 v4:=Tryz.zeroValue4
 t9:=Tryz.underlying9
 a9:=Tryz.isAgg9
 z9:=Tryz.sizeOf9
 v9:=Tryz.zeroValue9
 t20:=Tryz.underlying20
 a20:=Tryz.isAgg20
 z20:=Tryz.sizeOf20
 v20:=Tryz.zeroValue20
 t37:=Tryz.underlying74
 a37:=Tryz.isAgg74
 z37:=Tryz.sizeOf74
 v37:=Tryz.zeroValue74
 t70:=Tryz.underlying73
 a70:=Tryz.isAgg73
 z70:=Tryz.sizeOf73
 v70:=Tryz.zeroValue73
 t72:=Tryz.underlying76
 a72:=Tryz.isAgg76
 z72:=Tryz.sizeOf76
 v72:=Tryz.zeroValue76
 t75:=Tryz.underlying43
 a75:=Tryz.isAgg43
 z75:=Tryz.sizeOf43
 v75:=Tryz.zeroValue43
 t164:=Tryz.underlying93
 a164:=Tryz.isAgg93
 z164:=Tryz.sizeOf93
 v164:=Tryz.zeroValue93 }
def Tryz.lays168_ren:Go.Shelf.Ren:=⟨fun | 168=>118 | 240=>90 | 242=>140 | 276=>113 | 278=>157 | n=>n,fun | 22=>41 | 27=>155 | 28=>31 | 31=>108 | 34=>54 | 35=>157 | 37=>74 | 40=>212 | 41=>71 | 42=>158 | 43=>156 | 46=>175 | 47=>174 | 48=>200 | 49=>258 | 51=>193 | 52=>192 | 53=>195 | 54=>194 | 55=>177 | 69=>87 | 70=>73 | 71=>75 | 72=>76 | 73=>79 | 74=>42 | 75=>43 | 76=>118 | 77=>119 | 78=>121 | 79=>180 | 80=>85 | 81=>90 | 83=>127 | 84=>196 | 85=>218 | 86=>219 | 94=>125 | 104=>34 | 105=>181 | 106=>182 | 108=>233 | 111=>91 | 112=>159 | 114=>211 | 119=>213 | 126=>198 | 127=>126 | 128=>199 | 131=>190 | 137=>214 | 138=>215 | 139=>216 | 143=>235 | 144=>236 | 145=>237 | 164=>93 | 165=>176 | 167=>217 | 168=>220 | 169=>221 | 170=>222 | 171=>207 | 172=>208 | 173=>209 | 174=>210 | 175=>229 | 176=>230 | 182=>185 | 183=>186 | 209=>231 | 210=>232 | 211=>226 | 212=>227 | 213=>228 | 214=>234 | 218=>201 | 219=>202 | 220=>203 | 222=>205 | 228=>223 | 229=>224 | 232=>238 | 233=>239 | 238=>240 | 239=>241 | 240=>242 | 241=>243 | 242=>244 | 243=>246 | 244=>101 | 245=>247 | 246=>248 | 247=>249 | 248=>250 | 249=>251 | n=>n,fun | 1=>6 | 3=>7 | 4=>8 | 15=>10 | 16=>11 | 17=>9 | 18=>12 | 19=>13 | n=>n⟩
set_option maxRecDepth 100000 in
theorem Tryz.lays168:Go.Proofs.Lays.n168 Tryz.prog Tryz.lays168_ren:={
 mixed:=by kernel_rfl
 f168:=Tryz.func118.trans (congrArg some (by kernel_rfl))
 f240:=Tryz.func90.trans (congrArg some (by kernel_rfl))
 f242:=Tryz.func140.trans (congrArg some (by kernel_rfl))
 f276:=Tryz.func113.trans (congrArg some (by kernel_rfl))
 f278:=Tryz.func157.trans (congrArg some (by kernel_rfl))
 t0:=Tryz.underlying0
 a0:=Tryz.isAgg0
 z0:=Tryz.sizeOf0
 v0:=Tryz.zeroValue0
 t3:=Tryz.underlying3
 a3:=Tryz.isAgg3
 z3:=Tryz.sizeOf3
 v3:=Tryz.zeroValue3
 t4:=Tryz.underlying4
 a4:=Tryz.isAgg4
 z4:=Tryz.sizeOf4
 v4:=Tryz.zeroValue4
 t5:=Tryz.underlying5
 a5:=Tryz.isAgg5
 z5:=Tryz.sizeOf5
 v5:=Tryz.zeroValue5
 t9:=Tryz.underlying9
 a9:=Tryz.isAgg9
 z9:=Tryz.sizeOf9
 v9:=Tryz.zeroValue9
 t20:=Tryz.underlying20
 a20:=Tryz.isAgg20
 z20:=Tryz.sizeOf20
 v20:=Tryz.zeroValue20
 t21:=Tryz.underlying21
 a21:=Tryz.isAgg21
 z21:=Tryz.sizeOf21
 v21:=Tryz.zeroValue21
 t37:=Tryz.underlying74
 a37:=Tryz.isAgg74
 z37:=Tryz.sizeOf74
 v37:=Tryz.zeroValue74
 t46:=Tryz.underlying175
 a46:=Tryz.isAgg175
 z46:=Tryz.sizeOf175
 v46:=Tryz.zeroValue175
 t51:=Tryz.underlying193
 a51:=Tryz.isAgg193
 z51:=Tryz.sizeOf193
 v51:=Tryz.zeroValue193
 t70:=Tryz.underlying73
 a70:=Tryz.isAgg73
 z70:=Tryz.sizeOf73
 v70:=Tryz.zeroValue73
 t72:=Tryz.underlying76
 a72:=Tryz.isAgg76
 z72:=Tryz.sizeOf76
 v72:=Tryz.zeroValue76
 t75:=Tryz.underlying43
 a75:=Tryz.isAgg43
 z75:=Tryz.sizeOf43
 v75:=Tryz.zeroValue43
 t164:=Tryz.underlying93
 a164:=Tryz.isAgg93
 z164:=Tryz.sizeOf93
 v164:=Tryz.zeroValue93 }
def Tryz.lays169_ren:Go.Shelf.Ren:=⟨fun | 169=>35 | n=>n,fun | 22=>41 | 27=>155 | 28=>31 | 31=>108 | 34=>54 | 35=>157 | 37=>74 | 40=>212 | 41=>71 | 42=>158 | 43=>156 | 46=>175 | 47=>174 | 48=>200 | 49=>258 | 51=>193 | 52=>192 | 53=>195 | 54=>194 | 55=>177 | 69=>87 | 70=>73 | 71=>75 | 72=>76 | 73=>79 | 74=>42 | 75=>43 | 76=>118 | 77=>119 | 78=>121 | 79=>180 | 80=>85 | 81=>90 | 83=>127 | 84=>196 | 85=>218 | 86=>219 | 94=>125 | 104=>34 | 105=>181 | 106=>182 | 108=>233 | 111=>91 | 112=>159 | 114=>211 | 119=>213 | 126=>198 | 127=>126 | 128=>199 | 131=>190 | 137=>214 | 138=>215 | 139=>216 | 143=>235 | 144=>236 | 145=>237 | 164=>93 | 165=>176 | 167=>217 | 168=>220 | 169=>221 | 170=>222 | 171=>207 | 172=>208 | 173=>209 | 174=>210 | 175=>229 | 176=>230 | 182=>185 | 183=>186 | 209=>231 | 210=>232 | 211=>226 | 212=>227 | 213=>228 | 214=>234 | 218=>201 | 219=>202 | 220=>203 | 222=>205 | 228=>223 | 229=>224 | 232=>238 | 233=>239 | 238=>240 | 239=>241 | 240=>242 | 241=>243 | 242=>244 | 243=>246 | 244=>101 | 245=>247 | 246=>248 | 247=>249 | 248=>250 | 249=>251 | n=>n,fun | 1=>6 | 3=>7 | 4=>8 | 15=>10 | 16=>11 | 17=>9 | 18=>12 | 19=>13 | n=>n⟩
set_option maxRecDepth 100000 in
theorem Tryz.lays169:Go.Proofs.Lays.n169 Tryz.prog Tryz.lays169_ren:={
 mixed:=by kernel_rfl
 f169:=Tryz.func35.trans (congrArg some (by kernel_rfl))
 t0:=Tryz.underlying0
 a0:=Tryz.isAgg0
 z0:=Tryz.sizeOf0
 v0:=Tryz.zeroValue0
 t3:=Tryz.underlying3
 a3:=Tryz.isAgg3
 z3:=Tryz.sizeOf3
 v3:=Tryz.zeroValue3
 t9:=Tryz.underlying9
 a9:=Tryz.isAgg9
 z9:=Tryz.sizeOf9
 v9:=Tryz.zeroValue9
 t37:=Tryz.underlying74
 a37:=Tryz.isAgg74
 z37:=Tryz.sizeOf74
 v37:=Tryz.zeroValue74
 t70:=Tryz.underlying73
 a70:=Tryz.isAgg73
 z70:=Tryz.sizeOf73
 v70:=Tryz.zeroValue73
 t72:=Tryz.underlying76
 a72:=Tryz.isAgg76
 z72:=Tryz.sizeOf76
 v72:=Tryz.zeroValue76
 t127:=Tryz.underlying126
 a127:=Tryz.isAgg126
 z127:=Tryz.sizeOf126
 v127:=Tryz.zeroValue126 }
theorem Tryz.Builder_Extra_166:Builder.Extra Tryz.prog Tryz.lays166_ren:={
 sizeBuilder:=by kernel_rfl
 liesBuilder:=by kernel_rfl
 t5:=Tryz.underlying5
 a5:=Tryz.isAgg5
 z5:=Tryz.sizeOf5
 v5:=Tryz.zeroValue5
 infoByte:=by kernel_rfl
 cellsByte:=by kernel_rfl
 sizeByte:=by kernel_rfl
 neB5:=by decide }
theorem Tryz.Builder_Extra_168:Builder.Extra Tryz.prog Tryz.lays168_ren:={
 sizeBuilder:=by kernel_rfl
 liesBuilder:=by kernel_rfl
 t5:=Tryz.underlying5
 a5:=Tryz.isAgg5
 z5:=Tryz.sizeOf5
 v5:=Tryz.zeroValue5
 infoByte:=by kernel_rfl
 cellsByte:=by kernel_rfl
 sizeByte:=by kernel_rfl
 neB5:=by decide }
theorem Tryz.Builder_Extra_169:Builder.Extra Tryz.prog Tryz.lays169_ren:={
 sizeBuilder:=by kernel_rfl
 liesBuilder:=by kernel_rfl
 t5:=Tryz.underlying5
 a5:=Tryz.isAgg5
 z5:=Tryz.sizeOf5
 v5:=Tryz.zeroValue5
 infoByte:=by kernel_rfl
 cellsByte:=by kernel_rfl
 sizeByte:=by kernel_rfl
 neB5:=by decide }
end Go.Proofs
namespace Go.Proofs.YtbgnflcebafjjaaGreatDoor
open Go.RowKit Go.Joins
set_option linter.unusedVariables false
def Bd (w:World) (B b:Nat) (acc:List UInt8):Prop:=Lib.IsBuilderF 76 5 B b (Lib.byteCells acc) w
theorem bfA_grow {T e:TypeId} {B b R:Nat} {p:Value} {bs:List Value} {w w':World} (h:Lib.BuilderAtF T e B b p bs w) (hg:w.grownBy w' (some R)) (hR:R < B):Lib.BuilderAtF T e B b p bs w':=by
 obtain ⟨hB,v,hb,hown,hne⟩:=h
 refine ⟨hB,v,(hg.block b (Array.getElem?_eq_some_iff.1 hb).1 (fun e=>by cases e;omega)).trans hb,hown.kept hg ?_,hne⟩
 cases hv:v.ownBlock with
 | none=>exact Or.inl rfl
 | some k =>
  refine Or.inr fun e=>?_
  cases e
  have:=(hown.lt _ hv).1
  omega
theorem Bd.grow {w w':World} {B b R:Nat} {acc:List UInt8} (h:Bd w B b acc) (hg:w.grownBy w' (some R)) (hR:R < B):Bd w' B b acc:=h.imp (fun h=>bfA_grow h hg hR) (fun h=>bfA_grow h hg hR)
theorem wrt_cells (n:Nat) (hn:n < 65536) (hs:sur n=false):Lib.runeCells (n:Nat)=Lib.byteCells (wrt n):=by
 have h1:∀k:Nat,k < 256->(UInt8.ofNat k).toNat=k:=fun k hk=>by simp;omega
 have hs':¬ (55296<=n/\n<=57343):=by
  have:=of_decide_eq_false (show decide (55296<=(n:Int)/\(n:Int)<=57343)=false from hs)
  omega
 unfold Lib.runeCells Lib.byteCells wrt
 by_cases a:n < 128
 ·rw [Lib.encodeRuneZ_one (by omega) (by omega),if_pos a]
  simp only [List.map_cons,List.map_nil,h1 n (by omega)]
 rw [if_neg a]
 by_cases b:n < 2048
 ·rw [Lib.encodeRuneZ_two (by omega) (by omega),if_pos b]
  simp only [List.map_cons,List.map_nil,h1 (192+n / 64) (by omega),h1 (128+n % 64) (by omega)]
  simp
 rw [if_neg b,Lib.encodeRuneZ_three (by omega)]
 simp only [List.map_cons,List.map_nil,h1 (224+n / 4096) (by omega),h1 (128+n / 64 % 64) (by omega),h1 (128+n % 64) (by omega)]
 simp
theorem cells_app (a b:List UInt8):Lib.byteCells (a++b)=Lib.byteCells a++Lib.byteCells b:=by simp [Lib.byteCells]
theorem cells_len (a:List UInt8):(Lib.byteCells a).length=a.length:=by simp [Lib.byteCells]
theorem tWriteRune_any (B b n:Nat) (acc:List UInt8) (w:World) (h:Bd w B b acc) (hn:n < 65536) (hs:sur n=false) (hl:acc.length<=1099511627776) (hB:B<=w.heap.size) :
  Calls Tryz.prog 118 #[.pointer (some ⟨b,0,none⟩),.int .i32 (n:Nat)] w fun e w'=>(∃k:Int,e=.returned (.tuple #[.int .i64 k,.nilIface]))/\Bd w' B b (acc++wrt n)/\Below B w w':=by
 refine (Any.Builder_WriteRune_k Tryz.lays168 Tryz.Builder_Extra_168 B b (Lib.byteCells acc) (n:Nat) (by omega) (by omega) w h (by rw [cells_len];omega) hB).mono ?_
 rintro e w' ⟨rfl,h1,h2,h3⟩
 refine ⟨⟨_,rfl⟩,Or.inr ?_,h2⟩
 rw [cells_app,<-wrt_cells n hn hs]
 exact h1
theorem tWriteS_any (B b:Nat) (acc x:List UInt8) (w:World) (h:Bd w B b acc) (hl:acc.length<=1099511627776) (hx:x.length<=1048576) (hB:B<=w.heap.size) :
  Calls Tryz.prog 60 #[.pointer (some ⟨b,0,none⟩),.string ⟨x.toArray⟩] w fun e w'=>(∃k:Int,e=.returned (.tuple #[.int .i64 k,.nilIface]))/\Bd w' B b (acc++x)/\Below B w w':=by
 have hz:(⟨x.toArray⟩:ByteArray).size=x.length:=by show x.toArray.size=_;simp
 refine (Any.Builder_WriteString_f Tryz.lays166 Tryz.Builder_Extra_166 B b (Lib.byteCells acc) ⟨x.toArray⟩ w h (by rw [cells_len,hz];omega) hB).mono ?_
 rintro e w' ⟨rfl,h1,h2⟩
 refine ⟨⟨_,rfl⟩,Or.inr ?_,h2⟩
 rw [cells_app]
 exact h1
theorem tBdString_any (B b:Nat) (acc:List UInt8) (w:World) (h:Bd w B b acc) (hB:B<=w.heap.size) :
  Calls Tryz.prog 35 #[.pointer (some ⟨b,0,none⟩)] w fun e w'=>e=.returned (.string ⟨acc.toArray⟩)/\Below B w w' :=
 (Any.Builder_String_any_f Tryz.lays169 Tryz.Builder_Extra_169 B b acc w h hB).mono fun e w' h=>⟨h.1,h.2.2⟩
end Go.Proofs.YtbgnflcebafjjaaGreatDoor
namespace Go.Proofs.YtbgnflcebafjjaaGreatDoor
open Go.RowKit Go.Maps Go.WideMaps
set_option linter.unusedVariables false
theorem spotLaid:laidOutB Tryz.prog=true:=by kernel_rfl
theorem spotRow:(167:TypeId) < Tryz.prog.types.size:=of_decide_eq_true (by kernel_rfl)
theorem spotLaw:KeyLaw Tryz.prog 167:=deep_law_laid spotLaid (m:=2) (by omega) spotRow (by kernel_rfl) (by rw [Tryz.underlying167])
theorem spotKeyed:Keyed Tryz.prog 167:=Keyed.of_law spotLaw
def holdL:List Value->Option (DataW Unit × List MemPlace)
 | [.int q n,.bool b]=>some (.agg [.lit (.int q n),.lit (.bool b)],[])
 | _=>none
def holdR (v:Value):Option (DataW Unit × List MemPlace) :=
 match v with
 | .agg cs=>holdL cs.toList
 | _=>none
theorem holdR_mk (q:IntKind) (n:Int) (b:Bool):holdR (.agg #[.int q n,.bool b])=some (.agg [.lit (.int q n),.lit (.bool b)],[]):=rfl
theorem holdL_inv {l:List Value} {q:IntKind} {n:Int} {b:Bool} {ps:List MemPlace} (h:holdL l=some (.agg [.lit (.int q n),.lit (.bool b)],ps)):l=[.int q n,.bool b]:=by
 unfold holdL at h
 split at h
 ·injection h with h
  injection h with h _
  injection h with h
  injection h with h1 h2
  injection h2 with h2 _
  injection h1 with h1
  injection h2 with h2
  injection h1 with h3 h4
  injection h2 with h5
  rw [h3,h4,h5]
 ·cases h
theorem holdR_inv {v:Value} {q:IntKind} {n:Int} {b:Bool} {ps:List MemPlace} (h:holdR v=some (.agg [.lit (.int q n),.lit (.bool b)],ps)):v=.agg #[.int q n,.bool b]:=by
 unfold holdR at h
 split at h
 ·rename_i cs
  have:=holdL_inv h
  congr 1
  exact Array.ext' this
 ·cases h
def keyV (t:Nat) (k:List UInt8):Value:=.agg #[.int .i64 (t:Nat),.string ⟨k.toArray⟩]
noncomputable def keyL (t:Nat) (k:List UInt8):Lit:=(keyOf Tryz.prog 167 (keyV t k)).getD (.bool false)
theorem keyL_some (t:Nat) (k:List UInt8) (ht:t < 4611686018427387904) (hk:k.length<=1048576):∃l,keyOf Tryz.prog 167 (keyV t k)=some l:=by
 have h1:Tryz.prog.keyType 167=true:=by kernel_rfl
 have h2:∀a b:Value,(Value.agg #[a,b]).formed Tryz.prog 167=true:=fun a b=>by
  have hc:Tryz.prog.cellsOf 167=2:=by kernel_rfl
  simp [Value.formed,Tryz.underlying167,hc]
 obtain ⟨m,hm⟩:∃m,Tryz.prog.types.size=m+1:=⟨Tryz.prog.types.size - 1,by have h0:0 < Tryz.prog.types.size:=Nat.lt_of_le_of_lt (Nat.zero_le _) spotRow;omega⟩
 have hc:Tryz.prog.cellsOf 167=2:=by kernel_rfl
 have hci:Tryz.prog.cellsOf 3=1:=by kernel_rfl
 have hcs:Tryz.prog.cellsOf 9=1:=by kernel_rfl
 have hw:(Lit.int .i64 (t:Nat)).wf=true:=by
  have h1:IntKind.i64.min=-9223372036854775808:=by decide
  have h2:IntKind.i64.max=9223372036854775807:=by decide
  simp only [Lit.wf,h1,h2]
  simp
  omega
 have hz:(⟨k.toArray⟩:ByteArray).size<=maxLen:=by
  show k.toArray.size<=_
  unfold maxLen
  simp
  omega
 unfold keyOf keyV
 simp only [Tryz.underlying167,h1,h2,Bool.and_self,if_true,hm]
 have e1:Tryz.prog.keyLits (m+1) 3 [.int .i64 (t:Nat)]=some [.int .i64 (t:Nat)]:=by
  simp [Program.keyLits,Tryz.underlying3,hw]
 have e2:Tryz.prog.keyLits (m+1) 9 [.string ⟨k.toArray⟩]=some [.string k]:=by
  simp [Program.keyLits,Tryz.underlying9,hz]
 refine ⟨.string (keyBytes ([.int .i64 (t:Nat)]++[.string k])),?_⟩
 unfold Program.keyLits
 simp [Tryz.underlying167,hc,hci,hcs,e1,e2,Value.cells]
theorem keyL_ok (t:Nat) (k:List UInt8) (ht:t < 4611686018427387904) (hk:k.length<=1048576):keyOf Tryz.prog 167 (keyV t k)=some (keyL t k):=by
 obtain ⟨l,hl⟩:=keyL_some t k ht hk
 unfold keyL
 rw [hl];rfl
theorem keyL_inj {t t':Nat} {k k':List UInt8} (ht:t < 4611686018427387904) (hk:k.length<=1048576) (ht':t' < 4611686018427387904) (hk':k'.length<=1048576) (h:keyL t k=keyL t' k'):t=t'/\k=k':=by
 have h1:=keyL_ok t k ht hk
 have h2:=keyL_ok t' k' ht' hk'
 rw [<-h] at h2
 have h3:=spotKeyed.inj h1 h2
 unfold keyV at h3
 injection h3 with h3
 have h4:=congrArg Array.toList h3
 simp only [List.cons.injEq,Value.int.injEq,Value.string.injEq,true_and,and_true] at h4
 obtain ⟨h5,h6⟩:=h4
 refine ⟨Int.ofNat_inj.1 h5,?_⟩
 have h7:=congrArg (fun b:ByteArray=>b.data.toList) h6
 simpa using h7
def HM (w:World) (M n:Nat) (f:Nat->List UInt8->Option (Nat × Bool)):Prop:=∃D:DataW Unit,w.ownsMap Tryz.prog 167 holdR M n D/\IsMap D/\∀t k,t < 4611686018427387904->k.length<=1048576->∀zd,D.atKey (keyL t k) zd=match f t k with | some v=>.agg [.lit (.int .i64 (v.1:Nat)),.lit (.bool v.2)] | none=>zd
theorem HM.mono {w:World} {M n n':Nat} {f:Nat->List UInt8->Option (Nat × Bool)} (h:HM w M n f) (hn:n<=n'):HM w M n' f:=by
 obtain ⟨D,h1,h2,h3⟩:=h
 exact ⟨D,h1.mono hn,h2,h3⟩
theorem HM.block {w w':World} {M n:Nat} {f:Nat->List UInt8->Option (Nat × Bool)} (h:HM w M n f) (hb:w'.heap[M]?=w.heap[M]?):HM w' M n f:=by
 obtain ⟨D,⟨es,c,h1,h1'⟩,h2,h3⟩:=h
 exact ⟨D,⟨es,c,hb.trans h1,h1'⟩,h2,h3⟩
theorem HM.map {w:World} {M n:Nat} {f:Nat->List UInt8->Option (Nat × Bool)} (h:HM w M n f):∃es c,w.heap[M]?=some (.map es c):=by
 obtain ⟨D,⟨es,c,h1,h1'⟩,h2,h3⟩:=h
 exact ⟨es,c,h1⟩
theorem HM.made (w:World):HM (w.alloc (.map #[] 0)) w.heap.size 0 (fun _ _=>none):=⟨.map [],World.ownsMap_made w _ _ _,isMap_empty,fun _ _ _ _ _=>rfl⟩
theorem hold_zero (w:World):(zeroValue 164).run Tryz.prog w=.ok (.agg #[.int .i64 0,.bool false]) w:=by kernel_rfl
theorem HM.look {w:World} {M n:Nat} {f:Nat->List UInt8->Option (Nat × Bool)} (h:HM w M n f) (t:Nat) (k:List UInt8) (ht:t < 4611686018427387904) (hk:k.length<=1048576) :
  (Instr.lookup 62 (.map (some M)) (keyV t k) true).run Tryz.prog w=.ok (match f t k with | some v=>.tuple #[.agg #[.int .i64 (v.1:Nat),.bool v.2],.bool true] | none=>.tuple #[.agg #[.int .i64 0,.bool false],.bool false]) w:=by
 obtain ⟨D,⟨es,c,h1,F,hs,rfl⟩,h2,h3⟩:=h
 have h4:=h3 t k ht hk
 rcases Maps.fit_look true spotKeyed Tryz.underlying62 (hold_zero w) h1 F (keyL_ok t k ht hk) with ⟨hrun,-,hat⟩ | ⟨e0,y,-,-,hrun,hRv,hat,-⟩
 ·rw [hrun]
  cases hf:f t k with
  | none=>rfl
  | some v =>
   exfalso
   have:=h4 .nil
   rw [hf,hat .nil] at this
   cases this
 ·rw [hrun]
  cases hf:f t k with
  | none =>
   exfalso
   have a1:=h4 .nil
   have a2:=h4 (.map [])
   rw [hf,hat] at a1 a2
   simp only [] at a1 a2
   rw [a1] at a2
   cases a2
  | some v =>
   have a1:=h4 .nil
   rw [hf,hat] at a1
   obtain ⟨y1,y2⟩:=y
   simp only [] at a1
   subst a1
   have:=holdR_inv hRv
   rw [this];rfl
set_option maxRecDepth 100000 in
theorem HM.put {w:World} {M n:Nat} {f:Nat->List UInt8->Option (Nat × Bool)} (h:HM w M n f) (t:Nat) (k:List UInt8) (ht:t < 4611686018427387904) (hk:k.length<=1048576) (hn:n < 1099511627776) (q:Nat) (b:Bool) :
  ∃w',(Instr.mapUpdate 62 (.map (some M)) (keyV t k) (.agg #[.int .i64 (q:Nat),.bool b])).run Tryz.prog w=.ok () w'/\HM w' M (n+1) (putF f t k (q,b))/\w.grownBy w' (some M):=by
 obtain ⟨D,h1,h2,h3⟩:=h
 obtain ⟨w',hr,ho,hg⟩:=h1.update spotKeyed Tryz.underlying62 (by unfold maxLen;omega) (keyL_ok t k ht hk) (holdR_mk .i64 (q:Nat) b)
 refine ⟨w',hr,⟨_,ho,h2.put _ _,fun t' k' ht' hk' zd=>?_⟩,hg⟩
 unfold putF
 by_cases he:t'=t/\k'=k
 ·rw [if_pos he]
  obtain ⟨rfl,rfl⟩:=he
  have hk1:=keyL_ok t' k' ht hk
  have hk2:=Keyed.key spotKeyed hk1
  generalize keyL t' k'=kl at hk2
  rw [atKey_put_same h2 hk2]
 ·rw [if_neg he,atKey_put_other (fun e=>he (keyL_inj ht' hk' ht hk e))]
  exact h3 t' k' ht' hk' zd
end Go.Proofs.YtbgnflcebafjjaaGreatDoor
namespace Go.Proofs.YtbgnflcebafjjaaGreatDoor
open Go.RowKit Go.Joins
set_option linter.unusedVariables false
theorem four_ok (l:List UInt8):∀k i n m j,i<=l.length->four l k i n=.ok (m,j)->j=i+k/\j<=l.length/\m < (n+1) * 16 ^ k:=by
 intro k
 induction k with
 | zero =>
  intro i n m j hi h
  cases h
  exact ⟨rfl,hi,by simp⟩
 | succ k ih =>
  intro i n m j hi h
  rw [four_step] at h
  split at h
  ·cases h
  ·rename_i hx
   have hlt:i < l.length:=by
    apply Classical.byContradiction
    intro hn
    rw [nx_end l i (by omega),hexV_end] at hx
    omega
   obtain ⟨h1,h2,h3⟩:=ih (i+1) _ m j hlt h
   have hb:=hexV_bound (nx l i)
   refine ⟨by omega,h2,Nat.lt_of_lt_of_le h3 ?_⟩
   rw [Nat.pow_succ,Nat.mul_comm (16 ^ k) 16,<-Nat.mul_assoc]
   exact Nat.mul_le_mul_right _ (by omega)
theorem escC_small (x:Int) (n:Nat) (h:escC x=some n):n < 128/\0<=x:=by
 unfold escC at h
 repeat' split at h
 all_goals first | (cases h;omega) | (cases h)
theorem escN_ok (l:List UInt8) (i n j:Nat) (hi:i < l.length) (h:escN l i=.ok (n,j)):n < 65536/\sur n=false/\i+2<=j/\j<=l.length:=by
 unfold escN at h
 split at h
 ·rename_i hx
  have hlt:i+1 < l.length:=nx_lt (by rw [hx];decide)
  unfold numB at h
  cases hf:four l 4 (i+2) 0 with
  | error e=>rw [hf] at h;cases h
  | ok q =>
   obtain ⟨m,k⟩:=q
   rw [hf] at h
   have h2:(if sur m=true then Except.error (2,i) else Except.ok (m,k):Rs (Nat × Nat))=.ok (n,j):=h
   split at h2
   ·cases h2
   ·rename_i hs
    cases h2
    obtain ⟨h3,h4,h5⟩:=four_ok l 4 (i+2) 0 n j (by omega) hf
    refine ⟨by simpa using h5,by simpa using hs,by omega,h4⟩
 ·cases hc:escC (nx l (i+1)) with
  | none=>rw [hc] at h;cases h
  | some m =>
   rw [hc] at h
   cases h
   obtain ⟨h1,h2⟩:=escC_small _ _ hc
   have:=nx_lt h2
   refine ⟨by omega,decide_eq_false (by omega),by omega,by omega⟩
theorem wrt_len (n:Nat):(wrt n).length<=3:=by
 unfold wrt
 repeat' split
 all_goals simp
theorem seqN_ok (l:List UInt8) (i:Nat) (hi:i<=l.length):i+seqN l i<=l.length:=by
 have key:∀k lo hi',0<=lo->goesB l (i+k) lo hi'=true->i+k < l.length:=fun k lo hi' h0 h=>by
  have:=of_decide_eq_true h
  exact nx_lt (by omega)
 have hlo:0<=(if nx l i=224 then (160:Int) else if nx l i=240 then 144 else 128):=by
  repeat' split
  all_goals omega
 unfold seqN
 simp only []
 generalize (if nx l i=224 then (160:Int) else if nx l i=240 then 144 else 128)=lo at hlo ⊢
 generalize (if nx l i=237 then (159:Int) else if nx l i=244 then 143 else 191)=hi'
 split
 ·omega
 ·rename_i h0
  have hlt:i < l.length:=nx_lt (by omega)
  split
  ·omega
  split
  ·omega
  split
  ·omega
  ·rename_i h1
   have a1:=key 1 lo hi' hlo (by simpa using h1)
   split
   ·omega
   split
   ·omega
   ·rename_i h2
    have a2:=key 2 128 191 (by omega) (by simpa using h2)
    split
    ·omega
    split
    ·omega
    ·rename_i h3
     have a3:=key 3 128 191 (by omega) (by simpa using h3)
     omega
theorem str_step (l:List UInt8) (f i:Nat) (acc:List UInt8):str l (f+1) i acc =
  if nx l i=34 then .ok (acc,i+1)
  else if nx l i=92 then (match esc l i with | .error e=>.error e | .ok (b,j)=>str l f j (acc++b))
  else if nx l i=-1\/isBr (nx l i)=true then .error (2,i)
  else if seqN l i=0 then .error (2,i)
  else str l f (i+seqN l i) (acc++subT l i (seqN l i)):=rfl
theorem gb_bel {w w1 w2:World} {r:Option Nat} {B:Nat} (h:w.grownBy w1 r) (hB:w.heap.size<=B) (hb:Below B w1 w2):w.grownBy w2 r :=
 ⟨hb.os.trans h.os,hb.tape.trans h.tape,hb.output.trans h.output,Nat.le_trans h.size hb.size,fun k hk hn=>(hb.block k (by omega)).trans (h.block k hk hn)⟩
theorem Rd.bel {w w':World} {R:Nat} {s:ByteArray} {i T B:Nat} (h:Rd w R s i T) (hR:R < B) (hb:Below B w w'):Rd w' R s i T:=(hb.block R hR).trans h
theorem Rd.lt {w:World} {R:Nat} {s:ByteArray} {i T:Nat} (h:Rd w R s i T):R < w.heap.size:=(Array.getElem?_eq_some_iff.1 h).1
theorem tabs_grow {w w':World} {R g3 g4:Nat} (h:Lib.Utf8Tabs g3 g4 w) (h3:¬ R=g3) (h4:¬ R=g4) (hg:w.grownBy w' (some R)):Lib.Utf8Tabs g3 g4 w' :=
 ⟨fun c hc=>hg.cell (h.1 c hc) (by simp;exact fun e=>h3 e.symm),fun i hi=>⟨hg.cell (h.2 i hi).1 (by simp;exact fun e=>h4 e.symm),hg.cell (h.2 i hi).2 (by simp;exact fun e=>h4 e.symm)⟩⟩
end Go.Proofs.YtbgnflcebafjjaaGreatDoor
