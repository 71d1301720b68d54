import Derived.Test.YtbcfhgpfgdbjgaaGreatDoorK07
import Derived.Test.YtbcfhgpfgdbjgaaGreatDoorK06
import Derived.Deep.RegionHeld3
import Derived.Laws.AppendOwn
import Derived.Deep.RegionLaw
set_option linter.all false
set_option maxRecDepth 100000
set_option maxHeartbeats 0
open Go.Proofs.Tryz
namespace Go.Proofs.YtbcfhgpfgdbjgaaGreatDoor
open Go.RowKit
theorem acG(s:ByteArray)(w:World)(hs:s.size<2 ^ 62) :
  Calls prog 218 #[.string s,.string ⟨#[46]⟩] w fun e w'=>e=.returned (.tuple #[.string ⟨(ku s.data.toList).toArray⟩,.string ⟨(kT s.data.toList).toArray⟩,.bool (jO s.data.toList)])/\∃n,w'=w.drewN n:=by
 rcases Ik s.data.toList with⟨h1,h2⟩|⟨k,h1,h2,h3,h4⟩
 ·have e1:ku s.data.toList=s.data.toList:=by unfold ku;rw[if_pos h1]
  have e2:kT s.data.toList=[]:=by unfold kT;rw[if_pos h1]
  have e3:jO s.data.toList=false:=by unfold jO;rw[h1];rfl
  rw[e1,e2,e3];have HX:=ae h1;clear h1 h2 e1 e2 e3;go_enter func218,ntmps218;go_wp2_with (go_at_call 229;refine(Ub _ _).mono ?_;rintro e w' ⟨rfl,rfl⟩;rw[HX.o])
  go_ret3
  exact⟨rfl,0,rfl⟩
 ·have hz:k<s.size:=by simpa using h2
  have e1:ku s.data.toList=s.data.toList.take k:=by unfold ku;rw[if_neg (by omega),h1];simp
  have e2:kT s.data.toList=s.data.toList.drop (k+1):=by unfold kT;rw[if_neg (by omega),h1];simp
  have e3:jO s.data.toList=true:=by unfold jO;simp;omega
  rw[e1,e2,e3];have HX:=ae h1;clear h1 h2 h3 h4 e1 e2 e3;obtain⟨X,hX⟩:∃X:ByteArray,X=⟨(s.data.toList.take k).toArray⟩:=⟨_,rfl⟩;obtain⟨Y,hY⟩:∃Y:ByteArray,Y=⟨(s.data.toList.drop (k+1)).toArray⟩:=⟨_,rfl⟩;rw[<-hX,<-hY];have s1:∀wx,(Instr.slice 9 (.string s) none (some (.int .i64 (k:Int))) none).run prog wx=.ok (.string X) wx:=fun wx=>by rw[hX];exact abv s k (by omega) wx
  have s2:∀wx,(Instr.slice 9 (.string s) (some (.int .i64 ((k:Int)+1))) none none).run prog wx=.ok (.string Y) wx:=fun wx=>by rw[hY];exact TL s (k+1) (by omega) wx
  clear hX hY;go_enter func218,ntmps218;go_wp2_with (go_at_call 229;refine(Ub _ _).mono ?_;rintro e w' ⟨rfl,rfl⟩;rw[HX.o]);go_quiet (fail);go_wp2
  go_ret3
  exact⟨rfl,_,rfl⟩
theorem U4(s:ByteArray)(w:World)(hs:s.size<2 ^ 62) :
  Calls prog 194 #[.string s,.string ⟨#[46]⟩] w fun e w'=>e=.returned (.tuple #[.string ⟨(ku s.data.toList).toArray⟩,.string ⟨(kT s.data.toList).toArray⟩,.bool (jO s.data.toList)])/\∃n,w'=w.drewN n:=by
 go_enter func194,ntmps194;go_wp2_with (go_at_call 218;refine(acG _ _ hs).mono ?_;rintro e w' ⟨rfl,n,rfl⟩)
 go_ret3
 exact⟨rfl,n,rfl⟩
open Go.RowKit
def Gr(w w':World):Prop:=w.grownBy w' none/\w.drawn<=w'.drawn
theorem I5(w:World):Gr w w:=⟨ax w none,Nat.le_refl _⟩
theorem qL{w w':World}(h:Gr w w')(n:Nat):Gr w (w'.drewN n):=⟨az h.1 n,Nat.le_trans h.2 (by simp[World.drewN])⟩
theorem zt{w w1 w2:World}(h:Gr w w1)(h':Gr w1 w2):Gr w w2:=⟨ak h.1 h'.1,Nat.le_trans h.2 h'.2⟩
theorem U6{w w':World}(h:Gr w w')(o:Obj):Gr w (w'.alloc o):=⟨aH h.1 o,h.2⟩
theorem acH(w:World)(e:TypeId)(s:ByteArray):Gr w (Lib.bytesWorld w e s):=⟨MP w e s,Nat.le_succ w.drawn⟩
end Go.Proofs.YtbcfhgpfgdbjgaaGreatDoor
namespace Go.Proofs.YtbcfhgpfgdbjgaaGreatDoor.G
open Go.RowKit
theorem II(s:ByteArray)(w:World)(hs:s.size<2 ^ 62) :
  Calls prog 170 #[.string s] w fun e w'=>e=.returned (.bool (ik s.data.toList))/\Gr w w':=by
 have kc:=fun(w:World)=>Lib.run_convert_string_bytes (P:=prog) w 9 245 5 s underlying9 underlying245 underlying5
 obtain⟨W,hW⟩:=zN (Lib.bytesWorld w 5 s);have HC:Hd (∀j,(hj:j<s.size)->W.cell? ⟨w.heap.size,j,none⟩=some (.int .u8 (s[j].toNat:Int))):=by
  show ∀j,(hj:j<s.size)->W.cell? ⟨w.heap.size,j,none⟩=some (.int .u8 (s[j].toNat:Int));intro j hj;rw[<-hW,Lib.bytesWorld_cell w _ s j hj];have:s.data.toList.getD j 0=s[j]:=by
   rw[List.getD_eq_getElem?_getD,lZ s j hj];rfl
  rw[this]
 have HG:Hd (Gr w W):=by show Gr w W;rw[<-hW];exact acH w _ s
 have kw:=kc w;rw[hW]at kw;clear kc hW;go_enter func170,ntmps170;go_wp2
 go_loop [8] (fun i=>∃k:Nat,k<=s.size/\i=.int .i64 k/\∀j,(hj:j<s.size)->j<k->aY s[j]=true) (fun i=>s.size-(intOf i).toNat)
 case atStart=>exact⟨0,Nat.zero_le _,rfl,fun j hj h=>absurd h (by omega)⟩
 case round=>
  obtain⟨k,hk,rfl,hp⟩:=hrel;have HP:=ae hp;clear hp
  by_cases hlt:k<s.size
  ·have ck:=HC.o k hlt
   cases hd:aY s[k] with
   |true=>
    go_wp2_with (go_at_call 142;refine(A7 _ _).mono ?_;rintro e w' ⟨rfl,rfl⟩)
    go_round
    case rel=>
     refine⟨k+1,by omega,by go_num,fun j hj hjk=>?_⟩
     by_cases hjk':j<k
     ·exact HP.o j hj hjk'
     ·have e:j=k:=by omega
      subst e;exact hd
    case measure=>simp[intOf];omega
   |false=>
    have HN:Hd (ik s.data.toList=false):=by
     show ik s.data.toList=false;unfold ik;have:s.data.toList.all aY=false:=by
      rw[List.all_eq_false];exact⟨s[k],List.mem_of_getElem? (lZ s k hlt),by simp[hd]⟩
     rw[this,Bool.and_false]
    go_wp2_with (go_at_call 142;refine(A7 _ _).mono ?_;rintro e w' ⟨rfl,rfl⟩);go_ret;exact⟨bu HN.o.symm,HG.o⟩
  ·have hks:k=s.size:=by omega
   have HA:Hd (s.data.toList.all aY=true):=by
    show s.data.toList.all aY=true;rw[List.all_eq_true];intro c hc;obtain⟨j,hj,rfl⟩:=List.getElem_of_mem hc;exact HP.o j (by simpa using hj) (by simp at hj;have:s.size=s.data.size:=rfl;omega)
   clear hks hk;go_wp2;go_ret;refine⟨bu ?_,HG.o⟩;unfold ik;rw[Lib.toList_data,HA.o,Bool.and_true]
end Go.Proofs.YtbcfhgpfgdbjgaaGreatDoor.G
namespace Go.Proofs.YtbcfhgpfgdbjgaaGreatDoor.G
open Go.RowKit
def mY(l:List UInt8):Value:=if ik l then .iface 315 (.string ⟨(iK l).toArray⟩) else .iface 317 (.string ⟨l.toArray⟩)
theorem U7(s:ByteArray)(w:World)(hs:s.size<2 ^ 62) :
  Calls prog 195 #[.string s] w fun e w'=>e=.returned (mY s.data.toList)/\Gr w w':=by
 unfold mY
 cases hn:ik s.data.toList with
 |true=>
  have HN:=ae hn;clear hn;rw[if_pos rfl];go_enter func195,ntmps195;go_wp2_with (first|(go_at_call 170;refine(II _ _ hs).mono ?_;rw[HN.o];rintro e w1 ⟨rfl,hg1⟩)|(go_at_call 219;refine(abT _ _).mono ?_;rintro e w' ⟨rfl,rfl⟩));go_ret;exact⟨rfl,hg1⟩
 |false=>
  have HN:=ae hn;clear hn;rw[if_neg (by simp)];go_enter func195,ntmps195;go_wp2_with (go_at_call 170;refine(II _ _ hs).mono ?_;rw[HN.o];rintro e w1 ⟨rfl,hg1⟩);go_ret;exact⟨rfl,hg1⟩
theorem U8(b:ByteArray)(w:World):(Instr.typeAssert (.iface 315 (.string b)) 286 315 true).run prog w=.ok (.tuple #[.string b,.bool true]) w:=by kernel_rfl
theorem acI(b:ByteArray)(w:World):(Instr.typeAssert (.iface 317 (.string b)) 286 315 true).run prog w=.ok (.tuple #[.string ⟨#[]⟩,.bool false]) w:=by kernel_rfl
theorem acJ(b:ByteArray)(w:World):(Instr.typeAssert (.iface 317 (.string b)) 286 317 true).run prog w=.ok (.tuple #[.string b,.bool true]) w:=by kernel_rfl
theorem acK(b:ByteArray)(w:World):(Instr.typeAssert (.iface 315 (.string b)) 286 317 true).run prog w=.ok (.tuple #[.string ⟨#[]⟩,.bool false]) w:=by kernel_rfl
theorem acL(a b:ByteArray)(w:World)(h:a.size=b.size):Calls prog 293 #[.string a,.iface 315 (.string b)] w fun e w'=>e=.returned (.int .i64 (Lib.compareBytes a.data.toList b.data.toList))/\∃n,w'=w.drewN n:=by
 have ta:=U8 b;have hd:((a.size:Int) == (b.size:Int))=true:=by simp;omega
 clear h;go_enter func293,ntmps293;go_wp2_with (go_at_call 294;refine(abU _ _ _).mono ?_;rintro e w' ⟨rfl,rfl⟩);go_ret;exact⟨rfl,0,rfl⟩
theorem acM(a b:ByteArray)(w:World)(h:¬a.size=b.size):Calls prog 293 #[.string a,.iface 315 (.string b)] w fun e w'=>e=.returned (.int .i64 (Lib.compareInt a.size b.size))/\∃n,w'=w.drewN n:=by
 have ta:=U8 b;have hd:((a.size:Int) == (b.size:Int))=false:=by simp;omega
 clear h;go_enter func293,ntmps293;go_wp2_with (go_at_call 167;refine(Bi _ _ _).mono ?_;rintro e w' ⟨rfl,rfl⟩);go_ret;exact⟨rfl,0,rfl⟩
theorem acN(a b:ByteArray)(w:World):Calls prog 293 #[.string a,.iface 317 (.string b)] w fun e w'=>e=.returned (.int .i64 (-1))/\∃n,w'=w.drewN n:=by
 have ta:=acI b;go_enter func293,ntmps293;go_wp2;go_ret;exact⟨rfl,0,rfl⟩
theorem acO(a b:ByteArray)(w:World):Calls prog 296 #[.string a,.iface 315 (.string b)] w fun e w'=>e=.returned (.int .i64 1)/\∃n,w'=w.drewN n:=by
 have ta:=acK b;go_enter func296,ntmps296;go_wp2;go_ret;exact⟨rfl,0,rfl⟩
theorem acP(a b:ByteArray)(w:World):Calls prog 296 #[.string a,.iface 317 (.string b)] w fun e w'=>e=.returned (.int .i64 (Lib.compareBytes a.data.toList b.data.toList))/\∃n,w'=w.drewN n:=by
 have ta:=acJ b;go_enter func296,ntmps296;go_wp2_with (go_at_call 297;refine(abV _ _ _).mono ?_;rintro e w' ⟨rfl,rfl⟩);go_ret;exact⟨rfl,0,rfl⟩
end Go.Proofs.YtbcfhgpfgdbjgaaGreatDoor.G
namespace Go.Proofs.YtbcfhgpfgdbjgaaGreatDoor.G
open Go.RowKit
theorem emp_t{a:ByteArray}(h:a.size=0):a.toList.isEmpty=true:=by
 rw[Lib.toList_data,List.isEmpty_iff];exact List.length_eq_zero_iff.1 (by simpa using h)
theorem emp_f{a:ByteArray}(h:a.size≠0):a.toList.isEmpty=false:=by
 rw[Lib.toList_data]
 cases hl:a.data.toList with
 |nil=>exact absurd (show a.size=0 from by show a.data.size=0;rw[<-Array.length_toList,hl];rfl) h
 |cons c l=>rfl
theorem acQ(a b:ByteArray)(w:World)(h:a.size=0\/b.size=0) :
  Calls prog 168 #[.string a,.string b] w fun e w'=>e=.returned (.int .i64 (qF a.data.toList b.data.toList))/\Gr w w':=by
 have HE:Hd (qF a.data.toList b.data.toList=Lib.compareInt b.size a.size):=by
  show qF a.data.toList b.data.toList=Lib.compareInt b.size a.size;rw[aaV]
  ·simp
  ·rcases h with h|h
   ·left;exact List.length_eq_zero_iff.1 (by simpa using h)
   ·right;exact List.length_eq_zero_iff.1 (by simpa using h)
 rw[HE.o]
 by_cases ha:a.size=0
 ·have c1:=emp_t ha;have HA:=ae ha;clear h ha;go_enter func168,ntmps168;go_wp2_with (go_at_call 167;refine(Bi _ _ _).mono ?_;rintro e w' ⟨rfl,rfl⟩)
  all_goals (go_ret;exact⟨rfl,I5 _⟩)
 ·have c1:=emp_f ha;have c2:=emp_t (h.resolve_left ha);clear h ha;go_enter func168,ntmps168;go_wp2_with (go_at_call 167;refine(Bi _ _ _).mono ?_;rintro e w' ⟨rfl,rfl⟩)
  all_goals (go_ret;exact⟨rfl,I5 _⟩)
def U9:Value->Nat
 | .string s=>s.size
 |_=>0
theorem acR(P Q:List UInt8) :
  (∃X1 T2 X2,mY P=.iface 315 (.string X1)/\mY Q=.iface T2 (.string X2)/\∀w,Calls prog 293 #[.string X1,.iface T2 (.string X2)] w fun e w'=>e=.returned (.int .i64 (jZ P Q))/\∃n,w'=w.drewN n) ∨
  (∃X1 T2 X2,mY P=.iface 317 (.string X1)/\mY Q=.iface T2 (.string X2)/\∀w,Calls prog 296 #[.string X1,.iface T2 (.string X2)] w fun e w'=>e=.returned (.int .i64 (jZ P Q))/\∃n,w'=w.drewN n):=by
 cases hp:ik P with
 |true=>
  left
  cases hq:ik Q with
  |true=>
   refine⟨⟨(iK P).toArray⟩,_,⟨(iK Q).toArray⟩,by unfold mY;rw[hp];rfl,by unfold mY;rw[hq];rfl,fun w=>?_⟩;rw[aaQ hp hq];have s1:(⟨(iK P).toArray⟩:ByteArray).size=(iK P).length:=by show(iK P).toArray.size=_;simp
   have s2:(⟨(iK Q).toArray⟩:ByteArray).size=(iK Q).length:=by show(iK Q).toArray.size=_;simp
   by_cases h:((iK P).length:Int)=(iK Q).length
   ·rw[if_pos h];exact acL _ _ w (by rw[s1,s2];omega)
   ·rw[if_neg h];have:=acM ⟨(iK P).toArray⟩ ⟨(iK Q).toArray⟩ w (by rw[s1,s2];omega);rw[s1,s2]at this;exact this
  |false=>
   refine⟨⟨(iK P).toArray⟩,_,⟨Q.toArray⟩,by unfold mY;rw[hp];rfl,by unfold mY;rw[hq];rfl,fun w=>?_⟩;rw[aaR hp hq];exact acN _ _ w
 |false=>
  right
  cases hq:ik Q with
  |true=>
   refine⟨⟨P.toArray⟩,_,⟨(iK Q).toArray⟩,by unfold mY;rw[hp];rfl,by unfold mY;rw[hq];rfl,fun w=>?_⟩;rw[aaS hp hq];exact acO _ _ w
  |false=>
   refine⟨⟨P.toArray⟩,_,⟨Q.toArray⟩,by unfold mY;rw[hp];rfl,by unfold mY;rw[hq];rfl,fun w=>?_⟩;rw[aaT hp hq];exact acP _ _ w
theorem acS(a b:ByteArray)(w:World)(ha:a.size≠0)(hb:b.size≠0)(hs:a.size<2 ^ 62)(hs':b.size<2 ^ 62) :
  Calls prog 168 #[.string a,.string b] w fun e w'=>e=.returned (.int .i64 (gJ jZ (di a.data.toList) (di b.data.toList)))/\Gr w w':=by
 have c1:=emp_f ha;have c2:=emp_f hb;obtain⟨R,hR⟩:∃R,R=gJ jZ (di a.data.toList) (di b.data.toList):=⟨_,rfl⟩;rw[<-hR];have HR:=ae hR;clear hR ha hb;go_enter func168,ntmps168;go_wp2_with (fail);go_loopw [0,1] (fun va vb wr=>∃x y:ByteArray,va=.string x/\vb=.string y/\x.size<2 ^ 62/\y.size<2 ^ 62/\R=gJ jZ (di x.data.toList) (di y.data.toList)/\Gr w wr) (fun va _ _=>U9 va)
 case atStart=>exact⟨a,b,rfl,rfl,hs,hs',HR.o,I5 _⟩
 case round=>
  obtain⟨x,y,rfl,rfl,hx,hy,hr,hgb⟩:=hrel;have HX:=ae hr;have HG:=ae hgb;have HB:Hd (x.size<2 ^ 62/\y.size<2 ^ 62):=⟨hx,hy⟩;obtain⟨P1,hP1⟩:∃P1,P1=ku x.data.toList:=⟨_,rfl⟩;obtain⟨P2,hP2⟩:∃P2,P2=kT x.data.toList:=⟨_,rfl⟩;obtain⟨P3,hP3⟩:∃P3,P3=jO x.data.toList:=⟨_,rfl⟩;obtain⟨Q1,I7⟩:∃Q1,Q1=ku y.data.toList:=⟨_,rfl⟩;obtain⟨Q2,hQ2⟩:∃Q2,Q2=kT y.data.toList:=⟨_,rfl⟩;obtain⟨Q3,NC⟩:∃Q3,Q3=jO y.data.toList:=⟨_,rfl⟩;have HP:Hd (P1=ku x.data.toList/\P2=kT x.data.toList/\P3=jO x.data.toList):=⟨hP1,hP2,hP3⟩;have HQ:Hd (Q1=ku y.data.toList/\Q2=kT y.data.toList/\Q3=jO y.data.toList):=⟨I7,hQ2,NC⟩;have C1:=fun w=>U4 x w hx
  rw[<-hP1,<-hP2,<-hP3]at C1;have C2:=fun w=>U4 y w hy
  rw[<-I7,<-hQ2,<-NC]at C2;have p1:(⟨P1.toArray⟩:ByteArray).size<2 ^ 62:=by
   have:=Td x.data.toList;rw[<-hP1]at this;show P1.toArray.size < _;simp at this ⊢;omega
  have q1:(⟨Q1.toArray⟩:ByteArray).size<2 ^ 62:=by
   have:=Td y.data.toList;rw[<-I7]at this;show Q1.toArray.size < _;simp at this ⊢;omega
  have D1:Hd (∀w,Calls prog 195 #[.string ⟨P1.toArray⟩] w fun e w'=>e=.returned (mY P1)/\Gr w w'):=fun w=>U7 ⟨P1.toArray⟩ w p1
  have D2:Hd (∀w,Calls prog 195 #[.string ⟨Q1.toArray⟩] w fun e w'=>e=.returned (mY Q1)/\Gr w w'):=fun w=>U7 ⟨Q1.toArray⟩ w q1
  have Bj:=ae C1;have HC2:=ae C2;clear hP1 hP2 hP3 I7 hQ2 NC C1 C2 p1 q1 hr hgb hx hy;obtain⟨O,hO⟩:∃O,O=jZ P1 Q1:=⟨_,rfl⟩;have HS:Hd (R=if O=0 then(if P3=true then(if Q3=true then gJ jZ (di P2) (di Q2) else 1) else(if Q3=true then -1 else 0)) else O):=by
   show R=_;have h1:=HP.o;have h2:=HQ.o;rw[HX.o,aaU,<-h1.1,<-h1.2.1,<-h1.2.2,<-h2.1,<-h2.2.1,<-h2.2.2,<-hO]
  have HL:Hd ((P3=true->P2.length<x.size)/\P2.length<2 ^ 62/\Q2.length<2 ^ 62):=by
   have h1:=HP.o;have h2:=HQ.o;have h3:=HB.o;have z1:x.data.toList.length=x.size:=by simp
   have z2:y.data.toList.length=y.size:=by simp
   have l1:=Tf x.data.toList;have l2:=Tf y.data.toList;rw[<-h1.2.1]at l1;rw[<-h2.2.1]at l2;refine⟨fun h=>?_,by omega,by omega⟩;have:=(Il (h1.2.2 ▸ h:jO x.data.toList=true)).2;rw[<-h1.2.1]at this;omega
  rcases acR P1 Q1 with⟨X1,T2,X2,hv1,hv2,ho⟩|⟨X1,T2,X2,hv1,hv2,ho⟩
  ·rw[<-hO]at ho;rw[hv1]at D1;rw[hv2]at D2;have H0:=ae ho;clear ho hv1 hv2 hO;have na:∀w,(nilAhead 488 315 (.string X1) "pantry/ver.order").run prog w=.ok (some false) w:=fun w=>by kernel_rfl
   have hm:∀w,(method 488 315 (.string X1) "pantry/ver.order").run prog w=.ok (293,.string X1) w:=fun w=>by kernel_rfl
   go_wp2_with (go_at_call 194;refine(Bj.o _).mono ?_);rintro e w1 ⟨rfl,n1,rfl⟩;go_wp2_with (go_at_call 194;refine(HC2.o _).mono ?_);rintro e w1 ⟨rfl,n2,rfl⟩;go_wp2;go_region_with (first|(go_at_call_of 195 (Value.string ⟨P1.toArray⟩);refine(D1.o _).mono ?_;rintro e w3 ⟨rfl,hg3⟩)|(go_at_call_of 195 (Value.string ⟨Q1.toArray⟩);refine(D2.o _).mono ?_;rintro e w4 ⟨rfl,hg4⟩)|(go_at_call 293;refine(H0.o _).mono ?_;rintro e w5 ⟨rfl,n5,rfl⟩))
   all_goals
    have GB:=ae (zt (zt (qL HG.o _) hg3) hg4);clear hg3 hg4 na hm
    cases hz:(O == 0) with
    |false=>
     have HZ:Hd (R=O):=by
      show R=O;rw[HS.o,if_neg (by simpa using hz)]
     go_wp2;go_ret;exact⟨dm HZ.o.symm,qL GB.o _⟩
    |true=>
     have HZ:Hd (O=0):=by
      show O=0;simpa using hz
     cases P3 with
     |true=>
      cases Q3 with
      |true=>
       go_wp2;go_roundw
       case rel=>
        refine⟨⟨P2.toArray⟩,⟨Q2.toArray⟩,rfl,rfl,?_,?_,?_,qL GB.o _⟩
        ·show P2.toArray.size < _;have:=HL.o.2.1;simpa using this
        ·show Q2.toArray.size < _;have:=HL.o.2.2;simpa using this
        ·rw[HS.o,if_pos HZ.o];rfl
       case measure=>
        have:=HL.o.1 rfl;show P2.toArray.size<x.size;simpa using this
      |false=>
       have HE:Hd (R=1):=by show R=1;rw[HS.o,if_pos HZ.o];rfl
       go_wp2;go_ret;exact⟨dm HE.o.symm,qL GB.o _⟩
     |false=>
      cases Q3 with
      |true=>
       have HE:Hd (R=-1):=by show R=-1;rw[HS.o,if_pos HZ.o];rfl
       go_wp2;go_ret;exact⟨dm HE.o.symm,qL GB.o _⟩
      |false=>
       have HE:Hd (R=0):=by show R=0;rw[HS.o,if_pos HZ.o];rfl
       go_wp2;go_ret;exact⟨dm HE.o.symm,qL GB.o _⟩
  ·rw[<-hO]at ho;rw[hv1]at D1;rw[hv2]at D2;have H0:=ae ho;clear ho hv1 hv2 hO;have na:∀w,(nilAhead 488 317 (.string X1) "pantry/ver.order").run prog w=.ok (some false) w:=fun w=>by kernel_rfl
   have hm:∀w,(method 488 317 (.string X1) "pantry/ver.order").run prog w=.ok (296,.string X1) w:=fun w=>by kernel_rfl
   go_wp2_with (go_at_call 194;refine(Bj.o _).mono ?_);rintro e w1 ⟨rfl,n1,rfl⟩;go_wp2_with (go_at_call 194;refine(HC2.o _).mono ?_);rintro e w1 ⟨rfl,n2,rfl⟩;go_wp2;go_region_with (first|(go_at_call_of 195 (Value.string ⟨P1.toArray⟩);refine(D1.o _).mono ?_;rintro e w3 ⟨rfl,hg3⟩)|(go_at_call_of 195 (Value.string ⟨Q1.toArray⟩);refine(D2.o _).mono ?_;rintro e w4 ⟨rfl,hg4⟩)|(go_at_call 296;refine(H0.o _).mono ?_;rintro e w5 ⟨rfl,n5,rfl⟩))
   all_goals
    have GB:=ae (zt (zt (qL HG.o _) hg3) hg4);clear hg3 hg4 na hm
    cases hz:(O == 0) with
    |false=>
     have HZ:Hd (R=O):=by
      show R=O;rw[HS.o,if_neg (by simpa using hz)]
     go_wp2;go_ret;exact⟨dm HZ.o.symm,qL GB.o _⟩
    |true=>
     have HZ:Hd (O=0):=by
      show O=0;simpa using hz
     cases P3 with
     |true=>
      cases Q3 with
      |true=>
       go_wp2;go_roundw
       case rel=>
        refine⟨⟨P2.toArray⟩,⟨Q2.toArray⟩,rfl,rfl,?_,?_,?_,qL GB.o _⟩
        ·show P2.toArray.size < _;have:=HL.o.2.1;simpa using this
        ·show Q2.toArray.size < _;have:=HL.o.2.2;simpa using this
        ·rw[HS.o,if_pos HZ.o];rfl
       case measure=>
        have:=HL.o.1 rfl;show P2.toArray.size<x.size;simpa using this
      |false=>
       have HE:Hd (R=1):=by show R=1;rw[HS.o,if_pos HZ.o];rfl
       go_wp2;go_ret;exact⟨dm HE.o.symm,qL GB.o _⟩
     |false=>
      cases Q3 with
      |true=>
       have HE:Hd (R=-1):=by show R=-1;rw[HS.o,if_pos HZ.o];rfl
       go_wp2;go_ret;exact⟨dm HE.o.symm,qL GB.o _⟩
      |false=>
       have HE:Hd (R=0):=by show R=0;rw[HS.o,if_pos HZ.o];rfl
       go_wp2;go_ret;exact⟨dm HE.o.symm,qL GB.o _⟩
theorem acT(a b:ByteArray)(w:World)(hs:a.size<2 ^ 62)(hs':b.size<2 ^ 62) :
  Calls prog 168 #[.string a,.string b] w fun e w'=>e=.returned (.int .i64 (qF a.data.toList b.data.toList))/\Gr w w':=by
 by_cases h:a.size=0\/b.size=0
 ·exact acQ a b w h
 ·have ha:a.size≠0:=fun e=>h (Or.inl e)
  have hb:b.size≠0:=fun e=>h (Or.inr e)
  rw[aaW a.data.toList b.data.toList (fun e=>ha (by show a.data.size=0;rw[<-Array.length_toList,e];rfl)) (fun e=>hb (by show b.data.size=0;rw[<-Array.length_toList,e];rfl))];exact acS a b w ha hb hs hs'
end Go.Proofs.YtbcfhgpfgdbjgaaGreatDoor.G
namespace Go.Proofs.YtbcfhgpfgdbjgaaGreatDoor.G
open Go.RowKit
def uo(x y z:Int):Int:=if x=0 then(if y=0 then z else y) else x
theorem acU(x y z:Int)(b:Nat)(w:World)(h0:w.cell? ⟨b,0,none⟩=some (.int .i64 x))(h1:w.cell? ⟨b,1,none⟩=some (.int .i64 y))(h2:w.cell? ⟨b,2,none⟩=some (.int .i64 z)) :
  Calls prog 166 #[.slice (some ⟨b,0,none⟩) 3 3] w fun e w'=>e=.returned (.int .i64 (uo x y z))/\w'=w:=by
 obtain⟨R,hR⟩:∃R,R=uo x y z:=⟨_,rfl⟩;have HR:=ae hR;rw[<-hR];clear hR;go_enter func166,ntmps166;go_wp2
 go_loop [8] (fun i=>∃k:Nat,k<=3/\i=.int .i64 k/\(1<=k->x=0)/\(2<=k->y=0)/\(3<=k->z=0)) (fun i=>3-(intOf i).toNat)
 case atStart=>exact⟨0,by omega,rfl,by omega,by omega,by omega⟩
 case round=>
  obtain⟨k,hk,rfl,k1,k2,k3⟩:=hrel
  rcases(show k=0\/k=1\/k=2\/k=3 by omega) with rfl|rfl|rfl|rfl
  ·clear k1 k2 k3 hk
   cases hz:(x == 0) with
   |true=>
    have hx:x=0:=by simpa using hz
    go_wp2
    go_round
    case rel=>exact⟨1,by omega,rfl,fun _=>hx,by omega,by omega⟩
    case measure=>simp[intOf]
   |false=>
    have HZ:Hd (R=x):=by show R=x;rw[HR.o];unfold uo;rw[if_neg (by simpa using hz)]
    go_wp2;go_ret;exact⟨dm HZ.o.symm,rfl⟩
  ·have hx:=ae (k1 (by omega));clear k1 k2 k3 hk
   cases hz:(y == 0) with
   |true=>
    have hy:y=0:=by simpa using hz
    go_wp2
    go_round
    case rel=>exact⟨2,by omega,rfl,fun _=>hx.o,fun _=>hy,by omega⟩
    case measure=>simp[intOf]
   |false=>
    have HZ:Hd (R=y):=by show R=y;rw[HR.o];unfold uo;rw[if_pos hx.o,if_neg (by simpa using hz)]
    go_wp2;go_ret;exact⟨dm HZ.o.symm,rfl⟩
  ·have hx:=ae (k1 (by omega));have hy:=ae (k2 (by omega));clear k1 k2 k3 hk;have HZ:Hd (R=z):=by show R=z;rw[HR.o];unfold uo;rw[if_pos hx.o,if_pos hy.o]
   cases hz:(z == 0) with
   |true=>
    have hy':z=0:=by simpa using hz
    go_wp2
    go_round
    case rel=>exact⟨3,by omega,rfl,fun _=>hx.o,fun _=>hy.o,fun _=>hy'⟩
    case measure=>simp[intOf]
   |false=>
    go_wp2;go_ret;exact⟨dm HZ.o.symm,rfl⟩
  ·have HZ:Hd (R=0):=by show R=0;rw[HR.o];unfold uo;rw[if_pos (k1 (by omega)),if_pos (k2 (by omega)),k3 (by omega)]
   clear k1 k2 k3 hk;go_wp2;go_ret;exact⟨dm HZ.o.symm,rfl⟩
theorem acV(a b:V):dY a b=if uo (Lib.compareInt a.major b.major) (Lib.compareInt a.minor b.minor) (Lib.compareInt a.patch b.patch)=0 then qF a.pre b.pre else uo (Lib.compareInt a.major b.major) (Lib.compareInt a.minor b.minor) (Lib.compareInt a.patch b.patch):=by
 rw[aaP];unfold uo
 repeat' split
 all_goals first|rfl|(exfalso;omega)|omega
theorem compare_any(a1 a2 a3 b1 b2 b3:Int)(a4 a5 b4 b5:ByteArray)(w:World)(hs:a4.size<2 ^ 62)(hs':b4.size<2 ^ 62) :
  Calls prog 140 #[.agg #[.int .i64 a1,.int .i64 a2,.int .i64 a3,.string a4,.string a5],.agg #[.int .i64 b1,.int .i64 b2,.int .i64 b3,.string b4,.string b5]] w fun e w'=>e=.returned (.int .i64 (dY ⟨a1,a2,a3,a4.data.toList⟩ ⟨b1,b2,b3,b4.data.toList⟩))/\Gr w w':=by
 obtain⟨R,hR⟩:∃R,R=dY ⟨a1,a2,a3,a4.data.toList⟩ ⟨b1,b2,b3,b4.data.toList⟩:=⟨_,rfl⟩;obtain⟨x,hx⟩:∃x,x=Lib.compareInt a1 b1:=⟨_,rfl⟩;obtain⟨y,hy⟩:∃y,y=Lib.compareInt a2 b2:=⟨_,rfl⟩;obtain⟨z,hz⟩:∃z,z=Lib.compareInt a3 b3:=⟨_,rfl⟩;obtain⟨p,hp⟩:∃p,p=qF a4.data.toList b4.data.toList:=⟨_,rfl⟩;obtain⟨o,ho⟩:∃o,o=uo x y z:=⟨_,rfl⟩;have HR:Hd (R=if o=0 then p else o):=by
  show R=if o=0 then p else o;rw[hR,acV,ho,hx,hy,hz,hp]
 have C1:Hd (∀w,Calls prog 167 #[.int .i64 a1,.int .i64 b1] w fun e w'=>e=.returned (.int .i64 x)/\w'=w):=fun w=>by rw[hx];exact Bi _ _ w
 have C2:Hd (∀w,Calls prog 167 #[.int .i64 a2,.int .i64 b2] w fun e w'=>e=.returned (.int .i64 y)/\w'=w):=fun w=>by rw[hy];exact Bi _ _ w
 have C3:Hd (∀w,Calls prog 167 #[.int .i64 a3,.int .i64 b3] w fun e w'=>e=.returned (.int .i64 z)/\w'=w):=fun w=>by rw[hz];exact Bi _ _ w
 have CP:Hd (∀w,Calls prog 168 #[.string a4,.string b4] w fun e w'=>e=.returned (.int .i64 p)/\Gr w w'):=fun w=>by rw[hp];exact acT a4 b4 w hs hs'
 have CO:Hd (∀(b:Nat) (w:World),w.cell? ⟨b,0,none⟩=some (.int .i64 x)->w.cell? ⟨b,1,none⟩=some (.int .i64 y)->w.cell? ⟨b,2,none⟩=some (.int .i64 z)->Calls prog 166 #[.slice (some ⟨b,0,none⟩) 3 3] w fun e w'=>e=.returned (.int .i64 o)/\w'=w):=fun b w h0 h1 h2=>by rw[ho];exact acU x y z b w h0 h1 h2
 rw[<-hR];clear hR hx hy hz hp ho hs hs';go_enter func140,ntmps140;go_wp2;obtain⟨W,hW⟩:=zN ((w.alloc (.cells #[.int .i64 a1,.int .i64 a2,.int .i64 a3,.string a4,.string a5] 84)).alloc (.cells #[.int .i64 b1,.int .i64 b2,.int .i64 b3,.string b4,.string b5] 84));rw[hW];have g1:W.heap[w.heap.size]?=some (.cells #[.int .i64 a1,.int .i64 a2,.int .i64 a3,.string a4,.string a5] 84 (0,0)):=by
  rw[<-hW,Lib.alloc_old _ _ _ (by simp)];exact heap_alloc_new w _
 have g2:W.heap[w.heap.size+1]?=some (.cells #[.int .i64 b1,.int .i64 b2,.int .i64 b3,.string b4,.string b5] 84 (0,0)):=by
  rw[<-hW];have:=heap_alloc_new (w.alloc (.cells #[.int .i64 a1,.int .i64 a2,.int .i64 a3,.string a4,.string a5] 84)) (.cells #[.int .i64 b1,.int .i64 b2,.int .i64 b3,.string b4,.string b5] 84);rw[show(w.alloc (.cells #[.int .i64 a1,.int .i64 a2,.int .i64 a3,.string a4,.string a5] 84)).heap.size=w.heap.size+1 by simp]at this;exact this
 have dR:Hd (Gr w W):=by
  show Gr w W;rw[<-hW];exact⟨⟨rfl,rfl,rfl,by simp;omega,fun k hk _=>by rw[Lib.alloc_old _ _ _ (by simp;omega),Lib.alloc_old _ _ _ hk]⟩,Nat.le_refl _⟩
 have lM:Hd (W.heap.size=w.heap.size+2):=by
  show W.heap.size=w.heap.size+2;rw[<-hW];simp
 obtain⟨A,hA⟩:=zN (w.heap.size);rw[hA]at g1 g2;rw[hA];have HA:Hd (W.heap.size=A+2):=by
  show W.heap.size=A+2;rw[<-hA];exact lM.o
 have c0:W.cell? ⟨A,0,none⟩=some (.int .i64 a1):=by rw[aj g1];rfl
 have c1:W.cell? ⟨A,1,none⟩=some (.int .i64 a2):=by rw[aj g1];rfl
 have c2:W.cell? ⟨A,2,none⟩=some (.int .i64 a3):=by rw[aj g1];rfl
 have c3:Hd (W.cell? ⟨A,3,none⟩=some (.string a4)):=by show W.cell? _=_;rw[aj g1];rfl
 have d0:W.cell? ⟨A+1,0,none⟩=some (.int .i64 b1):=by rw[aj g2];rfl
 have d1:W.cell? ⟨A+1,1,none⟩=some (.int .i64 b2):=by rw[aj g2];rfl
 have d2:W.cell? ⟨A+1,2,none⟩=some (.int .i64 b3):=by rw[aj g2];rfl
 have d3:Hd (W.cell? ⟨A+1,3,none⟩=some (.string b4)):=by show W.cell? _=_;rw[aj g2];rfl
 clear hW hA lM g1 g2
 go_region_held3 (fun w'=>w'.cell? ⟨A,0,none⟩=some (.int .i64 a1)/\w'.cell? ⟨A,1,none⟩=some (.int .i64 a2)/\w'.cell? ⟨A,2,none⟩=some (.int .i64 a3)/\w'.cell? ⟨A+1,0,none⟩=some (.int .i64 b1)/\w'.cell? ⟨A+1,1,none⟩=some (.int .i64 b2)/\w'.cell? ⟨A+1,2,none⟩=some (.int .i64 b3)) (go_keep) (first|(go_at_call_of 167 (Value.int .i64 a1);refine(C1.o _).mono ?_;rintro e w' ⟨rfl,rfl⟩)|(go_at_call_of 167 (Value.int .i64 a2);refine(C2.o _).mono ?_;rintro e w' ⟨rfl,rfl⟩)|(go_at_call_of 167 (Value.int .i64 a3);refine(C3.o _).mono ?_;rintro e w' ⟨rfl,rfl⟩)|(go_at_call 166;refine(CO.o _ _ (by simp) (by simp) (by simp)).mono ?_;rintro e w' ⟨rfl,rfl⟩))
 obtain⟨W2,hW2⟩:=zN ((W.alloc (.cells #[.int .i64 x,.int .i64 y,.int .i64 z] 3)).drew);rw[hW2];have hlt:A<W.heap.size/\A+1<W.heap.size:=by have:=HA.o;omega
 have e3:W2.cell? ⟨A,3,none⟩=some (.string a4):=by
  rw[<-hW2];exact(World.cell?_of_block (show((W.alloc _).drew).heap[A]?=W.heap[A]? from Lib.alloc_old W _ A hlt.1)).trans c3.o
 have f3:W2.cell? ⟨A+1,3,none⟩=some (.string b4):=by
  rw[<-hW2];exact(World.cell?_of_block (show((W.alloc _).drew).heap[A+1]?=W.heap[A+1]? from Lib.alloc_old W _ (A+1) hlt.2)).trans d3.o
 have HG2:Hd (Gr w W2):=by
  show Gr w W2;rw[<-hW2];have h1:Gr W ((W.alloc (.cells #[.int .i64 x,.int .i64 y,.int .i64 z] 3)).drew):=⟨⟨rfl,rfl,rfl,by simp,fun k hk _=>Lib.alloc_old W _ k hk⟩,Nat.le_succ _⟩;exact zt dR.o h1
 clear hW2 hlt c0 c1 c2 c3 d0 d1 d2 d3 HA dR C1 C2 C3 CO
 cases hz:(o == 0) with
 |false=>
  have HZ:Hd (R=o):=by show R=o;rw[HR.o,if_neg (by simpa using hz)]
  go_wp2;go_ret;exact⟨dm HZ.o.symm,HG2.o⟩
 |true=>
  have HZ:Hd (R=p):=by show R=p;rw[HR.o,if_pos (by simpa using hz)]
  go_wp2_with (go_at_call 168;refine(CP.o _).mono ?_;rintro e w4 ⟨rfl,hg4⟩);go_ret;exact⟨dm HZ.o.symm,zt HG2.o hg4⟩
end Go.Proofs.YtbcfhgpfgdbjgaaGreatDoor.G
namespace Go.Proofs.YtbcfhgpfgdbjgaaGreatDoor
open Go.RowKit
theorem emp_t{a:ByteArray}(h:a.size=0):a.toList.isEmpty=true:=G.emp_t h
theorem emp_f{a:ByteArray}(h:a.size≠0):a.toList.isEmpty=false:=G.emp_f h
def U9:Value->Nat
 | .string s=>s.size
 |_=>0
theorem compare_any(a1 a2 a3 b1 b2 b3:Int)(a4 a5 b4 b5:ByteArray)(w:World)(hs:a4.size<2 ^ 62)(hs':b4.size<2 ^ 62) :
  Calls prog 140 #[.agg #[.int .i64 a1,.int .i64 a2,.int .i64 a3,.string a4,.string a5],.agg #[.int .i64 b1,.int .i64 b2,.int .i64 b3,.string b4,.string b5]] w fun e w'=>e=.returned (.int .i64 (dY ⟨a1,a2,a3,a4.data.toList⟩ ⟨b1,b2,b3,b4.data.toList⟩))/\w.grownBy w' none :=
 (G.compare_any a1 a2 a3 b1 b2 b3 a4 a5 b4 b5 w hs hs').mono fun e w' ⟨h1,h2⟩=>⟨h1,h2.1⟩
open Go.RowKit
theorem acW{w w':World}(h:Below w.heap.size w w'):w.grownBy w' none:=⟨h.os,h.tape,h.output,h.size,fun k hk _=>h.block k hk⟩
open Go.RowKit
structure Sp where
 f1:Int
 f2:Int
 f3:Int
 f4:ByteArray
 f5:ByteArray
 t1:Int
 t2:Int
 t3:Int
 t4:ByteArray
 t5:ByteArray
 o:Bool
def fM(s:Sp):List Value:=[.int .i64 s.f1,.int .i64 s.f2,.int .i64 s.f3,.string s.f4,.string s.f5,.int .i64 s.t1,.int .i64 s.t2,.int .i64 s.t3,.string s.t4,.string s.t5,.bool s.o]
def xM(s:Sp):Vv:=⟨s.f1,s.f2,s.f3,s.f4.data.toList,s.f5.data.toList⟩
def xN(s:Sp):Vv:=⟨s.t1,s.t2,s.t3,s.t4.data.toList,s.t5.data.toList⟩
def iF(s:Sp):Bool:=nM (xM s) && (s.o || nM (xN s))
def lN(s:Sp):Prop:=s.f4.size<=1048576/\s.f5.size<=1048576/\s.t4.size<=1048576/\s.t5.size<=1048576
def EltAt(w:World)(p:Addr)(s:Sp):Prop:=w.cell? p=some (.int .i64 s.f1)/\w.cell? ⟨p.block,p.off+1,none⟩=some (.int .i64 s.f2)/\w.cell? ⟨p.block,p.off+2,none⟩=some (.int .i64 s.f3)/\w.cell? ⟨p.block,p.off+3,none⟩=some (.string s.f4)/\w.cell? ⟨p.block,p.off+4,none⟩=some (.string s.f5)/\w.cell? ⟨p.block,p.off+5,none⟩=some (.int .i64 s.t1)/\w.cell? ⟨p.block,p.off+6,none⟩=some (.int .i64 s.t2)/\w.cell? ⟨p.block,p.off+7,none⟩=some (.int .i64 s.t3)/\w.cell? ⟨p.block,p.off+8,none⟩=some (.string s.t4)/\w.cell? ⟨p.block,p.off+9,none⟩=some (.string s.t5)/\w.cell? ⟨p.block,p.off+10,none⟩=some (.bool s.o)
theorem EltAt.grow{w w':World}{p:Addr}{s:Sp}(h:EltAt w p s)(hg:w.grownBy w' none):EltAt w' p s:=by
 obtain⟨h0,h1,h2,h3,h4,h5,h6,h7,h8,h9,h10⟩:=h;exact⟨hg.cell h0 (by simp),hg.cell h1 (by simp),hg.cell h2 (by simp),hg.cell h3 (by simp),hg.cell h4 (by simp),hg.cell h5 (by simp),hg.cell h6 (by simp),hg.cell h7 (by simp),hg.cell h8 (by simp),hg.cell h9 (by simp),hg.cell h10 (by simp)⟩
def SpAt(w:World)(a:Addr)(L:List Sp):Prop:=∀i (hi:i<L.length),EltAt w (a.add (i*11)) L[i]
theorem SpAt.grow{w w':World}{a:Addr}{L:List Sp}(h:SpAt w a L)(hg:w.grownBy w' none):SpAt w' a L:=fun i hi=>(h i hi).grow hg
theorem mZ(a:Addr)(n k:Nat)(hk:0<k):a.add (n+k)=⟨(a.add n).block,(a.add n).off+k,none⟩:=by
 unfold Addr.add;rw[if_neg (by omega)]
 by_cases h:n=0
 ·rw[if_pos h,h];simp
 ·rw[if_neg h];simp[Nat.add_assoc]
theorem acX{w:World}{a:Addr}{n:Nat}{s:Sp}(h:∀k v,(fM s)[k]?=some v->w.cell? (a.add (n+k))=some v):EltAt w (a.add n) s :=
 ⟨by have:=h 0 _ rfl;simpa using this,by have:=h 1 _ rfl;rw[mZ a n 1 (by omega)]at this;exact this,by have:=h 2 _ rfl;rw[mZ a n 2 (by omega)]at this;exact this,by have:=h 3 _ rfl;rw[mZ a n 3 (by omega)]at this;exact this,by have:=h 4 _ rfl;rw[mZ a n 4 (by omega)]at this;exact this,by have:=h 5 _ rfl;rw[mZ a n 5 (by omega)]at this;exact this,by have:=h 6 _ rfl;rw[mZ a n 6 (by omega)]at this;exact this,by have:=h 7 _ rfl;rw[mZ a n 7 (by omega)]at this;exact this,by have:=h 8 _ rfl;rw[mZ a n 8 (by omega)]at this;exact this,by have:=h 9 _ rfl;rw[mZ a n 9 (by omega)]at this;exact this,by have:=h 10 _ rfl;rw[mZ a n 10 (by omega)]at this;exact this⟩
open Go.RowKit
def Va(s:Sp):V:=⟨s.f1,s.f2,s.f3,s.f4.data.toList⟩
def Vb(s:Sp):V:=⟨s.t1,s.t2,s.t3,s.t4.data.toList⟩
open Go.RowKit
theorem acY(w:World)(o1 o2:Obj):((w.alloc o1).alloc o2).heap[w.heap.size+1]?=some o2:=by
 have:=heap_alloc_new (w.alloc o1) o2;simpa using this
theorem row23(w:World)(o1 o2 o3:Obj):(((w.alloc o1).alloc o2).alloc o3).heap[w.heap.size+1]?=some o2:=by
 rw[Lib.alloc_old _ _ _ (by simp)];exact acY w o1 o2
theorem acZ(a:ByteArray)(wx:World)(h:a.size<2 ^ 62):(Op.stringOp .add a ⟨#[46,48]⟩).run prog wx=.ok (.string ⟨(a.data.toList++[46,48]).toArray⟩) wx:=by
 have e:a=⟨a.data.toList.toArray⟩:=by cases a;simp
 rw[e,run_string_add_sum wx _ _ (by
  show a.data.toList.toArray.size+2<=_;have:a.data.toList.toArray.size=a.size:=by simp
  rw[this];omega)]
 rw[show(⟨#[46,48]⟩:ByteArray)=⟨[46,48].toArray⟩ from rfl,ByteArray.mk_append_mk]
theorem ac0(a1 a2 a3:Int)(a4 a5:ByteArray)(w:World)(h4:a4.size≠0)(hs:a4.size<2 ^ 62) :
  Calls prog 206 #[.agg #[.int .i64 a1,.int .i64 a2,.int .i64 a3,.string a4,.string a5]] w fun e w'=>e=.returned (.agg #[.int .i64 a1,.int .i64 a2,.int .i64 a3,.string ⟨(a4.data.toList++[46,48]).toArray⟩,.string ⟨#[]⟩])/\w.grownBy w' none:=by
 have c1:=emp_f h4;obtain⟨X,hX⟩:∃X:ByteArray,X=⟨(a4.data.toList++[46,48]).toArray⟩:=⟨_,rfl⟩;have ad:∀wx,(Op.stringOp .add a4 ⟨#[46,48]⟩).run prog wx=.ok (.string X) wx:=fun wx=>by rw[hX];exact acZ a4 wx hs
 rw[<-hX];clear hX h4;go_enter func206,ntmps206;go_wp2;exact bodyPost_ret (results_cell_row rfl _ _ (w.heap.size+1) 84 _ (0,0) _ rfl (row23 w _ _ _) underlying84 rfl (by kernel_rfl)) rfl ⟨rfl,aH (aH (aH (ax w none) _) _) _⟩
theorem ac1(a1 a2 a3:Int)(a4 a5:ByteArray)(w:World)(h4:a4.size=0)(h3:a3<4611686018427387904)(h0:-9223372036854775808<=a3) :
  Calls prog 206 #[.agg #[.int .i64 a1,.int .i64 a2,.int .i64 a3,.string a4,.string a5]] w fun e w'=>e=.returned (.agg #[.int .i64 a1,.int .i64 a2,.int .i64 (a3+1),.string ⟨#[48]⟩,.string ⟨#[]⟩])/\w.grownBy w' none:=by
 have c1:=emp_t h4;have wr:IntKind.i64.wrap (a3+1)=a3+1:=by rw[IntKind.wrap_i64];omega
 clear h4;go_enter func206,ntmps206;go_wp2;exact bodyPost_ret (results_cell_row rfl _ _ (w.heap.size+1) 84 _ (0,0) _ rfl (row23 w _ _ _) underlying84 rfl (by kernel_rfl)) rfl ⟨rfl,aH (aH (aH (ax w none) _) _) _⟩
theorem ac2(a1 a2 a3:Int)(a4 a5:ByteArray)(w:World)(h4:a4.size=0)(h3:¬a3<4611686018427387904) :
  Calls prog 206 #[.agg #[.int .i64 a1,.int .i64 a2,.int .i64 a3,.string a4,.string a5]] w fun e w'=>e=.returned (.agg #[.int .i64 a1,.int .i64 a2,.int .i64 a3,.string ⟨#[48]⟩,.string ⟨#[]⟩])/\w.grownBy w' none:=by
 have c1:=emp_t h4;clear h4;go_enter func206,ntmps206;go_wp2;exact bodyPost_ret (results_cell_row rfl _ _ (w.heap.size+1) 84 _ (0,0) _ rfl (row23 w _ _ _) underlying84 rfl (by kernel_rfl)) rfl ⟨rfl,aH (aH (aH (ax w none) _) _) _⟩
open Go.RowKit
theorem ac3(a1 a2 a3:Int)(a4 a5:ByteArray)(hs:a4.size<2 ^ 62)(h0:-9223372036854775808<=a3) :
  ∃(n3:Int) (n4:ByteArray),n4.size<=a4.size+2/\(vM ⟨a1,a2,a3,a4.data.toList⟩=⟨a1,a2,n3,n4.data.toList⟩) ∧
   (∀w,Calls prog 206 #[.agg #[.int .i64 a1,.int .i64 a2,.int .i64 a3,.string a4,.string a5]] w fun e w'=>e=.returned (.agg #[.int .i64 a1,.int .i64 a2,.int .i64 n3,.string n4,.string ⟨#[]⟩])/\w.grownBy w' none):=by
 by_cases h4:a4.size=0
 ·have e:a4.data.toList=[]:=List.length_eq_zero_iff.1 (by simpa using h4)
  by_cases h3:a3<4611686018427387904
  ·refine⟨a3+1,⟨#[48]⟩,by show 1<=_;omega,?_,fun w=>ac1 a1 a2 a3 a4 a5 w h4 h3 h0⟩;unfold vM;rw[if_pos e,if_pos h3]
  ·refine⟨a3,⟨#[48]⟩,by show 1<=_;omega,?_,fun w=>ac2 a1 a2 a3 a4 a5 w h4 h3⟩;unfold vM;rw[if_pos e,if_neg h3]
 ·refine⟨a3,⟨(a4.data.toList++[46,48]).toArray⟩,?_,?_,fun w=>ac0 a1 a2 a3 a4 a5 w h4 hs⟩
  ·show(a4.data.toList++[46,48]).toArray.size<=_;simp
  ·unfold vM;rw[if_neg (fun e=>h4 (by have e':a4.data.toList=[]:=e;show a4.data.size=0;rw[<-Array.length_toList,e'];rfl))]
end Go.Proofs.YtbcfhgpfgdbjgaaGreatDoor
