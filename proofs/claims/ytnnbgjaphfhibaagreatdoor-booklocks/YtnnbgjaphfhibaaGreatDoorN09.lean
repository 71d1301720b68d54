import Derived.Test.YtnnbgjaphfhibaaGreatDoorN07
import Derived.Test.YtnnbgjaphfhibaaGreatDoorN06
import Derived.Maps.OwnOps
import Derived.Maps.Views
import Derived.DeepKeys4
import Derived.Deep.AppendLies
import Derived.Test.YtnnbgjaphfhibaaGreatDoorN08
set_option linter.unusedVariables false
set_option linter.unusedSimpArgs false
set_option maxRecDepth 100000
set_option maxHeartbeats 6400000
open Go.Proofs.Tryz
namespace Go.Proofs.YtnnbgjaphfhibaaGreatDoor
open Go.RowKit Go.Maps Go.WideMaps
theorem XZ:laidOutB prog=true:=by kernel_rfl
theorem PN:(268:TypeId)<prog.types.size:=of_decide_eq_true (by kernel_rfl)
theorem X0:KeyLaw prog 268:=deep_law_laid XZ (m:=2) (by omega) PN (by kernel_rfl) (by rw[underlying268])
theorem EM:Keyed prog 268:=Keyed.of_law X0
def holdL:List Value->Option (DataW Unit × List MemPlace)
 | [.int q n,.bool b]=>some (.agg [.lit (.int q n),.lit (.bool b)],[])
 | _=>none
def EN(v:Value):Option (DataW Unit × List MemPlace) :=
 match v with
 | .agg cs=>holdL cs.toList
 | _=>none
theorem X4(q:IntKind)(n:Int)(b:Bool):EN (.agg #[.int q n,.bool b])=some (.agg [.lit (.int q n),.lit (.bool b)],[]):=rfl
theorem X5{l:List Value}{q:IntKind}{n:Int}{b:Bool}{ps:List MemPlace}(h:holdL l=some (.agg [.lit (.int q n),.lit (.bool b)],ps)):l=[.int q n,.bool b]:=by
 unfold holdL at h;split at h
 ·injection h with h
  injection h with h _
  injection h with h
  injection h with h1 h2
  injection h2 with h2 _
  injection h1 with h1
  injection h2 with h2
  injection h1 with h3 h4
  injection h2 with h5
  rw[h3,h4,h5]
 ·cases h
theorem X6{v:Value}{q:IntKind}{n:Int}{b:Bool}{ps:List MemPlace}(h:EN v=some (.agg [.lit (.int q n),.lit (.bool b)],ps)):v=.agg #[.int q n,.bool b]:=by
 unfold EN at h;split at h
 ·rename_i cs;have:=X5 h;congr 1;exact Array.ext' this
 ·cases h
def nZ(t:Nat)(k:List UInt8):Value:=.agg #[.int .i64 (t:Nat),.string ⟨k.toArray⟩]
noncomputable def yH(t:Nat)(k:List UInt8):Lit:=(keyOf prog 268 (nZ t k)).getD (.bool false)
theorem X7(t:Nat)(k:List UInt8)(ht:t<4611686018427387904)(hk:k.length<=1048576):∃l,keyOf prog 268 (nZ t k)=some l:=by
 have h1:prog.keyType 268=true:=by kernel_rfl
 have h2:∀a b:Value,(Value.agg #[a,b]).formed prog 268=true:=fun a b=>by
  have hc:prog.cellsOf 268=2:=by kernel_rfl
  simp[Value.formed,underlying268,hc]
 obtain⟨m,hm⟩:∃m,prog.types.size=m+1:=⟨prog.types.size-1,by have h0:0<prog.types.size:=Nat.lt_of_le_of_lt (Nat.zero_le _) PN;omega⟩;have hc:prog.cellsOf 268=2:=by kernel_rfl
 have hci:prog.cellsOf 3=1:=by kernel_rfl
 have hcs:prog.cellsOf 9=1:=by kernel_rfl
 have hw:(Lit.int .i64 (t:Nat)).wf=true:=by
  have h1:IntKind.i64.min=-9223372036854775808:=by decide
  have h2:IntKind.i64.max=9223372036854775807:=by decide
  simp only[Lit.wf,h1,h2];simp;omega
 have hz:(⟨k.toArray⟩:ByteArray).size<=maxLen:=by
  show k.toArray.size<=_;unfold maxLen;simp;omega
 unfold keyOf nZ;simp only[underlying268,h1,h2,Bool.and_self,if_true,hm];have e1:prog.keyLits (m+1) 3 [.int .i64 (t:Nat)]=some [.int .i64 (t:Nat)]:=by
  simp[Program.keyLits,underlying3,hw]
 have e2:prog.keyLits (m+1) 9 [.string ⟨k.toArray⟩]=some [.string k]:=by
  simp[Program.keyLits,underlying9,hz]
 refine⟨.string (keyBytes ([.int .i64 (t:Nat)]++[.string k])),?_⟩;unfold Program.keyLits;simp[underlying268,hc,hci,hcs,e1,e2,Value.cells]
theorem Aq(t:Nat)(k:List UInt8)(ht:t<4611686018427387904)(hk:k.length<=1048576):keyOf prog 268 (nZ t k)=some (yH t k):=by
 obtain⟨l,hl⟩:=X7 t k ht hk;unfold yH;rw[hl];rfl
theorem X8{t t':Nat}{k k':List UInt8}(ht:t<4611686018427387904)(hk:k.length<=1048576)(ht':t'<4611686018427387904)(hk':k'.length<=1048576)(h:yH t k=yH t' k'):t=t'/\k=k':=by
 have h1:=Aq t k ht hk;have h2:=Aq t' k' ht' hk';rw[<-h]at h2;have h3:=EM.inj h1 h2;unfold nZ at h3;injection h3 with h3
 have h4:=congrArg Array.toList h3;simp only[List.cons.injEq,Value.int.injEq,Value.string.injEq,true_and,and_true]at h4;obtain⟨h5,h6⟩:=h4;refine⟨Int.ofNat_inj.1 h5,?_⟩;have h7:=congrArg (fun b:ByteArray=>b.data.toList) h6;simpa using h7
def HM(w:World)(M n:Nat)(f:Nat->List UInt8->Option (Nat × Bool)):Prop:=∃D:DataW Unit,w.ownsMap prog 268 EN M n D/\IsMap D/\∀t k,t<4611686018427387904->k.length<=1048576->∀zd,D.atKey (yH t k) zd=match f t k with|some v=>.agg [.lit (.int .i64 (v.1:Nat)),.lit (.bool v.2)]|none=>zd
theorem HM.mono{w:World}{M n n':Nat}{f:Nat->List UInt8->Option (Nat × Bool)}(h:HM w M n f)(hn:n<=n'):HM w M n' f:=by
 obtain⟨D,h1,h2,h3⟩:=h;exact⟨D,h1.mono hn,h2,h3⟩
theorem HM.block{w w':World}{M n:Nat}{f:Nat->List UInt8->Option (Nat × Bool)}(h:HM w M n f)(hb:w'.heap[M]?=w.heap[M]?):HM w' M n f:=by
 obtain⟨D,⟨es,c,h1,h1'⟩,h2,h3⟩:=h;exact⟨D,⟨es,c,hb.trans h1,h1'⟩,h2,h3⟩
theorem HM.map{w:World}{M n:Nat}{f:Nat->List UInt8->Option (Nat × Bool)}(h:HM w M n f):∃es c,w.heap[M]?=some (.map es c):=by
 obtain⟨D,⟨es,c,h1,h1'⟩,h2,h3⟩:=h;exact⟨es,c,h1⟩
theorem HM.made(w:World):HM (w.alloc (.map #[] 0)) w.heap.size 0 (fun _ _=>none):=⟨.map [],World.ownsMap_made w _ _ _,isMap_empty,fun _ _ _ _ _=>rfl⟩
theorem X9(w:World):(zeroValue 265).run prog w=.ok (.agg #[.int .i64 0,.bool false]) w:=by kernel_rfl
theorem HM.look{w:World}{M n:Nat}{f:Nat->List UInt8->Option (Nat × Bool)}(h:HM w M n f)(t:Nat)(k:List UInt8)(ht:t<4611686018427387904)(hk:k.length<=1048576) :
  (Instr.lookup 127 (.map (some M)) (nZ t k) true).run prog w=.ok (match f t k with|some v=>.tuple #[.agg #[.int .i64 (v.1:Nat),.bool v.2],.bool true]|none=>.tuple #[.agg #[.int .i64 0,.bool false],.bool false]) w:=by
 obtain⟨D,⟨es,c,h1,F,hs,rfl⟩,h2,h3⟩:=h;have h4:=h3 t k ht hk
 rcases Maps.fit_look true EM underlying127 (X9 w) h1 F (Aq t k ht hk) with⟨hrun,-,hat⟩|⟨e0,y,-,-,hrun,hRv,hat,-⟩
 ·rw[hrun]
  cases hf:f t k with
  | none=>rfl
  | some v =>
   exfalso;have:=h4 .nil;rw[hf,hat .nil]at this
   cases this
 ·rw[hrun]
  cases hf:f t k with
  | none =>
   exfalso;have a1:=h4 .nil;have a2:=h4 (.map []);rw[hf,hat]at a1 a2;simp only[]at a1 a2;rw[a1]at a2
   cases a2
  | some v =>
   have a1:=h4 .nil;rw[hf,hat]at a1;obtain⟨y1,y2⟩:=y;simp only[]at a1;subst a1;have:=X6 hRv;rw[this];rfl
theorem HM.put{w:World}{M n:Nat}{f:Nat->List UInt8->Option (Nat × Bool)}(h:HM w M n f)(t:Nat)(k:List UInt8)(ht:t<4611686018427387904)(hk:k.length<=1048576)(hn:n<1099511627776)(q:Nat)(b:Bool) :
  ∃w',(Instr.mapUpdate 127 (.map (some M)) (nZ t k) (.agg #[.int .i64 (q:Nat),.bool b])).run prog w=.ok () w'/\HM w' M (n+1) (xu f t k (q,b))/\w.grownBy w' (some M):=by
 obtain⟨D,h1,h2,h3⟩:=h;obtain⟨w',hr,ho,hg⟩:=h1.update EM underlying127 (by unfold maxLen;omega) (Aq t k ht hk) (X4 .i64 (q:Nat) b);refine⟨w',hr,⟨_,ho,h2.put _ _,fun t' k' ht' hk' zd=>?_⟩,hg⟩;unfold xu
 by_cases he:t'=t/\k'=k
 ·rw[if_pos he];obtain⟨rfl,rfl⟩:=he;have hk1:=Aq t' k' ht hk;have hk2:=Keyed.key EM hk1;generalize yH t' k'=kl at hk2;rw[atKey_put_same h2 hk2]
 ·rw[if_neg he,atKey_put_other (fun e=>he (X8 ht' hk' ht hk e))];exact h3 t' k' ht' hk' zd
open Go.RowKit
theorem og(c:UInt8)(w:World):Calls prog 122 #[.int .u8 (c.toNat:Int)] w fun e w'=>e=.returned (.bool (aI c))/\w'=w:=by
 go_enter func122,ntmps122;go_wp2
 all_goals go_ret
 all_goals (refine⟨bV ?_,rfl⟩;rw[Bool.eq_iff_iff];unfold aI;simp;omega)
theorem PO(c:UInt8)(w:World):Calls prog 220 #[.int .u8 (c.toNat:Int)] w fun e w'=>e=.returned (.bool (aY c))/\w'=w:=by
 go_enter func220,ntmps220;go_wp2_with (go_at_call 122;refine(og _ _).mono ?_;rintro e w' ⟨rfl,rfl⟩)
 all_goals go_ret
 all_goals (refine⟨bV ?_,rfl⟩;rw[Bool.eq_iff_iff];unfold aY;simp_all;try omega)
theorem Ya(s:ByteArray)(w:World)(hs:s.size<2 ^ 62) :
  Calls prog 221 #[.string s] w fun e w'=>e=.returned (.bool (s.data.toList.all aI))/\w'=w:=by
 obtain⟨R,hR⟩:∃R,R=s.data.toList.all aI:=⟨_,rfl⟩;have HR:Hd (R=s.data.toList.all aI):=hR;rw[<-hR];clear hR;go_enter func221,ntmps221;go_wp2
 go_loop [3] (fun i=>∃k:Nat,k<=s.size/\i=.int .i64 k/\∀j,(hj:j<s.size)->j<k->aI s[j]=true) (fun i=>s.size-(intOf i).toNat)
 case atStart=>exact⟨0,Nat.zero_le _,rfl,fun j hj h=>absurd h (by omega)⟩
 case round =>
  obtain⟨k,hk,rfl,hp⟩:=hrel;have HP:Hd (∀j,(hj:j<s.size)->j<k->aI s[j]=true):=hp;clear hp
  by_cases hlt:k<s.size
  ·cases hd:aI s[k] with
   | true =>
    go_wp2_with (go_at_call 122;refine(og _ _).mono ?_;rintro e w' ⟨rfl,rfl⟩)
    go_round
    case rel =>
     refine⟨k+1,by omega,by go_num,fun j hj hjk=>?_⟩
     by_cases hjk':j<k
     ·exact HP.o j hj hjk'
     ·have e:j=k:=by omega
      subst e;exact hd
    case measure=>simp[intOf];omega
   | false =>
    have HN:Hd (R=false):=by
     show R=false;rw[HR.o,List.all_eq_false];exact⟨s[k],List.mem_of_getElem? (kR s k hlt),by simp[hd]⟩
    go_wp2_with (go_at_call 122;refine(og _ _).mono ?_;rintro e w' ⟨rfl,rfl⟩);go_ret;exact⟨bV HN.o.symm,rfl⟩
  ·have HN:Hd (R=true):=by
    show R=true;rw[HR.o,List.all_eq_true];intro c hc;obtain⟨j,hj,rfl⟩:=List.getElem_of_mem hc;exact HP.o j (by simpa using hj) (by simp at hj;have:s.size=s.data.size:=rfl;omega)
   clear hk;go_wp2;go_ret;exact⟨bV HN.o.symm,rfl⟩
end Go.Proofs.YtnnbgjaphfhibaaGreatDoor
