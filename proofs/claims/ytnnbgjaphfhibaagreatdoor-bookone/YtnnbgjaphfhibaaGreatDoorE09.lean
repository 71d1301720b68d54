import Derived.Test.YtnnbgjaphfhibaaGreatDoorE07
import Derived.Test.YtnnbgjaphfhibaaGreatDoorE06
import Derived.Maps.OwnOps
import Derived.Maps.Views
import Derived.DeepKeys4
import Derived.Deep.AppendLies
import Derived.Test.YtnnbgjaphfhibaaGreatDoorE08
set_option linter.all false
set_option maxRecDepth 100000
set_option maxHeartbeats 0
open Go.Proofs.Tryz
namespace Go.Proofs.YtnnbgjaphfhibaaGreatDoor
open Go.RowKit Go.Maps Go.WideMaps
theorem aa3:laidOutB prog=true:=by kernel_rfl
theorem TA:(268:TypeId)<prog.types.size:=of_decide_eq_true (by kernel_rfl)
theorem aa4:KeyLaw prog 268:=deep_law_laid aa3 (m:=2) (by omega) TA (by kernel_rfl) (by rw[underlying268])
theorem G7:Keyed prog 268:=Keyed.of_law aa4
def holdL:List Value->Option (DataW Unit × List MemPlace)
 | [.int q n,.bool b]=>some (.agg [.lit (.int q n),.lit (.bool b)],[])
 | _=>none
def G8(v:Value):Option (DataW Unit × List MemPlace) :=
 match v with
 | .agg cs=>holdL cs.toList
 | _=>none
theorem aa5(q:IntKind)(n:Int)(b:Bool):G8 (.agg #[.int q n,.bool b])=some (.agg [.lit (.int q n),.lit (.bool b)],[]):=rfl
theorem aa6{l:List Value}{q:IntKind}{n:Int}{b:Bool}{ps:List MemPlace}(h:holdL l=some (.agg [.lit (.int q n),.lit (.bool b)],ps)):l=[.int q n,.bool b]:=by
 unfold holdL at h;split at h
 ·injection h with h
  injection h with h _
  injection h with h
  injection h with h1 h2
  injection h2 with h2 _
  injection h1 with h1
  injection h2 with h2
  injection h1 with h3 h4
  injection h2 with h5
  rw[h3,h4,h5]
 ·cases h
theorem aa7{v:Value}{q:IntKind}{n:Int}{b:Bool}{ps:List MemPlace}(h:G8 v=some (.agg [.lit (.int q n),.lit (.bool b)],ps)):v=.agg #[.int q n,.bool b]:=by
 unfold G8 at h;split at h
 ·rename_i cs;have:=aa6 h;congr 1;exact Array.ext' this
 ·cases h
def oW(t:Nat)(k:List UInt8):Value:=.agg #[.int .i64 (t:Nat),.string ⟨k.toArray⟩]
noncomputable def zZ(t:Nat)(k:List UInt8):Lit:=(keyOf prog 268 (oW t k)).getD (.bool false)
theorem aa8(t:Nat)(k:List UInt8)(ht:t<4611686018427387904)(hk:k.length<=1048576):∃l,keyOf prog 268 (oW t k)=some l:=by
 have h1:prog.keyType 268=true:=by kernel_rfl
 have h2:∀a b:Value,(Value.agg #[a,b]).formed prog 268=true:=fun a b=>by
  have hc:prog.cellsOf 268=2:=by kernel_rfl
  simp[Value.formed,underlying268,hc]
 obtain⟨m,hm⟩:∃m,prog.types.size=m+1:=⟨prog.types.size-1,by have h0:0<prog.types.size:=Nat.lt_of_le_of_lt (Nat.zero_le _) TA;omega⟩;have hc:prog.cellsOf 268=2:=by kernel_rfl
 have hci:prog.cellsOf 3=1:=by kernel_rfl
 have hcs:prog.cellsOf 9=1:=by kernel_rfl
 have hw:(Lit.int .i64 (t:Nat)).wf=true:=by
  have h1:IntKind.i64.min=-9223372036854775808:=by decide
  have h2:IntKind.i64.max=9223372036854775807:=by decide
  simp only[Lit.wf,h1,h2];simp;omega
 have hz:(⟨k.toArray⟩:ByteArray).size<=maxLen:=by
  show k.toArray.size<=_;unfold maxLen;simp;omega
 unfold keyOf oW;simp only[underlying268,h1,h2,Bool.and_self,if_true,hm];have e1:prog.keyLits (m+1) 3 [.int .i64 (t:Nat)]=some [.int .i64 (t:Nat)]:=by
  simp[Program.keyLits,underlying3,hw]
 have e2:prog.keyLits (m+1) 9 [.string ⟨k.toArray⟩]=some [.string k]:=by
  simp[Program.keyLits,underlying9,hz]
 refine⟨.string (keyBytes ([.int .i64 (t:Nat)]++[.string k])),?_⟩;unfold Program.keyLits;simp[underlying268,hc,hci,hcs,e1,e2,Value.cells]
theorem Dh(t:Nat)(k:List UInt8)(ht:t<4611686018427387904)(hk:k.length<=1048576):keyOf prog 268 (oW t k)=some (zZ t k):=by
 obtain⟨l,hl⟩:=aa8 t k ht hk;unfold zZ;rw[hl];rfl
theorem aa9{t t':Nat}{k k':List UInt8}(ht:t<4611686018427387904)(hk:k.length<=1048576)(ht':t'<4611686018427387904)(hk':k'.length<=1048576)(h:zZ t k=zZ t' k'):t=t'/\k=k':=by
 have h1:=Dh t k ht hk;have h2:=Dh t' k' ht' hk';rw[<-h]at h2;have h3:=G7.inj h1 h2;unfold oW at h3;injection h3 with h3
 have h4:=congrArg Array.toList h3;simp only[List.cons.injEq,Value.int.injEq,Value.string.injEq,true_and,and_true]at h4;obtain⟨h5,h6⟩:=h4;refine⟨Int.ofNat_inj.1 h5,?_⟩;have h7:=congrArg (fun b:ByteArray=>b.data.toList) h6;simpa using h7
def HM(w:World)(M n:Nat)(f:Nat->List UInt8->Option (Nat × Bool)):Prop:=∃D:DataW Unit,w.ownsMap prog 268 G8 M n D/\IsMap D/\∀t k,t<4611686018427387904->k.length<=1048576->∀zd,D.atKey (zZ t k) zd=match f t k with|some v=>.agg [.lit (.int .i64 (v.1:Nat)),.lit (.bool v.2)]|none=>zd
theorem HM.mono{w:World}{M n n':Nat}{f:Nat->List UInt8->Option (Nat × Bool)}(h:HM w M n f)(hn:n<=n'):HM w M n' f:=by
 obtain⟨D,h1,h2,h3⟩:=h;exact⟨D,h1.mono hn,h2,h3⟩
theorem HM.block{w w':World}{M n:Nat}{f:Nat->List UInt8->Option (Nat × Bool)}(h:HM w M n f)(hb:w'.heap[M]?=w.heap[M]?):HM w' M n f:=by
 obtain⟨D,⟨es,c,h1,h1'⟩,h2,h3⟩:=h;exact⟨D,⟨es,c,hb.trans h1,h1'⟩,h2,h3⟩
theorem HM.map{w:World}{M n:Nat}{f:Nat->List UInt8->Option (Nat × Bool)}(h:HM w M n f):∃es c,w.heap[M]?=some (.map es c):=by
 obtain⟨D,⟨es,c,h1,h1'⟩,h2,h3⟩:=h;exact⟨es,c,h1⟩
theorem HM.made(w:World):HM (w.alloc (.map #[] 0)) w.heap.size 0 (fun _ _=>none):=⟨.map [],World.ownsMap_made w _ _ _,isMap_empty,fun _ _ _ _ _=>rfl⟩
theorem aba(w:World):(zeroValue 265).run prog w=.ok (.agg #[.int .i64 0,.bool false]) w:=by kernel_rfl
theorem HM.look{w:World}{M n:Nat}{f:Nat->List UInt8->Option (Nat × Bool)}(h:HM w M n f)(t:Nat)(k:List UInt8)(ht:t<4611686018427387904)(hk:k.length<=1048576) :
  (Instr.lookup 127 (.map (some M)) (oW t k) true).run prog w=.ok (match f t k with|some v=>.tuple #[.agg #[.int .i64 (v.1:Nat),.bool v.2],.bool true]|none=>.tuple #[.agg #[.int .i64 0,.bool false],.bool false]) w:=by
 obtain⟨D,⟨es,c,h1,F,hs,rfl⟩,h2,h3⟩:=h;have h4:=h3 t k ht hk
 rcases Maps.fit_look true G7 underlying127 (aba w) h1 F (Dh t k ht hk) with⟨hrun,-,hat⟩|⟨e0,y,-,-,hrun,hRv,hat,-⟩
 ·rw[hrun]
  cases hf:f t k with
  | none=>rfl
  | some v =>
   exfalso;have:=h4 .nil;rw[hf,hat .nil]at this
   cases this
 ·rw[hrun]
  cases hf:f t k with
  | none =>
   exfalso;have a1:=h4 .nil;have a2:=h4 (.map []);rw[hf,hat]at a1 a2;simp only[]at a1 a2;rw[a1]at a2
   cases a2
  | some v =>
   have a1:=h4 .nil;rw[hf,hat]at a1;obtain⟨y1,y2⟩:=y;simp only[]at a1;subst a1;have:=aa7 hRv;rw[this];rfl
theorem HM.put{w:World}{M n:Nat}{f:Nat->List UInt8->Option (Nat × Bool)}(h:HM w M n f)(t:Nat)(k:List UInt8)(ht:t<4611686018427387904)(hk:k.length<=1048576)(hn:n<1099511627776)(q:Nat)(b:Bool) :
  ∃w',(Instr.mapUpdate 127 (.map (some M)) (oW t k) (.agg #[.int .i64 (q:Nat),.bool b])).run prog w=.ok () w'/\HM w' M (n+1) (zX f t k (q,b))/\w.grownBy w' (some M):=by
 obtain⟨D,h1,h2,h3⟩:=h;obtain⟨w',hr,ho,hg⟩:=h1.update G7 underlying127 (by unfold maxLen;omega) (Dh t k ht hk) (aa5 .i64 (q:Nat) b);refine⟨w',hr,⟨_,ho,h2.put _ _,fun t' k' ht' hk' zd=>?_⟩,hg⟩;unfold zX
 by_cases he:t'=t/\k'=k
 ·rw[if_pos he];obtain⟨rfl,rfl⟩:=he;have hk1:=Dh t' k' ht hk;have hk2:=Keyed.key G7 hk1;generalize zZ t' k'=kl at hk2;rw[atKey_put_same h2 hk2]
 ·rw[if_neg he,atKey_put_other (fun e=>he (aa9 ht' hk' ht hk e))];exact h3 t' k' ht' hk' zd
structure Jt(ns:List Tn)(own:List Nat)(t:Nat):Prop where
 wf:WF ns own
 wt:WT ns
 lt:t<ns.length
 kd:ak ns t=0
theorem nZ{ns:List Tn}{t:Nat}{z:Int}(h:ak ns t=z)(hz:0<=z):t<ns.length:=by
 apply Classical.byContradiction;intro hn;unfold ak at h;rw[List.getElem?_eq_none (by omega)]at h;simp only[]at h;omega
theorem yM{ns:List Tn}{t q:Nat}(h:q∈af ns t):t<ns.length:=by
 apply Classical.byContradiction;intro hn;rw[zW ns t (by omega)]at h;simp at h
theorem LG(ns:List Tn)(own:List Nat)(W:WF ns own)(up:Nat)(n:Tn)(hu:up<ns.length)(h:WT ns)(h1:¬n.kd=2)(h2:¬ak ns up=2\/n.kd=0):WT (addN ns up n):=by
 intro q hq;rw[fF ns up n hu]at hq
 by_cases hn:q=ns.length
 ·rw[if_pos hn]at hq;exact absurd hq h1
 ·rw[if_neg hn]at hq;obtain⟨a,b⟩:=h q hq;rw[jS ns up n hu,if_neg hn]
  by_cases hqu:q=up
  ·subst hqu;rw[if_pos rfl];refine⟨by simp,fun x hx=>?_⟩;rw[fF ns q n hu]
   rcases List.mem_append.1 hx with hx|hx
   ·have:=W.lt _ _ hx;rw[if_neg (by omega)];exact b x hx
   ·rw[if_pos (by simpa using hx)]
    rcases h2 with h2|h2
    ·exact absurd hq h2
    ·exact h2
  ·rw[if_neg hqu];refine⟨a,fun x hx=>?_⟩;have:=W.lt _ _ hx;rw[fF ns up n hu,if_neg (by omega)];exact b x hx
theorem TB{ns:List Tn}{own:List Nat}{t:Nat}(J:Jt ns own t)(n:Tn)(hn:n.ks=[])(h0:n.kd=0):Jt (addN ns t n) own ns.length:=by
 refine⟨ru ns own t n hn J.lt J.wf,LG ns own J.wf t n J.lt J.wt (by rw[h0];decide) (Or.inr h0),by rw[bY];omega,?_⟩;rw[fF ns t n J.lt,if_pos rfl];exact h0
theorem Di{ns ns':List Tn}{own:List Nat}{t t' p:Nat}{k:List UInt8}(J:Jt ns own t)(h:gz ns t k p=.ok (t',ns')):Jt ns' own t'/\ns.length<=ns'.length/\ns'.length<=ns.length+1:=by
 unfold gz at h
 cases hq:ah ns t k with
 | none =>
  rw[hq]at h
  cases h
  exact⟨TB J _ rfl rfl,by rw[bY];omega,by rw[bY];omega⟩
 | some q =>
  rw[hq]at h;simp only[]at h
  by_cases h0:ak ns q=0
  ·rw[if_pos h0]at h
   cases h
   exact⟨⟨J.wf,J.wt,nZ h0 (by omega),h0⟩,by omega,by omega⟩
  ·rw[if_neg h0]at h
   by_cases h2:ak ns q=2
   ·have hl:=nZ h2 (by omega);rw[if_pos h2,List.getElem?_eq_getElem hl]at h;simp only[]at h;obtain⟨a,b⟩:=J.wt q h2;have hks:af ns q=ns[q].ks:=by unfold af;rw[List.getElem?_eq_getElem hl]
    rw[hks]at a b;have hm:ns[q].ks.getLastD 0∈ns[q].ks:=by
     rw[List.getLastD_eq_getLast?,List.getLast?_eq_some_getLast a];exact List.getLast_mem a
    have hkd:=b _ hm
    cases h
    exact⟨⟨J.wf,J.wt,nZ hkd (by omega),hkd⟩,by omega,by omega⟩
   ·rw[if_neg h2]at h;cases h
theorem TC{ns ns':List Tn}{own:List Nat}{t t' p:Nat}{k:List UInt8}(J:Jt ns own t)(h:gV ns own t k p=.ok (t',ns')):Jt ns' (t' :: own) t'/\ns.length<=ns'.length/\ns'.length<=ns.length+2:=by
 unfold gV at h;have fin:∀{n:List Tn} {q:Nat},Jt n own q->Jt n (q :: own) q:=fun j=>⟨Su _ _ j.wf _ j.lt,j.wt,j.lt,j.kd⟩
 cases hq:ah ns t k with
 | none =>
  rw[hq]at h
  cases h
  exact⟨fin (TB J _ rfl rfl),by rw[bY];omega,by rw[bY];omega⟩
 | some q =>
  rw[hq]at h;simp only[]at h
  by_cases h0:ak ns q=0/\¬q∈own
  ·rw[if_pos h0]at h
   cases h
   exact⟨fin ⟨J.wf,J.wt,nZ h0.1 (by omega),h0.1⟩,by omega,by omega⟩
  ·rw[if_neg h0]at h;cases h
theorem TD{ns ns':List Tn}{own:List Nat}{t t' p:Nat}{k:List UInt8}(J:Jt ns own t)(h:fO ns t k p=.ok (t',ns')):Jt ns' (t' :: own) t'/\ns.length<=ns'.length/\ns'.length<=ns.length+2:=by
 unfold fO at h;have fin:∀{n:List Tn} {q:Nat},Jt n own q->Jt n (q :: own) q:=fun j=>⟨Su _ _ j.wf _ j.lt,j.wt,j.lt,j.kd⟩
 cases hq:ah ns t k with
 | none =>
  rw[hq]at h
  cases h
  have hu:ns.length<(addN ns t ⟨2,k,[],0,[],p⟩).length:=by rw[bY];omega
  have w1:=ru ns own t ⟨2,k,[],0,[],p⟩ rfl J.lt J.wf;have w2:=ru _ own ns.length ⟨0,[],[],0,[],p⟩ rfl hu w1;have hl:(addN ns t ⟨2,k,[],0,[],p⟩).length=ns.length+1:=bY _ _ _;refine⟨fin ⟨w2,?_,by rw[bY,bY];omega,?_⟩,by rw[bY,bY];omega,by rw[bY,bY];omega⟩
  ·intro q h2;rw[fF _ _ _ hu,hl]at h2
   by_cases e1:q=ns.length+1
   ·rw[if_pos e1]at h2;exact absurd (show(0:Int)=2 from h2) (by decide)
   ·rw[if_neg e1,fF _ _ _ J.lt]at h2;rw[jS _ _ _ hu,hl,if_neg e1]
    by_cases e2:q=ns.length
    ·rw[if_pos e2];refine⟨by simp,fun x hx=>?_⟩;rw[jS _ _ _ J.lt,if_pos rfl]at hx;simp only[List.nil_append,List.mem_singleton]at hx;rw[fF _ _ _ hu,hl,if_pos hx]
    ·rw[if_neg e2]at h2;rw[if_neg e2];obtain⟨a,b⟩:=J.wt q h2;have kz:¬q=t:=fun e=>by rw[e,J.kd]at h2;exact absurd h2 (by decide)
     rw[jS _ _ _ J.lt,if_neg e2,if_neg kz];refine⟨a,fun x hx=>?_⟩;have:=J.wf.lt _ _ hx;rw[fF _ _ _ hu,hl,if_neg (by omega),fF _ _ _ J.lt,if_neg (by omega)];exact b x hx
  ·rw[fF _ _ _ hu,hl,if_pos rfl]
 | some q =>
  rw[hq]at h;simp only[]at h
  by_cases h2:ak ns q=2
  ·rw[if_pos h2]at h
   cases h
   have hu:=nZ h2 (by omega);refine⟨fin ⟨ru ns own q _ rfl hu J.wf,LG ns own J.wf q _ hu J.wt (fun e=>absurd (show(0:Int)=2 from e) (by decide)) (Or.inr rfl),by rw[bY];omega,?_⟩,by rw[bY];omega,by rw[bY];omega⟩;rw[fF _ _ _ hu,if_pos rfl]
  ·rw[if_neg h2]at h;cases h
theorem Aa(many:Bool)(own:List Nat)(k:List UInt8)(p t:Nat)(ns:List Tn):way many own [(k,p)] t ns=if many=true then fO ns t k p else gV ns own t k p:=rfl
theorem Dj(many:Bool)(own:List Nat)(k:List UInt8)(p:Nat)(b:List UInt8 × Nat)(r:List (List UInt8 × Nat))(t:Nat)(ns:List Tn):way many own ((k,p) :: b :: r) t ns=match gz ns t k p with | .error e=>.error e | .ok (t1,ns1)=>way many own (b :: r) t1 ns1:=rfl
theorem TE(many:Bool)(own:List Nat):∀(l:List (List UInt8 × Nat)) (t:Nat) (ns ns':List Tn) (t':Nat),l≠[]->Jt ns own t->way many own l t ns=.ok (t',ns')->Jt ns' (t' :: own) t'/\ns.length<=ns'.length/\ns'.length<=ns.length+l.length+1
 | [],_,_,_,_,hl,_,_=>absurd rfl hl
 | [(k,p)],t,ns,ns',t',_,J,h=>by
  rw[Aa]at h;split at h
  ·obtain⟨a,b,c⟩:=TD J h;exact⟨a,b,by simp;omega⟩
  ·obtain⟨a,b,c⟩:=TC J h;exact⟨a,b,by simp;omega⟩
 | (k,p) :: b :: r,t,ns,ns',t',_,J,h=>by
  rw[Dj]at h
  cases hs:gz ns t k p with
  | error e=>rw[hs]at h;cases h
  | ok q =>
   obtain⟨t1,ns1⟩:=q;rw[hs]at h;obtain⟨a,b',c⟩:=Di J hs;obtain⟨a2,b2,c2⟩:=TE many own (b :: r) t1 ns1 ns' t' (by simp) a h;refine⟨a2,by omega,?_⟩;simp only[List.length_cons]at c2 ⊢;omega
open Go.RowKit
theorem oZ(c:UInt8)(w:World):Calls prog 122 #[.int .u8 (c.toNat:Int)] w fun e w'=>e=.returned (.bool (aN c))/\w'=w:=by
 go_enter func122,ntmps122;go_wp2
 all_goals go_ret
 all_goals (refine⟨bJ ?_,rfl⟩;rw[Bool.eq_iff_iff];unfold aN;simp;omega)
theorem TF(c:UInt8)(w:World):Calls prog 220 #[.int .u8 (c.toNat:Int)] w fun e w'=>e=.returned (.bool (aX c))/\w'=w:=by
 go_enter func220,ntmps220;go_wp2_with (go_at_call 122;refine(oZ _ _).mono ?_;rintro e w' ⟨rfl,rfl⟩)
 all_goals go_ret
 all_goals (refine⟨bJ ?_,rfl⟩;rw[Bool.eq_iff_iff];unfold aX;simp_all;try omega)
theorem abb(s:ByteArray)(w:World)(hs:s.size<2 ^ 62) :
  Calls prog 221 #[.string s] w fun e w'=>e=.returned (.bool (s.data.toList.all aN))/\w'=w:=by
 obtain⟨R,hR⟩:∃R,R=s.data.toList.all aN:=⟨_,rfl⟩;have HR:=ae hR;rw[<-hR];clear hR;go_enter func221,ntmps221;go_wp2
 go_loop [3] (fun i=>∃k:Nat,k<=s.size/\i=.int .i64 k/\∀j,(hj:j<s.size)->j<k->aN s[j]=true) (fun i=>s.size-(intOf i).toNat)
 case atStart=>exact⟨0,Nat.zero_le _,rfl,fun j hj h=>absurd h (by omega)⟩
 case round =>
  obtain⟨k,hk,rfl,hp⟩:=hrel;have HP:=ae hp;clear hp
  by_cases hlt:k<s.size
  ·cases hd:aN s[k] with
   | true =>
    go_wp2_with (go_at_call 122;refine(oZ _ _).mono ?_;rintro e w' ⟨rfl,rfl⟩)
    go_round
    case rel =>
     refine⟨k+1,by omega,by go_num,fun j hj hjk=>?_⟩
     by_cases hjk':j<k
     ·exact HP.o j hj hjk'
     ·have e:j=k:=by omega
      subst e;exact hd
    case measure=>simp[intOf];omega
   | false =>
    have HN:Hd (R=false):=by
     show R=false;rw[HR.o,List.all_eq_false];exact⟨s[k],List.mem_of_getElem? (lL s k hlt),by simp[hd]⟩
    go_wp2_with (go_at_call 122;refine(oZ _ _).mono ?_;rintro e w' ⟨rfl,rfl⟩);go_ret;exact⟨bJ HN.o.symm,rfl⟩
  ·have HN:Hd (R=true):=by
    show R=true;rw[HR.o,List.all_eq_true];intro c hc;obtain⟨j,hj,rfl⟩:=List.getElem_of_mem hc;exact HP.o j (by simpa using hj) (by simp at hj;have:s.size=s.data.size:=rfl;omega)
   clear hk;go_wp2;go_ret;exact⟨bJ HN.o.symm,rfl⟩
end Go.Proofs.YtnnbgjaphfhibaaGreatDoor
