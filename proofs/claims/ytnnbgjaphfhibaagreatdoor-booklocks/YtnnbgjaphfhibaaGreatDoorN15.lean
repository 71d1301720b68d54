import Derived.Test.YtnnbgjaphfhibaaGreatDoorN06
import Derived.LaidEql
import Derived.Stop.Asserts
import Derived.RowKitTokens
import Derived.Shelf.Small.Wraps
import Derived.Shelf.Strings.Trim
import Derived.Shelf.Strings.Search2
import Derived.Test.YtnnbgjaphfhibaaGreatDoorProg
import Derived.Test.YtnnbgjaphfhibaaGreatDoorN01
import Derived.Test.YtnnbgjaphfhibaaGreatDoorN08
import Derived.Deep.RegionHeld3
import Derived.Carry
import Derived.OwnWalk
import Derived.Laws.AppendOwn
import Derived.Deep.AppendSrc
import Derived.Deep.AppendLies
import Derived.Deep.OwnRows
import Derived.BigQuiet
import Derived.Deep.QuietTactic
import Derived.Test.YtnnbgjaphfhibaaGreatDoorN03
import Derived.WalkLawsBesides
set_option linter.unusedVariables false
set_option linter.unusedSimpArgs false
set_option maxRecDepth 100000
set_option maxHeartbeats 6400000
open Go.Proofs.Tryz
namespace Go.Proofs.YtnnbgjaphfhibaaGreatDoor
open Go.RowKit Go.Extern.Stop Go.Stop Go.Extern
theorem Fh(v:Value)(w:World):(ReflectliteType.typeOf #[.iface 317 v]).run prog w=.ok (.iface 219 (.agg #[.pointer (some ⟨14,317,none⟩)])) w:=by kernel_rfl
def Fj:Array Value->Sem Value:=ReflectliteType.method fun t=>do Rtype.noPackHeld "Comparable" t;pure (.bool (<-typeInfo t).comparable)
theorem JD(w:World):(Fj #[.agg #[.pointer (some ⟨14,317,none⟩)]]).run prog w=.ok (.bool true) w:=by kernel_rfl
theorem JE(v:Value)(w:World):(Go.method 446 219 v "Comparable").run prog w=.ok (276,v) w:=by kernel_rfl
theorem JF:(prog.info? 317).map (·.comparable)=some true:=by kernel_rfl
theorem JG:(prog.info? 319).map (·.size)=some 1:=by kernel_rfl
theorem QT(v:Value)(xT:TypeId)(w:World):(Instr.typeAssert (.iface 317 v) xT 230 true).run prog w=.ok (.tuple #[.nilIface,.bool false]) w:=run_typeAssert_lacksB underlying230 (by kernel_rfl) (by kernel_rfl) v xT w
theorem JH(v:Value)(xT:TypeId)(w:World):(Instr.typeAssert (.iface 317 v) xT 226 true).run prog w=.ok (.tuple #[.nilIface,.bool false]) w:=run_typeAssert_lacksB underlying226 (by kernel_rfl) (by kernel_rfl) v xT w
theorem JI(v:Value)(xT:TypeId)(w:World):(Instr.typeAssert (.iface 317 v) xT 227 true).run prog w=.ok (.tuple #[.nilIface,.bool false]) w:=run_typeAssert_lacksB underlying227 (by kernel_rfl) (by kernel_rfl) v xT w
theorem Za(v:Value)(xT:TypeId)(w:World):(Instr.typeAssert (.iface 317 v) xT 223 true).run prog w=.ok (.tuple #[.nilIface,.bool false]) w:=run_typeAssert_lacksB underlying223 (by kernel_rfl) (by kernel_rfl) v xT w
theorem QU(v:Value)(xT:TypeId)(w:World):(Instr.typeAssert (.iface 130 v) xT 230 true).run prog w=.ok (.tuple #[.nilIface,.bool false]) w:=run_typeAssert_lacksB underlying230 (by kernel_rfl) (by kernel_rfl) v xT w
theorem QV(v:Value)(xT:TypeId)(w:World):(Instr.typeAssert (.iface 130 v) xT 226 true).run prog w=.ok (.tuple #[.iface 130 v,.bool true]) w:=run_typeAssert_hasB underlying226 (by kernel_rfl) v xT w
theorem QW(v:Value)(w:World):(Go.method 446 130 v "Unwrap").run prog w=.ok (270,v) w:=by kernel_rfl
theorem is_same(a:Addr)(w:World):Calls prog 74 #[.iface 317 (.pointer (some a)),.iface 317 (.pointer (some a))] w fun e w'=>e=.returned (.bool true)/\w'=w:=by
 obtain⟨i,hi,hcmp⟩:=Option.map_eq_some_iff.1 JF;obtain⟨j,hj,hjs⟩:=Option.map_eq_some_iff.1 JG;have h8:=@run_callFunc_extern prog 114 _ ReflectliteType.typeOf func114 (by kernel_rfl) (by kernel_rfl) (by kernel_rfl) (by kernel_rfl);have h32:=@run_callFunc_extern prog 276 _ Fj func276 (by kernel_rfl) (by kernel_rfl) (by kernel_rfl) (by kernel_rfl);have tT:=Fh;have cT:=JD;have mR:=JE;have heq:=run_eql_iface_ptr_same (P:=prog) w a underlying94 underlying317 hi hcmp hj;go_enter func74,ntmps74;go_wp2;refine wp_loop_rounds 1 ?_;rw[rounds_succ];go_wp2;go_ret;exact⟨rfl,rfl⟩
theorem Zb(F:Nat)(b:Addr)(w:World)(h1:w.cell? ⟨F,1,none⟩=some (.iface 317 (.pointer (some b)))) :
  Calls prog 74 #[.iface 130 (.pointer (some ⟨F,0,none⟩)),.iface 317 (.pointer (some b))] w fun e w'=>e=.returned (.bool true)/\w'=w:=by
 obtain⟨i,hi,hcmp⟩:=Option.map_eq_some_iff.1 JF;obtain⟨j,hj,hjs⟩:=Option.map_eq_some_iff.1 JG;have h8:=@run_callFunc_extern prog 114 _ ReflectliteType.typeOf func114 (by kernel_rfl) (by kernel_rfl) (by kernel_rfl) (by kernel_rfl);have h32:=@run_callFunc_extern prog 276 _ Fj func276 (by kernel_rfl) (by kernel_rfl) (by kernel_rfl) (by kernel_rfl);have tT:=Fh;have cT:=JD;have mR:=JE;have nE:=QT;have uE:=JH;have vE:=JI;have nW:=QU;have uW:=QV;have mU:=QW;have heq:=run_eql_iface_ptr_same (P:=prog) w b underlying94 underlying317 hi hcmp hj;have hty:=run_eql_iface_types (P:=prog) 130 317 (.pointer (some ⟨F,0,none⟩)) (.pointer (some b)) underlying94 (by decide) w;go_enter func74,ntmps74;go_wp2;refine wp_loop_rounds 2 ?_;rw[rounds_succ];go_wp2;rw[rounds_succ];go_wp2
 go_ret;exact⟨rfl,rfl⟩
theorem Zc(F:Nat)(b a:Addr)(ca cb:Array Value)(ta tb:TypeId)(w:World)(h1:w.cell? ⟨F,1,none⟩=some (.iface 317 (.pointer (some a))))(hne:a≠b)(ha:w.heap[a.block]?=some (.cells ca ta (0,0)))(hb:w.heap[b.block]?=some (.cells cb tb (0,0))) :
  Calls prog 74 #[.iface 130 (.pointer (some ⟨F,0,none⟩)),.iface 317 (.pointer (some b))] w fun e w'=>e=.returned (.bool false)/\w'=w:=by
 obtain⟨i,hi,hcmp⟩:=Option.map_eq_some_iff.1 JF;obtain⟨j,hj,hjs⟩:=Option.map_eq_some_iff.1 JG;have h8:=@run_callFunc_extern prog 114 _ ReflectliteType.typeOf func114 (by kernel_rfl) (by kernel_rfl) (by kernel_rfl) (by kernel_rfl);have h32:=@run_callFunc_extern prog 276 _ Fj func276 (by kernel_rfl) (by kernel_rfl) (by kernel_rfl) (by kernel_rfl);have tT:=Fh;have cT:=JD;have mR:=JE;have nE:=QT;have uE:=JH;have vE:=JI;have nW:=QU;have uW:=QV;have mU:=QW;have heq:=run_eql_iface_ptr_other (P:=prog) w underlying94 underlying317 hi hcmp hj (by rw[hjs];decide) hne ha hb;have hty:=run_eql_iface_types (P:=prog) 130 317 (.pointer (some ⟨F,0,none⟩)) (.pointer (some b)) underlying94 (by decide) w;go_enter func74,ntmps74;go_wp2;refine wp_loop_rounds 2 ?_;rw[rounds_succ]
 go_wp2;rw[rounds_succ];go_wp2;go_ret;exact⟨rfl,rfl⟩
open Go.RowKit
def Gr(w w':World):Prop:=w.grownBy w' none/\w.drawn<=w'.drawn
theorem Zd(w:World)(e:TypeId)(s:ByteArray):Gr w (Lib.bytesWorld w e s):=⟨Jd w e s,Nat.le_succ w.drawn⟩
end Go.Proofs.YtnnbgjaphfhibaaGreatDoor
namespace Go.Proofs.YtnnbgjaphfhibaaGreatDoor.G
open Go.RowKit
theorem PH(s:ByteArray)(w:World)(hs:s.size<2 ^ 62) :
  Calls prog 236 #[.string s] w fun e w'=>e=.returned (.bool (nY s.data.toList))/\Gr w w':=by
 have kc:=fun(w:World)=>Lib.run_convert_string_bytes (P:=prog) w 9 90 5 s underlying9 underlying90 underlying5
 obtain⟨W,hW⟩:=zN (Lib.bytesWorld w 5 s);have HC:Hd (∀j,(hj:j<s.size)->W.cell? ⟨w.heap.size,j,none⟩=some (.int .u8 (s[j].toNat:Int))):=by
  show ∀j,(hj:j<s.size)->W.cell? ⟨w.heap.size,j,none⟩=some (.int .u8 (s[j].toNat:Int));intro j hj;rw[<-hW,Lib.bytesWorld_cell w _ s j hj];have:s.data.toList.getD j 0=s[j]:=by
   rw[List.getD_eq_getElem?_getD,kR s j hj];rfl
  rw[this]
 have HG:Hd (Gr w W):=by show Gr w W;rw[<-hW];exact Zd w _ s
 have kw:=kc w;rw[hW]at kw;clear kc hW;go_enter func236,ntmps236;go_wp2
 go_loop [8] (fun i=>∃k:Nat,k<=s.size/\i=.int .i64 k/\∀j,(hj:j<s.size)->j<k->aI s[j]=true) (fun i=>s.size-(intOf i).toNat)
 case atStart=>exact⟨0,Nat.zero_le _,rfl,fun j hj h=>absurd h (by omega)⟩
 case round =>
  obtain⟨k,hk,rfl,hp⟩:=hrel;have HP:Hd (∀j,(hj:j<s.size)->j<k->aI s[j]=true):=hp;clear hp
  by_cases hlt:k<s.size
  ·have ck:=HC.o k hlt
   cases hd:aI s[k] with
   | true =>
    go_wp2_with (go_at_call 224;refine(xh _ _).mono ?_;rintro e w' ⟨rfl,rfl⟩)
    go_round
    case rel =>
     refine⟨k+1,by omega,by go_num,fun j hj hjk=>?_⟩
     by_cases hjk':j<k
     ·exact HP.o j hj hjk'
     ·have e:j=k:=by omega
      subst e;exact hd
    case measure=>simp[intOf];omega
   | false =>
    have HN:Hd (nY s.data.toList=false):=by
     show nY s.data.toList=false;unfold nY;have:s.data.toList.all aI=false:=by
      rw[List.all_eq_false];exact⟨s[k],List.mem_of_getElem? (kR s k hlt),by simp[hd]⟩
     rw[this,Bool.and_false]
    go_wp2_with (go_at_call 224;refine(xh _ _).mono ?_;rintro e w' ⟨rfl,rfl⟩);go_ret;exact⟨bV HN.o.symm,HG.o⟩
  ·have hks:k=s.size:=by omega
   have HA:Hd (s.data.toList.all aI=true):=by
    show s.data.toList.all aI=true;rw[List.all_eq_true];intro c hc;obtain⟨j,hj,rfl⟩:=List.getElem_of_mem hc;exact HP.o j (by simpa using hj) (by simp at hj;have:s.size=s.data.size:=rfl;omega)
   clear hks hk;go_wp2;go_ret;refine⟨bV ?_,HG.o⟩;unfold nY;rw[Lib.toList_data,HA.o,Bool.and_true]
end Go.Proofs.YtnnbgjaphfhibaaGreatDoor.G
namespace Go.Proofs.YtnnbgjaphfhibaaGreatDoor
open Go.RowKit
structure En where
 nm:ByteArray
 ve:ByteArray
 dg:ByteArray
 nd:List ByteArray
def TxS(w:World)(v:Value)(L:List ByteArray):Prop:=(v=.slice none 0 0/\L=[])\/∃a cap,v=.slice (some a) L.length cap/\L.length<=cap/\∀i (hi:i<L.length),w.cell? (a.add i)=some (.string L[i])
theorem TxS.grow{w w':World}{v:Value}{L:List ByteArray}(h:TxS w v L)(hg:w.grownBy w' none):TxS w' v L:=by
 rcases h with h|⟨a,cap,h1,h2,h3⟩
 ·exact Or.inl h
 ·exact Or.inr ⟨a,cap,h1,h2,fun i hi=>hg.cell (h3 i hi) (by simp)⟩
theorem A8{w:World}{v:Value}{L:List ByteArray}(h:TxS w v L):∃o c,v=.slice o L.length c:=by
 rcases h with⟨rfl,rfl⟩|⟨a,cap,rfl,-⟩
 ·exact⟨_,_,rfl⟩
 ·exact⟨_,_,rfl⟩
def EnAt(w:World)(p:Addr)(x:En):Prop:=w.cell? p=some (.string x.nm)/\w.cell? ⟨p.block,p.off+1,none⟩=some (.string x.ve)/\w.cell? ⟨p.block,p.off+2,none⟩=some (.string x.dg)/\∃v,w.cell? ⟨p.block,p.off+3,none⟩=some v/\TxS w v x.nd
theorem EnAt.grow{w w':World}{p:Addr}{x:En}(h:EnAt w p x)(hg:w.grownBy w' none):EnAt w' p x:=by
 obtain⟨h0,h1,h2,v,h3,h4⟩:=h;exact⟨hg.cell h0 (by simp),hg.cell h1 (by simp),hg.cell h2 (by simp),v,hg.cell h3 (by simp),h4.grow hg⟩
def EnS(w:World)(v:Value)(L:List En):Prop:=(v=.slice none 0 0/\L=[])\/∃a cap,v=.slice (some a) L.length cap/\L.length<=cap/\∀i (hi:i<L.length),EnAt w (a.add (i*4)) L[i]
theorem EnS.grow{w w':World}{v:Value}{L:List En}(h:EnS w v L)(hg:w.grownBy w' none):EnS w' v L:=by
 rcases h with h|⟨a,cap,h1,h2,h3⟩
 ·exact Or.inl h
 ·exact Or.inr ⟨a,cap,h1,h2,fun i hi=>(h3 i hi).grow hg⟩
theorem xH{w:World}{v:Value}{L:List En}(h:EnS w v L):∃o c,v=.slice o L.length c:=by
 rcases h with⟨rfl,rfl⟩|⟨a,cap,rfl,-⟩
 ·exact⟨_,_,rfl⟩
 ·exact⟨_,_,rfl⟩
theorem hblk(a:Addr)(k:Nat):(a.add k).block=a.block:=by unfold Addr.add;split<;>simp
def Ze(v:Value)(b:Option Nat):Prop:=∀a n c,v=.slice (some a) n c->0<n->some a.block≠b
theorem TxS.far{w w':World}{v:Value}{L:List ByteArray}{b:Option Nat}(h:TxS w v L)(hg:w.grownBy w' b)(hf:Ze v b):TxS w' v L:=by
 rcases h with h|⟨a,cap,rfl,h2,h3⟩
 ·exact Or.inl h
 ·refine Or.inr ⟨a,cap,rfl,h2,fun i hi=>?_⟩;have hb:=hf a _ _ rfl (by omega);exact hg.cell (h3 i hi) (by rw[hblk];exact hb)
theorem JJ{w:World}{base:Nat}{v:Value}{L:List ByteArray}{n:Nat}(hn:n=L.length)(h:w.ownsRow base 9 1 v n (L.map Value.string)):TxS w v L:=by
 subst hn
 rcases h.2 with⟨h1,h2⟩|⟨g,cap,cur,hv,hb,hc,h3,h4,h5,h6⟩
 ·exact Or.inl ⟨h1,List.length_eq_zero_iff.1 h2⟩
 ·refine Or.inr ⟨⟨g,0,none⟩,cap,hv,h3,fun i hi=>?_⟩;have h':=h;rw[hv]at h';exact h'.cells (g:=g) rfl i _ (by rw[List.getElem?_map,List.getElem?_eq_getElem hi];rfl)
def pG(x:En)(v:Value):List Value:=[.string x.nm,.string x.ve,.string x.dg,v]
def ug(L:List En)(vs:List Value):List Value:=(List.zipWith pG L vs).flatten
theorem Zf(L:List En)(vs:List Value)(x:En)(v:Value)(h:L.length=vs.length):ug (L++[x]) (vs++[v])=ug L vs++pG x v:=by
 unfold ug;rw[List.zipWith_append h];simp
theorem QX:∀(L:List En) (vs:List Value) (h:L.length=vs.length) (i:Nat) (hi:i<L.length) (k:Nat) (u:Value),(pG L[i] (vs[i]'(by omega)))[k]?=some u->(ug L vs)[i*4+k]?=some u
 | [],vs,h,i,hi,k,u,hu=>by simp at hi
 | x :: L,[],h,i,hi,k,u,hu=>by simp at h
 | x :: L,v :: vs,h,i,hi,k,u,hu=>by
  have e:ug (x :: L) (v :: vs)=pG x v++ug L vs:=rfl;have hl:(pG x v).length=4:=rfl;rw[e]
  cases i with
  | zero =>
   simp only[List.getElem_cons_zero]at hu;have hk:k<(pG x v).length:=(List.getElem?_eq_some_iff.1 hu).1;rw[Nat.zero_mul,Nat.zero_add,List.getElem?_append_left hk];exact hu
  | succ i =>
   simp only[List.getElem_cons_succ]at hu;rw[List.getElem?_append_right (by rw[hl];omega),hl,show(i+1)*4+k-4=i*4+k by omega];exact QX L vs (by simpa using h) i (by simpa using hi) k u hu
theorem Zg:(prog.info? 33).map (fun i=>(i.zero,i.size,i.bytes))=some (some (.agg #[.string ⟨#[]⟩,.string ⟨#[]⟩,.string ⟨#[]⟩,.slice none 0 0]),4,72):=by kernel_rfl
theorem QY:(prog.info? 9).map (fun i=>(i.zero,i.size,i.bytes))=some (some (.string ⟨#[]⟩),1,16):=by kernel_rfl
theorem Zh(s:En)(v:Value)(h:v.oneCell'=true):∀u∈pG s v,u.oneCell'=true:=by
 intro u hu;simp only[pG,List.mem_cons,List.not_mem_nil,or_false]at hu
 rcases hu with rfl|rfl|rfl|rfl
 ·rfl
 ·rfl
 ·rfl
 ·exact h
open Go.RowKit
theorem Fp(s:ByteArray):(s.toList != s.toList)=false:=by simp
theorem Zi(v v':Value)(K:List ByteArray)(w:World)(h:TxS w v K)(h':TxS w v' K)(hK:K.length<=1048576) :
  Calls prog 16 #[v,v'] w fun e w'=>e=.returned (.bool true)/\w.grownBy w' none:=by
 have H1:Hd (TxS w v K):=h;have H2:Hd (TxS w v' K):=h';obtain⟨o,c,rfl⟩:=A8 h;obtain⟨o',c',rfl⟩:=A8 h';have hnn:((K.length:Int) != (K.length:Int))=false:=by simp
 clear h h';go_enter func16,ntmps16;go_wp2;go_loopw [5] (fun vi wr=>∃i:Nat,vi=.int .i64 i/\i<=K.length/\w.grownBy wr none) (fun vi _=>K.length-(intOf vi).toNat)
 case atStart=>exact⟨0,rfl,Nat.zero_le _,ak _ _⟩
 case round =>
  obtain⟨i,rfl,hi,hg⟩:=hrel;have HG:Hd (w.grownBy wr none):=hg
  by_cases hlt:i<K.length
  ·obtain⟨a,cap,e1,e2,e3⟩:∃a cap,(Value.slice o K.length c)=.slice (some a) K.length cap/\K.length<=cap/\∀j (h:j<K.length),wr.cell? (a.add j)=some (.string K[j]):=by
    rcases H1.o.grow hg with⟨h1,h2⟩|h
    ·rw[h2]at hlt;simp at hlt
    ·exact h
   obtain⟨b,cbp,f1,f2,f3⟩:∃a cap,(Value.slice o' K.length c')=.slice (some a) K.length cap/\K.length<=cap/\∀j (h:j<K.length),wr.cell? (a.add j)=some (.string K[j]):=by
    rcases H2.o.grow hg with⟨h1,h2⟩|h
    ·rw[h2]at hlt;simp at hlt
    ·exact h
   cases e1
   cases f1
   have g1:=e3 i hlt;have g2:=f3 i hlt;obtain⟨z,hz⟩:=zN (K[i]);rw[hz]at g1 g2;have hzz:=Fp z;clear e3 f3 hz hg;go_wp2;go_quiet (fail);go_wp2;go_roundw
   case rel=>exact⟨i+1,by go_num,by omega,au HG.o _⟩
   case measure=>simp[intOf];omega
  ·clear hg;have hil:i=K.length:=by omega
   go_wp2;go_ret;exact⟨rfl,HG.o⟩
theorem QZ(v v':Value)(K:List En)(w:World)(h:EnS w v K)(h':EnS w v' K)(hK:K.length<=1048576)(hN:∀x∈K,x.nd.length<=1048576) :
  Calls prog 7 #[v,v'] w fun e w'=>e=.returned (.bool true)/\w.grownBy w' none:=by
 have H1:Hd (EnS w v K):=h;have H2:Hd (EnS w v' K):=h';have CS:Hd (∀x∈K,∀(u u':Value) (w:World),TxS w u x.nd->TxS w u' x.nd->Calls prog 16 #[u,u'] w fun e w'=>e=.returned (.bool true)/\w.grownBy w' none):=fun x hx u u' w h1 h2=>Zi u u' x.nd w h1 h2 (hN x hx)
 obtain⟨o,c,rfl⟩:=xH h;obtain⟨o',c',rfl⟩:=xH h';have hnn:((K.length:Int) != (K.length:Int))=false:=by simp
 clear h h' hN;go_enter func7,ntmps7;go_wp2;go_loopw [5] (fun vi wr=>∃i:Nat,vi=.int .i64 i/\i<=K.length/\w.grownBy wr none) (fun vi _=>K.length-(intOf vi).toNat)
 case atStart=>exact⟨0,rfl,Nat.zero_le _,ak _ _⟩
 case round =>
  obtain⟨i,rfl,hi,hg⟩:=hrel;have HG:Hd (w.grownBy wr none):=hg
  by_cases hlt:i<K.length
  ·obtain⟨a,cap,e1,e2,e3⟩:∃a cap,(Value.slice o K.length c)=.slice (some a) K.length cap/\K.length<=cap/\∀j (h:j<K.length),EnAt wr (a.add (j*4)) K[j]:=by
    rcases H1.o.grow hg with⟨h1,h2⟩|h
    ·rw[h2]at hlt;simp at hlt
    ·exact h
   obtain⟨b,cbp,f1,f2,f3⟩:∃a cap,(Value.slice o' K.length c')=.slice (some a) K.length cap/\K.length<=cap/\∀j (h:j<K.length),EnAt wr (a.add (j*4)) K[j]:=by
    rcases H2.o.grow hg with⟨h1,h2⟩|h
    ·rw[h2]at hlt;simp at hlt
    ·exact h
   cases e1
   cases f1
   obtain⟨g1,g2,g4,sv,g3,gn⟩:=e3 i hlt;obtain⟨k1,k2,k4,sv',k3,kn⟩:=f3 i hlt;have Zj:Hd (Calls prog 16 #[sv,sv'] wr.drew fun e w'=>e=.returned (.bool true)/\wr.drew.grownBy w' none):=CS.o K[i] (List.getElem_mem _) sv sv' wr.drew (gn.grow ⟨rfl,rfl,rfl,Nat.le_refl _,fun _ _ _=>rfl⟩) (kn.grow ⟨rfl,rfl,rfl,Nat.le_refl _,fun _ _ _=>rfl⟩);obtain⟨z1,hz1⟩:∃z,K[i].nm=z:=⟨_,rfl⟩;obtain⟨z2,hz2⟩:∃z,K[i].ve=z:=⟨_,rfl⟩;obtain⟨z4,xI⟩:∃z,K[i].dg=z:=⟨_,rfl⟩;rw[hz1]at g1 k1;rw[hz2]at g2 k2;rw[xI]at g4 k4;have q1:=Fp z1;have q2:=Fp z2;have q4:=Fp z4;clear e3 f3 hz1 hz2 xI hg gn kn;go_wp2
   go_region_held3 (fun w'=>w'.cell? ⟨(a.add (i*4)).block,(a.add (i*4)).off+3,none⟩=some sv/\w'.cell? ⟨(b.add (i*4)).block,(b.add (i*4)).off+3,none⟩=some sv') ((first|exact⟨World.grownBy.cell (by assumption) (And.left (by assumption)) (by simp),World.grownBy.cell (by assumption) (And.right (by assumption)) (by simp)⟩|go_keep)) (first|(go_at_call 16;refine Zj.o.mono ?_;rintro e w1 ⟨rfl,hg1⟩))
   have hg2:wr.grownBy w1 none:=Ak hg1;have ay:Hd (w.grownBy w1 none):=ai HG.o hg2;have G1:=hg2.cell g1 (by simp);have G2:=hg2.cell g2 (by simp);have G4:=hg2.cell g4 (by simp);have K1:=hg2.cell k1 (by simp);have K2:=hg2.cell k2 (by simp);have K4:=hg2.cell k4 (by simp);clear hg1 hg2 g1 g2 g3 g4 k1 k2 k3 k4;go_wp2;go_quiet (fail);go_wp2;go_roundw
   case rel=>exact⟨i+1,by go_num,by omega,au ay.o _⟩
   case measure=>simp[intOf];omega
  ·clear hg;have hil:i=K.length:=by omega
   go_wp2;go_ret;exact⟨rfl,HG.o⟩
open Go.RowKit
def sg(c:Int):Int:=if 48<=c/\c<=57 then c-48 else if 97<=c/\c<=102 then c-87 else -1
theorem Zk(c:Int):0<=sg c↔(48<=c/\c<=57)\/(97<=c/\c<=102):=by unfold sg;split;omega;split;omega;omega
def okS(b:UInt8):Bool:=decide (0<=sg b.toNat)
theorem Q3(b:UInt8):okS b=true↔0<=sg b.toNat:=by simp[okS]
def mO(l:List UInt8):Nat:=l.findIdx (fun b=>!okS b)
theorem Q4(l:List UInt8)(k:Nat)(hk:k<l.length)(hp:∀j,(hj:j<k)->okS (l[j]'(by omega))=true)(hb:okS l[k]=false):mO l=k:=by
 unfold mO;rw[List.findIdx_eq hk];exact⟨by simp[hb],fun j hj=>by simpa using hp j hj⟩
theorem Q5(l:List UInt8)(hp:∀j,(hj:j<l.length)->okS l[j]=true):mO l=l.length:=by
 unfold mO;rw[List.findIdx_eq_length];intro x hx;obtain⟨j,hj,rfl⟩:=List.getElem_of_mem hx;simpa using hp j hj
def nH:List UInt8:=[115,104,97,50,53,54,58]
def kY(l:List UInt8):Bool:=decide (l.length=71) && (l.take 7 == nH) && (decide (mO (l.drop 7)=(l.drop 7).length))
theorem Q7(s:ByteArray):(s.extract 0 7).toList=s.data.toList.take 7:=by
 rw[ByteArray.toList_eq,ByteArray.data_extract];simp
theorem Zl(l:List UInt8)(hl:l.length=71)(h7:l.take 7=nH):kY l=decide (mO (l.drop 7)=(l.drop 7).length):=by
 unfold kY;rw[hl,h7];rfl
theorem Zm(l:List UInt8)(k:Nat)(h7:7<=k)(hk:k<l.length)(hp:∀j,(hj:j<k)->7<=j->(hz:j<l.length)->okS l[j]=true)(hb:okS l[k]=false):decide (mO (l.drop 7)=(l.drop 7).length)=false:=by
 rw[Q4 (l.drop 7) (k-7) (by simp;omega) (fun j hj=>by rw[List.getElem_drop];exact hp (7+j) (by omega) (by omega) _) (by
  rw[List.getElem_drop];rw[<-hb];congr 1;congr 1;omega)]
 simp;omega
theorem Zn(l:List UInt8)(hp:∀j,7<=j->(hz:j<l.length)->okS l[j]=true):decide (mO (l.drop 7)=(l.drop 7).length)=true:=by
 rw[Q5 (l.drop 7) (fun j hj=>by rw[List.getElem_drop];exact hp (7+j) (by omega) _)];simp
theorem Zo(l:List UInt8)(h7:¬l.take 7=nH):kY l=false:=by
 unfold kY;rw[show(l.take 7 == nH)=false from by simpa using h7];simp
theorem Q8(c:Int)(w:World)(h0:0<=c)(h1:c<=255):Calls prog 126 #[.int .u8 c] w fun e w'=>e=.returned (.int .i64 (sg c))/\w'=w:=by
 go_enter func126,ntmps126;go_wp2
 all_goals go_ret
 all_goals refine⟨dB ?_,rfl⟩
 all_goals (unfold sg;first|(rw[if_pos ⟨‹_›,‹_›⟩];done)|(rw[if_neg (by omega),if_pos (by omega)];omega)|(rw[if_neg (by omega),if_neg (by omega)]))
theorem Q9(c:Int)(w:World):Calls prog 129 #[.int .u8 c] w fun e w'=>e=.returned (.bool (decide (0<=sg c)))/\w'=w:=by
 go_enter func129,ntmps129;go_wp2
 all_goals go_ret
 all_goals (refine⟨bV ?_,rfl⟩;rw[Bool.eq_iff_iff];simp[Zk];omega)
theorem Zp(s:ByteArray)(w:World)(hs:s.size<=maxLen) :
  Calls prog 92 #[.string s] w fun e w'=>e=.returned (.int .i64 (mO s.data.toList))/\w'=w:=by
 unfold maxLen at hs;go_enter func92,ntmps92;go_wp2
 go_loop [6] (fun i=>∃k:Nat,k<=s.size/\i=.int .i64 k/\∀j,(hj:j<k)->(hz:j<s.data.toList.length)->okS s.data.toList[j]=true) (fun i=>s.size-(intOf i).toNat)
 case atStart=>exact⟨0,Nat.zero_le _,rfl,fun j hj=>absurd hj (by omega)⟩
 case round =>
  obtain⟨k,hk,rfl,hp⟩:=hrel;have HP:Hd (∀j,(hj:j<k)->(hz:j<s.data.toList.length)->okS s.data.toList[j]=true):=hp;clear hp
  by_cases hlt:k<s.size
  ·by_cases hb:0<=sg (s[k].toNat:Int)
   ·have hd:decide (0<=sg (s[k].toNat:Int))=true:=by simpa using hb
    go_wp2_with (go_at_call 129;refine(Q9 _ _).mono ?_;rintro e w' ⟨rfl,rfl⟩)
    go_round
    case rel =>
     refine⟨k+1,by omega,by go_num,fun j hj hz=>?_⟩
     by_cases hjk:j<k
     ·exact HP.o j hjk hz
     ·have e:j=k:=by omega
      subst e;rw[Q3];exact hb
    case measure=>simp[intOf];omega
   ·have hd:decide (0<=sg (s[k].toNat:Int))=false:=by simpa using hb
    go_wp2_with (go_at_call 129;refine(Q9 _ _).mono ?_;rintro e w' ⟨rfl,rfl⟩);go_ret;refine⟨dB ?_,rfl⟩;rw[Q4 s.data.toList k (by simpa using hlt) (fun j hj=>HP.o j hj _) (by unfold okS;exact hd)]
  ·have hks:k=s.size:=by omega
   have HE:Hd (mO s.data.toList=s.size):=by
    show mO s.data.toList=s.size;rw[Q5 s.data.toList (fun j hj=>HP.o j (by simp at hj;have:s.size=s.data.size:=rfl;omega) hj)];simp
   clear hks;go_wp2;go_ret;exact⟨dB (by rw[HE.o]),rfl⟩
def qJ(l:List UInt8):List UInt8:=Lib.trimPrefix l nH
def Ba(l:List UInt8):Bool:=Lib.hasPrefix l nH
theorem JK(s:ByteArray)(w:World):Calls prog 91 #[.string s,.string ⟨#[115,104,97,50,53,54,58]⟩] w fun e w'=>e=.returned (.tuple #[.string ⟨(qJ s.data.toList).toArray⟩,.bool (Ba s.data.toList)])/\w'=w :=
 Any.strings_CutPrefix Tryz.lays103 s _ w
theorem Zq(l:List UInt8)(w:World)(hs:l.length<=maxLen) :
  Calls prog 92 #[.string ⟨l.toArray⟩] w fun e w'=>e=.returned (.int .i64 (mO l))/\w'=w :=
 Zp ⟨l.toArray⟩ w (by simpa [ByteArray.size] using hs)
def pI(l:List UInt8):Bool:=Ba l && (decide ((qJ l).length=64) && decide (mO (qJ l)=(qJ l).length))
theorem Zt(s:ByteArray)(w:World) :
  Calls prog 60 #[.string s] w fun e w'=>e=.returned (.bool (pI s.data.toList))/\w'=w:=by
 by_cases hp:Ba s.data.toList=true
 ·by_cases hl:(qJ s.data.toList).length=64
  ·have hl':(((qJ s.data.toList).length:Int) == 64)=true:=by rw[hl];rfl
   have HE:Hd (pI s.data.toList=decide (mO (qJ s.data.toList)=(qJ s.data.toList).length)):=by
    show pI s.data.toList=_;unfold pI;rw[hp,hl];rfl
   have hm:(qJ s.data.toList).length<=maxLen:=by unfold maxLen;omega
   clear hl;go_enter func60,ntmps60;go_wp2_with (first|(go_at_call 91;refine(JK _ _).mono ?_;rintro e w' ⟨rfl,rfl⟩)|(go_at_call 92;refine(Zq _ _ hm).mono ?_;rintro e w' ⟨rfl,rfl⟩));go_ret;refine⟨bV ?_,rfl⟩;rw[HE.o,Bool.eq_iff_iff];simp;omega
  ·have hl':(((qJ s.data.toList).length:Int) == 64)=false:=by simp;omega
   have HE:Hd (pI s.data.toList=false):=by
    show pI s.data.toList=_;unfold pI;rw[hp,decide_eq_false hl];rfl
   clear hl;go_enter func60,ntmps60;go_wp2_with (go_at_call 91;refine(JK _ _).mono ?_;rintro e w' ⟨rfl,rfl⟩);go_ret;exact⟨bV HE.o.symm,rfl⟩
 ·have hp':Ba s.data.toList=false:=by simpa using hp
  have HE:Hd (pI s.data.toList=false):=by
   show pI s.data.toList=_;unfold pI;rw[hp'];rfl
  clear hp;go_enter func60,ntmps60;go_wp2_with (go_at_call 91;refine(JK _ _).mono ?_;rintro e w' ⟨rfl,rfl⟩);go_ret;exact⟨bV HE.o.symm,rfl⟩
theorem Zu(s:ByteArray)(w:World)(hs:s.size<=maxLen) :
  Calls prog 87 #[.string s] w fun e w'=>e=.returned (.bool (kY s.data.toList))/\w'=w:=by
 unfold maxLen at hs
 by_cases hl:s.size=71
 ·have hl':((s.size:Int) != 71)=false:=by simp;omega
  have h7:7<=s.size:=by omega
  by_cases hq:s.data.toList.take 7=nH
  ·have hq':(!(s.extract 0 7).toList == [115,104,97,50,53,54,58])=false:=by rw[Q7,hq];rfl
   have HE:Hd (kY s.data.toList=decide (mO (s.data.toList.drop 7)=(s.data.toList.drop 7).length)):=Zl _ (by simpa using hl) hq;clear hl hq;go_enter func87,ntmps87;go_wp2
   go_loop [3] (fun i=>∃k:Nat,7<=k/\k<=s.size/\i=.int .i64 k/\∀j,(hj:j<k)->7<=j->(hz:j<s.data.toList.length)->okS s.data.toList[j]=true) (fun i=>s.size-(intOf i).toNat)
   case atStart=>exact⟨7,by omega,h7,rfl,fun j hj h7'=>absurd hj (by omega)⟩
   case round =>
    obtain⟨k,Zv,hk,rfl,hp⟩:=hrel;have HP:Hd (∀j,(hj:j<k)->7<=j->(hz:j<s.data.toList.length)->okS s.data.toList[j]=true):=hp;clear hp
    by_cases hlt:k<s.size
    ·have hb256:(s[k].toNat:Int)<=255:=by have:=s[k].toNat_lt;omega
     by_cases hb:0<=sg (s[k].toNat:Int)
     ·go_wp2_with (go_at_call 126;refine(Q8 _ _ (by omega) (by omega)).mono ?_;rintro e w' ⟨rfl,rfl⟩)
      go_round
      case rel =>
       refine⟨k+1,by omega,by omega,by go_num,fun j hj h7 hz=>?_⟩
       by_cases hjk:j<k
       ·exact HP.o j hjk h7 hz
       ·have e:j=k:=by omega
        subst e;rw[Q3];exact hb
      case measure=>simp[intOf];omega
     ·have hbn:sg (s[k].toNat:Int)<0:=by omega
      have hd:decide (0<=sg (s[k].toNat:Int))=false:=by simpa using hb
      have HF:Hd (kY s.data.toList=false):=by
       show kY s.data.toList=false;rw[HE.o];exact Zm _ k Zv (by simpa using hlt) HP.o hd
      clear hb hd;go_wp2_with (go_at_call 126;refine(Q8 _ _ (by omega) (by omega)).mono ?_;rintro e w' ⟨rfl,rfl⟩);go_ret;exact⟨bV HF.o.symm,rfl⟩
    ·have HF:Hd (kY s.data.toList=true):=by
      show kY s.data.toList=true;rw[HE.o];exact Zn _ (fun j h7 hz=>HP.o j (by simp at hz;have:s.size=s.data.size:=rfl;omega) h7 hz)
     go_wp2;go_ret;exact⟨bV HF.o.symm,rfl⟩
  ·have hq':(!(s.extract 0 7).toList == [115,104,97,50,53,54,58])=true:=by rw[Q7];simpa [nH] using hq
   have HE:Hd (kY s.data.toList=false):=Zo _ hq;clear hl hq;go_enter func87,ntmps87;go_wp2;go_ret;exact⟨bV HE.o.symm,rfl⟩
 ·have hl':((s.size:Int) != 71)=true:=by simp;omega
  have HE:Hd (kY s.data.toList=false):=by
   show kY s.data.toList=_;unfold kY;rw[decide_eq_false (by simpa using hl)];rfl
  clear hl;go_enter func87,ntmps87;go_wp2;go_ret;exact⟨bV HE.o.symm,rfl⟩
theorem Zw(l:List UInt8):pI l=kY l:=by
 unfold pI kY Ba qJ Lib.trimPrefix Lib.hasPrefix
 by_cases h:l.take 7=nH
 ·have hp:List.isPrefixOf nH l=true:=by
   rw[List.isPrefixOf_iff_prefix,<-h];exact List.take_prefix _ _
  have h7:7<=l.length:=by
   have:=congrArg List.length h;simp[nH]at this;omega
  simp only[hp,if_true];rw[show nH.length=7 from rfl,h];simp only[Bool.true_and,beq_self_eq_true,Bool.and_true];congr 1;simp;omega
 ·have hp:List.isPrefixOf nH l=false:=by
   rw[Bool.eq_false_iff];intro hp;rw[List.isPrefixOf_iff_prefix]at hp;apply h;have:=List.prefix_iff_eq_take.1 hp;rw[this];rfl
  rw[hp,show(l.take 7 == nH)=false from by simpa using h];simp
end Go.Proofs.YtnnbgjaphfhibaaGreatDoor
