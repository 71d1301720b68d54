import Derived.Shelf.Small.Wraps
import Derived.Shelf.Strings.Trim
import Derived.Shelf.Strings.Search2
import Derived.Test.YtnnbgjaphfhibaaGreatDoorE06
import Derived.LaidEql
import Derived.Stop.Asserts
import Derived.RowKitTokens
set_option linter.all false
set_option maxRecDepth 100000
set_option maxHeartbeats 0
open Go.Proofs.Tryz
namespace Go.Proofs.YtnnbgjaphfhibaaGreatDoor
open Go.RowKit
theorem xx:∀(a b:List UInt8),(Op.bytesLess a b=true->Lib.compareBytes a b=-1)/\(Op.bytesLess a b=false->(a == b)=false->Lib.compareBytes a b=1)/\((a == b)=true->Lib.compareBytes a b=0)
 | [],[]=>by simp[Op.bytesLess,Lib.compareBytes]
 | [],_ :: _=>by simp[Op.bytesLess,Lib.compareBytes]
 | _ :: _,[]=>by simp[Op.bytesLess,Lib.compareBytes]
 | x :: a,y :: b=>by
  obtain⟨h1,h2,h3⟩:=xx a b;unfold Op.bytesLess Lib.compareBytes
  by_cases hlt:x<y
  ·have hne:¬x=y:=fun e=>by rw[e]at hlt;exact UInt8.lt_irrefl y hlt
   simp[hlt,hne]
  ·by_cases heq:x=y
   ·subst heq;simp only[hlt,decide_false,Bool.false_or,beq_self_eq_true,Bool.true_and,if_false];refine⟨h1,fun p q=>h2 p (by simpa using q),fun q=>h3 (by simpa using q)⟩
   ·have hgt:=UInt8.lt_of_le_of_ne (UInt8.not_lt.1 hlt) (Ne.symm heq);simp[hlt,heq,hgt]
theorem aca{a b:ByteArray}(h:Op.bytesLess a.toList b.toList=true):Lib.compareBytes a.data.toList b.data.toList=-1:=by
 rw[Lib.toList_data,Lib.toList_data]at h;exact(xx _ _).1 h
theorem acb{a b:ByteArray}(h:Op.bytesLess a.toList b.toList=false)(h':(!a.toList == b.toList)=true):Lib.compareBytes a.data.toList b.data.toList=1:=by
 rw[Lib.toList_data,Lib.toList_data]at h h';exact(xx _ _).2.1 h (by simpa using h')
theorem acd{a b:ByteArray}(h':(!a.toList == b.toList)=false):Lib.compareBytes a.data.toList b.data.toList=0:=by
 rw[Lib.toList_data,Lib.toList_data]at h';exact(xx _ _).2.2 (by simpa using h')
open Go.RowKit Go.Extern.Stop Go.Stop Go.Extern
theorem Hw(v:Value)(w:World):(ReflectliteType.typeOf #[.iface 317 v]).run prog w=.ok (.iface 219 (.agg #[.pointer (some ⟨14,317,none⟩)])) w:=by kernel_rfl
def Hy:Array Value->Sem Value:=ReflectliteType.method fun t=>do Rtype.noPackHeld "Comparable" t;pure (.bool (<-typeInfo t).comparable)
theorem ML(w:World):(Hy #[.agg #[.pointer (some ⟨14,317,none⟩)]]).run prog w=.ok (.bool true) w:=by kernel_rfl
theorem MM(v:Value)(w:World):(Go.method 446 219 v "Comparable").run prog w=.ok (276,v) w:=by kernel_rfl
theorem MO:(prog.info? 317).map (·.comparable)=some true:=by kernel_rfl
theorem MP:(prog.info? 319).map (·.size)=some 1:=by kernel_rfl
theorem Uo(v:Value)(xT:TypeId)(w:World):(Instr.typeAssert (.iface 317 v) xT 230 true).run prog w=.ok (.tuple #[.nilIface,.bool false]) w:=run_typeAssert_lacksB underlying230 (by kernel_rfl) (by kernel_rfl) v xT w
theorem MQ(v:Value)(xT:TypeId)(w:World):(Instr.typeAssert (.iface 317 v) xT 226 true).run prog w=.ok (.tuple #[.nilIface,.bool false]) w:=run_typeAssert_lacksB underlying226 (by kernel_rfl) (by kernel_rfl) v xT w
theorem MR(v:Value)(xT:TypeId)(w:World):(Instr.typeAssert (.iface 317 v) xT 227 true).run prog w=.ok (.tuple #[.nilIface,.bool false]) w:=run_typeAssert_lacksB underlying227 (by kernel_rfl) (by kernel_rfl) v xT w
theorem ace(v:Value)(xT:TypeId)(w:World):(Instr.typeAssert (.iface 317 v) xT 223 true).run prog w=.ok (.tuple #[.nilIface,.bool false]) w:=run_typeAssert_lacksB underlying223 (by kernel_rfl) (by kernel_rfl) v xT w
theorem Ur(v:Value)(xT:TypeId)(w:World):(Instr.typeAssert (.iface 130 v) xT 230 true).run prog w=.ok (.tuple #[.nilIface,.bool false]) w:=run_typeAssert_lacksB underlying230 (by kernel_rfl) (by kernel_rfl) v xT w
theorem Ut(v:Value)(xT:TypeId)(w:World):(Instr.typeAssert (.iface 130 v) xT 226 true).run prog w=.ok (.tuple #[.iface 130 v,.bool true]) w:=run_typeAssert_hasB underlying226 (by kernel_rfl) v xT w
theorem Uu(v:Value)(w:World):(Go.method 446 130 v "Unwrap").run prog w=.ok (270,v) w:=by kernel_rfl
theorem is_same(a:Addr)(w:World):Calls prog 74 #[.iface 317 (.pointer (some a)),.iface 317 (.pointer (some a))] w fun e w'=>e=.returned (.bool true)/\w'=w:=by
 obtain⟨i,hi,hcmp⟩:=Option.map_eq_some_iff.1 MO;obtain⟨j,hj,hjs⟩:=Option.map_eq_some_iff.1 MP;have h8:=@run_callFunc_extern prog 114 _ ReflectliteType.typeOf func114 (by kernel_rfl) (by kernel_rfl) (by kernel_rfl) (by kernel_rfl);have h32:=@run_callFunc_extern prog 276 _ Hy func276 (by kernel_rfl) (by kernel_rfl) (by kernel_rfl) (by kernel_rfl);have tT:=Hw;have cT:=ML;have mR:=MM;have heq:=run_eql_iface_ptr_same (P:=prog) w a underlying94 underlying317 hi hcmp hj;go_enter func74,ntmps74;go_wp2;refine wp_loop_rounds 1 ?_;rw[rounds_succ];go_wp2;go_ret;exact⟨rfl,rfl⟩
theorem acf(F:Nat)(b:Addr)(w:World)(h1:w.cell? ⟨F,1,none⟩=some (.iface 317 (.pointer (some b)))) :
  Calls prog 74 #[.iface 130 (.pointer (some ⟨F,0,none⟩)),.iface 317 (.pointer (some b))] w fun e w'=>e=.returned (.bool true)/\w'=w:=by
 obtain⟨i,hi,hcmp⟩:=Option.map_eq_some_iff.1 MO;obtain⟨j,hj,hjs⟩:=Option.map_eq_some_iff.1 MP;have h8:=@run_callFunc_extern prog 114 _ ReflectliteType.typeOf func114 (by kernel_rfl) (by kernel_rfl) (by kernel_rfl) (by kernel_rfl);have h32:=@run_callFunc_extern prog 276 _ Hy func276 (by kernel_rfl) (by kernel_rfl) (by kernel_rfl) (by kernel_rfl);have tT:=Hw;have cT:=ML;have mR:=MM;have nE:=Uo;have uE:=MQ;have vE:=MR;have nW:=Ur;have uW:=Ut;have mU:=Uu;have heq:=run_eql_iface_ptr_same (P:=prog) w b underlying94 underlying317 hi hcmp hj;have hty:=run_eql_iface_types (P:=prog) 130 317 (.pointer (some ⟨F,0,none⟩)) (.pointer (some b)) underlying94 (by decide) w;go_enter func74,ntmps74;go_wp2;refine wp_loop_rounds 2 ?_;rw[rounds_succ];go_wp2;rw[rounds_succ];go_wp2
 go_ret;exact⟨rfl,rfl⟩
theorem acg(F:Nat)(b a:Addr)(ca cb:Array Value)(ta tb:TypeId)(w:World)(h1:w.cell? ⟨F,1,none⟩=some (.iface 317 (.pointer (some a))))(hne:a≠b)(ha:w.heap[a.block]?=some (.cells ca ta (0,0)))(hb:w.heap[b.block]?=some (.cells cb tb (0,0))) :
  Calls prog 74 #[.iface 130 (.pointer (some ⟨F,0,none⟩)),.iface 317 (.pointer (some b))] w fun e w'=>e=.returned (.bool false)/\w'=w:=by
 obtain⟨i,hi,hcmp⟩:=Option.map_eq_some_iff.1 MO;obtain⟨j,hj,hjs⟩:=Option.map_eq_some_iff.1 MP;have h8:=@run_callFunc_extern prog 114 _ ReflectliteType.typeOf func114 (by kernel_rfl) (by kernel_rfl) (by kernel_rfl) (by kernel_rfl);have h32:=@run_callFunc_extern prog 276 _ Hy func276 (by kernel_rfl) (by kernel_rfl) (by kernel_rfl) (by kernel_rfl);have tT:=Hw;have cT:=ML;have mR:=MM;have nE:=Uo;have uE:=MQ;have vE:=MR;have nW:=Ur;have uW:=Ut;have mU:=Uu;have heq:=run_eql_iface_ptr_other (P:=prog) w underlying94 underlying317 hi hcmp hj (by rw[hjs];decide) hne ha hb;have hty:=run_eql_iface_types (P:=prog) 130 317 (.pointer (some ⟨F,0,none⟩)) (.pointer (some b)) underlying94 (by decide) w;go_enter func74,ntmps74;go_wp2;refine wp_loop_rounds 2 ?_;rw[rounds_succ]
 go_wp2;rw[rounds_succ];go_wp2;go_ret;exact⟨rfl,rfl⟩
open Go.RowKit Go.Extern.Stop Go.Stop Go.Extern
theorem Uw(t:Addr)(w:World):(ReflectliteValue.unpack (.iface 132 (.pointer (some t)))).run prog w
  = .ok (.agg #[.pointer (some ⟨14,132,none⟩),.pointer (some ⟨w.heap.size,0,none⟩),.int .u64 150]) (w.alloc (.cells #[.pointer (some t)] 132)):=by kernel_rfl
theorem aType(a:Addr)(w:World):(ReflectliteValue.methodAny (ReflectliteValue.valueError "reflectlite.Value.Type" 0) (fun t _ _ _=>ReflectliteType.toType t) #[.agg #[.pointer (some ⟨14,132,none⟩),.pointer (some a),.int .u64 150]]).run prog w
  = .ok (.iface 219 (.agg #[.pointer (some ⟨14,132,none⟩)])) w:=by kernel_rfl
theorem Ux(h:Value)(w:World):(Go.method 446 219 (.agg #[h]) "Kind").run prog w=.ok (265,h) w:=by kernel_rfl
theorem Uy(w:World):((ReflectliteType.abiMethod fun t=>(fun a:Nat=>Value.int IntKind.u8 (a:Int)) <$> Rtype.kind t) #[.pointer (some ⟨14,132,none⟩)]).run prog w=.ok (.int .u8 22) w:=by kernel_rfl
theorem Uz(w:World):((ReflectliteType.abiMethod fun t=>(fun a:Nat=>Value.int IntKind.u8 (a:Int)) <$> Rtype.kind t) #[.pointer (some ⟨14,130,none⟩)]).run prog w=.ok (.int .u8 22) w:=by kernel_rfl
theorem UA(z:Sem Value)(f:TypeId->Addr->Nat->Nat->Sem Value)(v:Value) :
  ReflectliteValue.method z f #[v]=(do match <-ReflectliteValue.parts v with|none=>z|some (t,a,fl)=>f t a fl (fl % 32)):=rfl
theorem UB(a:Addr)(w:World):(ReflectliteValue.parts (.agg #[.pointer (some ⟨14,132,none⟩),.pointer (some a),.int .u64 150])).run prog w=.ok (some (132,a,150)) w:=by kernel_rfl
theorem UC(a p:Addr)(W:World)(ha:W.cell? a=some (.pointer (some p))) :
  (ReflectliteValue.method (ReflectliteValue.valueError "reflectlite.Value.IsNil" 0) ReflectliteValue.isNil #[.agg #[.pointer (some ⟨14,132,none⟩),.pointer (some a),.int .u64 150]]).run prog W=.ok (.bool false) W:=by
 rw[UA];simp only[Sem.run_bind,UB,Result.andThen];simp[ReflectliteValue.isNil,loadVar,isAgg,underlying,underlying132,ha,Result.andThen]
theorem UD(h:Value)(w:World):(Go.method 446 219 (.agg #[h]) "Elem").run prog w=.ok (277,.agg #[h]) w:=by kernel_rfl
theorem UE(h:Value)(w:World):(Go.method 446 219 (.agg #[h]) "Implements").run prog w=.ok (278,.agg #[h]) w:=by kernel_rfl
theorem UF(h:Value)(w:World):(Go.method 446 219 (.agg #[h]) "AssignableTo").run prog w=.ok (275,.agg #[h]) w:=by kernel_rfl
theorem UG(w:World):(ReflectliteType.method ReflectliteType.elem #[.agg #[.pointer (some ⟨14,132,none⟩)]]).run prog w=.ok (.iface 219 (.agg #[.pointer (some ⟨14,130,none⟩)])) w:=by kernel_rfl
theorem UH(w:World):(ReflectliteType.relation "Implements" ReflectliteType.implements_ #[.agg #[.pointer (some ⟨14,130,none⟩)],.iface 219 (.agg #[.pointer (some ⟨14,94,none⟩)])]).run prog w=.ok (.bool true) w:=by kernel_rfl
theorem ach(v:Value)(w:World):(ReflectliteType.typeOf #[.iface 130 v]).run prog w=.ok (.iface 219 (.agg #[.pointer (some ⟨14,130,none⟩)])) w:=by kernel_rfl
theorem aci(w:World):(ReflectliteType.relation "AssignableTo" ReflectliteType.assignableTo #[.agg #[.pointer (some ⟨14,130,none⟩)],.iface 219 (.agg #[.pointer (some ⟨14,130,none⟩)])]).run prog w=.ok (.bool true) w:=by kernel_rfl
theorem acj(w:World):(ReflectliteType.relation "AssignableTo" ReflectliteType.assignableTo #[.agg #[.pointer (some ⟨14,317,none⟩)],.iface 219 (.agg #[.pointer (some ⟨14,130,none⟩)])]).run prog w=.ok (.bool false) w:=by kernel_rfl
theorem ack(e:Addr)(w:World):(ReflectliteValue.unpack (.iface 130 (.pointer (some e)))).run prog w
  = .ok (.agg #[.pointer (some ⟨14,130,none⟩),.pointer (some ⟨w.heap.size,0,none⟩),.int .u64 150]) (w.alloc (.cells #[.pointer (some e)] 130)):=by kernel_rfl
theorem acl(w:World):(Rtype.elem? 132).run prog w=.ok (some 130) w:=by kernel_rfl
theorem aMk(p:Addr)(w:World):(ReflectliteValue.mk 130 p ReflectliteValue.flagAddr).run prog w=.ok (.agg #[.pointer (some ⟨14,130,none⟩),.pointer (some p),.int .u64 406]) w:=by kernel_rfl
theorem acm(a p:Addr)(W:World)(ha:W.cell? a=some (.pointer (some p))) :
  (ReflectliteValue.method (ReflectliteValue.valueError "reflectlite.Value.Elem" 0) ReflectliteValue.elem #[.agg #[.pointer (some ⟨14,132,none⟩),.pointer (some a),.int .u64 150]]).run prog W
   = .ok (.agg #[.pointer (some ⟨14,130,none⟩),.pointer (some p),.int .u64 406]) W:=by
 rw[UA];simp only[Sem.run_bind,UB,Result.andThen];simp[ReflectliteValue.elem,loadVar,isAgg,underlying,underlying132,ha,Result.andThen,acl,aMk]
theorem acn(v x:Value):ReflectliteValue.set #[v,x]=(do
  let (some (dst,a,fl),some (src,b,_)):=(<-ReflectliteValue.parts v,<-ReflectliteValue.parts x)
   | unsupported (.noEntry "extern/(internal/reflectlite.Value).Set.zeroValue")
  if fl / ReflectliteValue.flagAddr % 2 == 0 then unsupported (.noEntry "extern/(internal/reflectlite.Value).Set.unaddressable")
  let val <-loadVar src b
  if <-Rtype.directlyAssignable dst src then storeVar dst a val
  else if <-Rtype.implements dst src then
   if(<-Rtype.kind src) == 20 then
    match val with
    | .nilIface=>unsupported (.noEntry "extern/reflectlite: a nil value of one interface type handed on as a value of another")
    | _=>storeVar dst a val
   else storeVar dst a (.iface src val)
  else panicString ("reflectlite.Set: value of type "++(<-Rtype.spelt src) ++ " is not assignable to type "++(<-Rtype.spelt dst))
  pure (.tuple #[])):=rfl
theorem aco(a:Addr)(w:World):(ReflectliteValue.parts (.agg #[.pointer (some ⟨14,130,none⟩),.pointer (some a),.int .u64 406])).run prog w=.ok (some (130,a,406)) w:=by kernel_rfl
theorem acp(a:Addr)(w:World):(ReflectliteValue.parts (.agg #[.pointer (some ⟨14,130,none⟩),.pointer (some a),.int .u64 150])).run prog w=.ok (some (130,a,150)) w:=by kernel_rfl
theorem acr(w:World):(Rtype.directlyAssignable 130 130).run prog w=.ok true w:=by kernel_rfl
theorem acs(ta b e:Addr)(old:Value)(W:World)(hb:W.cell? b=some (.pointer (some e)))(ht:W.cell? ta=some old)(hf:W.frozen? ta=false) :
  (ReflectliteValue.set #[.agg #[.pointer (some ⟨14,130,none⟩),.pointer (some ta),.int .u64 406],.agg #[.pointer (some ⟨14,130,none⟩),.pointer (some b),.int .u64 150]]).run prog W
   = .ok (.tuple #[]) (W.setCell ta (.pointer (some e))):=by
 rw[acn];simp only[Sem.run_bind,aco,acp,Result.andThen];simp[ReflectliteValue.flagAddr,loadVar,isAgg,underlying,underlying130,hb,Result.andThen,acr,storeVar,Value.cells,storeCells,Addr.add];rw[run_store prog W ta _ _ (by rfl)];simp[ht,hf]
theorem as_hit(e t:Addr)(old:Value)(w:World)(hg:w.cell? ⟨4,0,none⟩=some (.iface 219 (.agg #[.pointer (some ⟨14,94,none⟩)])))(ht0:w.cell? t=some old)(hf0:w.frozen? t=false) :
  Calls prog 73 #[.iface 130 (.pointer (some e)),.iface 132 (.pointer (some t))] w fun ev w'=>ev=.returned (.bool true)/\w'=((((w.alloc (.cells #[.pointer (some t)] 132)).alloc (.cells #[.pointer (some ⟨14,132,none⟩),.pointer (some ⟨w.heap.size,0,none⟩),.int .u64 150] 169)).alloc (.cells #[.pointer (some ⟨14,132,none⟩),.pointer (some ⟨w.heap.size,0,none⟩),.int .u64 150] 169)).alloc (.cells #[.pointer (some e)] 130)).setCell t (.pointer (some e)):=by
 have h6:=@run_callFunc_extern prog 110 _ (fun args=>ReflectliteValue.unpack (args.getD 0 (.tuple #[]))) func110 (by kernel_rfl) (by kernel_rfl) (by kernel_rfl) (by kernel_rfl);have h7:=@run_callFunc_extern prog 111 _ (ReflectliteValue.methodAny (ReflectliteValue.valueError "reflectlite.Value.Type" 0) (fun t _ _ _=>ReflectliteType.toType t)) func111 (by kernel_rfl) (by kernel_rfl) (by kernel_rfl) (by kernel_rfl);have h8:=@run_callFunc_extern prog 112 _ (ReflectliteValue.method (ReflectliteValue.valueError "reflectlite.Value.IsNil" 0) ReflectliteValue.isNil) func112 (by kernel_rfl) (by kernel_rfl) (by kernel_rfl) (by kernel_rfl);have h27:=@run_callFunc_extern prog 265 _ (ReflectliteType.abiMethod fun t=>do pure (.int .u8 (<-Rtype.kind t))) func265 (by kernel_rfl) (by kernel_rfl) (by kernel_rfl) (by kernel_rfl);have h37:=@run_callFunc_extern prog 277 _ (ReflectliteType.method ReflectliteType.elem) func277 (by kernel_rfl) (by kernel_rfl) (by kernel_rfl) (by kernel_rfl)
 have h38:=@run_callFunc_extern prog 278 _ (ReflectliteType.relation "Implements" ReflectliteType.implements_) func278 (by kernel_rfl) (by kernel_rfl) (by kernel_rfl) (by kernel_rfl);have h10:=@run_callFunc_extern prog 114 _ ReflectliteType.typeOf func114 (by kernel_rfl) (by kernel_rfl) (by kernel_rfl) (by kernel_rfl);have h35:=@run_callFunc_extern prog 275 _ (ReflectliteType.relation "AssignableTo" ReflectliteType.assignableTo) func275 (by kernel_rfl) (by kernel_rfl) (by kernel_rfl) (by kernel_rfl);have h11:=@run_callFunc_extern prog 157 _ (ReflectliteValue.method (ReflectliteValue.valueError "reflectlite.Value.Elem" 0) ReflectliteValue.elem) func157 (by kernel_rfl) (by kernel_rfl) (by kernel_rfl) (by kernel_rfl);have h12:=@run_callFunc_extern prog 158 _ ReflectliteValue.set func158 (by kernel_rfl) (by kernel_rfl) (by kernel_rfl) (by kernel_rfl)
 have tO:=ach;have mA:=UF;have a25:=aci;have v25:=ack;have f6:=Uw;have f7:=aType;have mK:=Ux;have mE:=UD;have mI:=UE;have k27:=Uy;have k25:=Uz;have e27:=UG;have i25:=UH;have n8:=UC ⟨w.heap.size,0,none⟩ t ((w.alloc (.cells #[.pointer (some t)] 132)).alloc (.cells #[.pointer (some ⟨14,132,none⟩),.pointer (some ⟨w.heap.size,0,none⟩),.int .u64 150] 169)) (by simp);have hlt:4<w.heap.size:=by
  rcases Nat.lt_or_ge 4 w.heap.size with h|h
  ·exact h
  ·simp[World.cell?,Array.getElem?_eq_none h]at hg
 have hg2:((w.alloc (.cells #[.pointer (some t)] 132)).alloc (.cells #[.pointer (some ⟨14,132,none⟩),.pointer (some ⟨w.heap.size,0,none⟩),.int .u64 150] 169)).cell? ⟨4,0,none⟩=some (.iface 219 (.agg #[.pointer (some ⟨14,94,none⟩)])):=by
  rw[World.cell?_alloc_lt _ _ ⟨4,0,none⟩ (by simp;omega),World.cell?_alloc_lt _ _ ⟨4,0,none⟩ hlt];exact hg
 have htl:t.block<w.heap.size:=by
  rcases Nat.lt_or_ge t.block w.heap.size with h|h
  ·exact h
  ·simp[World.cell?,Array.getElem?_eq_none h]at ht0
 have el:=acm ⟨w.heap.size,0,none⟩ t (((w.alloc (.cells #[.pointer (some t)] 132)).alloc (.cells #[.pointer (some ⟨14,132,none⟩),.pointer (some ⟨w.heap.size,0,none⟩),.int .u64 150] 169)).alloc (.cells #[.pointer (some ⟨14,132,none⟩),.pointer (some ⟨w.heap.size,0,none⟩),.int .u64 150] 169)) (by rw[World.cell?_alloc_lt _ _ ⟨w.heap.size,0,none⟩ (by simp;omega)];simp);have st:=acs t ⟨w.heap.size+1+1+1,0,none⟩ e old ((((w.alloc (.cells #[.pointer (some t)] 132)).alloc (.cells #[.pointer (some ⟨14,132,none⟩),.pointer (some ⟨w.heap.size,0,none⟩),.int .u64 150] 169)).alloc (.cells #[.pointer (some ⟨14,132,none⟩),.pointer (some ⟨w.heap.size,0,none⟩),.int .u64 150] 169)).alloc (.cells #[.pointer (some e)] 130))
  (by rw[World.cell?_alloc_at _ _ _ _ (by simp)];rfl)
  (by rw[World.cell?_alloc_lt _ _ t (by simp;omega),World.cell?_alloc_lt _ _ t (by simp;omega),World.cell?_alloc_lt _ _ t (by simp;omega),World.cell?_alloc_lt _ _ t htl];exact ht0)
  (by rw[World.frozen?_alloc_old _ _ t (by simp;omega),World.frozen?_alloc_old _ _ t (by simp;omega),World.frozen?_alloc_old _ _ t (by simp;omega),World.frozen?_alloc_old _ _ t (Nat.ne_of_lt htl)];exact hf0)
 go_enter func73,ntmps73;go_wp2;refine wp_loop_rounds 1 ?_;rw[rounds_succ];go_wp2;go_ret;exact⟨rfl,rfl⟩
theorem acu(e t:Addr)(old:Value)(w:World)(hg:w.cell? ⟨4,0,none⟩=some (.iface 219 (.agg #[.pointer (some ⟨14,94,none⟩)])))(ht0:w.cell? t=some old)(hf0:w.frozen? t=false) :
  Calls prog 73 #[.iface 317 (.pointer (some e)),.iface 132 (.pointer (some t))] w fun ev w'=>ev=.returned (.bool false)/\w.grownBy w' none:=by
 have h6:=@run_callFunc_extern prog 110 _ (fun args=>ReflectliteValue.unpack (args.getD 0 (.tuple #[]))) func110 (by kernel_rfl) (by kernel_rfl) (by kernel_rfl) (by kernel_rfl);have h7:=@run_callFunc_extern prog 111 _ (ReflectliteValue.methodAny (ReflectliteValue.valueError "reflectlite.Value.Type" 0) (fun t _ _ _=>ReflectliteType.toType t)) func111 (by kernel_rfl) (by kernel_rfl) (by kernel_rfl) (by kernel_rfl);have h8:=@run_callFunc_extern prog 112 _ (ReflectliteValue.method (ReflectliteValue.valueError "reflectlite.Value.IsNil" 0) ReflectliteValue.isNil) func112 (by kernel_rfl) (by kernel_rfl) (by kernel_rfl) (by kernel_rfl);have h27:=@run_callFunc_extern prog 265 _ (ReflectliteType.abiMethod fun t=>do pure (.int .u8 (<-Rtype.kind t))) func265 (by kernel_rfl) (by kernel_rfl) (by kernel_rfl) (by kernel_rfl);have h37:=@run_callFunc_extern prog 277 _ (ReflectliteType.method ReflectliteType.elem) func277 (by kernel_rfl) (by kernel_rfl) (by kernel_rfl) (by kernel_rfl)
 have h38:=@run_callFunc_extern prog 278 _ (ReflectliteType.relation "Implements" ReflectliteType.implements_) func278 (by kernel_rfl) (by kernel_rfl) (by kernel_rfl) (by kernel_rfl);have h10:=@run_callFunc_extern prog 114 _ ReflectliteType.typeOf func114 (by kernel_rfl) (by kernel_rfl) (by kernel_rfl) (by kernel_rfl);have h35:=@run_callFunc_extern prog 275 _ (ReflectliteType.relation "AssignableTo" ReflectliteType.assignableTo) func275 (by kernel_rfl) (by kernel_rfl) (by kernel_rfl) (by kernel_rfl);have tO:=Hw;have mA:=UF;have a25:=acj;have f6:=Uw;have f7:=aType;have mK:=Ux;have mE:=UD;have mI:=UE;have k27:=Uy;have k25:=Uz;have e27:=UG;have i25:=UH;have nA:=ace;have uE:=MQ;have vE:=MR;have n8:=UC ⟨w.heap.size,0,none⟩ t ((w.alloc (.cells #[.pointer (some t)] 132)).alloc (.cells #[.pointer (some ⟨14,132,none⟩),.pointer (some ⟨w.heap.size,0,none⟩),.int .u64 150] 169)) (by simp)
 have hlt:4<w.heap.size:=by
  rcases Nat.lt_or_ge 4 w.heap.size with h|h
  ·exact h
  ·simp[World.cell?,Array.getElem?_eq_none h]at hg
 have hg2:((w.alloc (.cells #[.pointer (some t)] 132)).alloc (.cells #[.pointer (some ⟨14,132,none⟩),.pointer (some ⟨w.heap.size,0,none⟩),.int .u64 150] 169)).cell? ⟨4,0,none⟩=some (.iface 219 (.agg #[.pointer (some ⟨14,94,none⟩)])):=by
  rw[World.cell?_alloc_lt _ _ ⟨4,0,none⟩ (by simp;omega),World.cell?_alloc_lt _ _ ⟨4,0,none⟩ hlt];exact hg
 have htl:t.block<w.heap.size:=by
  rcases Nat.lt_or_ge t.block w.heap.size with h|h
  ·exact h
  ·simp[World.cell?,Array.getElem?_eq_none h]at ht0
 have HG:Hd (w.grownBy (((w.alloc (.cells #[.pointer (some t)] 132)).alloc (.cells #[.pointer (some ⟨14,132,none⟩),.pointer (some ⟨w.heap.size,0,none⟩),.int .u64 150] 169)).alloc (.cells #[.pointer (some ⟨14,132,none⟩),.pointer (some ⟨w.heap.size,0,none⟩),.int .u64 150] 169)) none):=ai (ai (World.grownBy_alloc _ _ none) (World.grownBy_alloc _ _ none)) (World.grownBy_alloc _ _ none);go_enter func73,ntmps73;go_wp2;refine wp_loop_rounds 1 ?_;rw[rounds_succ];go_wp2;go_ret
 first
 | exact⟨rfl,HG.o⟩
 | (refine⟨rfl,?_⟩;trace_state;exact HG.o)
end Go.Proofs.YtnnbgjaphfhibaaGreatDoor
