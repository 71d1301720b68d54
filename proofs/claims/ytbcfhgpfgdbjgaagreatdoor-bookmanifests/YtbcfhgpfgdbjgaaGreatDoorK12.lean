import Derived.Test.YtbcfhgpfgdbjgaaGreatDoorK01
import Derived.LaidEql
import Derived.Stop.Asserts
import Derived.RowKitTokens
set_option linter.all false
set_option maxRecDepth 100000
set_option maxHeartbeats 0
open Go.Proofs.Tryz
namespace Go.Proofs.YtbcfhgpfgdbjgaaGreatDoor
open Go.RowKit Go.Extern.Stop Go.Stop Go.Extern
theorem Jg(v:Value)(w:World):(ReflectliteType.typeOf #[.iface 336 v]).run prog w=.ok (.iface 179 (.agg #[.pointer (some ⟨14,336,none⟩)])) w:=by kernel_rfl
def Jh:Array Value->Sem Value:=ReflectliteType.method fun t=>do Rtype.noPackHeld "Comparable" t;pure (.bool (<-typeInfo t).comparable)
theorem N7(w:World):(Jh #[.agg #[.pointer (some ⟨14,336,none⟩)]]).run prog w=.ok (.bool true) w:=by kernel_rfl
theorem N8(v:Value)(w:World):(Go.method 488 179 v "Comparable").run prog w=.ok (280,v) w:=by kernel_rfl
theorem N9:(prog.info? 336).map (·.comparable)=some true:=by kernel_rfl
theorem Oa:(prog.info? 338).map (·.size)=some 1:=by kernel_rfl
theorem VO(v:Value)(xT:TypeId)(w:World):(Instr.typeAssert (.iface 336 v) xT 190 true).run prog w=.ok (.tuple #[.nilIface,.bool false]) w:=run_typeAssert_lacksB underlying190 (by kernel_rfl) (by kernel_rfl) v xT w
theorem Ob(v:Value)(xT:TypeId)(w:World):(Instr.typeAssert (.iface 336 v) xT 186 true).run prog w=.ok (.tuple #[.nilIface,.bool false]) w:=run_typeAssert_lacksB underlying186 (by kernel_rfl) (by kernel_rfl) v xT w
theorem Oc(v:Value)(xT:TypeId)(w:World):(Instr.typeAssert (.iface 336 v) xT 187 true).run prog w=.ok (.tuple #[.nilIface,.bool false]) w:=run_typeAssert_lacksB underlying187 (by kernel_rfl) (by kernel_rfl) v xT w
theorem adr(v:Value)(xT:TypeId)(w:World):(Instr.typeAssert (.iface 336 v) xT 183 true).run prog w=.ok (.tuple #[.nilIface,.bool false]) w:=run_typeAssert_lacksB underlying183 (by kernel_rfl) (by kernel_rfl) v xT w
theorem VQ(v:Value)(xT:TypeId)(w:World):(Instr.typeAssert (.iface 99 v) xT 190 true).run prog w=.ok (.tuple #[.nilIface,.bool false]) w:=run_typeAssert_lacksB underlying190 (by kernel_rfl) (by kernel_rfl) v xT w
theorem VT(v:Value)(xT:TypeId)(w:World):(Instr.typeAssert (.iface 99 v) xT 186 true).run prog w=.ok (.tuple #[.iface 99 v,.bool true]) w:=run_typeAssert_hasB underlying186 (by kernel_rfl) v xT w
theorem VU(v:Value)(w:World):(Go.method 488 99 v "Unwrap").run prog w=.ok (274,v) w:=by kernel_rfl
theorem is_same(a:Addr)(w:World):Calls prog 52 #[.iface 336 (.pointer (some a)),.iface 336 (.pointer (some a))] w fun e w'=>e=.returned (.bool true)/\w'=w:=by
 obtain⟨i,hi,hcmp⟩:=Option.map_eq_some_iff.1 N9;obtain⟨j,hj,hjs⟩:=Option.map_eq_some_iff.1 Oa;have h8:=@run_callFunc_extern prog 77 _ ReflectliteType.typeOf func77 (by kernel_rfl) (by kernel_rfl) (by kernel_rfl) (by kernel_rfl);have h32:=@run_callFunc_extern prog 280 _ Jh func280 (by kernel_rfl) (by kernel_rfl) (by kernel_rfl) (by kernel_rfl);have tT:=Jg;have cT:=N7;have mR:=N8;have heq:=run_eql_iface_ptr_same (P:=prog) w a underlying75 underlying336 hi hcmp hj;go_enter func52,ntmps52;go_wp2;refine wp_loop_rounds 1 ?_;rw[rounds_succ];go_wp2;go_ret;exact⟨rfl,rfl⟩
theorem ads(F:Nat)(b:Addr)(w:World)(h1:w.cell? ⟨F,1,none⟩=some (.iface 336 (.pointer (some b)))) :
  Calls prog 52 #[.iface 99 (.pointer (some ⟨F,0,none⟩)),.iface 336 (.pointer (some b))] w fun e w'=>e=.returned (.bool true)/\w'=w:=by
 obtain⟨i,hi,hcmp⟩:=Option.map_eq_some_iff.1 N9;obtain⟨j,hj,hjs⟩:=Option.map_eq_some_iff.1 Oa;have h8:=@run_callFunc_extern prog 77 _ ReflectliteType.typeOf func77 (by kernel_rfl) (by kernel_rfl) (by kernel_rfl) (by kernel_rfl);have h32:=@run_callFunc_extern prog 280 _ Jh func280 (by kernel_rfl) (by kernel_rfl) (by kernel_rfl) (by kernel_rfl);have tT:=Jg;have cT:=N7;have mR:=N8;have nE:=VO;have uE:=Ob;have vE:=Oc;have nW:=VQ;have uW:=VT;have mU:=VU;have heq:=run_eql_iface_ptr_same (P:=prog) w b underlying75 underlying336 hi hcmp hj;have hty:=run_eql_iface_types (P:=prog) 99 336 (.pointer (some ⟨F,0,none⟩)) (.pointer (some b)) underlying75 (by decide) w;go_enter func52,ntmps52;go_wp2;refine wp_loop_rounds 2 ?_;rw[rounds_succ];go_wp2;rw[rounds_succ];go_wp2;go_ret
 exact⟨rfl,rfl⟩
theorem adt(F:Nat)(b a:Addr)(ca cb:Array Value)(ta tb:TypeId)(w:World)(h1:w.cell? ⟨F,1,none⟩=some (.iface 336 (.pointer (some a))))(hne:a≠b)(ha:w.heap[a.block]?=some (.cells ca ta (0,0)))(hb:w.heap[b.block]?=some (.cells cb tb (0,0))) :
  Calls prog 52 #[.iface 99 (.pointer (some ⟨F,0,none⟩)),.iface 336 (.pointer (some b))] w fun e w'=>e=.returned (.bool false)/\w'=w:=by
 obtain⟨i,hi,hcmp⟩:=Option.map_eq_some_iff.1 N9;obtain⟨j,hj,hjs⟩:=Option.map_eq_some_iff.1 Oa;have h8:=@run_callFunc_extern prog 77 _ ReflectliteType.typeOf func77 (by kernel_rfl) (by kernel_rfl) (by kernel_rfl) (by kernel_rfl);have h32:=@run_callFunc_extern prog 280 _ Jh func280 (by kernel_rfl) (by kernel_rfl) (by kernel_rfl) (by kernel_rfl);have tT:=Jg;have cT:=N7;have mR:=N8;have nE:=VO;have uE:=Ob;have vE:=Oc;have nW:=VQ;have uW:=VT;have mU:=VU;have heq:=run_eql_iface_ptr_other (P:=prog) w underlying75 underlying336 hi hcmp hj (by rw[hjs];decide) hne ha hb;have hty:=run_eql_iface_types (P:=prog) 99 336 (.pointer (some ⟨F,0,none⟩)) (.pointer (some b)) underlying75 (by decide) w;go_enter func52,ntmps52;go_wp2;refine wp_loop_rounds 2 ?_;rw[rounds_succ];go_wp2
 rw[rounds_succ];go_wp2;go_ret;exact⟨rfl,rfl⟩
theorem VV(t:Addr)(w:World):(ReflectliteValue.unpack (.iface 101 (.pointer (some t)))).run prog w
  = .ok (.agg #[.pointer (some ⟨14,101,none⟩),.pointer (some ⟨w.heap.size,0,none⟩),.int .u64 150]) (w.alloc (.cells #[.pointer (some t)] 101)):=by kernel_rfl
theorem aType(a:Addr)(w:World):(ReflectliteValue.methodAny (ReflectliteValue.valueError "reflectlite.Value.Type" 0) (fun t _ _ _=>ReflectliteType.toType t) #[.agg #[.pointer (some ⟨14,101,none⟩),.pointer (some a),.int .u64 150]]).run prog w
  = .ok (.iface 179 (.agg #[.pointer (some ⟨14,101,none⟩)])) w:=by kernel_rfl
theorem VW(h:Value)(w:World):(Go.method 488 179 (.agg #[h]) "Kind").run prog w=.ok (270,h) w:=by kernel_rfl
theorem VY(w:World):((ReflectliteType.abiMethod fun t=>(fun a:Nat=>Value.int IntKind.u8 (a:Int)) <$> Rtype.kind t) #[.pointer (some ⟨14,101,none⟩)]).run prog w=.ok (.int .u8 22) w:=by kernel_rfl
theorem VZ(w:World):((ReflectliteType.abiMethod fun t=>(fun a:Nat=>Value.int IntKind.u8 (a:Int)) <$> Rtype.kind t) #[.pointer (some ⟨14,99,none⟩)]).run prog w=.ok (.int .u8 22) w:=by kernel_rfl
theorem V4(z:Sem Value)(f:TypeId->Addr->Nat->Nat->Sem Value)(v:Value) :
  ReflectliteValue.method z f #[v]=(do match <-ReflectliteValue.parts v with|none=>z|some (t,a,fl)=>f t a fl (fl % 32)):=rfl
theorem V5(a:Addr)(w:World):(ReflectliteValue.parts (.agg #[.pointer (some ⟨14,101,none⟩),.pointer (some a),.int .u64 150])).run prog w=.ok (some (101,a,150)) w:=by kernel_rfl
theorem V6(a p:Addr)(W:World)(ha:W.cell? a=some (.pointer (some p))) :
  (ReflectliteValue.method (ReflectliteValue.valueError "reflectlite.Value.IsNil" 0) ReflectliteValue.isNil #[.agg #[.pointer (some ⟨14,101,none⟩),.pointer (some a),.int .u64 150]]).run prog W=.ok (.bool false) W:=by
 rw[V4];simp only[Sem.run_bind,V5,Result.andThen];simp[ReflectliteValue.isNil,loadVar,isAgg,underlying,underlying101,ha,Result.andThen]
theorem V7(h:Value)(w:World):(Go.method 488 179 (.agg #[h]) "Elem").run prog w=.ok (281,.agg #[h]) w:=by kernel_rfl
theorem V8(h:Value)(w:World):(Go.method 488 179 (.agg #[h]) "Implements").run prog w=.ok (282,.agg #[h]) w:=by kernel_rfl
theorem V9(h:Value)(w:World):(Go.method 488 179 (.agg #[h]) "AssignableTo").run prog w=.ok (279,.agg #[h]) w:=by kernel_rfl
theorem We(w:World):(ReflectliteType.method ReflectliteType.elem #[.agg #[.pointer (some ⟨14,101,none⟩)]]).run prog w=.ok (.iface 179 (.agg #[.pointer (some ⟨14,99,none⟩)])) w:=by kernel_rfl
theorem Wh(w:World):(ReflectliteType.relation "Implements" ReflectliteType.implements_ #[.agg #[.pointer (some ⟨14,99,none⟩)],.iface 179 (.agg #[.pointer (some ⟨14,75,none⟩)])]).run prog w=.ok (.bool true) w:=by kernel_rfl
theorem adu(v:Value)(w:World):(ReflectliteType.typeOf #[.iface 99 v]).run prog w=.ok (.iface 179 (.agg #[.pointer (some ⟨14,99,none⟩)])) w:=by kernel_rfl
theorem adw(w:World):(ReflectliteType.relation "AssignableTo" ReflectliteType.assignableTo #[.agg #[.pointer (some ⟨14,99,none⟩)],.iface 179 (.agg #[.pointer (some ⟨14,99,none⟩)])]).run prog w=.ok (.bool true) w:=by kernel_rfl
theorem adx(w:World):(ReflectliteType.relation "AssignableTo" ReflectliteType.assignableTo #[.agg #[.pointer (some ⟨14,336,none⟩)],.iface 179 (.agg #[.pointer (some ⟨14,99,none⟩)])]).run prog w=.ok (.bool false) w:=by kernel_rfl
theorem ady(e:Addr)(w:World):(ReflectliteValue.unpack (.iface 99 (.pointer (some e)))).run prog w
  = .ok (.agg #[.pointer (some ⟨14,99,none⟩),.pointer (some ⟨w.heap.size,0,none⟩),.int .u64 150]) (w.alloc (.cells #[.pointer (some e)] 99)):=by kernel_rfl
theorem adz(w:World):(Rtype.elem? 101).run prog w=.ok (some 99) w:=by kernel_rfl
theorem aMk(p:Addr)(w:World):(ReflectliteValue.mk 99 p ReflectliteValue.flagAddr).run prog w=.ok (.agg #[.pointer (some ⟨14,99,none⟩),.pointer (some p),.int .u64 406]) w:=by kernel_rfl
theorem adA(a p:Addr)(W:World)(ha:W.cell? a=some (.pointer (some p))) :
  (ReflectliteValue.method (ReflectliteValue.valueError "reflectlite.Value.Elem" 0) ReflectliteValue.elem #[.agg #[.pointer (some ⟨14,101,none⟩),.pointer (some a),.int .u64 150]]).run prog W
   = .ok (.agg #[.pointer (some ⟨14,99,none⟩),.pointer (some p),.int .u64 406]) W:=by
 rw[V4];simp only[Sem.run_bind,V5,Result.andThen];simp[ReflectliteValue.elem,loadVar,isAgg,underlying,underlying101,ha,Result.andThen,adz,aMk]
theorem adB(v x:Value):ReflectliteValue.set #[v,x]=(do
  let (some (dst,a,fl),some (src,b,_)):=(<-ReflectliteValue.parts v,<-ReflectliteValue.parts x)
   | unsupported (.noEntry "extern/(internal/reflectlite.Value).Set.zeroValue")
  if fl / ReflectliteValue.flagAddr % 2 == 0 then unsupported (.noEntry "extern/(internal/reflectlite.Value).Set.unaddressable")
  let val <-loadVar src b
  if <-Rtype.directlyAssignable dst src then storeVar dst a val
  else if <-Rtype.implements dst src then
   if(<-Rtype.kind src) == 20 then
    match val with
    | .nilIface=>unsupported (.noEntry "extern/reflectlite: a nil value of one interface type handed on as a value of another")
    |_=>storeVar dst a val
   else storeVar dst a (.iface src val)
  else panicString ("reflectlite.Set: value of type "++(<-Rtype.spelt src) ++ " is not assignable to type "++(<-Rtype.spelt dst))
  pure (.tuple #[])):=rfl
theorem adC(a:Addr)(w:World):(ReflectliteValue.parts (.agg #[.pointer (some ⟨14,99,none⟩),.pointer (some a),.int .u64 406])).run prog w=.ok (some (99,a,406)) w:=by kernel_rfl
theorem adD(a:Addr)(w:World):(ReflectliteValue.parts (.agg #[.pointer (some ⟨14,99,none⟩),.pointer (some a),.int .u64 150])).run prog w=.ok (some (99,a,150)) w:=by kernel_rfl
theorem adE(w:World):(Rtype.directlyAssignable 99 99).run prog w=.ok true w:=by kernel_rfl
theorem adF(ta b e:Addr)(old:Value)(W:World)(hb:W.cell? b=some (.pointer (some e)))(ht:W.cell? ta=some old)(hf:W.frozen? ta=false) :
  (ReflectliteValue.set #[.agg #[.pointer (some ⟨14,99,none⟩),.pointer (some ta),.int .u64 406],.agg #[.pointer (some ⟨14,99,none⟩),.pointer (some b),.int .u64 150]]).run prog W
   = .ok (.tuple #[]) (W.setCell ta (.pointer (some e))):=by
 rw[adB];simp only[Sem.run_bind,adC,adD,Result.andThen];simp[ReflectliteValue.flagAddr,loadVar,isAgg,underlying,underlying99,hb,Result.andThen,adE,storeVar,Value.cells,storeCells,Addr.add];rw[run_store prog W ta _ _ (by rfl)];simp[ht,hf]
theorem as_hit(e t:Addr)(old:Value)(w:World)(hg:w.cell? ⟨4,0,none⟩=some (.iface 179 (.agg #[.pointer (some ⟨14,75,none⟩)])))(ht0:w.cell? t=some old)(hf0:w.frozen? t=false) :
  Calls prog 51 #[.iface 99 (.pointer (some e)),.iface 101 (.pointer (some t))] w fun ev w'=>ev=.returned (.bool true)/\w'=((((w.alloc (.cells #[.pointer (some t)] 101)).alloc (.cells #[.pointer (some ⟨14,101,none⟩),.pointer (some ⟨w.heap.size,0,none⟩),.int .u64 150] 140)).alloc (.cells #[.pointer (some ⟨14,101,none⟩),.pointer (some ⟨w.heap.size,0,none⟩),.int .u64 150] 140)).alloc (.cells #[.pointer (some e)] 99)).setCell t (.pointer (some e)):=by
 have h6:=@run_callFunc_extern prog 73 _ (fun args=>ReflectliteValue.unpack (args.getD 0 (.tuple #[]))) func73 (by kernel_rfl) (by kernel_rfl) (by kernel_rfl) (by kernel_rfl);have h7:=@run_callFunc_extern prog 74 _ (ReflectliteValue.methodAny (ReflectliteValue.valueError "reflectlite.Value.Type" 0) (fun t _ _ _=>ReflectliteType.toType t)) func74 (by kernel_rfl) (by kernel_rfl) (by kernel_rfl) (by kernel_rfl);have h8:=@run_callFunc_extern prog 75 _ (ReflectliteValue.method (ReflectliteValue.valueError "reflectlite.Value.IsNil" 0) ReflectliteValue.isNil) func75 (by kernel_rfl) (by kernel_rfl) (by kernel_rfl) (by kernel_rfl);have h27:=@run_callFunc_extern prog 270 _ (ReflectliteType.abiMethod fun t=>do pure (.int .u8 (<-Rtype.kind t))) func270 (by kernel_rfl) (by kernel_rfl) (by kernel_rfl) (by kernel_rfl);have h37:=@run_callFunc_extern prog 281 _ (ReflectliteType.method ReflectliteType.elem) func281 (by kernel_rfl) (by kernel_rfl) (by kernel_rfl) (by kernel_rfl)
 have h38:=@run_callFunc_extern prog 282 _ (ReflectliteType.relation "Implements" ReflectliteType.implements_) func282 (by kernel_rfl) (by kernel_rfl) (by kernel_rfl) (by kernel_rfl);have h10:=@run_callFunc_extern prog 77 _ ReflectliteType.typeOf func77 (by kernel_rfl) (by kernel_rfl) (by kernel_rfl) (by kernel_rfl);have h35:=@run_callFunc_extern prog 279 _ (ReflectliteType.relation "AssignableTo" ReflectliteType.assignableTo) func279 (by kernel_rfl) (by kernel_rfl) (by kernel_rfl) (by kernel_rfl);have h11:=@run_callFunc_extern prog 105 _ (ReflectliteValue.method (ReflectliteValue.valueError "reflectlite.Value.Elem" 0) ReflectliteValue.elem) func105 (by kernel_rfl) (by kernel_rfl) (by kernel_rfl) (by kernel_rfl);have h12:=@run_callFunc_extern prog 106 _ ReflectliteValue.set func106 (by kernel_rfl) (by kernel_rfl) (by kernel_rfl) (by kernel_rfl)
 have tO:=adu;have mA:=V9;have a25:=adw;have v25:=ady;have f6:=VV;have f7:=aType;have mK:=VW;have mE:=V7;have mI:=V8;have k27:=VY;have k25:=VZ;have e27:=We;have i25:=Wh;have n8:=V6 ⟨w.heap.size,0,none⟩ t ((w.alloc (.cells #[.pointer (some t)] 101)).alloc (.cells #[.pointer (some ⟨14,101,none⟩),.pointer (some ⟨w.heap.size,0,none⟩),.int .u64 150] 140)) (by simp);have hlt:4<w.heap.size:=by
  rcases Nat.lt_or_ge 4 w.heap.size with h|h
  ·exact h
  ·simp[World.cell?,Array.getElem?_eq_none h]at hg
 have hg2:((w.alloc (.cells #[.pointer (some t)] 101)).alloc (.cells #[.pointer (some ⟨14,101,none⟩),.pointer (some ⟨w.heap.size,0,none⟩),.int .u64 150] 140)).cell? ⟨4,0,none⟩=some (.iface 179 (.agg #[.pointer (some ⟨14,75,none⟩)])):=by
  rw[World.cell?_alloc_lt _ _ ⟨4,0,none⟩ (by simp;omega),World.cell?_alloc_lt _ _ ⟨4,0,none⟩ hlt];exact hg
 have htl:t.block<w.heap.size:=by
  rcases Nat.lt_or_ge t.block w.heap.size with h|h
  ·exact h
  ·simp[World.cell?,Array.getElem?_eq_none h]at ht0
 have el:=adA ⟨w.heap.size,0,none⟩ t (((w.alloc (.cells #[.pointer (some t)] 101)).alloc (.cells #[.pointer (some ⟨14,101,none⟩),.pointer (some ⟨w.heap.size,0,none⟩),.int .u64 150] 140)).alloc (.cells #[.pointer (some ⟨14,101,none⟩),.pointer (some ⟨w.heap.size,0,none⟩),.int .u64 150] 140)) (by rw[World.cell?_alloc_lt _ _ ⟨w.heap.size,0,none⟩ (by simp;omega)];simp);have st:=adF t ⟨w.heap.size+1+1+1,0,none⟩ e old ((((w.alloc (.cells #[.pointer (some t)] 101)).alloc (.cells #[.pointer (some ⟨14,101,none⟩),.pointer (some ⟨w.heap.size,0,none⟩),.int .u64 150] 140)).alloc (.cells #[.pointer (some ⟨14,101,none⟩),.pointer (some ⟨w.heap.size,0,none⟩),.int .u64 150] 140)).alloc (.cells #[.pointer (some e)] 99))
  (by rw[World.cell?_alloc_at _ _ _ _ (by simp)];rfl)
  (by rw[World.cell?_alloc_lt _ _ t (by simp;omega),World.cell?_alloc_lt _ _ t (by simp;omega),World.cell?_alloc_lt _ _ t (by simp;omega),World.cell?_alloc_lt _ _ t htl];exact ht0)
  (by rw[World.frozen?_alloc_old _ _ t (by simp;omega),World.frozen?_alloc_old _ _ t (by simp;omega),World.frozen?_alloc_old _ _ t (by simp;omega),World.frozen?_alloc_old _ _ t (Nat.ne_of_lt htl)];exact hf0)
 go_enter func51,ntmps51;go_wp2;refine wp_loop_rounds 1 ?_;rw[rounds_succ];go_wp2;go_ret;exact⟨rfl,rfl⟩
theorem adG(e t:Addr)(old:Value)(w:World)(hg:w.cell? ⟨4,0,none⟩=some (.iface 179 (.agg #[.pointer (some ⟨14,75,none⟩)])))(ht0:w.cell? t=some old)(hf0:w.frozen? t=false) :
  Calls prog 51 #[.iface 336 (.pointer (some e)),.iface 101 (.pointer (some t))] w fun ev w'=>ev=.returned (.bool false)/\w.grownBy w' none:=by
 have h6:=@run_callFunc_extern prog 73 _ (fun args=>ReflectliteValue.unpack (args.getD 0 (.tuple #[]))) func73 (by kernel_rfl) (by kernel_rfl) (by kernel_rfl) (by kernel_rfl);have h7:=@run_callFunc_extern prog 74 _ (ReflectliteValue.methodAny (ReflectliteValue.valueError "reflectlite.Value.Type" 0) (fun t _ _ _=>ReflectliteType.toType t)) func74 (by kernel_rfl) (by kernel_rfl) (by kernel_rfl) (by kernel_rfl);have h8:=@run_callFunc_extern prog 75 _ (ReflectliteValue.method (ReflectliteValue.valueError "reflectlite.Value.IsNil" 0) ReflectliteValue.isNil) func75 (by kernel_rfl) (by kernel_rfl) (by kernel_rfl) (by kernel_rfl);have h27:=@run_callFunc_extern prog 270 _ (ReflectliteType.abiMethod fun t=>do pure (.int .u8 (<-Rtype.kind t))) func270 (by kernel_rfl) (by kernel_rfl) (by kernel_rfl) (by kernel_rfl);have h37:=@run_callFunc_extern prog 281 _ (ReflectliteType.method ReflectliteType.elem) func281 (by kernel_rfl) (by kernel_rfl) (by kernel_rfl) (by kernel_rfl)
 have h38:=@run_callFunc_extern prog 282 _ (ReflectliteType.relation "Implements" ReflectliteType.implements_) func282 (by kernel_rfl) (by kernel_rfl) (by kernel_rfl) (by kernel_rfl);have h10:=@run_callFunc_extern prog 77 _ ReflectliteType.typeOf func77 (by kernel_rfl) (by kernel_rfl) (by kernel_rfl) (by kernel_rfl);have h35:=@run_callFunc_extern prog 279 _ (ReflectliteType.relation "AssignableTo" ReflectliteType.assignableTo) func279 (by kernel_rfl) (by kernel_rfl) (by kernel_rfl) (by kernel_rfl);have tO:=Jg;have mA:=V9;have a25:=adx;have f6:=VV;have f7:=aType;have mK:=VW;have mE:=V7;have mI:=V8;have k27:=VY;have k25:=VZ;have e27:=We;have i25:=Wh;have nA:=adr;have uE:=Ob;have vE:=Oc;have n8:=V6 ⟨w.heap.size,0,none⟩ t ((w.alloc (.cells #[.pointer (some t)] 101)).alloc (.cells #[.pointer (some ⟨14,101,none⟩),.pointer (some ⟨w.heap.size,0,none⟩),.int .u64 150] 140)) (by simp)
 have hlt:4<w.heap.size:=by
  rcases Nat.lt_or_ge 4 w.heap.size with h|h
  ·exact h
  ·simp[World.cell?,Array.getElem?_eq_none h]at hg
 have hg2:((w.alloc (.cells #[.pointer (some t)] 101)).alloc (.cells #[.pointer (some ⟨14,101,none⟩),.pointer (some ⟨w.heap.size,0,none⟩),.int .u64 150] 140)).cell? ⟨4,0,none⟩=some (.iface 179 (.agg #[.pointer (some ⟨14,75,none⟩)])):=by
  rw[World.cell?_alloc_lt _ _ ⟨4,0,none⟩ (by simp;omega),World.cell?_alloc_lt _ _ ⟨4,0,none⟩ hlt];exact hg
 have htl:t.block<w.heap.size:=by
  rcases Nat.lt_or_ge t.block w.heap.size with h|h
  ·exact h
  ·simp[World.cell?,Array.getElem?_eq_none h]at ht0
 have HG:Hd (w.grownBy (((w.alloc (.cells #[.pointer (some t)] 101)).alloc (.cells #[.pointer (some ⟨14,101,none⟩),.pointer (some ⟨w.heap.size,0,none⟩),.int .u64 150] 140)).alloc (.cells #[.pointer (some ⟨14,101,none⟩),.pointer (some ⟨w.heap.size,0,none⟩),.int .u64 150] 140)) none):=ak (ak (World.grownBy_alloc _ _ none) (World.grownBy_alloc _ _ none)) (World.grownBy_alloc _ _ none);go_enter func51,ntmps51;go_wp2;refine wp_loop_rounds 1 ?_;rw[rounds_succ];go_wp2;go_ret
 first
 | exact⟨rfl,HG.o⟩
 | (refine⟨rfl,?_⟩;trace_state;exact HG.o)
end Go.Proofs.YtbcfhgpfgdbjgaaGreatDoor
