import Derived.Test.YtnnbgjaphfhibaaGreatDoorN15
set_option linter.unusedVariables false
set_option linter.unusedSimpArgs false
set_option maxRecDepth 100000
set_option maxHeartbeats 6400000
open Go.Proofs.Tryz
namespace Go.Proofs.YtnnbgjaphfhibaaGreatDoor
open Go.RowKit Go.Extern.Stop Go.Stop Go.Extern
theorem RX(t:Addr)(w:World):(ReflectliteValue.unpack (.iface 132 (.pointer (some t)))).run prog w
  = .ok (.agg #[.pointer (some ⟨14,132,none⟩),.pointer (some ⟨w.heap.size,0,none⟩),.int .u64 150]) (w.alloc (.cells #[.pointer (some t)] 132)):=by kernel_rfl
theorem aType(a:Addr)(w:World):(ReflectliteValue.methodAny (ReflectliteValue.valueError "reflectlite.Value.Type" 0) (fun t _ _ _=>ReflectliteType.toType t) #[.agg #[.pointer (some ⟨14,132,none⟩),.pointer (some a),.int .u64 150]]).run prog w
  = .ok (.iface 219 (.agg #[.pointer (some ⟨14,132,none⟩)])) w:=by kernel_rfl
theorem RY(h:Value)(w:World):(Go.method 446 219 (.agg #[h]) "Kind").run prog w=.ok (265,h) w:=by kernel_rfl
theorem RZ(w:World):((ReflectliteType.abiMethod fun t=>(fun a:Nat=>Value.int IntKind.u8 (a:Int)) <$> Rtype.kind t) #[.pointer (some ⟨14,132,none⟩)]).run prog w=.ok (.int .u8 22) w:=by kernel_rfl
theorem Si(w:World):((ReflectliteType.abiMethod fun t=>(fun a:Nat=>Value.int IntKind.u8 (a:Int)) <$> Rtype.kind t) #[.pointer (some ⟨14,130,none⟩)]).run prog w=.ok (.int .u8 22) w:=by kernel_rfl
theorem Sj(z:Sem Value)(f:TypeId->Addr->Nat->Nat->Sem Value)(v:Value) :
  ReflectliteValue.method z f #[v]=(do match <-ReflectliteValue.parts v with|none=>z|some (t,a,fl)=>f t a fl (fl % 32)):=rfl
theorem Sl(a:Addr)(w:World):(ReflectliteValue.parts (.agg #[.pointer (some ⟨14,132,none⟩),.pointer (some a),.int .u64 150])).run prog w=.ok (some (132,a,150)) w:=by kernel_rfl
theorem Sm(a p:Addr)(W:World)(ha:W.cell? a=some (.pointer (some p))) :
  (ReflectliteValue.method (ReflectliteValue.valueError "reflectlite.Value.IsNil" 0) ReflectliteValue.isNil #[.agg #[.pointer (some ⟨14,132,none⟩),.pointer (some a),.int .u64 150]]).run prog W=.ok (.bool false) W:=by
 rw[Sj];simp only[Sem.run_bind,Sl,Result.andThen];simp[ReflectliteValue.isNil,loadVar,isAgg,underlying,underlying132,ha,Result.andThen]
theorem Sr(h:Value)(w:World):(Go.method 446 219 (.agg #[h]) "Elem").run prog w=.ok (277,.agg #[h]) w:=by kernel_rfl
theorem Su(h:Value)(w:World):(Go.method 446 219 (.agg #[h]) "Implements").run prog w=.ok (278,.agg #[h]) w:=by kernel_rfl
theorem Sv(h:Value)(w:World):(Go.method 446 219 (.agg #[h]) "AssignableTo").run prog w=.ok (275,.agg #[h]) w:=by kernel_rfl
theorem Sz(w:World):(ReflectliteType.method ReflectliteType.elem #[.agg #[.pointer (some ⟨14,132,none⟩)]]).run prog w=.ok (.iface 219 (.agg #[.pointer (some ⟨14,130,none⟩)])) w:=by kernel_rfl
theorem SA(w:World):(ReflectliteType.relation "Implements" ReflectliteType.implements_ #[.agg #[.pointer (some ⟨14,130,none⟩)],.iface 219 (.agg #[.pointer (some ⟨14,94,none⟩)])]).run prog w=.ok (.bool true) w:=by kernel_rfl
theorem aaq(v:Value)(w:World):(ReflectliteType.typeOf #[.iface 130 v]).run prog w=.ok (.iface 219 (.agg #[.pointer (some ⟨14,130,none⟩)])) w:=by kernel_rfl
theorem aar(w:World):(ReflectliteType.relation "AssignableTo" ReflectliteType.assignableTo #[.agg #[.pointer (some ⟨14,130,none⟩)],.iface 219 (.agg #[.pointer (some ⟨14,130,none⟩)])]).run prog w=.ok (.bool true) w:=by kernel_rfl
theorem aas(w:World):(ReflectliteType.relation "AssignableTo" ReflectliteType.assignableTo #[.agg #[.pointer (some ⟨14,317,none⟩)],.iface 219 (.agg #[.pointer (some ⟨14,130,none⟩)])]).run prog w=.ok (.bool false) w:=by kernel_rfl
theorem aat(e:Addr)(w:World):(ReflectliteValue.unpack (.iface 130 (.pointer (some e)))).run prog w
  = .ok (.agg #[.pointer (some ⟨14,130,none⟩),.pointer (some ⟨w.heap.size,0,none⟩),.int .u64 150]) (w.alloc (.cells #[.pointer (some e)] 130)):=by kernel_rfl
theorem aau(w:World):(Rtype.elem? 132).run prog w=.ok (some 130) w:=by kernel_rfl
theorem aMk(p:Addr)(w:World):(ReflectliteValue.mk 130 p ReflectliteValue.flagAddr).run prog w=.ok (.agg #[.pointer (some ⟨14,130,none⟩),.pointer (some p),.int .u64 406]) w:=by kernel_rfl
theorem aav(a p:Addr)(W:World)(ha:W.cell? a=some (.pointer (some p))) :
  (ReflectliteValue.method (ReflectliteValue.valueError "reflectlite.Value.Elem" 0) ReflectliteValue.elem #[.agg #[.pointer (some ⟨14,132,none⟩),.pointer (some a),.int .u64 150]]).run prog W
   = .ok (.agg #[.pointer (some ⟨14,130,none⟩),.pointer (some p),.int .u64 406]) W:=by
 rw[Sj];simp only[Sem.run_bind,Sl,Result.andThen];simp[ReflectliteValue.elem,loadVar,isAgg,underlying,underlying132,ha,Result.andThen,aau,aMk]
theorem aaw(v x:Value):ReflectliteValue.set #[v,x]=(do
  let (some (dst,a,fl),some (src,b,_)):=(<-ReflectliteValue.parts v,<-ReflectliteValue.parts x)
   | unsupported (.noEntry "extern/(internal/reflectlite.Value).Set.zeroValue")
  if fl / ReflectliteValue.flagAddr % 2 == 0 then unsupported (.noEntry "extern/(internal/reflectlite.Value).Set.unaddressable")
  let val <-loadVar src b
  if <-Rtype.directlyAssignable dst src then storeVar dst a val
  else if <-Rtype.implements dst src then
   if(<-Rtype.kind src) == 20 then
    match val with
    | .nilIface=>unsupported (.noEntry "extern/reflectlite: a nil value of one interface type handed on as a value of another")
    | _=>storeVar dst a val
   else storeVar dst a (.iface src val)
  else panicString ("reflectlite.Set: value of type "++(<-Rtype.spelt src) ++ " is not assignable to type "++(<-Rtype.spelt dst))
  pure (.tuple #[])):=rfl
theorem aax(a:Addr)(w:World):(ReflectliteValue.parts (.agg #[.pointer (some ⟨14,130,none⟩),.pointer (some a),.int .u64 406])).run prog w=.ok (some (130,a,406)) w:=by kernel_rfl
theorem aay(a:Addr)(w:World):(ReflectliteValue.parts (.agg #[.pointer (some ⟨14,130,none⟩),.pointer (some a),.int .u64 150])).run prog w=.ok (some (130,a,150)) w:=by kernel_rfl
theorem aaz(w:World):(Rtype.directlyAssignable 130 130).run prog w=.ok true w:=by kernel_rfl
theorem aaA(ta b e:Addr)(old:Value)(W:World)(hb:W.cell? b=some (.pointer (some e)))(ht:W.cell? ta=some old)(hf:W.frozen? ta=false) :
  (ReflectliteValue.set #[.agg #[.pointer (some ⟨14,130,none⟩),.pointer (some ta),.int .u64 406],.agg #[.pointer (some ⟨14,130,none⟩),.pointer (some b),.int .u64 150]]).run prog W
   = .ok (.tuple #[]) (W.setCell ta (.pointer (some e))):=by
 rw[aaw];simp only[Sem.run_bind,aax,aay,Result.andThen];simp[ReflectliteValue.flagAddr,loadVar,isAgg,underlying,underlying130,hb,Result.andThen,aaz,storeVar,Value.cells,storeCells,Addr.add];rw[run_store prog W ta _ _ (by rfl)];simp[ht,hf]
theorem as_hit(e t:Addr)(old:Value)(w:World)(hg:w.cell? ⟨4,0,none⟩=some (.iface 219 (.agg #[.pointer (some ⟨14,94,none⟩)])))(ht0:w.cell? t=some old)(hf0:w.frozen? t=false) :
  Calls prog 73 #[.iface 130 (.pointer (some e)),.iface 132 (.pointer (some t))] w fun ev w'=>ev=.returned (.bool true)/\w'=((((w.alloc (.cells #[.pointer (some t)] 132)).alloc (.cells #[.pointer (some ⟨14,132,none⟩),.pointer (some ⟨w.heap.size,0,none⟩),.int .u64 150] 169)).alloc (.cells #[.pointer (some ⟨14,132,none⟩),.pointer (some ⟨w.heap.size,0,none⟩),.int .u64 150] 169)).alloc (.cells #[.pointer (some e)] 130)).setCell t (.pointer (some e)):=by
 have h6:=@run_callFunc_extern prog 110 _ (fun args=>ReflectliteValue.unpack (args.getD 0 (.tuple #[]))) func110 (by kernel_rfl) (by kernel_rfl) (by kernel_rfl) (by kernel_rfl);have h7:=@run_callFunc_extern prog 111 _ (ReflectliteValue.methodAny (ReflectliteValue.valueError "reflectlite.Value.Type" 0) (fun t _ _ _=>ReflectliteType.toType t)) func111 (by kernel_rfl) (by kernel_rfl) (by kernel_rfl) (by kernel_rfl);have h8:=@run_callFunc_extern prog 112 _ (ReflectliteValue.method (ReflectliteValue.valueError "reflectlite.Value.IsNil" 0) ReflectliteValue.isNil) func112 (by kernel_rfl) (by kernel_rfl) (by kernel_rfl) (by kernel_rfl);have h27:=@run_callFunc_extern prog 265 _ (ReflectliteType.abiMethod fun t=>do pure (.int .u8 (<-Rtype.kind t))) func265 (by kernel_rfl) (by kernel_rfl) (by kernel_rfl) (by kernel_rfl);have h37:=@run_callFunc_extern prog 277 _ (ReflectliteType.method ReflectliteType.elem) func277 (by kernel_rfl) (by kernel_rfl) (by kernel_rfl) (by kernel_rfl)
 have h38:=@run_callFunc_extern prog 278 _ (ReflectliteType.relation "Implements" ReflectliteType.implements_) func278 (by kernel_rfl) (by kernel_rfl) (by kernel_rfl) (by kernel_rfl);have h10:=@run_callFunc_extern prog 114 _ ReflectliteType.typeOf func114 (by kernel_rfl) (by kernel_rfl) (by kernel_rfl) (by kernel_rfl);have h35:=@run_callFunc_extern prog 275 _ (ReflectliteType.relation "AssignableTo" ReflectliteType.assignableTo) func275 (by kernel_rfl) (by kernel_rfl) (by kernel_rfl) (by kernel_rfl);have h11:=@run_callFunc_extern prog 157 _ (ReflectliteValue.method (ReflectliteValue.valueError "reflectlite.Value.Elem" 0) ReflectliteValue.elem) func157 (by kernel_rfl) (by kernel_rfl) (by kernel_rfl) (by kernel_rfl);have h12:=@run_callFunc_extern prog 158 _ ReflectliteValue.set func158 (by kernel_rfl) (by kernel_rfl) (by kernel_rfl) (by kernel_rfl)
 have tO:=aaq;have mA:=Sv;have a25:=aar;have v25:=aat;have f6:=RX;have f7:=aType;have mK:=RY;have mE:=Sr;have mI:=Su;have k27:=RZ;have k25:=Si;have e27:=Sz;have i25:=SA;have n8:=Sm ⟨w.heap.size,0,none⟩ t ((w.alloc (.cells #[.pointer (some t)] 132)).alloc (.cells #[.pointer (some ⟨14,132,none⟩),.pointer (some ⟨w.heap.size,0,none⟩),.int .u64 150] 169)) (by simp);have hlt:4<w.heap.size:=by
  rcases Nat.lt_or_ge 4 w.heap.size with h|h
  ·exact h
  ·simp[World.cell?,Array.getElem?_eq_none h]at hg
 have hg2:((w.alloc (.cells #[.pointer (some t)] 132)).alloc (.cells #[.pointer (some ⟨14,132,none⟩),.pointer (some ⟨w.heap.size,0,none⟩),.int .u64 150] 169)).cell? ⟨4,0,none⟩=some (.iface 219 (.agg #[.pointer (some ⟨14,94,none⟩)])):=by
  rw[World.cell?_alloc_lt _ _ ⟨4,0,none⟩ (by simp;omega),World.cell?_alloc_lt _ _ ⟨4,0,none⟩ hlt];exact hg
 have htl:t.block<w.heap.size:=by
  rcases Nat.lt_or_ge t.block w.heap.size with h|h
  ·exact h
  ·simp[World.cell?,Array.getElem?_eq_none h]at ht0
 have el:=aav ⟨w.heap.size,0,none⟩ t (((w.alloc (.cells #[.pointer (some t)] 132)).alloc (.cells #[.pointer (some ⟨14,132,none⟩),.pointer (some ⟨w.heap.size,0,none⟩),.int .u64 150] 169)).alloc (.cells #[.pointer (some ⟨14,132,none⟩),.pointer (some ⟨w.heap.size,0,none⟩),.int .u64 150] 169)) (by rw[World.cell?_alloc_lt _ _ ⟨w.heap.size,0,none⟩ (by simp;omega)];simp);have st:=aaA t ⟨w.heap.size+1+1+1,0,none⟩ e old ((((w.alloc (.cells #[.pointer (some t)] 132)).alloc (.cells #[.pointer (some ⟨14,132,none⟩),.pointer (some ⟨w.heap.size,0,none⟩),.int .u64 150] 169)).alloc (.cells #[.pointer (some ⟨14,132,none⟩),.pointer (some ⟨w.heap.size,0,none⟩),.int .u64 150] 169)).alloc (.cells #[.pointer (some e)] 130))
  (by rw[World.cell?_alloc_at _ _ _ _ (by simp)];rfl)
  (by rw[World.cell?_alloc_lt _ _ t (by simp;omega),World.cell?_alloc_lt _ _ t (by simp;omega),World.cell?_alloc_lt _ _ t (by simp;omega),World.cell?_alloc_lt _ _ t htl];exact ht0)
  (by rw[World.frozen?_alloc_old _ _ t (by simp;omega),World.frozen?_alloc_old _ _ t (by simp;omega),World.frozen?_alloc_old _ _ t (by simp;omega),World.frozen?_alloc_old _ _ t (Nat.ne_of_lt htl)];exact hf0)
 go_enter func73,ntmps73;go_wp2;refine wp_loop_rounds 1 ?_;rw[rounds_succ];go_wp2;go_ret;exact⟨rfl,rfl⟩
theorem aaB(e t:Addr)(old:Value)(w:World)(hg:w.cell? ⟨4,0,none⟩=some (.iface 219 (.agg #[.pointer (some ⟨14,94,none⟩)])))(ht0:w.cell? t=some old)(hf0:w.frozen? t=false) :
  Calls prog 73 #[.iface 317 (.pointer (some e)),.iface 132 (.pointer (some t))] w fun ev w'=>ev=.returned (.bool false)/\w.grownBy w' none:=by
 have h6:=@run_callFunc_extern prog 110 _ (fun args=>ReflectliteValue.unpack (args.getD 0 (.tuple #[]))) func110 (by kernel_rfl) (by kernel_rfl) (by kernel_rfl) (by kernel_rfl);have h7:=@run_callFunc_extern prog 111 _ (ReflectliteValue.methodAny (ReflectliteValue.valueError "reflectlite.Value.Type" 0) (fun t _ _ _=>ReflectliteType.toType t)) func111 (by kernel_rfl) (by kernel_rfl) (by kernel_rfl) (by kernel_rfl);have h8:=@run_callFunc_extern prog 112 _ (ReflectliteValue.method (ReflectliteValue.valueError "reflectlite.Value.IsNil" 0) ReflectliteValue.isNil) func112 (by kernel_rfl) (by kernel_rfl) (by kernel_rfl) (by kernel_rfl);have h27:=@run_callFunc_extern prog 265 _ (ReflectliteType.abiMethod fun t=>do pure (.int .u8 (<-Rtype.kind t))) func265 (by kernel_rfl) (by kernel_rfl) (by kernel_rfl) (by kernel_rfl);have h37:=@run_callFunc_extern prog 277 _ (ReflectliteType.method ReflectliteType.elem) func277 (by kernel_rfl) (by kernel_rfl) (by kernel_rfl) (by kernel_rfl)
 have h38:=@run_callFunc_extern prog 278 _ (ReflectliteType.relation "Implements" ReflectliteType.implements_) func278 (by kernel_rfl) (by kernel_rfl) (by kernel_rfl) (by kernel_rfl);have h10:=@run_callFunc_extern prog 114 _ ReflectliteType.typeOf func114 (by kernel_rfl) (by kernel_rfl) (by kernel_rfl) (by kernel_rfl);have h35:=@run_callFunc_extern prog 275 _ (ReflectliteType.relation "AssignableTo" ReflectliteType.assignableTo) func275 (by kernel_rfl) (by kernel_rfl) (by kernel_rfl) (by kernel_rfl);have tO:=Fh;have mA:=Sv;have a25:=aas;have f6:=RX;have f7:=aType;have mK:=RY;have mE:=Sr;have mI:=Su;have k27:=RZ;have k25:=Si;have e27:=Sz;have i25:=SA;have nA:=Za;have uE:=JH;have vE:=JI;have n8:=Sm ⟨w.heap.size,0,none⟩ t ((w.alloc (.cells #[.pointer (some t)] 132)).alloc (.cells #[.pointer (some ⟨14,132,none⟩),.pointer (some ⟨w.heap.size,0,none⟩),.int .u64 150] 169)) (by simp)
 have hlt:4<w.heap.size:=by
  rcases Nat.lt_or_ge 4 w.heap.size with h|h
  ·exact h
  ·simp[World.cell?,Array.getElem?_eq_none h]at hg
 have hg2:((w.alloc (.cells #[.pointer (some t)] 132)).alloc (.cells #[.pointer (some ⟨14,132,none⟩),.pointer (some ⟨w.heap.size,0,none⟩),.int .u64 150] 169)).cell? ⟨4,0,none⟩=some (.iface 219 (.agg #[.pointer (some ⟨14,94,none⟩)])):=by
  rw[World.cell?_alloc_lt _ _ ⟨4,0,none⟩ (by simp;omega),World.cell?_alloc_lt _ _ ⟨4,0,none⟩ hlt];exact hg
 have htl:t.block<w.heap.size:=by
  rcases Nat.lt_or_ge t.block w.heap.size with h|h
  ·exact h
  ·simp[World.cell?,Array.getElem?_eq_none h]at ht0
 have HG:Hd (w.grownBy (((w.alloc (.cells #[.pointer (some t)] 132)).alloc (.cells #[.pointer (some ⟨14,132,none⟩),.pointer (some ⟨w.heap.size,0,none⟩),.int .u64 150] 169)).alloc (.cells #[.pointer (some ⟨14,132,none⟩),.pointer (some ⟨w.heap.size,0,none⟩),.int .u64 150] 169)) none):=ai (ai (World.grownBy_alloc _ _ none) (World.grownBy_alloc _ _ none)) (World.grownBy_alloc _ _ none);go_enter func73,ntmps73;go_wp2;refine wp_loop_rounds 1 ?_;rw[rounds_succ];go_wp2;go_ret
 first
 | exact⟨rfl,HG.o⟩
 | (refine⟨rfl,?_⟩;trace_state;exact HG.o)
end Go.Proofs.YtnnbgjaphfhibaaGreatDoor
