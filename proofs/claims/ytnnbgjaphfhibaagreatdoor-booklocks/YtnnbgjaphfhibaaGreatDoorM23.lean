import Derived.Test.YtnnbgjaphfhibaaGreatDoorM22
import Derived.Test.YtnnbgjaphfhibaaGreatDoorM17
set_option linter.unusedVariables false
set_option linter.unusedSimpArgs false
set_option maxRecDepth 100000
set_option maxHeartbeats 6400000
open Go.Proofs.Tryz
namespace Go.Proofs.YtnnbgjaphfhibaaGreatDoor
open Go.RowKit Go.Extern.Stop Go.Stop Go.Extern
theorem Vf(t:Addr)(w:World):(ReflectliteValue.unpack (.iface 132 (.pointer (some t)))).run prog w
  = .ok (.agg #[.pointer (some ⟨14,132,none⟩),.pointer (some ⟨w.heap.size,0,none⟩),.int .u64 150]) (w.alloc (.cells #[.pointer (some t)] 132)):=by kernel_rfl
theorem aType(a:Addr)(w:World):(ReflectliteValue.methodAny (ReflectliteValue.valueError "reflectlite.Value.Type" 0) (fun t _ _ _=>ReflectliteType.toType t) #[.agg #[.pointer (some ⟨14,132,none⟩),.pointer (some a),.int .u64 150]]).run prog w
  = .ok (.iface 219 (.agg #[.pointer (some ⟨14,132,none⟩)])) w:=by kernel_rfl
theorem Vg(h:Value)(w:World):(Go.method 446 219 (.agg #[h]) "Kind").run prog w=.ok (265,h) w:=by kernel_rfl
theorem Vh(w:World):((ReflectliteType.abiMethod fun t=>(fun a:Nat=>Value.int IntKind.u8 (a:Int)) <$> Rtype.kind t) #[.pointer (some ⟨14,132,none⟩)]).run prog w=.ok (.int .u8 22) w:=by kernel_rfl
theorem Vj(w:World):((ReflectliteType.abiMethod fun t=>(fun a:Nat=>Value.int IntKind.u8 (a:Int)) <$> Rtype.kind t) #[.pointer (some ⟨14,130,none⟩)]).run prog w=.ok (.int .u8 22) w:=by kernel_rfl
theorem Vk(z:Sem Value)(f:TypeId->Addr->Nat->Nat->Sem Value)(v:Value) :
  ReflectliteValue.method z f #[v]=(do match <-ReflectliteValue.parts v with|none=>z|some (t,a,fl)=>f t a fl (fl % 32)):=rfl
theorem Vl(a:Addr)(w:World):(ReflectliteValue.parts (.agg #[.pointer (some ⟨14,132,none⟩),.pointer (some a),.int .u64 150])).run prog w=.ok (some (132,a,150)) w:=by kernel_rfl
theorem Vm(a p:Addr)(W:World)(ha:W.cell? a=some (.pointer (some p))) :
  (ReflectliteValue.method (ReflectliteValue.valueError "reflectlite.Value.IsNil" 0) ReflectliteValue.isNil #[.agg #[.pointer (some ⟨14,132,none⟩),.pointer (some a),.int .u64 150]]).run prog W=.ok (.bool false) W:=by
 rw[Vk];simp only[Sem.run_bind,Vl,Result.andThen];simp[ReflectliteValue.isNil,loadVar,isAgg,underlying,underlying132,ha,Result.andThen]
theorem Vo(h:Value)(w:World):(Go.method 446 219 (.agg #[h]) "Elem").run prog w=.ok (277,.agg #[h]) w:=by kernel_rfl
theorem Vp(h:Value)(w:World):(Go.method 446 219 (.agg #[h]) "Implements").run prog w=.ok (278,.agg #[h]) w:=by kernel_rfl
theorem Vq(h:Value)(w:World):(Go.method 446 219 (.agg #[h]) "AssignableTo").run prog w=.ok (275,.agg #[h]) w:=by kernel_rfl
theorem Vr(w:World):(ReflectliteType.method ReflectliteType.elem #[.agg #[.pointer (some ⟨14,132,none⟩)]]).run prog w=.ok (.iface 219 (.agg #[.pointer (some ⟨14,130,none⟩)])) w:=by kernel_rfl
theorem Vs(w:World):(ReflectliteType.relation "Implements" ReflectliteType.implements_ #[.agg #[.pointer (some ⟨14,130,none⟩)],.iface 219 (.agg #[.pointer (some ⟨14,94,none⟩)])]).run prog w=.ok (.bool true) w:=by kernel_rfl
theorem ac7(v:Value)(w:World):(ReflectliteType.typeOf #[.iface 130 v]).run prog w=.ok (.iface 219 (.agg #[.pointer (some ⟨14,130,none⟩)])) w:=by kernel_rfl
theorem ac8(w:World):(ReflectliteType.relation "AssignableTo" ReflectliteType.assignableTo #[.agg #[.pointer (some ⟨14,130,none⟩)],.iface 219 (.agg #[.pointer (some ⟨14,130,none⟩)])]).run prog w=.ok (.bool true) w:=by kernel_rfl
theorem ac9(w:World):(ReflectliteType.relation "AssignableTo" ReflectliteType.assignableTo #[.agg #[.pointer (some ⟨14,317,none⟩)],.iface 219 (.agg #[.pointer (some ⟨14,130,none⟩)])]).run prog w=.ok (.bool false) w:=by kernel_rfl
theorem ada(e:Addr)(w:World):(ReflectliteValue.unpack (.iface 130 (.pointer (some e)))).run prog w
  = .ok (.agg #[.pointer (some ⟨14,130,none⟩),.pointer (some ⟨w.heap.size,0,none⟩),.int .u64 150]) (w.alloc (.cells #[.pointer (some e)] 130)):=by kernel_rfl
theorem adb(w:World):(Rtype.elem? 132).run prog w=.ok (some 130) w:=by kernel_rfl
theorem aMk(p:Addr)(w:World):(ReflectliteValue.mk 130 p ReflectliteValue.flagAddr).run prog w=.ok (.agg #[.pointer (some ⟨14,130,none⟩),.pointer (some p),.int .u64 406]) w:=by kernel_rfl
theorem adc(a p:Addr)(W:World)(ha:W.cell? a=some (.pointer (some p))) :
  (ReflectliteValue.method (ReflectliteValue.valueError "reflectlite.Value.Elem" 0) ReflectliteValue.elem #[.agg #[.pointer (some ⟨14,132,none⟩),.pointer (some a),.int .u64 150]]).run prog W
   = .ok (.agg #[.pointer (some ⟨14,130,none⟩),.pointer (some p),.int .u64 406]) W:=by
 rw[Vk];simp only[Sem.run_bind,Vl,Result.andThen];simp[ReflectliteValue.elem,loadVar,isAgg,underlying,underlying132,ha,Result.andThen,adb,aMk]
theorem ade(v x:Value):ReflectliteValue.set #[v,x]=(do
  let (some (dst,a,fl),some (src,b,_)):=(<-ReflectliteValue.parts v,<-ReflectliteValue.parts x)
   | unsupported (.noEntry "extern/(internal/reflectlite.Value).Set.zeroValue")
  if fl / ReflectliteValue.flagAddr % 2 == 0 then unsupported (.noEntry "extern/(internal/reflectlite.Value).Set.unaddressable")
  let val <-loadVar src b
  if <-Rtype.directlyAssignable dst src then storeVar dst a val
  else if <-Rtype.implements dst src then
   if(<-Rtype.kind src) == 20 then
    match val with
    | .nilIface=>unsupported (.noEntry "extern/reflectlite: a nil value of one interface type handed on as a value of another")
    | _=>storeVar dst a val
   else storeVar dst a (.iface src val)
  else panicString ("reflectlite.Set: value of type "++(<-Rtype.spelt src) ++ " is not assignable to type "++(<-Rtype.spelt dst))
  pure (.tuple #[])):=rfl
theorem adf(a:Addr)(w:World):(ReflectliteValue.parts (.agg #[.pointer (some ⟨14,130,none⟩),.pointer (some a),.int .u64 406])).run prog w=.ok (some (130,a,406)) w:=by kernel_rfl
theorem adg(a:Addr)(w:World):(ReflectliteValue.parts (.agg #[.pointer (some ⟨14,130,none⟩),.pointer (some a),.int .u64 150])).run prog w=.ok (some (130,a,150)) w:=by kernel_rfl
theorem adh(w:World):(Rtype.directlyAssignable 130 130).run prog w=.ok true w:=by kernel_rfl
theorem adi(ta b e:Addr)(old:Value)(W:World)(hb:W.cell? b=some (.pointer (some e)))(ht:W.cell? ta=some old)(hf:W.frozen? ta=false) :
  (ReflectliteValue.set #[.agg #[.pointer (some ⟨14,130,none⟩),.pointer (some ta),.int .u64 406],.agg #[.pointer (some ⟨14,130,none⟩),.pointer (some b),.int .u64 150]]).run prog W
   = .ok (.tuple #[]) (W.setCell ta (.pointer (some e))):=by
 rw[ade];simp only[Sem.run_bind,adf,adg,Result.andThen];simp[ReflectliteValue.flagAddr,loadVar,isAgg,underlying,underlying130,hb,Result.andThen,adh,storeVar,Value.cells,storeCells,Addr.add];rw[run_store prog W ta _ _ (by rfl)];simp[ht,hf]
theorem as_hit(e t:Addr)(old:Value)(w:World)(hg:w.cell? ⟨4,0,none⟩=some (.iface 219 (.agg #[.pointer (some ⟨14,94,none⟩)])))(ht0:w.cell? t=some old)(hf0:w.frozen? t=false) :
  Calls prog 73 #[.iface 130 (.pointer (some e)),.iface 132 (.pointer (some t))] w fun ev w'=>ev=.returned (.bool true)/\w'=((((w.alloc (.cells #[.pointer (some t)] 132)).alloc (.cells #[.pointer (some ⟨14,132,none⟩),.pointer (some ⟨w.heap.size,0,none⟩),.int .u64 150] 169)).alloc (.cells #[.pointer (some ⟨14,132,none⟩),.pointer (some ⟨w.heap.size,0,none⟩),.int .u64 150] 169)).alloc (.cells #[.pointer (some e)] 130)).setCell t (.pointer (some e)):=by
 have h6:=@run_callFunc_extern prog 110 _ (fun args=>ReflectliteValue.unpack (args.getD 0 (.tuple #[]))) func110 (by kernel_rfl) (by kernel_rfl) (by kernel_rfl) (by kernel_rfl);have h7:=@run_callFunc_extern prog 111 _ (ReflectliteValue.methodAny (ReflectliteValue.valueError "reflectlite.Value.Type" 0) (fun t _ _ _=>ReflectliteType.toType t)) func111 (by kernel_rfl) (by kernel_rfl) (by kernel_rfl) (by kernel_rfl);have h8:=@run_callFunc_extern prog 112 _ (ReflectliteValue.method (ReflectliteValue.valueError "reflectlite.Value.IsNil" 0) ReflectliteValue.isNil) func112 (by kernel_rfl) (by kernel_rfl) (by kernel_rfl) (by kernel_rfl);have h27:=@run_callFunc_extern prog 265 _ (ReflectliteType.abiMethod fun t=>do pure (.int .u8 (<-Rtype.kind t))) func265 (by kernel_rfl) (by kernel_rfl) (by kernel_rfl) (by kernel_rfl);have h37:=@run_callFunc_extern prog 277 _ (ReflectliteType.method ReflectliteType.elem) func277 (by kernel_rfl) (by kernel_rfl) (by kernel_rfl) (by kernel_rfl)
 have h38:=@run_callFunc_extern prog 278 _ (ReflectliteType.relation "Implements" ReflectliteType.implements_) func278 (by kernel_rfl) (by kernel_rfl) (by kernel_rfl) (by kernel_rfl);have h10:=@run_callFunc_extern prog 114 _ ReflectliteType.typeOf func114 (by kernel_rfl) (by kernel_rfl) (by kernel_rfl) (by kernel_rfl);have h35:=@run_callFunc_extern prog 275 _ (ReflectliteType.relation "AssignableTo" ReflectliteType.assignableTo) func275 (by kernel_rfl) (by kernel_rfl) (by kernel_rfl) (by kernel_rfl);have h11:=@run_callFunc_extern prog 157 _ (ReflectliteValue.method (ReflectliteValue.valueError "reflectlite.Value.Elem" 0) ReflectliteValue.elem) func157 (by kernel_rfl) (by kernel_rfl) (by kernel_rfl) (by kernel_rfl);have h12:=@run_callFunc_extern prog 158 _ ReflectliteValue.set func158 (by kernel_rfl) (by kernel_rfl) (by kernel_rfl) (by kernel_rfl)
 have tO:=ac7;have mA:=Vq;have a25:=ac8;have v25:=ada;have f6:=Vf;have f7:=aType;have mK:=Vg;have mE:=Vo;have mI:=Vp;have k27:=Vh;have k25:=Vj;have e27:=Vr;have i25:=Vs;have n8:=Vm ⟨w.heap.size,0,none⟩ t ((w.alloc (.cells #[.pointer (some t)] 132)).alloc (.cells #[.pointer (some ⟨14,132,none⟩),.pointer (some ⟨w.heap.size,0,none⟩),.int .u64 150] 169)) (by simp);have hlt:4<w.heap.size:=by
  rcases Nat.lt_or_ge 4 w.heap.size with h|h
  ·exact h
  ·simp[World.cell?,Array.getElem?_eq_none h]at hg
 have hg2:((w.alloc (.cells #[.pointer (some t)] 132)).alloc (.cells #[.pointer (some ⟨14,132,none⟩),.pointer (some ⟨w.heap.size,0,none⟩),.int .u64 150] 169)).cell? ⟨4,0,none⟩=some (.iface 219 (.agg #[.pointer (some ⟨14,94,none⟩)])):=by
  rw[World.cell?_alloc_lt _ _ ⟨4,0,none⟩ (by simp;omega),World.cell?_alloc_lt _ _ ⟨4,0,none⟩ hlt];exact hg
 have htl:t.block<w.heap.size:=by
  rcases Nat.lt_or_ge t.block w.heap.size with h|h
  ·exact h
  ·simp[World.cell?,Array.getElem?_eq_none h]at ht0
 have el:=adc ⟨w.heap.size,0,none⟩ t (((w.alloc (.cells #[.pointer (some t)] 132)).alloc (.cells #[.pointer (some ⟨14,132,none⟩),.pointer (some ⟨w.heap.size,0,none⟩),.int .u64 150] 169)).alloc (.cells #[.pointer (some ⟨14,132,none⟩),.pointer (some ⟨w.heap.size,0,none⟩),.int .u64 150] 169)) (by rw[World.cell?_alloc_lt _ _ ⟨w.heap.size,0,none⟩ (by simp;omega)];simp);have st:=adi t ⟨w.heap.size+1+1+1,0,none⟩ e old ((((w.alloc (.cells #[.pointer (some t)] 132)).alloc (.cells #[.pointer (some ⟨14,132,none⟩),.pointer (some ⟨w.heap.size,0,none⟩),.int .u64 150] 169)).alloc (.cells #[.pointer (some ⟨14,132,none⟩),.pointer (some ⟨w.heap.size,0,none⟩),.int .u64 150] 169)).alloc (.cells #[.pointer (some e)] 130))
  (by rw[World.cell?_alloc_at _ _ _ _ (by simp)];rfl)
  (by rw[World.cell?_alloc_lt _ _ t (by simp;omega),World.cell?_alloc_lt _ _ t (by simp;omega),World.cell?_alloc_lt _ _ t (by simp;omega),World.cell?_alloc_lt _ _ t htl];exact ht0)
  (by rw[World.frozen?_alloc_old _ _ t (by simp;omega),World.frozen?_alloc_old _ _ t (by simp;omega),World.frozen?_alloc_old _ _ t (by simp;omega),World.frozen?_alloc_old _ _ t (Nat.ne_of_lt htl)];exact hf0)
 go_enter func73,ntmps73;go_wp2;refine wp_loop_rounds 1 ?_;rw[rounds_succ];go_wp2;go_ret;exact⟨rfl,rfl⟩
theorem adk(e t:Addr)(old:Value)(w:World)(hg:w.cell? ⟨4,0,none⟩=some (.iface 219 (.agg #[.pointer (some ⟨14,94,none⟩)])))(ht0:w.cell? t=some old)(hf0:w.frozen? t=false) :
  Calls prog 73 #[.iface 317 (.pointer (some e)),.iface 132 (.pointer (some t))] w fun ev w'=>ev=.returned (.bool false)/\w.grownBy w' none:=by
 have h6:=@run_callFunc_extern prog 110 _ (fun args=>ReflectliteValue.unpack (args.getD 0 (.tuple #[]))) func110 (by kernel_rfl) (by kernel_rfl) (by kernel_rfl) (by kernel_rfl);have h7:=@run_callFunc_extern prog 111 _ (ReflectliteValue.methodAny (ReflectliteValue.valueError "reflectlite.Value.Type" 0) (fun t _ _ _=>ReflectliteType.toType t)) func111 (by kernel_rfl) (by kernel_rfl) (by kernel_rfl) (by kernel_rfl);have h8:=@run_callFunc_extern prog 112 _ (ReflectliteValue.method (ReflectliteValue.valueError "reflectlite.Value.IsNil" 0) ReflectliteValue.isNil) func112 (by kernel_rfl) (by kernel_rfl) (by kernel_rfl) (by kernel_rfl);have h27:=@run_callFunc_extern prog 265 _ (ReflectliteType.abiMethod fun t=>do pure (.int .u8 (<-Rtype.kind t))) func265 (by kernel_rfl) (by kernel_rfl) (by kernel_rfl) (by kernel_rfl);have h37:=@run_callFunc_extern prog 277 _ (ReflectliteType.method ReflectliteType.elem) func277 (by kernel_rfl) (by kernel_rfl) (by kernel_rfl) (by kernel_rfl)
 have h38:=@run_callFunc_extern prog 278 _ (ReflectliteType.relation "Implements" ReflectliteType.implements_) func278 (by kernel_rfl) (by kernel_rfl) (by kernel_rfl) (by kernel_rfl);have h10:=@run_callFunc_extern prog 114 _ ReflectliteType.typeOf func114 (by kernel_rfl) (by kernel_rfl) (by kernel_rfl) (by kernel_rfl);have h35:=@run_callFunc_extern prog 275 _ (ReflectliteType.relation "AssignableTo" ReflectliteType.assignableTo) func275 (by kernel_rfl) (by kernel_rfl) (by kernel_rfl) (by kernel_rfl);have tO:=Iu;have mA:=Vq;have a25:=ac9;have f6:=Vf;have f7:=aType;have mK:=Vg;have mE:=Vo;have mI:=Vp;have k27:=Vh;have k25:=Vj;have e27:=Vr;have i25:=Vs;have nA:=ac4;have uE:=NZ;have vE:=N7;have n8:=Vm ⟨w.heap.size,0,none⟩ t ((w.alloc (.cells #[.pointer (some t)] 132)).alloc (.cells #[.pointer (some ⟨14,132,none⟩),.pointer (some ⟨w.heap.size,0,none⟩),.int .u64 150] 169)) (by simp)
 have hlt:4<w.heap.size:=by
  rcases Nat.lt_or_ge 4 w.heap.size with h|h
  ·exact h
  ·simp[World.cell?,Array.getElem?_eq_none h]at hg
 have hg2:((w.alloc (.cells #[.pointer (some t)] 132)).alloc (.cells #[.pointer (some ⟨14,132,none⟩),.pointer (some ⟨w.heap.size,0,none⟩),.int .u64 150] 169)).cell? ⟨4,0,none⟩=some (.iface 219 (.agg #[.pointer (some ⟨14,94,none⟩)])):=by
  rw[World.cell?_alloc_lt _ _ ⟨4,0,none⟩ (by simp;omega),World.cell?_alloc_lt _ _ ⟨4,0,none⟩ hlt];exact hg
 have htl:t.block<w.heap.size:=by
  rcases Nat.lt_or_ge t.block w.heap.size with h|h
  ·exact h
  ·simp[World.cell?,Array.getElem?_eq_none h]at ht0
 have HG:Hd (w.grownBy (((w.alloc (.cells #[.pointer (some t)] 132)).alloc (.cells #[.pointer (some ⟨14,132,none⟩),.pointer (some ⟨w.heap.size,0,none⟩),.int .u64 150] 169)).alloc (.cells #[.pointer (some ⟨14,132,none⟩),.pointer (some ⟨w.heap.size,0,none⟩),.int .u64 150] 169)) none):=ah (ah (World.grownBy_alloc _ _ none) (World.grownBy_alloc _ _ none)) (World.grownBy_alloc _ _ none);go_enter func73,ntmps73;go_wp2;refine wp_loop_rounds 1 ?_;rw[rounds_succ];go_wp2;go_ret
 first
 | exact⟨rfl,HG.o⟩
 | (refine⟨rfl,?_⟩;trace_state;exact HG.o)
open Go.RowKit Go.Maps Go.WideMaps Go.Joins
structure Sn(w:World)(E:Int->TypeId × Value)(b:Int->Addr):Prop where
 ptr:∀k,1<=k->k<=5->E k=(317,.pointer (some (b k)))
 blk:∀k,1<=k->k<=5->∃cs t,w.heap[(b k).block]?=some (.cells cs t (0,0))
 ne:∀k m,1<=k->k<=5->1<=m->m<=5->b k=b m->k=m
 ty:w.cell? ⟨4,0,none⟩=some (.iface 219 (.agg #[.pointer (some ⟨14,94,none⟩)]))
 lo:w.cell? ⟨0,0,none⟩=some (.iface (E 1).1 (E 1).2)
theorem Sn.grow{w w':World}{E:Int->TypeId × Value}{b:Int->Addr}(h:Sn w E b)(hg:w.grownBy w' none):Sn w' E b :=
 ⟨h.ptr,fun k h1 h2=>by
  obtain⟨cs,t,hb⟩:=h.blk k h1 h2;exact⟨cs,t,(hg.block _ (aB hb) (by simp)).trans hb⟩,h.ne,hg.cell h.ty (by simp),hg.cell h.lo (by simp)⟩
theorem adl(w:World)(E:Int->TypeId × Value)(b:Int->Addr)(h:Sn w E b)(F:Nat)(c k:Int)(h1:1<=c)(h2:c<=5)(h3:1<=k)(h4:k<=5)(hF:w.cell? ⟨F,1,none⟩=some (.iface (E c).1 (E c).2)) :
  Calls prog 74 #[.iface 130 (.pointer (some ⟨F,0,none⟩)),.iface (E k).1 (E k).2] w fun e w'=>e=.returned (.bool (decide (c=k)))/\w'=w:=by
 have ec:=h.ptr c h1 h2;have ek:=h.ptr k h3 h4;rw[ec]at hF;rw[ek]
 by_cases hck:c=k
 ·subst hck;rw[decide_eq_true rfl];exact ac5 F (b c) w hF
 ·rw[decide_eq_false hck];obtain⟨ca,ta,ha⟩:=h.blk c h1 h2;obtain⟨cb,tb,hb⟩:=h.blk k h3 h4;exact ac6 F (b k) (b c) ca cb ta tb w hF (fun e=>hck (h.ne c k h1 h2 h3 h4 e)) ha hb
theorem adm(E:Int->TypeId × Value)(b:Int->Addr)(w:World)(F:Nat)(c:Int)(p:Nat)(G:Gl w w.heap.size E)(S:Sn w E b)(h1:1<=c)(h2:c<=5)(hF:w.heap[F]?=some (.cells #[.int .i64 (p:Nat),.iface (E c).1 (E c).2] 134 (0,0))) :
  Calls prog 48 #[.iface 130 (.pointer (some ⟨F,0,none⟩))] w fun e w'=>e=.returned (.tuple #[.int .i64 c,.int .i64 (p:Nat)])/\w.grownBy w' none:=by
 -- the variable's block
 have uP:w.grownBy (w.alloc (.cells #[.pointer none] 130)) none:=World.grownBy_alloc _ _ none;obtain⟨w1,hw1⟩:∃W,w.alloc (.cells #[.pointer none] 130)=W:=⟨_,rfl⟩;have hT:w1.heap[w.heap.size]?=some (.cells #[.pointer none] 130 (0,0)):=by rw[<-hw1];exact heap_alloc_new w _
 rw[hw1]at uP;have S1:=S.grow uP;obtain⟨T,hTe⟩:=zN (w.heap.size);rw[hTe]at hT;have CA:=as_hit ⟨F,0,none⟩ ⟨T,0,none⟩ (.pointer none) w1 S1.ty (by rw[af hT];rfl) (Lib.frozen_of_heap hT 0)
 -- the world behind errors.As
 have nU:¬F=T:=fun e=>by have:=aB hF;omega
 have post:∀w2:World,w2=((((w1.alloc (.cells #[.pointer (some ⟨T,0,none⟩)] 132)).alloc (.cells #[.pointer (some ⟨14,132,none⟩),.pointer (some ⟨w1.heap.size,0,none⟩),.int .u64 150] 169)).alloc (.cells #[.pointer (some ⟨14,132,none⟩),.pointer (some ⟨w1.heap.size,0,none⟩),.int .u64 150] 169)).alloc (.cells #[.pointer (some ⟨F,0,none⟩)] 130)).setCell ⟨T,0,none⟩ (.pointer (some ⟨F,0,none⟩))->w.grownBy w2 none/\w2.cell? ⟨T,0,none⟩=some (.pointer (some ⟨F,0,none⟩))/\w2.cell? ⟨F,0,none⟩=some (.int .i64 (p:Nat))/\w2.cell? ⟨F,1,none⟩=some (.iface (E c).1 (E c).2):=fun w2 e=>by
  obtain⟨wx,hwx⟩:∃W,(((w1.alloc (.cells #[.pointer (some ⟨T,0,none⟩)] 132)).alloc (.cells #[.pointer (some ⟨14,132,none⟩),.pointer (some ⟨w1.heap.size,0,none⟩),.int .u64 150] 169)).alloc (.cells #[.pointer (some ⟨14,132,none⟩),.pointer (some ⟨w1.heap.size,0,none⟩),.int .u64 150] 169)).alloc (.cells #[.pointer (some ⟨F,0,none⟩)] 130)=W:=⟨_,rfl⟩;have g1:w1.grownBy wx none:=by
   rw[<-hwx];exact ah (ah (ah (World.grownBy_alloc _ _ none) (World.grownBy_alloc _ _ none)) (World.grownBy_alloc _ _ none)) (World.grownBy_alloc _ _ none)
  rw[hwx]at e;have hTx:wx.heap[T]?=some (.cells #[.pointer none] 130 (0,0)):=(g1.block T (aB hT) (by simp)).trans hT;have hset:=block_setCell (i:=0) hTx (.pointer (some ⟨F,0,none⟩));rw[<-e]at hset;have hF2:w2.heap[F]?=some (.cells #[.int .i64 (p:Nat),.iface (E c).1 (E c).2] 134 (0,0)):=by
   have e1:=(uP.block F (aB hF) (by simp)).trans hF;have e2:=(g1.block F (aB e1) (by simp)).trans e1;rw[e];exact(heap_setCell_other _ _ _ _ nU).trans e2
  refine⟨?_,by rw[af hset];rfl,by rw[af hF2];rfl,by rw[af hF2];rfl⟩;have g2:w.grownBy wx none:=ah uP g1;rw[e];refine⟨g2.os,g2.tape,g2.output,by simpa [World.setCell] using g2.size,fun k hk hn=>?_⟩;rw[heap_setCell_other wx _ k _ (by simp;omega)];exact g2.block k hk hn
 have lm:Hd (Calls prog 73 #[.iface 130 (.pointer (some ⟨F,0,none⟩)),.iface 132 (.pointer (some ⟨T,0,none⟩))] w1 fun ev w2=>ev=.returned (.bool true)/\w.grownBy w2 none/\w2.cell? ⟨T,0,none⟩=some (.pointer (some ⟨F,0,none⟩))/\w2.cell? ⟨F,0,none⟩=some (.int .i64 (p:Nat))/\w2.cell? ⟨F,1,none⟩=some (.iface (E c).1 (E c).2)):=by
  refine CA.mono ?_;rintro e w2 ⟨rfl,hw2⟩;exact⟨rfl,post w2 hw2⟩
 have D7:Hd (∀w2,w.grownBy w2 none->w2.cell? ⟨F,1,none⟩=some (.iface (E c).1 (E c).2)->∀k,1<=k->k<=5->Calls prog 74 #[.iface 130 (.pointer (some ⟨F,0,none⟩)),.iface (E k).1 (E k).2] w2 fun e w'=>e=.returned (.bool (decide (c=k)))/\w'=w2):=fun w2 hg hc k h3 h4=>adl w2 E b (S.grow hg) F c k (by omega) h2 h3 h4 hc
 have bJ:Hd (∀w2,w.grownBy w2 none->w2.cell? ⟨0,0,none⟩=some (.iface (E 1).1 (E 1).2)/\w2.cell? ⟨1,0,none⟩=some (.iface (E 3).1 (E 3).2)/\w2.cell? ⟨2,0,none⟩=some (.iface (E 4).1 (E 4).2)/\w2.cell? ⟨3,0,none⟩=some (.iface (E 5).1 (E 5).2)):=fun w2 hg=>⟨(S.grow hg).lo,hg.cell G.es.ra (by simp),hg.cell G.es.ma (by simp),hg.cell G.es.tw (by simp)⟩
 have HW1:Hd (w.alloc (.cells #[.pointer none] 130)=w1):=hw1;obtain⟨t1,ht1⟩:∃x,E 1=x:=⟨_,rfl⟩;obtain⟨t3,ht3⟩:∃x,E 3=x:=⟨_,rfl⟩;obtain⟨t4,pU⟩:∃x,E 4=x:=⟨_,rfl⟩;obtain⟨t5,wJ⟩:∃x,E 5=x:=⟨_,rfl⟩;have jI:Hd (∀w2,w.grownBy w2 none->w2.cell? ⟨F,1,none⟩=some (.iface (E c).1 (E c).2)->Calls prog 74 #[.iface 130 (.pointer (some ⟨F,0,none⟩)),.iface t1.1 t1.2] w2 fun e w'=>e=.returned (.bool (decide (c=1)))/\w'=w2):=fun w2 a d=>by
  have:=D7.o w2 a d 1 (by omega) (by omega);rw[ht1]at this;exact this
 have zY:Hd (∀w2,w.grownBy w2 none->w2.cell? ⟨F,1,none⟩=some (.iface (E c).1 (E c).2)->Calls prog 74 #[.iface 130 (.pointer (some ⟨F,0,none⟩)),.iface t3.1 t3.2] w2 fun e w'=>e=.returned (.bool (decide (c=3)))/\w'=w2):=fun w2 a d=>by
  have:=D7.o w2 a d 3 (by omega) (by omega);rw[ht3]at this;exact this
 have D8:Hd (∀w2,w.grownBy w2 none->w2.cell? ⟨F,1,none⟩=some (.iface (E c).1 (E c).2)->Calls prog 74 #[.iface 130 (.pointer (some ⟨F,0,none⟩)),.iface t4.1 t4.2] w2 fun e w'=>e=.returned (.bool (decide (c=4)))/\w'=w2):=fun w2 a d=>by
  have:=D7.o w2 a d 4 (by omega) (by omega);rw[pU]at this;exact this
 have Iy:Hd (∀w2,w.grownBy w2 none->w2.cell? ⟨F,1,none⟩=some (.iface (E c).1 (E c).2)->Calls prog 74 #[.iface 130 (.pointer (some ⟨F,0,none⟩)),.iface t5.1 t5.2] w2 fun e w'=>e=.returned (.bool (decide (c=5)))/\w'=w2):=fun w2 a d=>by
  have:=D7.o w2 a d 5 (by omega) (by omega);rw[wJ]at this;exact this
 rw[ht1,ht3,pU,wJ]at bJ;have lI:Hd (w.heap.size=T):=hTe;have HC:Hd (1<=c/\c<=5):=⟨h1,h2⟩;obtain⟨v,hv⟩:∃v:Value,Value.iface (E c).1 (E c).2=v:=⟨_,rfl⟩;rw[hv]at jI zY D8 Iy lm;clear hw1 uP hT S1 S G hTe CA post D7 ht1 ht3 pU wJ hF nU h1 h2 hv;obtain⟨b1,hb1⟩:∃x,decide (c=1)=x:=⟨_,rfl⟩;obtain⟨b3,hb3⟩:∃x,decide (c=3)=x:=⟨_,rfl⟩;obtain⟨b4,hb4⟩:∃x,decide (c=4)=x:=⟨_,rfl⟩;obtain⟨b5,hb5⟩:∃x,decide (c=5)=x:=⟨_,rfl⟩;have HB:Hd (decide (c=1)=b1/\decide (c=3)=b3/\decide (c=4)=b4/\decide (c=5)=b5):=⟨hb1,hb3,hb4,hb5⟩;rw[hb1]at jI;rw[hb3]at zY;rw[hb4]at D8;rw[hb5]at Iy;clear hb1 hb3 hb4 hb5;rw[<-lI.o,<-HW1.o]at lm
 cases b1 with
 | true =>
  go_enter func48,ntmps48;go_wp2_with (go_at_call 73;refine lm.o.mono ?_);rintro e w2 ⟨rfl,hg2,v1,v2,v3⟩;obtain⟨y1,y3,y4,y5⟩:=bJ.o w2 hg2;have HG2:Hd (w.grownBy w2 none):=hg2;have jh:Hd (w2.cell? ⟨F,1,none⟩=some v):=v3;clear hg2 v3 lI HW1 lm;obtain⟨T2,hT2⟩:∃x,w.heap.size=x:=⟨_,rfl⟩;rw[hT2]at v1 ⊢;clear hT2;go_wp2_with (go_at_call 74;refine(jI.o _ HG2.o jh.o).mono ?_)
  first|rintro e w' rfl rfl|rintro e w' ⟨rfl,rfl⟩
  go_wp2;refine bodyPost_ret (results_tmp2 (t:=2) (u:=3) rfl _ _ _) rfl ?_;have e:c=1:=by
   have q1:=HB.o;have q2:=HC.o;simp at q1;omega
  rw[e];exact⟨rfl,HG2.o⟩
 | false =>
  cases b3 with
  | true =>
   go_enter func48,ntmps48;go_wp2_with (go_at_call 73;refine lm.o.mono ?_);rintro e w2 ⟨rfl,hg2,v1,v2,v3⟩;obtain⟨y1,y3,y4,y5⟩:=bJ.o w2 hg2;have HG2:Hd (w.grownBy w2 none):=hg2;have jh:Hd (w2.cell? ⟨F,1,none⟩=some v):=v3;clear hg2 v3 lI HW1 lm;obtain⟨T2,hT2⟩:∃x,w.heap.size=x:=⟨_,rfl⟩;rw[hT2]at v1 ⊢;clear hT2;go_wp2_with (go_at_call 74;refine(jI.o _ HG2.o jh.o).mono ?_)
   first|rintro e w' rfl rfl|rintro e w' ⟨rfl,rfl⟩
   go_wp2_with (go_at_call 74;refine(zY.o _ HG2.o jh.o).mono ?_)
   first|rintro e w' rfl rfl|rintro e w' ⟨rfl,rfl⟩
   go_wp2;refine bodyPost_ret (results_tmp2 (t:=2) (u:=3) rfl _ _ _) rfl ?_;have e:c=3:=by
    have q1:=HB.o;have q2:=HC.o;simp at q1;omega
   rw[e];exact⟨rfl,HG2.o⟩
  | false =>
   cases b4 with
   | true =>
    go_enter func48,ntmps48;go_wp2_with (go_at_call 73;refine lm.o.mono ?_);rintro e w2 ⟨rfl,hg2,v1,v2,v3⟩;obtain⟨y1,y3,y4,y5⟩:=bJ.o w2 hg2;have HG2:Hd (w.grownBy w2 none):=hg2;have jh:Hd (w2.cell? ⟨F,1,none⟩=some v):=v3;clear hg2 v3 lI HW1 lm;obtain⟨T2,hT2⟩:∃x,w.heap.size=x:=⟨_,rfl⟩;rw[hT2]at v1 ⊢;clear hT2;go_wp2_with (go_at_call 74;refine(jI.o _ HG2.o jh.o).mono ?_)
    first|rintro e w' rfl rfl|rintro e w' ⟨rfl,rfl⟩
    go_wp2_with (go_at_call 74;refine(zY.o _ HG2.o jh.o).mono ?_)
    first|rintro e w' rfl rfl|rintro e w' ⟨rfl,rfl⟩
    go_wp2_with (go_at_call 74;refine(D8.o _ HG2.o jh.o).mono ?_)
    first|rintro e w' rfl rfl|rintro e w' ⟨rfl,rfl⟩
    go_wp2;refine bodyPost_ret (results_tmp2 (t:=2) (u:=3) rfl _ _ _) rfl ?_;have e:c=4:=by
     have q1:=HB.o;have q2:=HC.o;simp at q1;omega
    rw[e];exact⟨rfl,HG2.o⟩
   | false =>
    cases b5 with
    | true =>
     go_enter func48,ntmps48;go_wp2_with (go_at_call 73;refine lm.o.mono ?_);rintro e w2 ⟨rfl,hg2,v1,v2,v3⟩;obtain⟨y1,y3,y4,y5⟩:=bJ.o w2 hg2;have HG2:Hd (w.grownBy w2 none):=hg2;have jh:Hd (w2.cell? ⟨F,1,none⟩=some v):=v3;clear hg2 v3 lI HW1 lm;obtain⟨T2,hT2⟩:∃x,w.heap.size=x:=⟨_,rfl⟩;rw[hT2]at v1 ⊢;clear hT2;go_wp2_with (go_at_call 74;refine(jI.o _ HG2.o jh.o).mono ?_)
     first|rintro e w' rfl rfl|rintro e w' ⟨rfl,rfl⟩
     go_wp2_with (go_at_call 74;refine(zY.o _ HG2.o jh.o).mono ?_)
     first|rintro e w' rfl rfl|rintro e w' ⟨rfl,rfl⟩
     go_wp2_with (go_at_call 74;refine(D8.o _ HG2.o jh.o).mono ?_)
     first|rintro e w' rfl rfl|rintro e w' ⟨rfl,rfl⟩
     go_wp2_with (go_at_call 74;refine(Iy.o _ HG2.o jh.o).mono ?_)
     first|rintro e w' rfl rfl|rintro e w' ⟨rfl,rfl⟩
     go_wp2;refine bodyPost_ret (results_tmp2 (t:=2) (u:=3) rfl _ _ _) rfl ?_;have e:c=5:=by
      have q1:=HB.o;have q2:=HC.o;simp at q1;omega
     rw[e];exact⟨rfl,HG2.o⟩
    | false =>
     go_enter func48,ntmps48;go_wp2_with (go_at_call 73;refine lm.o.mono ?_);rintro e w2 ⟨rfl,hg2,v1,v2,v3⟩;obtain⟨y1,y3,y4,y5⟩:=bJ.o w2 hg2;have HG2:Hd (w.grownBy w2 none):=hg2;have jh:Hd (w2.cell? ⟨F,1,none⟩=some v):=v3;clear hg2 v3 lI HW1 lm;obtain⟨T2,hT2⟩:∃x,w.heap.size=x:=⟨_,rfl⟩;rw[hT2]at v1 ⊢;clear hT2;go_wp2_with (go_at_call 74;refine(jI.o _ HG2.o jh.o).mono ?_)
     first|rintro e w' rfl rfl|rintro e w' ⟨rfl,rfl⟩
     go_wp2_with (go_at_call 74;refine(zY.o _ HG2.o jh.o).mono ?_)
     first|rintro e w' rfl rfl|rintro e w' ⟨rfl,rfl⟩
     go_wp2_with (go_at_call 74;refine(D8.o _ HG2.o jh.o).mono ?_)
     first|rintro e w' rfl rfl|rintro e w' ⟨rfl,rfl⟩
     go_wp2_with (go_at_call 74;refine(Iy.o _ HG2.o jh.o).mono ?_)
     first|rintro e w' rfl rfl|rintro e w' ⟨rfl,rfl⟩
     go_wp2;refine bodyPost_ret (results_tmp2 (t:=2) (u:=3) rfl _ _ _) rfl ?_;have e:c=2:=by
      have q1:=HB.o;have q2:=HC.o;simp at q1;omega
     rw[e];exact⟨rfl,HG2.o⟩
def ErN(c:Int × Nat):Prop:=2<=c.1/\c.1<=5
def gV{α:Type}(r:Rs α):Prop:=∀c,r=.error c->ErN c
theorem gW{α:Type}(a:α):gV (.ok a:Rs α):=fun c h=>by cases h
theorem lu{α:Type}(p:Nat):gV (.error (2,p):Rs α):=fun c h=>by cases h;exact⟨(by decide:(2:Int)<=2),(by decide:(2:Int)<=5)⟩
theorem adn{α:Type}(p:Nat):gV (.error (3,p):Rs α):=fun c h=>by cases h;exact⟨(by decide:(2:Int)<=3),(by decide:(3:Int)<=5)⟩
theorem ado{α:Type}(p:Nat):gV (.error (4,p):Rs α):=fun c h=>by cases h;exact⟨(by decide:(2:Int)<=4),(by decide:(4:Int)<=5)⟩
theorem D9{α:Type}(p:Nat):gV (.error (5,p):Rs α):=fun c h=>by cases h;exact⟨(by decide:(2:Int)<=5),(by decide:(5:Int)<=5)⟩
theorem kE{α β:Type}{r:Rs α}(h:gV r){c:Int × Nat}(hc:r=.error c):gV (.error c:Rs β):=fun c' h'=>by cases h';exact h c hc
theorem Vt(l:List UInt8):∀(k i n:Nat),gV (four l k i n)
 | 0,i,n=>gW _
 | k+1,i,n=>by
  rw[Bv];split
  ·exact lu _
  ·exact Vt l k _ _
theorem adp(l:List UInt8)(i:Nat):gV (esc l i):=by
 unfold esc;split
 ·cases h:four l 4 (i+2) 0 with
  | error e=>exact kE (Vt l 4 (i+2) 0) h
  | ok q =>
   obtain⟨n,j⟩:=q;simp only[];split
   ·exact lu _
   ·exact gW _
 ·repeat' split
  all_goals first|exact gW _|exact lu _
theorem Iz(l:List UInt8):∀(f i:Nat) (acc:List UInt8),gV (str l f i acc)
 | 0,i,acc=>lu _
 | f+1,i,acc=>by
  rw[BD];split
  ·exact gW _
  ·split
   ·cases h:esc l i with
    | error e=>exact kE (adp l i) h
    | ok q =>
     obtain⟨b,j⟩:=q;exact Iz l f j _
   ·split
    ·exact lu _
    ·split
     ·exact lu _
     ·exact Iz l f _ _
theorem Vu(l:List UInt8)(i:Nat):gV (bY l i):=by
 unfold bY;split
 ·exact Iz _ _ _ _
 ·split
  ·exact lu _
  ·exact gW _
theorem adq(l:List UInt8)(i:Nat):gV (jf l i):=by
 unfold jf;simp only[];generalize (if au (nx l i)=true then i else i+1)=a;split
 ·exact lu _
 ·split
  ·exact adn _
  ·exact gW _
theorem adr(l:List UInt8)(i:Nat):gV (kU l i):=by
 unfold kU;simp only[];split
 ·exact gW _
 ·split
  ·exact gW _
  ·exact lu _
theorem N8(l:List UInt8):∀(f i:Nat),gV (gap l f i)
 | 0,i=>lu _
 | f+1,i=>by
  rw[ui];split
  ·exact lu _
  ·split
   ·exact N8 l f _
   ·exact gW _
theorem IA(l:List UInt8)(i:Nat)(c:Int):gV (must l i c):=by
 unfold must;split
 ·exact gW _
 ·exact lu _
theorem ads(l:List UInt8):∀f:Nat,(∀i up k p d ns,gV (val l f i up k p d ns))/\(∀i up d ns,gV (lst l f i up d ns)):=by
 intro f
 induction f with
 | zero =>
  refine⟨fun i up k p d ns=>?_,fun i up d ns=>?_⟩
  ·rw[val];exact lu _
  ·rw[lst];exact lu _
 | succ f ih =>
  refine⟨fun i up k p d ns=>?_,fun i up d ns=>?_⟩
  ·rw[sN];split
   ·cases h:str l (l.length+1) (i+1) [] with
    | error e=>exact kE (Iz _ _ _ _) h
    | ok q=>exact gW _
   ·split
    ·cases h:jf l i with
     | error e=>exact kE (adq _ _) h
     | ok q=>exact gW _
    ·split
     ·cases h:kU l i with
      | error e=>exact kE (adr _ _) h
      | ok q=>exact gW _
     ·split
      ·split
       ·exact ado _
       ·exact ih.2 _ _ _ _
      ·exact lu _
  ·rw[Cc]
   cases h:gap l (l.length+1) i with
   | error e=>exact kE (N8 _ _ _) h
   | ok j =>
    simp only[];split
    ·exact gW _
    ·cases h2:val l f j up [] j d ns with
     | error e=>exact kE (ih.1 _ _ _ _ _ _) h2
     | ok q =>
      obtain⟨j1,ns1⟩:=q;simp only[]
      cases h3:gap l (l.length+1) j1 with
      | error e=>exact kE (N8 _ _ _) h3
      | ok j2 =>
       simp only[];split
       ·exact ih.2 _ _ _ _
       ·split
        ·exact gW _
        ·exact lu _
theorem adt(ns:List Tn)(t:Nat)(k:List UInt8)(p:Nat):gV (fO ns t k p):=by
 unfold fO
 cases ai ns t k with
 | none=>exact gW _
 | some q =>
  simp only[];split
  ·exact gW _
  ·split
   ·cases ns[q]? with
    | none=>exact D9 _
    | some u=>exact gW _
   ·exact D9 _
theorem adu(ns:List Tn)(own:List Nat)(t:Nat)(k:List UInt8)(p:Nat):gV (gm ns own t k p):=by
 unfold gm
 cases ai ns t k with
 | none=>exact gW _
 | some q =>
  simp only[];split
  ·exact gW _
  ·exact D9 _
theorem adv(ns:List Tn)(t:Nat)(k:List UInt8)(p:Nat):gV (gp ns t k p):=by
 unfold gp
 cases ai ns t k with
 | none=>exact gW _
 | some q =>
  simp only[];split
  ·exact gW _
  ·exact D9 _
theorem Vw(many:Bool)(own:List Nat):∀(ks:List (List UInt8 × Nat)) (t:Nat) (ns:List Tn),gV (way many own ks t ns)
 | [],t,ns=>gW _
 | [(k,p)],t,ns=>by
  show gV (if many=true then gp ns t k p else gm ns own t k p);split
  ·exact adv _ _ _ _
  ·exact adu _ _ _ _ _
 | (k,p) :: x :: r,t,ns=>by
  show gV (match fO ns t k p with | .error e=>.error e | .ok (t1,ns1)=>way many own (x :: r) t1 ns1)
  cases h:fO ns t k p with
  | error e=>exact kE (adt _ _ _ _) h
  | ok q =>
   obtain⟨t1,ns1⟩:=q;exact Vw many own (x :: r) t1 ns1
theorem Vx(l:List UInt8):∀(f i:Nat) (acc:List (List UInt8 × Nat)),gV (fP l f i acc)
 | 0,i,acc=>lu _
 | f+1,i,acc=>by
  show gV (match bY l (bl l i) with | .error e=>.error e | .ok (k,j)=>if nx l (bl l j)=46 then fP l f (bl l j+1) (acc++[(k,bl l i)]) else .ok (acc++[(k,bl l i)],bl l j))
  cases h:bY l (bl l i) with
  | error e=>exact kE (Vu _ _) h
  | ok q =>
   obtain⟨k,j⟩:=q;simp only[];split
   ·exact Vx l f _ _
   ·exact gW _
theorem adw(l:List UInt8)(d:Sd):gV (gI l d):=by
 unfold gI;simp only[];generalize (if decide (nx l (d.i+1)=91)=true then d.i+2 else d.i+1)=a
 cases h:fP l (l.length+1) a [] with
 | error e=>exact kE (Vx _ _ _ _) h
 | ok q =>
  obtain⟨ks,j⟩:=q;simp only[]
  cases h2:must l j 93 with
  | error e=>exact kE (IA _ _ _) h2
  | ok j1 =>
   simp only[];have h3':gV (if decide (nx l (d.i+1)=91)=true then must l j1 93 else .ok j1):=by
    split
    ·exact IA _ _ _
    ·exact gW _
   cases h3:(if decide (nx l (d.i+1)=91)=true then must l j1 93 else .ok j1) with
   | error e=>exact kE h3' h3
   | ok j2 =>
    simp only[]
    cases h4:way (decide (nx l (d.i+1)=91)) d.own ks 0 d.ns with
    | error e=>exact kE (Vw _ _ _ _ _) h4
    | ok q=>exact gW _
theorem adx(l:List UInt8)(d:Sd):gV (rdPair l d):=by
 unfold rdPair
 cases h:bY l d.i with
 | error e=>exact kE (Vu _ _) h
 | ok q =>
  obtain⟨k,j⟩:=q;simp only[]
  cases h2:must l (bl l j) 61 with
  | error e=>exact kE (IA _ _ _) h2
  | ok j1 =>
   simp only[]
   cases ai d.ns d.now k with
   | some q=>exact D9 _
   | none =>
    simp only[]
    cases h4:val l (2*l.length+2) (bl l j1) d.now k d.i 0 d.ns with
    | error e=>exact kE ((ads l _).1 _ _ _ _ _ _) h4
    | ok q=>exact gW _
theorem ady(l:List UInt8)(d:Sd):gV (iR l d):=by
 unfold iR;simp only[];have hX:gV (if nx l (bl l d.i)=91 then gI l ⟨bl l d.i,d.ns,d.own,d.now⟩ else if nx l (bl l d.i)=34\/aO (nx l (bl l d.i))=true then rdPair l ⟨bl l d.i,d.ns,d.own,d.now⟩ else .ok ⟨bl l d.i,d.ns,d.own,d.now⟩):=by
  split
  ·exact adw _ _
  ·split
   ·exact adx _ _
   ·exact gW _
 generalize (if nx l (bl l d.i)=91 then gI l ⟨bl l d.i,d.ns,d.own,d.now⟩ else if nx l (bl l d.i)=34\/aO (nx l (bl l d.i))=true then rdPair l ⟨bl l d.i,d.ns,d.own,d.now⟩ else .ok ⟨bl l d.i,d.ns,d.own,d.now⟩:Rs Sd)=X at hX ⊢
 cases X with
 | error e=>exact kE hX rfl
 | ok d1 =>
  simp only[];split
  ·exact lu _
  ·split
   ·exact gW _
   ·cases h:must l (bu l (bl l d1.i)).2 10 with
    | error e=>exact kE (IA _ _ _) h
    | ok j=>exact gW _
theorem Vy(l:List UInt8):∀(f:Nat) (d:Sd),gV (jw l f d)
 | 0,d=>gW _
 | f+1,d=>by
  show gV (if l.length<=d.i then .ok d else match iR l d with | .error e=>.error e | .ok s1=>jw l f s1);split
  ·exact gW _
  ·cases h:iR l d with
   | error e=>exact kE (ady _ _) h
   | ok d1=>exact Vy l f d1
theorem N9(l:List UInt8)(c:Int)(p:Nat)(h:jL l=.error (c,p)):(c=1/\p=0)\/(2<=c/\c<=5):=by
 unfold jL at h;split at h
 ·cases h;exact Or.inl ⟨rfl,rfl⟩
 ·right
  cases hr:jw l (l.length+1) ⟨0,[⟨0,[],[],0,[],0⟩],[],0⟩ with
  | error e =>
   rw[hr]at h
   cases h
   exact Vy l _ _ _ hr
  | ok d=>rw[hr]at h;cases h
open Go.RowKit Go.Maps Go.WideMaps Go.Joins
theorem adz(E:Int->TypeId × Value)(b:Int->Addr)(w:World)(S:Sn w E b) :
  Calls prog 48 #[.iface (E 1).1 (E 1).2] w fun e w'=>e=.returned (.tuple #[.int .i64 1,.int .i64 0])/\w.grownBy w' none:=by
 have uP:w.grownBy (w.alloc (.cells #[.pointer none] 130)) none:=World.grownBy_alloc _ _ none;have hT:=heap_alloc_new w (.cells #[.pointer none] 130);have e1:=S.ptr 1 (by decide) (by decide);have hlo:=S.lo;rw[e1]at hlo ⊢;have CA:Hd (Calls prog 73 #[.iface 317 (.pointer (some (b 1))),.iface 132 (.pointer (some ⟨w.heap.size,0,none⟩))] (w.alloc (.cells #[.pointer none] 130)) fun ev w2=>ev=.returned (.bool false)/\w.grownBy w2 none/\w2.cell? ⟨0,0,none⟩=some (.iface 317 (.pointer (some (b 1))))):=by
  refine(adk (b 1) ⟨w.heap.size,0,none⟩ (.pointer none) _ (S.grow uP).ty (by rw[af hT];rfl) (Lib.frozen_of_heap hT 0)).mono ?_;rintro e w2 ⟨rfl,hg⟩;have g2:=ah uP hg;exact⟨rfl,g2,g2.cell hlo (by simp)⟩
 have CI:Hd (∀w,Calls prog 74 #[.iface 317 (.pointer (some (b 1))),.iface 317 (.pointer (some (b 1)))] w fun e w'=>e=.returned (.bool true)/\w'=w):=is_same (b 1);obtain⟨x,hx⟩:=zN (b 1);rw[hx]at CA CI ⊢;clear uP hT e1 S hlo hx;go_enter func48,ntmps48;go_wp2_with (go_at_call 73;refine CA.o.mono ?_);rintro e w2 ⟨rfl,hg2,y1⟩;have HG2:Hd (w.grownBy w2 none):=hg2;clear hg2 CA;go_wp2_with (go_at_call 74;refine(CI.o _).mono ?_)
 first|rintro e w' rfl rfl|rintro e w' ⟨rfl,rfl⟩
 go_wp2;refine bodyPost_ret (results_tmp2 (t:=2) (u:=3) rfl _ _ _) rfl ?_;exact⟨rfl,HG2.o⟩
def adA(r:Rs (List Tn))(w:World)(e:Ending)(w':World):Prop :=
 (∀ns,r=.ok ns->∃N c M T xs ks now n f,e=.returned (.tuple #[.slice (some ⟨N,0,none⟩) ns.length c,.int .i64 0,.int .i64 0])/\TrD w' w.heap.size T ns now N c M xs ks n f) ∧
 (∀c p,r=.error (c,p)->e=.returned (.tuple #[.slice none 0 0,.int .i64 c,.int .i64 (p:Nat)]))/\w.grownBy w' none
theorem adB(s:ByteArray)(E:Int->TypeId × Value)(b:Int->Addr)(w:World)(G:Gl w w.heap.size E)(S:Sn w E b)(hmx:s.size<2 ^ 62) :
  Calls prog 20 #[.string s] w (adA (jL s.data.toList) w):=by
 have CR:Hd (Calls prog 47 #[.string s] w (Ug s E (jL s.data.toList) w)):=abC s E w G S.lo hmx;have jo:Hd (∀c p,jL s.data.toList=.error (c,p)->(c=1/\p=0)\/(2<=c/\c<=5)):=N9 _;have Oa:Hd (∀w',w.grownBy w' none->Calls prog 48 #[.iface (E 1).1 (E 1).2] w' fun e w''=>e=.returned (.tuple #[.int .i64 1,.int .i64 0])/\w'.grownBy w'' none):=fun w' hg=>adz E b w' (S.grow hg)
 have Ob:Hd (∀w' F (c:Int) p,w.grownBy w' none->1<=c->c<=5->w'.heap[F]?=some (.cells #[.int .i64 (p:Nat),.iface (E c).1 (E c).2] 134 (0,0))->Calls prog 48 #[.iface 130 (.pointer (some ⟨F,0,none⟩))] w' fun e w''=>e=.returned (.tuple #[.int .i64 c,.int .i64 (p:Nat)])/\w'.grownBy w'' none):=fun w' F c p hg h1 h2 hF=>by
  have G1:Gl w' w.heap.size E:=G.bel (Aj hg);have hsz:=hg.size;exact adm E b w' F c p ⟨G1.es,⟨Nat.lt_of_lt_of_le G1.lo.te hsz,Nat.lt_of_lt_of_le G1.lo.ra hsz,Nat.lt_of_lt_of_le G1.lo.ma hsz,Nat.lt_of_lt_of_le G1.lo.tw hsz⟩,G1.tabs,Nat.lt_of_lt_of_le G1.t3 hsz,Nat.lt_of_lt_of_le G1.t4 hsz⟩ (S.grow hg) h1 h2 hF
 have jZ:Hd (E 1=(317,.pointer (some (b 1)))):=S.ptr 1 (by decide) (by decide);obtain⟨X,hX⟩:=zN (jL s.data.toList);rw[hX]at CR jo ⊢;clear G S hX;go_enter func20,ntmps20;go_wp2_with (go_at_call 47;refine CR.o.mono ?_);rintro e w2 ⟨h1,h2,hg2⟩;have HG2:Hd (w.grownBy w2 none):=hg2;clear hg2
 match X,h1,h2,jo with
 | .ok ns,h1,_,_ =>
  obtain⟨N,c,M,T,xs,ks,now,n,f,rfl,hD⟩:=h1 ns rfl;have HD:Hd (TrD w2 w.heap.size T ns now N c M xs ks n f):=hD;clear h1 h2 hD;go_wp2;refine bodyPost_ret (results_tmp3 (t:=2) (u:=3) (v:=4) rfl _ _ _) rfl ?_;exact⟨fun ns' hh=>(by injection hh with hh;subst hh;exact⟨N,c,M,T,xs,ks,now,n,f,rfl,HD.o⟩),fun c p hh=>(by cases hh),HG2.o⟩
 | .error (c,p),_,h2,jo =>
  obtain⟨v,rfl,hor⟩:=h2 c p rfl;have hrg:=jo.o c p rfl
  rcases hor with⟨hc1,hv⟩|⟨F,hv,hF⟩
  ·obtain⟨-,hp0⟩:c=1/\p=0:=by rcases hrg with h|h;exact h;omega
   subst hc1 hp0;have CT:Hd (Calls prog 48 #[.iface 317 (.pointer (some (b 1)))] w2 fun e w''=>e=.returned (.tuple #[.int .i64 1,.int .i64 0])/\w2.grownBy w'' none):=by
    have:=Oa.o w2 HG2.o;rw[jZ.o]at this;exact this
   rw[jZ.o]at hv;obtain rfl:=hv;clear h1 h2 hrg Ob Oa;go_wp2_with (go_at_call 48;refine CT.o.mono ?_;rintro e w3 ⟨rfl,hg3⟩);refine bodyPost_ret (results_tmp3 (t:=2) (u:=3) (v:=4) rfl _ _ _) rfl ?_;exact⟨fun ns' hh=>(by cases hh),fun c p hh=>(by cases hh;rfl),ah HG2.o hg3⟩
  ·have CT:Hd (Calls prog 48 #[.iface 130 (.pointer (some ⟨F,0,none⟩))] w2 fun e w''=>e=.returned (.tuple #[.int .i64 c,.int .i64 (p:Nat)])/\w2.grownBy w'' none):=Ob.o w2 F c p HG2.o (by omega) (by omega) hF;obtain rfl:=hv;clear h1 h2 hrg Ob Oa hF;go_wp2_with (go_at_call 48;refine CT.o.mono ?_;rintro e w3 ⟨rfl,hg3⟩);refine bodyPost_ret (results_tmp3 (t:=2) (u:=3) (v:=4) rfl _ _ _) rfl ?_;exact⟨fun ns' hh=>(by cases hh),fun c' p' hh=>(by injection hh with hh;injection hh with e1 e2;subst e1 e2;rfl),ah HG2.o hg3⟩
open Go.RowKit Go.Maps Go.WideMaps Go.Joins
theorem adC{ns:List Tn}{t p:Nat}{k:List UInt8}{c:Int × Nat}(h:fO ns t k p=.error c):c=(5,p):=by
 unfold fO at h;split at h
 ·cases h
 ·split at h
  ·cases h
  ·split at h
   ·split at h
    ·cases h
    ·cases h;rfl
   ·cases h;rfl
theorem adD{ns:List Tn}{own:List Nat}{t p:Nat}{k:List UInt8}{c:Int × Nat}(h:gm ns own t k p=.error c):c=(5,p):=by
 unfold gm at h;split at h
 ·cases h
 ·split at h
  ·cases h
  ·cases h;rfl
theorem adE{ns:List Tn}{t p:Nat}{k:List UInt8}{c:Int × Nat}(h:gp ns t k p=.error c):c=(5,p):=by
 unfold gp at h;split at h
 ·cases h
 ·split at h
  ·cases h
  ·cases h;rfl
section
variable {w w':World} {B P P' R:Nat} {s:ByteArray} {now de:Nat} {q:Rs Nat} {ns:List Tn} {own:List Nat}
theorem Dt.toP(h:Dt w B P R s now de q ns own)(hP:P'<B):Dt w B P' R s now de q ns own:=by
 have hb:=h.base;obtain⟨h1,h2,N,c,O,oc,xs,ks,h3,h4,h5,h6⟩:=h;have n1:=(bz h5.row (g:=N) rfl).1;have n2:=(bz h5.owr (g:=O) rfl).1;refine⟨h1,by omega,N,c,O,oc,xs,ks,by omega,by omega,h5.far2 (by omega) fun i hi e=>?_,h6⟩;have:=(bz (h5.kid i hi) e).1;omega
theorem DFr.toP(h:DFr B P w w')(hP:P'<B):DFr B P' w w':=⟨h.bel,h.oth,h.bel.block P' hP⟩
theorem Fq.toP{e:Int × Nat}(h:Fq w B P R s now de e)(hP:P'<B):Fq w B P' R s now de e:=by
 obtain⟨L,O,h1,h2,h3,h4⟩:=h;obtain⟨i,er,p,hd⟩:=h1.dd;have:=aB hd;exact⟨L,O,h1,h2,by omega,by omega⟩
end
def lw(l:List (List UInt8 × Nat)):List Value:=l.map fun x=>.string ⟨x.1.toArray⟩
def kS(l:List (List UInt8 × Nat)):List Value:=l.map fun x=>.int .i64 (x.2:Nat)
theorem adF(l:List (List UInt8 × Nat))(x:List UInt8 × Nat):lw (l++[x])=lw l++[.string ⟨x.1.toArray⟩]:=by simp[lw]
theorem adG(l:List (List UInt8 × Nat))(x:List UInt8 × Nat):kS (l++[x])=kS l++[.int .i64 (x.2:Nat)]:=by simp[kS]
theorem Oc(l:List (List UInt8 × Nat))(i:Nat)(hi:i<l.length):(lw l)[i]?=some (.string ⟨l[i].1.toArray⟩):=by simp[lw,hi]
theorem Oe(l:List (List UInt8 × Nat))(i:Nat)(hi:i<l.length):(kS l)[i]?=some (.int .i64 (l[i].2:Nat)):=by simp[kS,hi]
theorem Dt.places{w w':World}{B P R:Nat}{s:ByteArray}{now de j j' g:Nat}{ns:List Tn}{own:List Nat}(h:Dt w B P R s now de (.ok j) ns own)(hg:w.grownBy w' (some R))(hs:∀L O,Ds w R s L O now de (.ok j)->Ds w' R s L O now de (.ok j'))(h1:w.heap.size<=g)(h2:g<w'.heap.size):Dt w' B g R s now de (.ok j') ns own:=by
 have hb:=h.base;obtain⟨a1,a2,N,c,O,oc,xs,ks,a3,a4,a5,a6⟩:=h;obtain⟨cn,hn⟩:=(bz a5.row (g:=N) rfl).2;obtain⟨co,ho⟩:=(bz a5.owr (g:=O) rfl).2;have n1:=aB hn;have n2:=aB ho;refine⟨a1,by omega,N,c,O,oc,xs,ks,by omega,by omega,(a5.keepR a6.2 hg).far2 h2 fun i hi e=>?_,hs _ _ a6⟩;obtain⟨cc,hcc⟩:=(bz (a5.kid i hi) e).2;have:=aB hcc;omega
theorem Ds.uni{w:World}{R:Nat}{s:ByteArray}{L O L' O':Value}{now de i:Nat}(h:Ds w R s L O now de (.ok i))(h':Ds w R s L' O' now de (.ok i)):L=L'/\O=O':=by
 obtain⟨-,-,a,b,-⟩:=h.2.cells;obtain⟨-,-,a',b',-⟩:=h'.2.cells;rw[a]at a';rw[b]at b';exact⟨Option.some.inj a',Option.some.inj b'⟩
theorem Dt.owns{w:World}{B P R:Nat}{s:ByteArray}{now de j:Nat}{ns:List Tn}{own:List Nat}(h:Dt w B P R s now de (.ok j) ns own)(t:Nat)(ht:t<ns.length):∃O oc v,w.cell? ⟨R,3,none⟩=some (.slice (some ⟨O,0,none⟩) ns.length oc)/\w.cell? ⟨O,t,none⟩=some v/\w.frozen? ⟨O,t,none⟩=false ∧
  (w.setCell ⟨O,t,none⟩ (.bool true)).cell? ⟨R,4,none⟩=some (.int .i64 (now:Nat))/\(w.setCell ⟨O,t,none⟩ (.bool true)).frozen? ⟨R,4,none⟩=false ∧
  Dt ((w.setCell ⟨O,t,none⟩ (.bool true)).setCell ⟨R,4,none⟩ (.int .i64 (t:Nat))) B P R s t de (.ok j) ns (t :: own)/\DFr B P w ((w.setCell ⟨O,t,none⟩ (.bool true)).setCell ⟨R,4,none⟩ (.int .i64 (t:Nat))):=by
 obtain⟨hb1,hb2,hb3⟩:=h.base;obtain⟨h1,h2,N,c,O,oc,xs,ks,h3,h4,h5,h6⟩:=h;obtain⟨f1,f2⟩:=h5.flagAt t ht;obtain⟨-,-,-,c3,-⟩:=h6.2.cells;obtain⟨hOB,cu,hO⟩:=bz h5.owr (g:=O) rfl;have hRO:¬R=O:=aP h6.2 hO (by decide);have m5:=h5.mark t ht;have d6:=h6.other (iM w O t (.bool true)) hRO;obtain⟨-,-,-,-,e4,-,-,-,ef⟩:=d6.2.cells;have fr1:DFr B P w (w.setCell ⟨O,t,none⟩ (.bool true)):=DFr.row (iM w O t (.bool true)) hb1 hb2 hOB h4 hO (Or.inr (Or.inr (Or.inr rfl)));have fr2:DFr B P (w.setCell ⟨O,t,none⟩ (.bool true)) ((w.setCell ⟨O,t,none⟩ (.bool true)).setCell ⟨R,4,none⟩ (.int .i64 (t:Nat))):=ry d6 h1 h2 m5.hP (iM _ R 4 _);exact⟨O,oc,_,c3,f1,f2,e4,ef 4,⟨h1,h2,N,c,O,oc,xs,ks,h3,h4,m5.keepR d6.2 (iM _ R 4 _),d6.setN t⟩,fr1.two fr2⟩
end Go.Proofs.YtnnbgjaphfhibaaGreatDoor
