import Derived.Test.YtbgnflcebafjjaaGreatDoorA27
import Derived.Test.YtbgnflcebafjjaaGreatDoorA15
import Derived.Test.YtbgnflcebafjjaaGreatDoorA02
import Derived.LaidEql
import Derived.Stop.Asserts
import Derived.RowKitTokens
namespace Go.Proofs.YtbgnflcebafjjaaGreatDoor
open Go.RowKit Go.Maps Go.WideMaps Go.Joins
set_option linter.unusedVariables false
def RtPost (r:Rs (List Tn)) (w:World) (e:Ending) (w':World):Prop :=
 (∀ns,r=.ok ns->∃N c OV xs ks own m,e=.returned (.tuple #[.slice (some ⟨N,0,none⟩) ns.length c,.int .i64 0,.int .i64 0])/\DtD w' w.heap.size 0 ns m own (.slice (some ⟨N,0,none⟩) ns.length c) OV xs ks) ∧
 (∀c p,r=.error (c,p)->e=.returned (.tuple #[.slice none 0 0,.int .i64 c,.int .i64 (p:Nat)]))/\w.grownBy w' none
theorem Fq.cells {w:World} {B P R:Nat} {s:ByteArray} {now de:Nat} {e:Int × Nat} (h:Fq w B P R s now de e):w.cell? ⟨R,5,none⟩=some (.int .i64 e.1)/\w.cell? ⟨R,6,none⟩=some (.int .i64 (e.2:Nat))/\(e.1 == 0)=false/\(e.1 != 0)=true:=by
 obtain ⟨L,O,⟨h1,j,h2,h3⟩,-⟩:=h
 exact ⟨h3.cells.2.2.2.2.2.1,h3.cells.2.2.2.2.2.2.1,by simpa using h1,by simpa using h1⟩
set_option maxRecDepth 100000 in
set_option maxHeartbeats 3200000 in
theorem dRead_any (CH:DhC) (s:ByteArray) (w:World) (h0:0 < w.heap.size) (hmx:s.size < 2 ^ 62) :
  Calls Tryz.prog 8 #[.string s] w (RtPost (rdToml s.data.toList) w):=by
 have hl:s.data.toList.length=s.size:=by simp
 have HE:=rdToml_eq s.data.toList
 rw [hl] at HE
 by_cases hbig:100000 < s.size
 ·rw [if_pos hbig] at HE
  rw [HE]
  have hb:(100000:Int) < (s.size:Int):=by omega
  clear HE hbig CH
  go_enter Tryz.func8,Tryz.ntmps8
  go_wp2
  refine bodyPost_ret (results_tmp3 (t:=2) (u:=3) (v:=4) rfl _ _ _) rfl ?_
  exact ⟨fun ns hh=>(by cases hh),fun c p hh=>(by cases hh;rfl),gb_refl _ _⟩
 ·rw [if_neg hbig] at HE
  rw [HE]
  have hb:(s.size:Int)<=100000:=by omega
  have hs:s.size<=100000:=by omega
  have hgR:w.grownBy (w.alloc (.cells #[.string s,.int .i64 0,.slice none 0 0,.slice none 0 0,.int .i64 0,.int .i64 0,.int .i64 0,.int .i64 0] 51)) none:=World.grownBy_alloc _ _ none
  have hR:=heap_alloc_new w (.cells #[.string s,.int .i64 0,.slice none 0 0,.slice none 0 0,.int .i64 0,.int .i64 0,.int .i64 0,.int .i64 0] 51)
  have HDs:Hid (Ds (w.alloc (.cells #[.string s,.int .i64 0,.slice none 0 0,.slice none 0 0,.int .i64 0,.int .i64 0,.int .i64 0,.int .i64 0] 51)) w.heap.size s (.slice none 0 0) (.slice none 0 0) 0 0 (.ok 0)):=⟨by omega,hR⟩
  have hsz1:(w.alloc (.cells #[.string s,.int .i64 0,.slice none 0 0,.slice none 0 0,.int .i64 0,.int .i64 0,.int .i64 0,.int .i64 0] 51)).heap.size=w.heap.size+1:=World.size_alloc _ _
  obtain ⟨B,hB⟩:∃B,w.heap.size=B:=⟨_,rfl⟩
  have CA:Hid (Calls Tryz.prog 17 #[.pointer (some ⟨w.heap.size,0,none⟩),.int .i64 (-1),.agg #[.int .i64 0,.string ⟨#[]⟩,.string ⟨#[]⟩,.int .i64 0,.slice none 0 0,.int .i64 0]] (w.alloc (.cells #[.string s,.int .i64 0,.slice none 0 0,.slice none 0 0,.int .i64 0,.int .i64 0,.int .i64 0,.int .i64 0] 51)) fun e w'=>e=.returned (.int .i64 0)/\Dt w' B 0 w.heap.size s 0 0 (.ok 0) [⟨0,[],[],0,[],0⟩] []/\Below B w w'):=by
   refine (dAdd_first B 0 w.heap.size s 0 0 (.ok 0) _ HDs.out (by omega) (by omega) (by omega)).mono ?_
   rintro e w' ⟨rfl,a,b⟩
   refine ⟨rfl,a,?_⟩
   have h1:=gb_below hgR
   rw [hB] at h1
   exact h1.trans b.bel
  have CL:Hid (∀d w',Dt w' B 0 B s d.now 0 (.ok d.i) d.ns d.own->Li s.data.toList d->Calls Tryz.prog 18 #[.pointer (some ⟨B,0,none⟩)] w' (PrPost B 0 B s d.now d.own (rdLine s.data.toList d) w')):=fun d w' h L=>dLine_any CH B 0 B s d.now d.i d.ns d.own w' h (by omega) hs L
  have HLO:Hid (∀d d',Li s.data.toList d->d.i < s.size->rdLine s.data.toList d=.ok d'->Li s.data.toList d'/\d.i < d'.i):=fun d d' a b c=>line_ok s.data.toList d d' a (by omega) c
  obtain ⟨S,hS⟩:∃S,rdAll s.data.toList (s.data.toList.length+1) ⟨0,[⟨0,[],[],0,[],0⟩],[],0⟩=S:=⟨_,rfl⟩
  have HS:Hid (rdAll s.data.toList (s.data.toList.length+1) ⟨0,[⟨0,[],[],0,[],0⟩],[],0⟩=S):=hS
  rw [<-hl,hS]
  have HBE:Hid (w.heap.size=B):=hB
  have HST:Hid (Li s.data.toList ⟨0,[⟨0,[],[],0,[],0⟩],[],0⟩):=li_start _
  have HRS:Hid (∀f d,rdAll s.data.toList (f+1) d=if s.data.toList.length<=d.i then .ok d else match rdLine s.data.toList d with | .error e=>.error e | .ok d1=>rdAll s.data.toList f d1):=rdAll_step _
  clear HE hbig hS hB hR hgR HDs hsz1 CH
  go_enter Tryz.func8,Tryz.ntmps8
  go_wp2_with (first | (go_at_call 17;refine CA.out.mono ?_))
  rintro e w2 ⟨rfl,hd2,hb2⟩
  rw [HBE.out] at hd2 ⊢
  have HD2:Hid (Dt w2 B 0 B s 0 0 (.ok 0) [⟨0,[],[],0,[],0⟩] []):=hd2
  have HB2:Hid (Below B w w2):=hb2
  clear hd2 hb2 CA
  go_wp2
  go_loopw [] (fun wr=>∃(q:Rs Sd) (f:Nat),(∀d,q=.ok d->Dt wr B 0 B s d.now 0 (.ok d.i) d.ns d.own/\Li s.data.toList d/\s.size - d.i < f/\rdAll s.data.toList f d=S)/\(∀c,q=.error c->(∃now,Fq wr B 0 B s now 0 c)/\S=.error c)/\Below B w wr) (fun wr=>dM wr B s)
  case atStart=>exact ⟨.ok ⟨0,[⟨0,[],[],0,[],0⟩],[],0⟩,s.data.toList.length+1,fun d hd=>(by cases hd;exact ⟨HD2.out,HST.out,by simp only [];omega,HS.out⟩),fun c hc=>(by cases hc),HB2.out⟩
  case round =>
   obtain ⟨q,f,hok,her,hbe⟩:=hrel
   have HBL:Hid (Below B w wr):=hbe
   clear hbe
   match q,hok,her with
   | .error c,_,her =>
    obtain ⟨⟨now,hf⟩,hSe⟩:=her c rfl
    obtain ⟨c5,c6,z1,z2⟩:=hf.cells
    have HSE:Hid (S=.error c):=hSe
    obtain ⟨x,hx⟩:∃x,c.1=x:=⟨_,rfl⟩
    obtain ⟨y,hy⟩:∃y,c.2=y:=⟨_,rfl⟩
    have HXY:Hid (c=(x,y)):=by show c=_;rw [<-hx,<-hy]
    rw [hx] at c5 z1 z2
    rw [hy] at c6
    clear hok her hf hSe hx hy
    go_wp2
    go_quiet (fail)
    go_wp2
    refine bodyPost_ret (results_tmp3 (t:=2) (u:=3) (v:=4) rfl _ _ _) rfl ?_
    rw [HSE.out,HXY.out]
    refine ⟨fun ns hh=>(by cases hh),fun c' p' hh=>?_,?_⟩
    ·have hh:(Except.error (x,y):Rs (List Tn))=.error (c',p'):=hh
     injection hh with hh
     injection hh with e1 e2
     subst e1 e2
     rfl
    ·have hb:=HBL.out
     rw [<-HBE.out] at hb
     exact gb_drew (bel_gbn hb) _
   | .ok d,hok,_ =>
    obtain ⟨hd,hL,hfu,hall⟩:=hok d rfl
    obtain ⟨f,rfl⟩:∃f',f=f'+1:=⟨f - 1,by omega⟩
    rw [HRS.out] at hall
    have HD:Hid (Dt wr B 0 B s d.now 0 (.ok d.i) d.ns d.own):=hd
    have HM:Hid (dM wr B s=s.size - d.i+1):=dq_ok hd
    obtain ⟨-,c1,c5,-,-,hdi,-⟩:=hd.cells
    have CL1:=CL.out d wr hd hL
    have HLO1:=HLO.out d
    obtain ⟨N,cc,O,oc,c2,-⟩:=hd.parts
    by_cases hlt:d.i < s.size
    ·rw [if_neg (by omega)] at hall
     have hltI:((d.i:Nat):Int) < (s.size:Int):=by omega
     obtain ⟨V,hV⟩:∃V,rdLine s.data.toList d=V:=⟨_,rfl⟩
     have HLO2:Hid (∀d',V=.ok d'->Li s.data.toList d'/\d.i < d'.i):=fun d' hh=>HLO1 d' hL hlt (hV.trans hh)
     rw [hV] at hall CL1
     have CL2:Hid (Calls Tryz.prog 18 #[.pointer (some ⟨B,0,none⟩)] wr (PrPost B 0 B s d.now d.own V wr)):=CL1
     have HAE:Hid (∀e,V=.error e->S=.error e):=fun e hh=>by rw [hh] at hall;exact hall.symm
     have HAO:Hid (∀d1,V=.ok d1->rdAll s.data.toList f d1=S):=fun d1 hh=>by rw [hh] at hall;exact hall
     clear hok her hd hL hall hV CL1 HLO1 c2
     go_wp2_with (first | (go_at_call 18;refine CL2.out.mono ?_;rintro e w3 ⟨rfl,a1,a2,hf3⟩))
     refine ⟨⟨V,f,fun d1 hh=>?_,fun c hh=>⟨a2 c hh,HAE.out c hh⟩,HBL.out.trans hf3.bel⟩,?_⟩
     ·have:=HLO2.out d1 hh
      exact ⟨a1 d1 hh,this.1,by omega,HAO.out d1 hh⟩
     ·rw [HM.out]
      match V,a1,a2,HLO2 with
      | .error c,_,a2,_ =>
       obtain ⟨now,hf⟩:=a2 c rfl
       rw [fq_no hf]
       omega
      | .ok d1,a1,_,HLO2 =>
       have:=HLO2.out d1 rfl
       rw [dq_ok (a1 d1 rfl)]
       omega
    ·rw [if_pos (by omega)] at hall
     have hgeI:¬ ((d.i:Nat):Int) < (s.size:Int):=by omega
     have hgeJ:(s.size:Int)<=((d.i:Nat):Int):=by omega
     have HSE:Hid (S=.ok d):=hall.symm
     obtain ⟨x1,x2,N,cc,O,oc,xs,ks,x3,x4,x5,x6⟩:=HD.out
     obtain ⟨-,-,c2',-,-,-,-,-,-⟩:=x6.2.cells
     have HX5:Hid (DtD wr B 0 d.ns d.ns.length d.own (.slice (some ⟨N,0,none⟩) d.ns.length cc) (.slice (some ⟨O,0,none⟩) d.ns.length oc) xs ks):=x5
     clear hok her hd hL hall CL1 HLO1 c2 x1 x2 x3 x4 x5 x6
     go_wp2
     refine bodyPost_ret (results_tmp3 (t:=2) (u:=3) (v:=4) rfl _ _ _) rfl ?_
     rw [HSE.out]
     refine ⟨fun ns hh=>?_,fun c p hh=>(by cases hh),?_⟩
     ·have hh:(Except.ok d.ns:Rs (List Tn))=.ok ns:=hh
      injection hh with hh
      subst hh
      rw [HBE.out]
      exact ⟨N,cc,_,xs,ks,d.own,_,rfl,HX5.out⟩
     ·have hb:=HBL.out
      rw [<-HBE.out] at hb
      exact bel_gbn hb
end Go.Proofs.YtbgnflcebafjjaaGreatDoor
namespace Go.Proofs.YtbgnflcebafjjaaGreatDoor
open Go.RowKit Go.Extern.Stop Go.Stop Go.Extern
set_option linter.unusedVariables false
theorem eTypeOf (v:Value) (w:World):(ReflectliteType.typeOf #[.iface 235 v]).run Tryz.prog w=.ok (.iface 139 (.agg #[.pointer (some ⟨14,235,none⟩)])) w:=by kernel_rfl
def cmpX:Array Value->Sem Value:=ReflectliteType.method fun t=>do Rtype.noPackHeld "Comparable" t;pure (.bool (<-typeInfo t).comparable)
theorem eComparable (w:World):(cmpX #[.agg #[.pointer (some ⟨14,235,none⟩)]]).run Tryz.prog w=.ok (.bool true) w:=by kernel_rfl
theorem eMethodComparable (v:Value) (w:World):(Go.method 366 139 v "Comparable").run Tryz.prog w=.ok (199,v) w:=by kernel_rfl
theorem eComp:(Tryz.prog.info? 235).map (·.comparable)=some true:=by kernel_rfl
theorem eSize:(Tryz.prog.info? 237).map (·.size)=some 1:=by kernel_rfl
theorem eNoIs (v:Value) (xT:TypeId) (w:World):(Instr.typeAssert (.iface 235 v) xT 150 true).run Tryz.prog w=.ok (.tuple #[.nilIface,.bool false]) w:=run_typeAssert_lacksB Tryz.underlying150 (by kernel_rfl) (by kernel_rfl) v xT w
theorem eNoUnwrap (v:Value) (xT:TypeId) (w:World):(Instr.typeAssert (.iface 235 v) xT 146 true).run Tryz.prog w=.ok (.tuple #[.nilIface,.bool false]) w:=run_typeAssert_lacksB Tryz.underlying146 (by kernel_rfl) (by kernel_rfl) v xT w
theorem eNoUnwraps (v:Value) (xT:TypeId) (w:World):(Instr.typeAssert (.iface 235 v) xT 147 true).run Tryz.prog w=.ok (.tuple #[.nilIface,.bool false]) w:=run_typeAssert_lacksB Tryz.underlying147 (by kernel_rfl) (by kernel_rfl) v xT w
theorem eNoAs (v:Value) (xT:TypeId) (w:World):(Instr.typeAssert (.iface 235 v) xT 143 true).run Tryz.prog w=.ok (.tuple #[.nilIface,.bool false]) w:=run_typeAssert_lacksB Tryz.underlying143 (by kernel_rfl) (by kernel_rfl) v xT w
theorem fNoIs (v:Value) (xT:TypeId) (w:World):(Instr.typeAssert (.iface 65 v) xT 150 true).run Tryz.prog w=.ok (.tuple #[.nilIface,.bool false]) w:=run_typeAssert_lacksB Tryz.underlying150 (by kernel_rfl) (by kernel_rfl) v xT w
theorem fHasUnwrap (v:Value) (xT:TypeId) (w:World):(Instr.typeAssert (.iface 65 v) xT 146 true).run Tryz.prog w=.ok (.tuple #[.iface 65 v,.bool true]) w:=run_typeAssert_hasB Tryz.underlying146 (by kernel_rfl) v xT w
theorem fMethodUnwrap (v:Value) (w:World):(Go.method 366 65 v "Unwrap").run Tryz.prog w=.ok (192,v) w:=by kernel_rfl
set_option maxRecDepth 100000 in
set_option maxHeartbeats 1600000 in
theorem is_same (a:Addr) (w:World):Calls Tryz.prog 25 #[.iface 235 (.pointer (some a)),.iface 235 (.pointer (some a))] w fun e w'=>e=.returned (.bool true)/\w'=w:=by
 obtain ⟨i,hi,hcmp⟩:=Option.map_eq_some_iff.1 eComp
 obtain ⟨j,hj,hjs⟩:=Option.map_eq_some_iff.1 eSize
 have h8:=@run_callFunc_extern Tryz.prog 50 _ ReflectliteType.typeOf Tryz.func50 (by kernel_rfl) (by kernel_rfl) (by kernel_rfl) (by kernel_rfl)
 have h32:=@run_callFunc_extern Tryz.prog 199 _ cmpX Tryz.func199 (by kernel_rfl) (by kernel_rfl) (by kernel_rfl) (by kernel_rfl)
 have tT:=eTypeOf
 have cT:=eComparable
 have mR:=eMethodComparable
 have heq:=run_eql_iface_ptr_same (P:=Tryz.prog) w a Tryz.underlying43 Tryz.underlying235 hi hcmp hj
 go_enter Tryz.func25,Tryz.ntmps25
 go_wp2
 refine wp_loop_rounds 1 ?_
 rw [rounds_succ]
 go_wp2
 go_ret
 exact ⟨rfl,rfl⟩
set_option maxRecDepth 100000 in
set_option maxHeartbeats 1600000 in
theorem is_fault_same (F:Nat) (b:Addr) (w:World) (h1:w.cell? ⟨F,1,none⟩=some (.iface 235 (.pointer (some b)))) :
  Calls Tryz.prog 25 #[.iface 65 (.pointer (some ⟨F,0,none⟩)),.iface 235 (.pointer (some b))] w fun e w'=>e=.returned (.bool true)/\w'=w:=by
 obtain ⟨i,hi,hcmp⟩:=Option.map_eq_some_iff.1 eComp
 obtain ⟨j,hj,hjs⟩:=Option.map_eq_some_iff.1 eSize
 have h8:=@run_callFunc_extern Tryz.prog 50 _ ReflectliteType.typeOf Tryz.func50 (by kernel_rfl) (by kernel_rfl) (by kernel_rfl) (by kernel_rfl)
 have h32:=@run_callFunc_extern Tryz.prog 199 _ cmpX Tryz.func199 (by kernel_rfl) (by kernel_rfl) (by kernel_rfl) (by kernel_rfl)
 have tT:=eTypeOf
 have cT:=eComparable
 have mR:=eMethodComparable
 have nE:=eNoIs
 have uE:=eNoUnwrap
 have vE:=eNoUnwraps
 have nW:=fNoIs
 have uW:=fHasUnwrap
 have mU:=fMethodUnwrap
 have heq:=run_eql_iface_ptr_same (P:=Tryz.prog) w b Tryz.underlying43 Tryz.underlying235 hi hcmp hj
 have hty:=run_eql_iface_types (P:=Tryz.prog) 65 235 (.pointer (some ⟨F,0,none⟩)) (.pointer (some b)) Tryz.underlying43 (by decide) w
 go_enter Tryz.func25,Tryz.ntmps25
 go_wp2
 refine wp_loop_rounds 2 ?_
 rw [rounds_succ]
 go_wp2
 rw [rounds_succ]
 go_wp2
 go_ret
 exact ⟨rfl,rfl⟩
set_option maxRecDepth 100000 in
set_option maxHeartbeats 1600000 in
theorem is_fault_other (F:Nat) (b a:Addr) (ca cb:Array Value) (ta tb:TypeId) (w:World) (h1:w.cell? ⟨F,1,none⟩=some (.iface 235 (.pointer (some a)))) (hne:a ≠ b) (ha:w.heap[a.block]?=some (.cells ca ta (0,0))) (hb:w.heap[b.block]?=some (.cells cb tb (0,0))) :
  Calls Tryz.prog 25 #[.iface 65 (.pointer (some ⟨F,0,none⟩)),.iface 235 (.pointer (some b))] w fun e w'=>e=.returned (.bool false)/\w'=w:=by
 obtain ⟨i,hi,hcmp⟩:=Option.map_eq_some_iff.1 eComp
 obtain ⟨j,hj,hjs⟩:=Option.map_eq_some_iff.1 eSize
 have h8:=@run_callFunc_extern Tryz.prog 50 _ ReflectliteType.typeOf Tryz.func50 (by kernel_rfl) (by kernel_rfl) (by kernel_rfl) (by kernel_rfl)
 have h32:=@run_callFunc_extern Tryz.prog 199 _ cmpX Tryz.func199 (by kernel_rfl) (by kernel_rfl) (by kernel_rfl) (by kernel_rfl)
 have tT:=eTypeOf
 have cT:=eComparable
 have mR:=eMethodComparable
 have nE:=eNoIs
 have uE:=eNoUnwrap
 have vE:=eNoUnwraps
 have nW:=fNoIs
 have uW:=fHasUnwrap
 have mU:=fMethodUnwrap
 have heq:=run_eql_iface_ptr_other (P:=Tryz.prog) w Tryz.underlying43 Tryz.underlying235 hi hcmp hj (by rw [hjs];decide) hne ha hb
 have hty:=run_eql_iface_types (P:=Tryz.prog) 65 235 (.pointer (some ⟨F,0,none⟩)) (.pointer (some b)) Tryz.underlying43 (by decide) w
 go_enter Tryz.func25,Tryz.ntmps25
 go_wp2
 refine wp_loop_rounds 2 ?_
 rw [rounds_succ]
 go_wp2
 rw [rounds_succ]
 go_wp2
 go_ret
 exact ⟨rfl,rfl⟩
theorem aValueOf (t:Addr) (w:World):(ReflectliteValue.unpack (.iface 67 (.pointer (some t)))).run Tryz.prog w
  = .ok (.agg #[.pointer (some ⟨14,67,none⟩),.pointer (some ⟨w.heap.size,0,none⟩),.int .u64 150]) (w.alloc (.cells #[.pointer (some t)] 67)):=by kernel_rfl
theorem aType (a:Addr) (w:World):(ReflectliteValue.methodAny (ReflectliteValue.valueError "reflectlite.Value.Type" 0) (fun t _ _ _=>ReflectliteType.toType t) #[.agg #[.pointer (some ⟨14,67,none⟩),.pointer (some a),.int .u64 150]]).run Tryz.prog w
  = .ok (.iface 139 (.agg #[.pointer (some ⟨14,67,none⟩)])) w:=by kernel_rfl
theorem aMethodKind (h:Value) (w:World):(Go.method 366 139 (.agg #[h]) "Kind").run Tryz.prog w=.ok (188,h) w:=by kernel_rfl
theorem aKindPP (w:World):((ReflectliteType.abiMethod fun t=>(fun a:Nat=>Value.int IntKind.u8 (a:Int)) <$> Rtype.kind t) #[.pointer (some ⟨14,67,none⟩)]).run Tryz.prog w=.ok (.int .u8 22) w:=by kernel_rfl
theorem aKindP (w:World):((ReflectliteType.abiMethod fun t=>(fun a:Nat=>Value.int IntKind.u8 (a:Int)) <$> Rtype.kind t) #[.pointer (some ⟨14,65,none⟩)]).run Tryz.prog w=.ok (.int .u8 22) w:=by kernel_rfl
theorem aRlm (z:Sem Value) (f:TypeId->Addr->Nat->Nat->Sem Value) (v:Value) :
  ReflectliteValue.method z f #[v]=(do match <-ReflectliteValue.parts v with | none=>z | some (t,a,fl)=>f t a fl (fl % 32)):=rfl
theorem aPartsPP (a:Addr) (w:World):(ReflectliteValue.parts (.agg #[.pointer (some ⟨14,67,none⟩),.pointer (some a),.int .u64 150])).run Tryz.prog w=.ok (some (67,a,150)) w:=by kernel_rfl
theorem aIsNil (a p:Addr) (W:World) (ha:W.cell? a=some (.pointer (some p))) :
  (ReflectliteValue.method (ReflectliteValue.valueError "reflectlite.Value.IsNil" 0) ReflectliteValue.isNil #[.agg #[.pointer (some ⟨14,67,none⟩),.pointer (some a),.int .u64 150]]).run Tryz.prog W=.ok (.bool false) W:=by
 rw [aRlm]
 simp only [Sem.run_bind,aPartsPP,Result.andThen]
 simp [ReflectliteValue.isNil,loadVar,isAgg,underlying,Tryz.underlying67,ha,Result.andThen]
theorem aMethodElem (h:Value) (w:World):(Go.method 366 139 (.agg #[h]) "Elem").run Tryz.prog w=.ok (200,.agg #[h]) w:=by kernel_rfl
theorem aMethodImplements (h:Value) (w:World):(Go.method 366 139 (.agg #[h]) "Implements").run Tryz.prog w=.ok (201,.agg #[h]) w:=by kernel_rfl
theorem aMethodAssignable (h:Value) (w:World):(Go.method 366 139 (.agg #[h]) "AssignableTo").run Tryz.prog w=.ok (198,.agg #[h]) w:=by kernel_rfl
theorem aElem (w:World):(ReflectliteType.method ReflectliteType.elem #[.agg #[.pointer (some ⟨14,67,none⟩)]]).run Tryz.prog w=.ok (.iface 139 (.agg #[.pointer (some ⟨14,65,none⟩)])) w:=by kernel_rfl
theorem aImplements (w:World):(ReflectliteType.relation "Implements" ReflectliteType.implements_ #[.agg #[.pointer (some ⟨14,65,none⟩)],.iface 139 (.agg #[.pointer (some ⟨14,43,none⟩)])]).run Tryz.prog w=.ok (.bool true) w:=by kernel_rfl
theorem aTypeOf (v:Value) (w:World):(ReflectliteType.typeOf #[.iface 65 v]).run Tryz.prog w=.ok (.iface 139 (.agg #[.pointer (some ⟨14,65,none⟩)])) w:=by kernel_rfl
theorem aAssignable (w:World):(ReflectliteType.relation "AssignableTo" ReflectliteType.assignableTo #[.agg #[.pointer (some ⟨14,65,none⟩)],.iface 139 (.agg #[.pointer (some ⟨14,65,none⟩)])]).run Tryz.prog w=.ok (.bool true) w:=by kernel_rfl
theorem aAssignableNo (w:World):(ReflectliteType.relation "AssignableTo" ReflectliteType.assignableTo #[.agg #[.pointer (some ⟨14,235,none⟩)],.iface 139 (.agg #[.pointer (some ⟨14,65,none⟩)])]).run Tryz.prog w=.ok (.bool false) w:=by kernel_rfl
theorem aValueOfP (e:Addr) (w:World):(ReflectliteValue.unpack (.iface 65 (.pointer (some e)))).run Tryz.prog w
  = .ok (.agg #[.pointer (some ⟨14,65,none⟩),.pointer (some ⟨w.heap.size,0,none⟩),.int .u64 150]) (w.alloc (.cells #[.pointer (some e)] 65)):=by kernel_rfl
theorem aElemOf (w:World):(Rtype.elem? 67).run Tryz.prog w=.ok (some 65) w:=by kernel_rfl
theorem aMk (p:Addr) (w:World):(ReflectliteValue.mk 65 p ReflectliteValue.flagAddr).run Tryz.prog w=.ok (.agg #[.pointer (some ⟨14,65,none⟩),.pointer (some p),.int .u64 406]) w:=by kernel_rfl
theorem aElemV (a p:Addr) (W:World) (ha:W.cell? a=some (.pointer (some p))) :
  (ReflectliteValue.method (ReflectliteValue.valueError "reflectlite.Value.Elem" 0) ReflectliteValue.elem #[.agg #[.pointer (some ⟨14,67,none⟩),.pointer (some a),.int .u64 150]]).run Tryz.prog W
   = .ok (.agg #[.pointer (some ⟨14,65,none⟩),.pointer (some p),.int .u64 406]) W:=by
 rw [aRlm]
 simp only [Sem.run_bind,aPartsPP,Result.andThen]
 simp [ReflectliteValue.elem,loadVar,isAgg,underlying,Tryz.underlying67,ha,Result.andThen,aElemOf,aMk]
theorem aRls (v x:Value):ReflectliteValue.set #[v,x]=(do
  let (some (dst,a,fl),some (src,b,_)):=(<-ReflectliteValue.parts v,<-ReflectliteValue.parts x)
   | unsupported (.noEntry "extern/(internal/reflectlite.Value).Set.zeroValue")
  if fl / ReflectliteValue.flagAddr % 2 == 0 then unsupported (.noEntry "extern/(internal/reflectlite.Value).Set.unaddressable")
  let val <-loadVar src b
  if <-Rtype.directlyAssignable dst src then storeVar dst a val
  else if <-Rtype.implements dst src then
   if (<-Rtype.kind src) == 20 then
    match val with
    | .nilIface=>unsupported (.noEntry "extern/reflectlite: a nil value of one interface type handed on as a value of another")
    | _=>storeVar dst a val
   else storeVar dst a (.iface src val)
  else panicString ("reflectlite.Set: value of type "++(<-Rtype.spelt src) ++ " is not assignable to type "++(<-Rtype.spelt dst))
  pure (.tuple #[])):=rfl
theorem aPartsPa (a:Addr) (w:World):(ReflectliteValue.parts (.agg #[.pointer (some ⟨14,65,none⟩),.pointer (some a),.int .u64 406])).run Tryz.prog w=.ok (some (65,a,406)) w:=by kernel_rfl
theorem aPartsP (a:Addr) (w:World):(ReflectliteValue.parts (.agg #[.pointer (some ⟨14,65,none⟩),.pointer (some a),.int .u64 150])).run Tryz.prog w=.ok (some (65,a,150)) w:=by kernel_rfl
theorem aDirect (w:World):(Rtype.directlyAssignable 65 65).run Tryz.prog w=.ok true w:=by kernel_rfl
theorem aSet (ta b e:Addr) (old:Value) (W:World) (hb:W.cell? b=some (.pointer (some e))) (ht:W.cell? ta=some old) (hf:W.frozen? ta=false) :
  (ReflectliteValue.set #[.agg #[.pointer (some ⟨14,65,none⟩),.pointer (some ta),.int .u64 406],.agg #[.pointer (some ⟨14,65,none⟩),.pointer (some b),.int .u64 150]]).run Tryz.prog W
   = .ok (.tuple #[]) (W.setCell ta (.pointer (some e))):=by
 rw [aRls]
 simp only [Sem.run_bind,aPartsPa,aPartsP,Result.andThen]
 simp [ReflectliteValue.flagAddr,loadVar,isAgg,underlying,Tryz.underlying65,hb,Result.andThen,aDirect,storeVar,Value.cells,storeCells,Addr.add]
 rw [run_store Tryz.prog W ta _ _ (by rfl)]
 simp [ht,hf]
set_option maxRecDepth 100000 in
set_option maxHeartbeats 8000000 in
theorem as_hit (e t:Addr) (old:Value) (w:World) (hg:w.cell? ⟨4,0,none⟩=some (.iface 139 (.agg #[.pointer (some ⟨14,43,none⟩)]))) (ht0:w.cell? t=some old) (hf0:w.frozen? t=false) :
  Calls Tryz.prog 24 #[.iface 65 (.pointer (some e)),.iface 67 (.pointer (some t))] w fun ev w'=>ev=.returned (.bool true)/\w'=((((w.alloc (.cells #[.pointer (some t)] 67)).alloc (.cells #[.pointer (some ⟨14,67,none⟩),.pointer (some ⟨w.heap.size,0,none⟩),.int .u64 150] 96)).alloc (.cells #[.pointer (some ⟨14,67,none⟩),.pointer (some ⟨w.heap.size,0,none⟩),.int .u64 150] 96)).alloc (.cells #[.pointer (some e)] 65)).setCell t (.pointer (some e)):=by
 have h6:=@run_callFunc_extern Tryz.prog 46 _ (fun args=>ReflectliteValue.unpack (args.getD 0 (.tuple #[]))) Tryz.func46 (by kernel_rfl) (by kernel_rfl) (by kernel_rfl) (by kernel_rfl)
 have h7:=@run_callFunc_extern Tryz.prog 47 _ (ReflectliteValue.methodAny (ReflectliteValue.valueError "reflectlite.Value.Type" 0) (fun t _ _ _=>ReflectliteType.toType t)) Tryz.func47 (by kernel_rfl) (by kernel_rfl) (by kernel_rfl) (by kernel_rfl)
 have h8:=@run_callFunc_extern Tryz.prog 48 _ (ReflectliteValue.method (ReflectliteValue.valueError "reflectlite.Value.IsNil" 0) ReflectliteValue.isNil) Tryz.func48 (by kernel_rfl) (by kernel_rfl) (by kernel_rfl) (by kernel_rfl)
 have h27:=@run_callFunc_extern Tryz.prog 188 _ (ReflectliteType.abiMethod fun t=>do pure (.int .u8 (<-Rtype.kind t))) Tryz.func188 (by kernel_rfl) (by kernel_rfl) (by kernel_rfl) (by kernel_rfl)
 have h37:=@run_callFunc_extern Tryz.prog 200 _ (ReflectliteType.method ReflectliteType.elem) Tryz.func200 (by kernel_rfl) (by kernel_rfl) (by kernel_rfl) (by kernel_rfl)
 have h38:=@run_callFunc_extern Tryz.prog 201 _ (ReflectliteType.relation "Implements" ReflectliteType.implements_) Tryz.func201 (by kernel_rfl) (by kernel_rfl) (by kernel_rfl) (by kernel_rfl)
 have h10:=@run_callFunc_extern Tryz.prog 50 _ ReflectliteType.typeOf Tryz.func50 (by kernel_rfl) (by kernel_rfl) (by kernel_rfl) (by kernel_rfl)
 have h35:=@run_callFunc_extern Tryz.prog 198 _ (ReflectliteType.relation "AssignableTo" ReflectliteType.assignableTo) Tryz.func198 (by kernel_rfl) (by kernel_rfl) (by kernel_rfl) (by kernel_rfl)
 have h11:=@run_callFunc_extern Tryz.prog 80 _ (ReflectliteValue.method (ReflectliteValue.valueError "reflectlite.Value.Elem" 0) ReflectliteValue.elem) Tryz.func80 (by kernel_rfl) (by kernel_rfl) (by kernel_rfl) (by kernel_rfl)
 have h12:=@run_callFunc_extern Tryz.prog 81 _ ReflectliteValue.set Tryz.func81 (by kernel_rfl) (by kernel_rfl) (by kernel_rfl) (by kernel_rfl)
 have tO:=aTypeOf
 have mA:=aMethodAssignable
 have a25:=aAssignable
 have v25:=aValueOfP
 have f6:=aValueOf
 have f7:=aType
 have mK:=aMethodKind
 have mE:=aMethodElem
 have mI:=aMethodImplements
 have k27:=aKindPP
 have k25:=aKindP
 have e27:=aElem
 have i25:=aImplements
 have n8:=aIsNil ⟨w.heap.size,0,none⟩ t ((w.alloc (.cells #[.pointer (some t)] 67)).alloc (.cells #[.pointer (some ⟨14,67,none⟩),.pointer (some ⟨w.heap.size,0,none⟩),.int .u64 150] 96)) (by simp)
 have hlt:4 < w.heap.size:=by
  rcases Nat.lt_or_ge 4 w.heap.size with h | h
  ·exact h
  ·simp [World.cell?,Array.getElem?_eq_none h] at hg
 have hg2:((w.alloc (.cells #[.pointer (some t)] 67)).alloc (.cells #[.pointer (some ⟨14,67,none⟩),.pointer (some ⟨w.heap.size,0,none⟩),.int .u64 150] 96)).cell? ⟨4,0,none⟩=some (.iface 139 (.agg #[.pointer (some ⟨14,43,none⟩)])):=by
  rw [World.cell?_alloc_lt _ _ ⟨4,0,none⟩ (by simp;omega),World.cell?_alloc_lt _ _ ⟨4,0,none⟩ hlt];exact hg
 have htl:t.block < w.heap.size:=by
  rcases Nat.lt_or_ge t.block w.heap.size with h | h
  ·exact h
  ·simp [World.cell?,Array.getElem?_eq_none h] at ht0
 have el:=aElemV ⟨w.heap.size,0,none⟩ t (((w.alloc (.cells #[.pointer (some t)] 67)).alloc (.cells #[.pointer (some ⟨14,67,none⟩),.pointer (some ⟨w.heap.size,0,none⟩),.int .u64 150] 96)).alloc (.cells #[.pointer (some ⟨14,67,none⟩),.pointer (some ⟨w.heap.size,0,none⟩),.int .u64 150] 96)) (by rw [World.cell?_alloc_lt _ _ ⟨w.heap.size,0,none⟩ (by simp;omega)];simp)
 have st:=aSet t ⟨w.heap.size+1+1+1,0,none⟩ e old ((((w.alloc (.cells #[.pointer (some t)] 67)).alloc (.cells #[.pointer (some ⟨14,67,none⟩),.pointer (some ⟨w.heap.size,0,none⟩),.int .u64 150] 96)).alloc (.cells #[.pointer (some ⟨14,67,none⟩),.pointer (some ⟨w.heap.size,0,none⟩),.int .u64 150] 96)).alloc (.cells #[.pointer (some e)] 65))
  (by rw [World.cell?_alloc_at _ _ _ _ (by simp)];rfl)
  (by rw [World.cell?_alloc_lt _ _ t (by simp;omega),World.cell?_alloc_lt _ _ t (by simp;omega),World.cell?_alloc_lt _ _ t (by simp;omega),World.cell?_alloc_lt _ _ t htl];exact ht0)
  (by rw [World.frozen?_alloc_old _ _ t (by simp;omega),World.frozen?_alloc_old _ _ t (by simp;omega),World.frozen?_alloc_old _ _ t (by simp;omega),World.frozen?_alloc_old _ _ t (Nat.ne_of_lt htl)];exact hf0)
 go_enter Tryz.func24,Tryz.ntmps24
 go_wp2
 refine wp_loop_rounds 1 ?_
 rw [rounds_succ]
 go_wp2
 go_ret
 exact ⟨rfl,rfl⟩
set_option maxRecDepth 100000 in
set_option maxHeartbeats 8000000 in
theorem as_miss (e t:Addr) (old:Value) (w:World) (hg:w.cell? ⟨4,0,none⟩=some (.iface 139 (.agg #[.pointer (some ⟨14,43,none⟩)]))) (ht0:w.cell? t=some old) (hf0:w.frozen? t=false) :
  Calls Tryz.prog 24 #[.iface 235 (.pointer (some e)),.iface 67 (.pointer (some t))] w fun ev w'=>ev=.returned (.bool false)/\w.grownBy w' none:=by
 have h6:=@run_callFunc_extern Tryz.prog 46 _ (fun args=>ReflectliteValue.unpack (args.getD 0 (.tuple #[]))) Tryz.func46 (by kernel_rfl) (by kernel_rfl) (by kernel_rfl) (by kernel_rfl)
 have h7:=@run_callFunc_extern Tryz.prog 47 _ (ReflectliteValue.methodAny (ReflectliteValue.valueError "reflectlite.Value.Type" 0) (fun t _ _ _=>ReflectliteType.toType t)) Tryz.func47 (by kernel_rfl) (by kernel_rfl) (by kernel_rfl) (by kernel_rfl)
 have h8:=@run_callFunc_extern Tryz.prog 48 _ (ReflectliteValue.method (ReflectliteValue.valueError "reflectlite.Value.IsNil" 0) ReflectliteValue.isNil) Tryz.func48 (by kernel_rfl) (by kernel_rfl) (by kernel_rfl) (by kernel_rfl)
 have h27:=@run_callFunc_extern Tryz.prog 188 _ (ReflectliteType.abiMethod fun t=>do pure (.int .u8 (<-Rtype.kind t))) Tryz.func188 (by kernel_rfl) (by kernel_rfl) (by kernel_rfl) (by kernel_rfl)
 have h37:=@run_callFunc_extern Tryz.prog 200 _ (ReflectliteType.method ReflectliteType.elem) Tryz.func200 (by kernel_rfl) (by kernel_rfl) (by kernel_rfl) (by kernel_rfl)
 have h38:=@run_callFunc_extern Tryz.prog 201 _ (ReflectliteType.relation "Implements" ReflectliteType.implements_) Tryz.func201 (by kernel_rfl) (by kernel_rfl) (by kernel_rfl) (by kernel_rfl)
 have h10:=@run_callFunc_extern Tryz.prog 50 _ ReflectliteType.typeOf Tryz.func50 (by kernel_rfl) (by kernel_rfl) (by kernel_rfl) (by kernel_rfl)
 have h35:=@run_callFunc_extern Tryz.prog 198 _ (ReflectliteType.relation "AssignableTo" ReflectliteType.assignableTo) Tryz.func198 (by kernel_rfl) (by kernel_rfl) (by kernel_rfl) (by kernel_rfl)
 have tO:=eTypeOf
 have mA:=aMethodAssignable
 have a25:=aAssignableNo
 have f6:=aValueOf
 have f7:=aType
 have mK:=aMethodKind
 have mE:=aMethodElem
 have mI:=aMethodImplements
 have k27:=aKindPP
 have k25:=aKindP
 have e27:=aElem
 have i25:=aImplements
 have nA:=eNoAs
 have uE:=eNoUnwrap
 have vE:=eNoUnwraps
 have n8:=aIsNil ⟨w.heap.size,0,none⟩ t ((w.alloc (.cells #[.pointer (some t)] 67)).alloc (.cells #[.pointer (some ⟨14,67,none⟩),.pointer (some ⟨w.heap.size,0,none⟩),.int .u64 150] 96)) (by simp)
 have hlt:4 < w.heap.size:=by
  rcases Nat.lt_or_ge 4 w.heap.size with h | h
  ·exact h
  ·simp [World.cell?,Array.getElem?_eq_none h] at hg
 have hg2:((w.alloc (.cells #[.pointer (some t)] 67)).alloc (.cells #[.pointer (some ⟨14,67,none⟩),.pointer (some ⟨w.heap.size,0,none⟩),.int .u64 150] 96)).cell? ⟨4,0,none⟩=some (.iface 139 (.agg #[.pointer (some ⟨14,43,none⟩)])):=by
  rw [World.cell?_alloc_lt _ _ ⟨4,0,none⟩ (by simp;omega),World.cell?_alloc_lt _ _ ⟨4,0,none⟩ hlt];exact hg
 have htl:t.block < w.heap.size:=by
  rcases Nat.lt_or_ge t.block w.heap.size with h | h
  ·exact h
  ·simp [World.cell?,Array.getElem?_eq_none h] at ht0
 have HG:Hid (w.grownBy (((w.alloc (.cells #[.pointer (some t)] 67)).alloc (.cells #[.pointer (some ⟨14,67,none⟩),.pointer (some ⟨w.heap.size,0,none⟩),.int .u64 150] 96)).alloc (.cells #[.pointer (some ⟨14,67,none⟩),.pointer (some ⟨w.heap.size,0,none⟩),.int .u64 150] 96)) none):=gb_trans (gb_trans (World.grownBy_alloc _ _ none) (World.grownBy_alloc _ _ none)) (World.grownBy_alloc _ _ none)
 go_enter Tryz.func24,Tryz.ntmps24
 go_wp2
 refine wp_loop_rounds 1 ?_
 rw [rounds_succ]
 go_wp2
 go_ret
 first
 | exact ⟨rfl,HG.out⟩
 | (refine ⟨rfl,?_⟩;trace_state;exact HG.out)
end Go.Proofs.YtbgnflcebafjjaaGreatDoor
namespace Go.Proofs.YtbgnflcebafjjaaGreatDoor
open Go.RowKit Go.Maps Go.WideMaps Go.Joins
set_option linter.unusedVariables false
structure Sn (w:World) (E:Int->TypeId × Value) (b:Int->Addr):Prop where
 ptr:∀k,1<=k->k<=5->E k=(235,.pointer (some (b k)))
 blk:∀k,1<=k->k<=5->∃cs t,w.heap[(b k).block]?=some (.cells cs t (0,0))
 ne:∀k m,1<=k->k<=5->1<=m->m<=5->b k=b m->k=m
 ty:w.cell? ⟨4,0,none⟩=some (.iface 139 (.agg #[.pointer (some ⟨14,43,none⟩)]))
 lo:w.cell? ⟨0,0,none⟩=some (.iface (E 1).1 (E 1).2)
theorem Sn.grow {w w':World} {E:Int->TypeId × Value} {b:Int->Addr} (h:Sn w E b) (hg:w.grownBy w' none):Sn w' E b :=
 ⟨h.ptr,fun k h1 h2=>by
  obtain ⟨cs,t,hb⟩:=h.blk k h1 h2
  exact ⟨cs,t,(hg.block _ (blk_lt hb) (by simp)).trans hb⟩,h.ne,hg.cell h.ty (by simp),hg.cell h.lo (by simp)⟩
theorem is_fault (w:World) (E:Int->TypeId × Value) (b:Int->Addr) (h:Sn w E b) (F:Nat) (c k:Int) (h1:1<=c) (h2:c<=5) (h3:1<=k) (h4:k<=5) (hF:w.cell? ⟨F,1,none⟩=some (.iface (E c).1 (E c).2)) :
  Calls Tryz.prog 25 #[.iface 65 (.pointer (some ⟨F,0,none⟩)),.iface (E k).1 (E k).2] w fun e w'=>e=.returned (.bool (decide (c=k)))/\w'=w:=by
 have ec:=h.ptr c h1 h2
 have ek:=h.ptr k h3 h4
 rw [ec] at hF
 rw [ek]
 by_cases hck:c=k
 ·subst hck
  rw [decide_eq_true rfl]
  exact is_fault_same F (b c) w hF
 ·rw [decide_eq_false hck]
  obtain ⟨ca,ta,ha⟩:=h.blk c h1 h2
  obtain ⟨cb,tb,hb⟩:=h.blk k h3 h4
  exact is_fault_other F (b k) (b c) ca cb ta tb w hF (fun e=>hck (h.ne c k h1 h2 h3 h4 e)) ha hb
set_option maxRecDepth 100000 in
set_option maxHeartbeats 3200000 in
theorem tTold_fault (E:Int->TypeId × Value) (b:Int->Addr) (w:World) (F:Nat) (c:Int) (p:Nat) (G:Gl w w.heap.size E) (S:Sn w E b) (h1:1<=c) (h2:c<=5) (hF:w.heap[F]?=some (.cells #[.int .i64 (p:Nat),.iface (E c).1 (E c).2] 69 (0,0))) :
  Calls Tryz.prog 16 #[.iface 65 (.pointer (some ⟨F,0,none⟩))] w fun e w'=>e=.returned (.tuple #[.int .i64 c,.int .i64 (p:Nat)])/\w.grownBy w' none:=by
 -- the variable's block
 have hgT:w.grownBy (w.alloc (.cells #[.pointer none] 65)) none:=World.grownBy_alloc _ _ none
 obtain ⟨w1,hw1⟩:∃W,w.alloc (.cells #[.pointer none] 65)=W:=⟨_,rfl⟩
 have hT:w1.heap[w.heap.size]?=some (.cells #[.pointer none] 65 (0,0)):=by rw [<-hw1];exact heap_alloc_new w _
 rw [hw1] at hgT
 have S1:=S.grow hgT
 obtain ⟨T,hTe⟩:∃T,w.heap.size=T:=⟨_,rfl⟩
 rw [hTe] at hT
 have CA:=as_hit ⟨F,0,none⟩ ⟨T,0,none⟩ (.pointer none) w1 S1.ty (by rw [Lib.cell_of_heap hT];rfl) (Lib.frozen_of_heap hT 0)
 -- the world behind errors.As
 have HFT:¬ F=T:=fun e=>by have:=blk_lt hF;omega
 have post:∀w2:World,w2=((((w1.alloc (.cells #[.pointer (some ⟨T,0,none⟩)] 67)).alloc (.cells #[.pointer (some ⟨14,67,none⟩),.pointer (some ⟨w1.heap.size,0,none⟩),.int .u64 150] 96)).alloc (.cells #[.pointer (some ⟨14,67,none⟩),.pointer (some ⟨w1.heap.size,0,none⟩),.int .u64 150] 96)).alloc (.cells #[.pointer (some ⟨F,0,none⟩)] 65)).setCell ⟨T,0,none⟩ (.pointer (some ⟨F,0,none⟩))->w.grownBy w2 none/\w2.cell? ⟨T,0,none⟩=some (.pointer (some ⟨F,0,none⟩))/\w2.cell? ⟨F,0,none⟩=some (.int .i64 (p:Nat))/\w2.cell? ⟨F,1,none⟩=some (.iface (E c).1 (E c).2):=fun w2 e=>by
  obtain ⟨wx,hwx⟩:∃W,(((w1.alloc (.cells #[.pointer (some ⟨T,0,none⟩)] 67)).alloc (.cells #[.pointer (some ⟨14,67,none⟩),.pointer (some ⟨w1.heap.size,0,none⟩),.int .u64 150] 96)).alloc (.cells #[.pointer (some ⟨14,67,none⟩),.pointer (some ⟨w1.heap.size,0,none⟩),.int .u64 150] 96)).alloc (.cells #[.pointer (some ⟨F,0,none⟩)] 65)=W:=⟨_,rfl⟩
  have g1:w1.grownBy wx none:=by
   rw [<-hwx]
   exact gb_trans (gb_trans (gb_trans (World.grownBy_alloc _ _ none) (World.grownBy_alloc _ _ none)) (World.grownBy_alloc _ _ none)) (World.grownBy_alloc _ _ none)
  rw [hwx] at e
  have hTx:wx.heap[T]?=some (.cells #[.pointer none] 65 (0,0)):=(g1.block T (blk_lt hT) (by simp)).trans hT
  have hset:=block_setCell (i:=0) hTx (.pointer (some ⟨F,0,none⟩))
  rw [<-e] at hset
  have hF2:w2.heap[F]?=some (.cells #[.int .i64 (p:Nat),.iface (E c).1 (E c).2] 69 (0,0)):=by
   have e1:=(hgT.block F (blk_lt hF) (by simp)).trans hF
   have e2:=(g1.block F (blk_lt e1) (by simp)).trans e1
   rw [e]
   exact (heap_setCell_other _ _ _ _ HFT).trans e2
  refine ⟨?_,by rw [Lib.cell_of_heap hset];rfl,by rw [Lib.cell_of_heap hF2];rfl,by rw [Lib.cell_of_heap hF2];rfl⟩
  have g2:w.grownBy wx none:=gb_trans hgT g1
  rw [e]
  refine ⟨g2.os,g2.tape,g2.output,by simpa [World.setCell] using g2.size,fun k hk hn=>?_⟩
  rw [heap_setCell_other wx _ k _ (by simp;omega)]
  exact g2.block k hk hn
 have HCA:Hid (Calls Tryz.prog 24 #[.iface 65 (.pointer (some ⟨F,0,none⟩)),.iface 67 (.pointer (some ⟨T,0,none⟩))] w1 fun ev w2=>ev=.returned (.bool true)/\w.grownBy w2 none/\w2.cell? ⟨T,0,none⟩=some (.pointer (some ⟨F,0,none⟩))/\w2.cell? ⟨F,0,none⟩=some (.int .i64 (p:Nat))/\w2.cell? ⟨F,1,none⟩=some (.iface (E c).1 (E c).2)):=by
  refine CA.mono ?_
  rintro e w2 ⟨rfl,hw2⟩
  exact ⟨rfl,post w2 hw2⟩
 have CIs:Hid (∀w2,w.grownBy w2 none->w2.cell? ⟨F,1,none⟩=some (.iface (E c).1 (E c).2)->∀k,1<=k->k<=5->Calls Tryz.prog 25 #[.iface 65 (.pointer (some ⟨F,0,none⟩)),.iface (E k).1 (E k).2] w2 fun e w'=>e=.returned (.bool (decide (c=k)))/\w'=w2):=fun w2 hg hc k h3 h4=>is_fault w2 E b (S.grow hg) F c k (by omega) h2 h3 h4 hc
 have HGC:Hid (∀w2,w.grownBy w2 none->w2.cell? ⟨0,0,none⟩=some (.iface (E 1).1 (E 1).2)/\w2.cell? ⟨1,0,none⟩=some (.iface (E 3).1 (E 3).2)/\w2.cell? ⟨2,0,none⟩=some (.iface (E 4).1 (E 4).2)/\w2.cell? ⟨3,0,none⟩=some (.iface (E 5).1 (E 5).2)):=fun w2 hg=>⟨(S.grow hg).lo,hg.cell G.es.ra (by simp),hg.cell G.es.ma (by simp),hg.cell G.es.tw (by simp)⟩
 have HW1:Hid (w.alloc (.cells #[.pointer none] 65)=w1):=hw1
 obtain ⟨t1,ht1⟩:∃x,E 1=x:=⟨_,rfl⟩
 obtain ⟨t3,ht3⟩:∃x,E 3=x:=⟨_,rfl⟩
 obtain ⟨t4,ht4⟩:∃x,E 4=x:=⟨_,rfl⟩
 obtain ⟨t5,ht5⟩:∃x,E 5=x:=⟨_,rfl⟩
 have CI1:Hid (∀w2,w.grownBy w2 none->w2.cell? ⟨F,1,none⟩=some (.iface (E c).1 (E c).2)->Calls Tryz.prog 25 #[.iface 65 (.pointer (some ⟨F,0,none⟩)),.iface t1.1 t1.2] w2 fun e w'=>e=.returned (.bool (decide (c=1)))/\w'=w2):=fun w2 a d=>by
  have:=CIs.out w2 a d 1 (by omega) (by omega)
  rw [ht1] at this
  exact this
 have CI3:Hid (∀w2,w.grownBy w2 none->w2.cell? ⟨F,1,none⟩=some (.iface (E c).1 (E c).2)->Calls Tryz.prog 25 #[.iface 65 (.pointer (some ⟨F,0,none⟩)),.iface t3.1 t3.2] w2 fun e w'=>e=.returned (.bool (decide (c=3)))/\w'=w2):=fun w2 a d=>by
  have:=CIs.out w2 a d 3 (by omega) (by omega)
  rw [ht3] at this
  exact this
 have CI4:Hid (∀w2,w.grownBy w2 none->w2.cell? ⟨F,1,none⟩=some (.iface (E c).1 (E c).2)->Calls Tryz.prog 25 #[.iface 65 (.pointer (some ⟨F,0,none⟩)),.iface t4.1 t4.2] w2 fun e w'=>e=.returned (.bool (decide (c=4)))/\w'=w2):=fun w2 a d=>by
  have:=CIs.out w2 a d 4 (by omega) (by omega)
  rw [ht4] at this
  exact this
 have CI5:Hid (∀w2,w.grownBy w2 none->w2.cell? ⟨F,1,none⟩=some (.iface (E c).1 (E c).2)->Calls Tryz.prog 25 #[.iface 65 (.pointer (some ⟨F,0,none⟩)),.iface t5.1 t5.2] w2 fun e w'=>e=.returned (.bool (decide (c=5)))/\w'=w2):=fun w2 a d=>by
  have:=CIs.out w2 a d 5 (by omega) (by omega)
  rw [ht5] at this
  exact this
 rw [ht1,ht3,ht4,ht5] at HGC
 have HTE:Hid (w.heap.size=T):=hTe
 have HC:Hid (1<=c/\c<=5):=⟨h1,h2⟩
 obtain ⟨v,hv⟩:∃v:Value,Value.iface (E c).1 (E c).2=v:=⟨_,rfl⟩
 rw [hv] at CI1 CI3 CI4 CI5 HCA
 clear hw1 hgT hT S1 S G hTe CA post CIs ht1 ht3 ht4 ht5 hF HFT h1 h2 hv
 obtain ⟨b1,hb1⟩:∃x,decide (c=1)=x:=⟨_,rfl⟩
 obtain ⟨b3,hb3⟩:∃x,decide (c=3)=x:=⟨_,rfl⟩
 obtain ⟨b4,hb4⟩:∃x,decide (c=4)=x:=⟨_,rfl⟩
 obtain ⟨b5,hb5⟩:∃x,decide (c=5)=x:=⟨_,rfl⟩
 have HB:Hid (decide (c=1)=b1/\decide (c=3)=b3/\decide (c=4)=b4/\decide (c=5)=b5):=⟨hb1,hb3,hb4,hb5⟩
 rw [hb1] at CI1
 rw [hb3] at CI3
 rw [hb4] at CI4
 rw [hb5] at CI5
 clear hb1 hb3 hb4 hb5
 rw [<-HTE.out,<-HW1.out] at HCA
 cases b1 with
 | true =>
  go_enter Tryz.func16,Tryz.ntmps16
  go_wp2_with (first | (go_at_call 24;refine HCA.out.mono ?_))
  rintro e w2 ⟨rfl,hg2,v1,v2,v3⟩
  obtain ⟨y1,y3,y4,y5⟩:=HGC.out w2 hg2
  have HG2:Hid (w.grownBy w2 none):=hg2
  have HV3:Hid (w2.cell? ⟨F,1,none⟩=some v):=v3
  clear hg2 v3 HTE HW1 HCA
  obtain ⟨T2,hT2⟩:∃x,w.heap.size=x:=⟨_,rfl⟩
  rw [hT2] at v1 ⊢
  clear hT2
  go_wp2_with (first | (go_at_call 25;refine (CI1.out _ HG2.out HV3.out).mono ?_))
  first | rintro e w' rfl rfl | rintro e w' ⟨rfl,rfl⟩
  go_wp2
  refine bodyPost_ret (results_tmp2 (t:=2) (u:=3) rfl _ _ _) rfl ?_
  have e:c=1:=by
   have q1:=HB.out
   have q2:=HC.out
   simp at q1
   omega
  rw [e]
  exact ⟨rfl,HG2.out⟩
 | false =>
  cases b3 with
  | true =>
   go_enter Tryz.func16,Tryz.ntmps16
   go_wp2_with (first | (go_at_call 24;refine HCA.out.mono ?_))
   rintro e w2 ⟨rfl,hg2,v1,v2,v3⟩
   obtain ⟨y1,y3,y4,y5⟩:=HGC.out w2 hg2
   have HG2:Hid (w.grownBy w2 none):=hg2
   have HV3:Hid (w2.cell? ⟨F,1,none⟩=some v):=v3
   clear hg2 v3 HTE HW1 HCA
   obtain ⟨T2,hT2⟩:∃x,w.heap.size=x:=⟨_,rfl⟩
   rw [hT2] at v1 ⊢
   clear hT2
   go_wp2_with (first | (go_at_call 25;refine (CI1.out _ HG2.out HV3.out).mono ?_))
   first | rintro e w' rfl rfl | rintro e w' ⟨rfl,rfl⟩
   go_wp2_with (first | (go_at_call 25;refine (CI3.out _ HG2.out HV3.out).mono ?_))
   first | rintro e w' rfl rfl | rintro e w' ⟨rfl,rfl⟩
   go_wp2
   refine bodyPost_ret (results_tmp2 (t:=2) (u:=3) rfl _ _ _) rfl ?_
   have e:c=3:=by
    have q1:=HB.out
    have q2:=HC.out
    simp at q1
    omega
   rw [e]
   exact ⟨rfl,HG2.out⟩
  | false =>
   cases b4 with
   | true =>
    go_enter Tryz.func16,Tryz.ntmps16
    go_wp2_with (first | (go_at_call 24;refine HCA.out.mono ?_))
    rintro e w2 ⟨rfl,hg2,v1,v2,v3⟩
    obtain ⟨y1,y3,y4,y5⟩:=HGC.out w2 hg2
    have HG2:Hid (w.grownBy w2 none):=hg2
    have HV3:Hid (w2.cell? ⟨F,1,none⟩=some v):=v3
    clear hg2 v3 HTE HW1 HCA
    obtain ⟨T2,hT2⟩:∃x,w.heap.size=x:=⟨_,rfl⟩
    rw [hT2] at v1 ⊢
    clear hT2
    go_wp2_with (first | (go_at_call 25;refine (CI1.out _ HG2.out HV3.out).mono ?_))
    first | rintro e w' rfl rfl | rintro e w' ⟨rfl,rfl⟩
    go_wp2_with (first | (go_at_call 25;refine (CI3.out _ HG2.out HV3.out).mono ?_))
    first | rintro e w' rfl rfl | rintro e w' ⟨rfl,rfl⟩
    go_wp2_with (first | (go_at_call 25;refine (CI4.out _ HG2.out HV3.out).mono ?_))
    first | rintro e w' rfl rfl | rintro e w' ⟨rfl,rfl⟩
    go_wp2
    refine bodyPost_ret (results_tmp2 (t:=2) (u:=3) rfl _ _ _) rfl ?_
    have e:c=4:=by
     have q1:=HB.out
     have q2:=HC.out
     simp at q1
     omega
    rw [e]
    exact ⟨rfl,HG2.out⟩
   | false =>
    cases b5 with
    | true =>
     go_enter Tryz.func16,Tryz.ntmps16
     go_wp2_with (first | (go_at_call 24;refine HCA.out.mono ?_))
     rintro e w2 ⟨rfl,hg2,v1,v2,v3⟩
     obtain ⟨y1,y3,y4,y5⟩:=HGC.out w2 hg2
     have HG2:Hid (w.grownBy w2 none):=hg2
     have HV3:Hid (w2.cell? ⟨F,1,none⟩=some v):=v3
     clear hg2 v3 HTE HW1 HCA
     obtain ⟨T2,hT2⟩:∃x,w.heap.size=x:=⟨_,rfl⟩
     rw [hT2] at v1 ⊢
     clear hT2
     go_wp2_with (first | (go_at_call 25;refine (CI1.out _ HG2.out HV3.out).mono ?_))
     first | rintro e w' rfl rfl | rintro e w' ⟨rfl,rfl⟩
     go_wp2_with (first | (go_at_call 25;refine (CI3.out _ HG2.out HV3.out).mono ?_))
     first | rintro e w' rfl rfl | rintro e w' ⟨rfl,rfl⟩
     go_wp2_with (first | (go_at_call 25;refine (CI4.out _ HG2.out HV3.out).mono ?_))
     first | rintro e w' rfl rfl | rintro e w' ⟨rfl,rfl⟩
     go_wp2_with (first | (go_at_call 25;refine (CI5.out _ HG2.out HV3.out).mono ?_))
     first | rintro e w' rfl rfl | rintro e w' ⟨rfl,rfl⟩
     go_wp2
     refine bodyPost_ret (results_tmp2 (t:=2) (u:=3) rfl _ _ _) rfl ?_
     have e:c=5:=by
      have q1:=HB.out
      have q2:=HC.out
      simp at q1
      omega
     rw [e]
     exact ⟨rfl,HG2.out⟩
    | false =>
     go_enter Tryz.func16,Tryz.ntmps16
     go_wp2_with (first | (go_at_call 24;refine HCA.out.mono ?_))
     rintro e w2 ⟨rfl,hg2,v1,v2,v3⟩
     obtain ⟨y1,y3,y4,y5⟩:=HGC.out w2 hg2
     have HG2:Hid (w.grownBy w2 none):=hg2
     have HV3:Hid (w2.cell? ⟨F,1,none⟩=some v):=v3
     clear hg2 v3 HTE HW1 HCA
     obtain ⟨T2,hT2⟩:∃x,w.heap.size=x:=⟨_,rfl⟩
     rw [hT2] at v1 ⊢
     clear hT2
     go_wp2_with (first | (go_at_call 25;refine (CI1.out _ HG2.out HV3.out).mono ?_))
     first | rintro e w' rfl rfl | rintro e w' ⟨rfl,rfl⟩
     go_wp2_with (first | (go_at_call 25;refine (CI3.out _ HG2.out HV3.out).mono ?_))
     first | rintro e w' rfl rfl | rintro e w' ⟨rfl,rfl⟩
     go_wp2_with (first | (go_at_call 25;refine (CI4.out _ HG2.out HV3.out).mono ?_))
     first | rintro e w' rfl rfl | rintro e w' ⟨rfl,rfl⟩
     go_wp2_with (first | (go_at_call 25;refine (CI5.out _ HG2.out HV3.out).mono ?_))
     first | rintro e w' rfl rfl | rintro e w' ⟨rfl,rfl⟩
     go_wp2
     refine bodyPost_ret (results_tmp2 (t:=2) (u:=3) rfl _ _ _) rfl ?_
     have e:c=2:=by
      have q1:=HB.out
      have q2:=HC.out
      simp at q1
      omega
     rw [e]
     exact ⟨rfl,HG2.out⟩
end Go.Proofs.YtbgnflcebafjjaaGreatDoor
