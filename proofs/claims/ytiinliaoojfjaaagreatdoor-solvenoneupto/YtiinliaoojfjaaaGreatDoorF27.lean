import Derived.Test.YtiinliaoojfjaaaGreatDoorF16
import Derived.Test.YtiinliaoojfjaaaGreatDoorF18
import Derived.Defers
import Derived.Recover
import Derived.Laws.Pointers
set_option linter.all false
set_option maxRecDepth 100000
set_option maxHeartbeats 0
open Go.Proofs.Tryz
namespace Go.Proofs.YtiinliaoojfjaaaGreatDoor
open Go.RowKit
section
variable {P:Program} {w:World} {base:Nat} {e:TypeId} {size n:Nat} {v:Value} {xs:List Value}
theorem aeJ(t ty:TypeId)(i:TypeInfo)(ht:P.underlying t=some (.slice e))(hi:P.info? e=some i)(hown:w.ownsRow base e size v n xs)(c:Nat):(Builtin.append_ #[t,t] ty #[v,.slice none 0 c]).run P w=.ok v w:=by
 have hsrc:Src P i.size t (.slice none 0 c) 0 [] w:=Src.ofNil w ht c
 rcases hown.2 with⟨rfl,-⟩|⟨g,cap,cur,rfl,-,-,h3,-⟩
 ·simp[Builtin.append_,run_underlying ht,sizeOf,typeInfo,hi,hsrc.len,hsrc.cells]
 ·simp[Builtin.append_,run_underlying ht,sizeOf,typeInfo,hi,hsrc.len,hsrc.cells,h3,storeCells]
structure Sl(w:World)(o:Option Addr)(m:Nat)(size:Nat)(news:List Value):Prop where
 len:news.length=m*size
 none:o=none->m=0
 cells:∀ad,o=some ad->∀j u,news[j]?=some u->w.cell? (ad.add j)=some u
 one:∀u∈news,u.oneCell'=true
theorem aeK(t ty:TypeId)(i:TypeInfo)(z:Value)(bytes:Nat)(ht:P.underlying t=some (.slice e))(hi:P.info? e=some i)(hz:i.zero=some z)(hsize:i.size=size)(hby:i.bytes=bytes)(hzs:z.cells.size=size)(hsz:0<size)
  (hown:w.ownsRow base e size v n xs) (o:Option Addr) (m c:Nat) (news:List Value) (hs:Sl w o m size news) (h63:n+m<=maxLen) (hbytes:(n+m)*bytes<=140737488355328) (hbase:base<=w.heap.size) :
  ∃o' c' w',(Builtin.append_ #[t,t] ty #[v,.slice o m c]).run P w=.ok (.slice o' (n+m) c') w'/\w'.ownsRow base e size (.slice o' (n+m) c') (n+m) (xs++news)/\w.grownBy w' v.ownBlock:=by
 cases o with
 | none =>
  obtain rfl:=hs.none rfl;have hn:news=[]:=List.eq_nil_of_length_eq_zero (by rw[hs.len];simp);obtain⟨o',c',rfl⟩:=mY hown;exact⟨o',c',w,aeJ t ty i ht hi hown c,by rw[hn,List.append_nil];exact hown,ai _ _⟩
 | some ad =>
  obtain⟨v',w',hr,h2,h3,-⟩:=run_append_own_at (P:=P) w base t ty e i z size bytes ht hi hz hsize hby hzs hsz v n xs hown ad m c news hs.len (hs.cells ad rfl) hs.one h63 hbytes hbase;obtain⟨o',c',rfl⟩:=mY h2;exact⟨o',c',w',hr,h2,h3⟩
theorem Vp{o:Oper}{a:Act}{K:Act->World->Prop}{Q:Exit->Act->World->Prop}(s x:Operand)(t:TypeId)
  (ho:o.op=.call { callee:=.builtin .append,args:=#[s,x],argTypes:=#[t,t] })
  (i:TypeInfo) (z:Value) (bytes:Nat) (ht:P.underlying t=some (.slice e)) (hi:P.info? e=some i) (hz:i.zero=some z) (hsize:i.size=size) (hby:i.bytes=bytes) (hzs:z.cells.size=size) (hsz:0<size)
  (hs:a.eval s=v) (hown:w.ownsRow base e size v n xs) (p:Option Addr) (m c:Nat) (news:List Value) (hx:a.eval x=.slice p m c) (hsl:Sl w p m size news) (h63:n+m<=maxLen) (hbytes:(n+m)*bytes<=140737488355328) (hbase:base<=w.heap.size)
  (h:∀o' c' w',w'.ownsRow base e size (.slice o' (n+m) c') (n+m) (xs++news)->w.grownBy w' v.ownBlock->K (a.put o.dst (.slice o' (n+m) c')) w'):o.wp P a w K Q:=by
 obtain⟨o',c',w',hr,h2,h3⟩:=aeK (P:=P) t o.type i z bytes ht hi hz hsize hby hzs hsz hown p m c news hsl h63 hbytes hbase;unfold Oper.wp execOp;simp only[ho,resolve,invoke,builtin,Sem.run_bind,Sem.run_pure,Result.andThen_ok,List.map_toArray,List.map_cons,List.map_nil,hs,hx,hr];exact h o' c' w' h2 h3
theorem Vq{ops:Array Oper}{rest:List Oper}{o:Oper}{a:Act}{Q:Exit->Act->World->Prop}(hgd:o.guard=none)(s x:Operand)(t:TypeId)
  (ho:o.op=.call { callee:=.builtin .append,args:=#[s,x],argTypes:=#[t,t] })
  (i:TypeInfo) (z:Value) (bytes:Nat) (ht:P.underlying t=some (.slice e)) (hi:P.info? e=some i) (hz:i.zero=some z) (hsize:i.size=size) (hby:i.bytes=bytes) (hzs:z.cells.size=size) (hsz:0<size)
  (hs:a.eval s=v) (hown:w.ownsRow base e size v n xs) (p:Option Addr) (m c:Nat) (news:List Value) (hx:a.eval x=.slice p m c) (hsl:Sl w p m size news) (h63:n+m<=maxLen) (hbytes:(n+m)*bytes<=140737488355328) (hbase:base<=w.heap.size)
  (h:∀o' c' w',w'.ownsRow base e size (.slice o' (n+m) c') (n+m) (xs++news)->w.grownBy w' v.ownBlock->wpList P ops Q rest (a.put o.dst (.slice o' (n+m) c')) w'):wpList P ops Q (o :: rest) a w :=
 wpList_plain hgd fun _ hK=>Vp s x t ho i z bytes ht hi hz hsize hby hzs hsz hs hown p m c news hx hsl h63 hbytes hbase fun o' c' w' h2 h3=>hK _ _ (h o' c' w' h2 h3)
theorem IL{ops:Array Oper}{rest:List Oper}{o:Oper}{a:Act}{Q:Exit->Act->World->Prop}(hgd:o.guard=none)(s x:Operand)(t:TypeId)
  (ho:o.op=.call { callee:=.builtin .append,args:=#[s,x],argTypes:=#[t,t] })
  (i:TypeInfo) (z:Value) (bytes:Nat) (ht:P.underlying t=some (.slice e)) (hi:P.info? e=some i) (hz:i.zero=some z) (hsize:i.size=size) (hby:i.bytes=bytes) (hzs:z.cells.size=size) (hsz:0<size)
  (hs:a.eval s=.slice none 0 0) (p:Option Addr) (m c:Nat) (news:List Value) (hx:a.eval x=.slice p m c) (hsl:Sl w p m size news) (h63:m<=maxLen) (hbytes:m*bytes<=140737488355328) (hbase:base<=w.heap.size)
  (h:∀o' c' w',w'.ownsRow base e size (.slice o' m c') m news->w.grownBy w' none->wpList P ops Q rest (a.put o.dst (.slice o' m c')) w'):wpList P ops Q (o :: rest) a w :=
 Vq hgd s x t ho i z bytes ht hi hz hsize hby hzs hsz hs (World.ownsRow_nil _ _ _ _) p m c news hx hsl (by omega) (by rw[Nat.zero_add];exact hbytes) hbase (fun o' c' w' h2 h3=>by
  rw[Nat.zero_add]at h2 ⊢;exact h o' c' w' h2 h3)
theorem aeL{ops:Array Oper}{o:Oper}{a:Act}{K:Act->World->Prop}{Q:Exit->Act->World->Prop}{E:Prop}(hgd:o.guard=none)(s x:Operand)(t:TypeId)
  (ho:o.op=.call { callee:=.builtin .append,args:=#[s,x],argTypes:=#[t,t] })
  (i:TypeInfo) (z:Value) (bytes:Nat) (ht:P.underlying t=some (.slice e)) (hi:P.info? e=some i) (hz:i.zero=some z) (hsize:i.size=size) (hby:i.bytes=bytes) (hzs:z.cells.size=size) (hsz:0<size)
  (hs:a.eval s=v) (hown:w.ownsRow base e size v n xs) (p:Option Addr) (m c:Nat) (news:List Value) (hx:a.eval x=.slice p m c) (hsl:Sl w p m size news) (h63:n+m<=maxLen) (hbytes:(n+m)*bytes<=140737488355328) (hbase:base<=w.heap.size)
  (h:∀o' c' w',w'.ownsRow base e size (.slice o' (n+m) c') (n+m) (xs++news)->w.grownBy w' v.ownBlock->K (a.put o.dst (.slice o' (n+m) c')) w') :
  if Region.wanted o (yielded ops a.tmps)=true then Oper.wp P o a w K Q else E:=by
 have hw:Region.wanted o (yielded ops a.tmps)=true:=by simp[Region.wanted,hgd]
 rw[if_pos hw];exact Vp s x t ho i z bytes ht hi hz hsize hby hzs hsz hs hown p m c news hx hsl h63 hbytes hbase h
end
theorem Vr{w0 w w':World}{base:Nat}{e:TypeId}{s n:Nat}{v:Value}{xs:List Value}(h:w.ownsRow base e s v n xs)(hb:Below base w0 w)(hg:w.grownBy w' v.ownBlock)(hs:base<=w.heap.size):Below base w0 w' :=
 ⟨hg.os.trans hb.os,hg.tape.trans hb.tape,hg.output.trans hb.output,Nat.le_trans hb.size hg.size,fun k hk=>(hg.block k (by omega) (fun e=>by have:=(h.lt k e.symm).1;omega)).trans (hb.block k hk)⟩
theorem aeM{w:World}{o:Option Addr}{c:Nat}{L:List ByteArray}(h:TxS w (.slice o L.length c) L):Sl w o L.length 1 (L.map Value.string):=by
 refine⟨by simp,fun e=>?_,fun ad e j u hu=>?_,EW L⟩
 ·rcases h with⟨-,h⟩|⟨a,cap,h,-⟩
  ·rw[h];rfl
  ·rw[e]at h;cases h
 ·obtain⟨hj,rfl⟩:=List.getElem?_eq_some_iff.1 hu;rw[List.length_map]at hj
  rcases h with⟨h,-⟩|⟨a,cap,h,-,h3⟩
  ·rw[e]at h;cases h
  ·rw[e]at h
   cases h
   rw[List.getElem_map];exact h3 j hj
theorem aeN{w:World}{o:Option Addr}{c:Nat}{L:List ByteArray}(h:TxS w (.slice o L.length c) L){i:Nat}(hi:i<L.length):∃a,o=some a/\L.length<=c/\∀j (hj:j<L.length),w.cell? (a.add j)=some (.string L[j]):=by
 rcases h with⟨-,h⟩|⟨a,cap,h,h2,h3⟩
 ·rw[h]at hi;simp at hi
 ·cases h
  exact⟨a,rfl,h2,h3⟩
theorem Nr{w:World}{o:Option Addr}{c:Nat}{L:List Nd}(h:NdS w (.slice o L.length c) L){i:Nat}(hi:i<L.length):∃a,o=some a/\L.length<=c/\∀j (hj:j<L.length),NdAt w (a.add (j*2)) L[j]:=by
 rcases h with⟨-,h⟩|⟨a,cap,h,h2,h3⟩
 ·rw[h]at hi;simp at hi
 ·cases h
  exact⟨a,rfl,h2,h3⟩
open Go.RowKit
theorem ifA(w:World):(binOp .eql 20 (.iface 32 (.int .i64 10)) .nilIface).run prog w=.ok (.bool false) w:=by kernel_rfl
theorem ifB(w:World):(binOp .eql 20 (.iface 32 (.int .i64 10)) (.iface 32 (.int .i64 10))).run prog w=.ok (.bool true) w:=by kernel_rfl
theorem ifC(w:World):(binOp .eql 20 .nilIface .nilIface).run prog w=.ok (.bool true) w:=by kernel_rfl
theorem catch_panicking(p:Addr)(x:Int)(w:World)(hc:w.cell? p=some (.int .i64 x))(hz:w.frozen? p=false) :
  CallsD prog 27 #[.pointer (some p)] (.panicking [{ v:=.iface 32 (.int .i64 10),recovered:=false }]) w fun e u' w' =>
   e=.returned (.tuple #[])/\u'=.panicking [{ v:=.iface 32 (.int .i64 10),recovered:=true }]/\w'=w.setCell p (.int .i64 10):=by
 refine callsD_of_wpS func27 rfl fun c₀ cs hu=>?_
 apply wpS_seq;apply wpS_region;simp[wpOpsS,go_sem,recoverD,hu,ntmps27,Exit.thenS];have q1:=ifA;have q2:=ifB;refine wpS_of_wp ?_;go_wp2;simp[bodyPostS,results,Tryz.results27]
theorem catch_idle(p:Addr)(w:World) :
  CallsD prog 27 #[.pointer (some p)] .returning w fun e u' w'=>e=.returned (.tuple #[])/\u'=.returning/\w'=w:=by
 refine callsD_of_wpS func27 rfl fun c₀ cs hu=>?_
 apply wpS_seq;apply wpS_region;simp[wpOpsS,go_sem,recoverD,hu,ntmps27,Exit.thenS];have q1:=ifC;refine wpS_of_wp ?_;go_wp2
 cases c₀
 simp_all [bodyPostS,results,Tryz.results27]
open Go.ChangeShapes Go.WideShapes Go.ChangeAt Go.RowKit Go.Joins
theorem IM{H:Type}{enc:TypeId × Value->H}{w:World}{base:Nat}{spare:Nat->Bool}{held:Bool}{r:Reach}{b0:Nat}{v:Value}{d:DataW H}{p:List MemPlace}
  (hv:Value.okWide prog w r b0 22 v) (h:DataW.Trod enc prog w base spare held 22 v d p) :
  ∃L:List Nd,NdS w v L/\L.length<=Rows.uptoBulk d/\∀y∈L,y.n.size<=Rows.uptoBulk d/\y.r.size<=Rows.uptoBulk d:=by
 have hu:=underlying22;obtain⟨a0,l0,c0,rfl⟩:=okWide_slice hu hv;obtain⟨fuel,hf⟩:=h;exact Us hf
theorem aeO:prog.cellsOf 3=1:=by kernel_rfl
theorem open_ints{H:Type}{enc:TypeId × Value->H}{w:World}{base:Nat}{spare:Nat->Bool}{held:Bool}{r:Reach}{b0:Nat}{v:Value}{d:DataW H}{p:List MemPlace}
  (hv:Value.okWide prog w r b0 31 v) (h:DataW.Trod enc prog w base spare held 31 v d p) :
  ∃L:List Int,IS w v L/\L.length<=Rows.uptoBulk d:=by
 have hu:=underlying31;obtain⟨a0,l0,c0,rfl⟩:=okWide_slice hu hv;obtain⟨fuel,hf⟩:=h
 rcases Deep.open_slice hu hf with⟨hcs,hx⟩|⟨a,len,cap,m,n,D,Pl,hcs,hb,hl,hm,hmm,hx,hel⟩
 ·simp[Value.cells]at hcs;obtain⟨rfl,rfl,rfl⟩:=hcs;exact⟨[],Or.inl ⟨rfl,rfl⟩,by simp⟩
 ·simp[Value.cells]at hcs;obtain⟨rfl,rfl,rfl⟩:=hcs;have hle:l0<=m:=by rw[hmm];split<;>omega
  have hS:∀i,i<l0->∃z:Int,w.cell? (a.add i)=some (.int .i64 z):=by
   intro i hi;obtain⟨cs',h1,h2⟩:=hel i (by omega);rw[aeO]at h1;obtain⟨-,h4,h3⟩:=World.cells?_some h1;obtain⟨z,hc,-⟩:=DataW.trod_int underlying3 h2;have q0:=h3 0 (by omega);rw[hc]at q0;rw[Deep.add_add,Nat.add_zero]at q0;exact⟨z,by simpa using q0⟩
  obtain⟨S,hS⟩:=Deep.choose_lt hS;have hlen:((List.range l0).map S).length=l0:=by simp
  have hd:d=.slice ((List.range l0).map D) ((List.range (m-l0)).map fun j=>D (l0+j)):=congrArg Prod.fst hx;have hbl:=EY ((List.range l0).map D);simp only[List.length_map,List.length_range]at hbl;refine⟨(List.range l0).map S,Or.inr ⟨a,c0,by rw[hlen],by rw[hlen];exact hl,fun i hi=>?_⟩,?_⟩
  ·have hi':i<l0:=by rw[hlen]at hi;exact hi
   rw[List.getElem_map,List.getElem_range];exact hS i hi'
  ·rw[hd,hlen];simp only[Rows.uptoBulk];omega
open Go.ChangeShapes Go.WideShapes Go.ChangeAt Go.RowKit
theorem aeP{H:Type}{enc:TypeId × Value->H}{w:World}{base:Nat}{spare:Nat->Bool}{held:Bool}{fuel:Nat}{cs:List Value}{x:DataW H × List MemPlace}
  (h:DataW.trod enc prog w base spare held fuel 56 cs=some x):3<=Rows.uptoBulk x.1:=by
 have hu:=underlying56;obtain⟨xs,n,_,hx,hl,hlen,hfs⟩:=DataW.trod_struct hu h
 match xs,hlen with
 | [y0,y1],_ =>
  have h0:=Ip y0.1;have h1:=Ip y1.1;rw[hx];simp only[List.map_cons,List.map_nil,Rows.uptoBulk,Rows.uptoBulkAll];omega
theorem aeQ{H:Type}(l:List (DataW H))(h:∀d∈l,3<=Rows.uptoBulk d):3*l.length<=Rows.uptoBulkAll l:=by
 induction l with
 | nil=>simp
 | cons d l ih =>
  have h1:=h d (by simp);have h2:=ih (fun d hd=>h d (by simp[hd]));simp only[Rows.uptoBulkAll,List.length_cons];omega
theorem IP{H:Type}{enc:TypeId × Value->H}{w:World}{base:Nat}{spare:Nat->Bool}{held:Bool}{v:Value}{d:DataW H}{p:List MemPlace}{L:List Nd}
  (h:DataW.Trod enc prog w base spare held 22 v d p) (hS:NdS w v L):3*L.length<=Rows.uptoBulk d:=by
 have hu:=underlying22;obtain⟨o,c,rfl⟩:=mP hS;obtain⟨fuel,hf⟩:=h
 rcases Deep.open_slice hu hf with⟨hcs,hx⟩|⟨a,len,cap,m,n,D,Pl,hcs,hb,hl,hm,hmm,hx,hel⟩
 ·simp[Value.cells]at hcs;rw[hcs.2.1];simp
 ·simp[Value.cells]at hcs;obtain⟨rfl,rfl,rfl⟩:=hcs;have hle:L.length<=m:=by rw[hmm];split<;>omega
  have hd:d=.slice ((List.range L.length).map D) ((List.range (m-L.length)).map fun j=>D (L.length+j)):=congrArg Prod.fst hx;have:=aeQ ((List.range L.length).map D) (fun z hz=>by
   obtain⟨i,hi,rfl⟩:=List.mem_map.1 hz;obtain⟨cs',h1,h2⟩:=hel i (by have:=List.mem_range.1 hi;omega);exact aeP h2)
  simp only[List.length_map,List.length_range]at this;rw[hd];simp only[Rows.uptoBulk];omega
end Go.Proofs.YtiinliaoojfjaaaGreatDoor
