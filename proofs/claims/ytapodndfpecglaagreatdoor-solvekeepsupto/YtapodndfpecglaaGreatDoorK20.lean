import Derived.Test.YtapodndfpecglaaGreatDoorRows
import Derived.ProofKit
import Derived.OpenShut
import Derived.ShutString
import Derived.SizedLaws
import Derived.Deep.Slices
import Derived.DataReads
import Derived.Test.YtapodndfpecglaaGreatDoorK16
import Derived.Defers
import Derived.Recover
import Derived.Laws.Pointers
import Derived.Test.YtapodndfpecglaaGreatDoorK14
set_option linter.all false
set_option maxRecDepth 100000
set_option maxHeartbeats 0
open Go.Proofs.Tryz
namespace Go.Proofs.YtapodndfpecglaaGreatDoor
open Go.ChangeShapes Go.WideShapes Go.ChangeAt Go.RowKit Go.Joins
instance:Inhabited Nd:=⟨⟨⟨#[]⟩,⟨#[]⟩⟩⟩
instance:Inhabited Re:=⟨⟨⟨#[]⟩,⟨#[]⟩,[],⟨#[]⟩⟩⟩
theorem Qd:prog.cellsOf 58=2:=by kernel_rfl
theorem Qe:prog.cellsOf 43=4:=by kernel_rfl
theorem IW{H:Type}(d:DataW H):1<=Rows.uptoBulk d:=by
 cases d with
 | lit l=>cases l<;>simp[Rows.uptoBulk]
 | _=>simp[Rows.uptoBulk]
theorem BL{H:Type}(l:List (DataW H)):l.length<=Rows.uptoBulkAll l:=by
 induction l with
 | nil=>simp
 | cons d l ih =>
  have:=IW d;simp only[Rows.uptoBulkAll,List.length_cons];omega
theorem EG{H:Type}(l:List (DataW H))(d:DataW H)(h:d∈l):Rows.uptoBulk d<=Rows.uptoBulkAll l:=by
 induction l with
 | nil=>cases h
 | cons e l ih =>
  simp only[Rows.uptoBulkAll]
  rcases List.mem_cons.1 h with rfl|h
  ·omega
  ·have:=ih h;omega
theorem aaB{α:Type}{cs:List α}(h:cs.length=2):∃c0 c1,cs=[c0,c1]:=by
 match cs,h with
 | [c0,c1],_=>exact⟨c0,c1,rfl⟩
theorem list4{α:Type}{cs:List α}(h:cs.length=4):∃c0 c1 c2 c3,cs=[c0,c1,c2,c3]:=by
 match cs,h with
 | [c0,c1,c2,c3],_=>exact⟨c0,c1,c2,c3,rfl⟩
theorem aaC{H:Type}{enc:TypeId × Value->H}{w:World}{base:Nat}{spare:Nat->Bool}{held:Bool}{fuel:Nat}{cs:List Value}{x:DataW H × List MemPlace}
  (h:DataW.trod enc prog w base spare held fuel 58 cs=some x):∃s:Nd,cs=jY s/\s.n.size<=Rows.uptoBulk x.1/\s.r.size<=Rows.uptoBulk x.1:=by
 have hu:=underlying58;obtain⟨xs,n,_,hx,hl,hlen,hfs⟩:=DataW.trod_struct hu h;obtain⟨c0,c1,rfl⟩:=aaB (hl.trans Qd)
 match xs,hlen with
 | [y0,y1],_ =>
  have k9:prog.cellsOf 9=1:=by kernel_rfl
  have g0:=hfs 0 _ rfl;have g1:=hfs 1 _ rfl;simp[k9]at g0 g1;obtain⟨a4,e4,rfl,w4⟩:=DataW.trod_string underlying9 g0;obtain⟨a5,e5,rfl,w5⟩:=DataW.trod_string underlying9 g1;simp at e4 e5;subst e4;subst e5;refine⟨⟨a4,a5⟩,rfl,?_,?_⟩
  ·rw[hx];simp only[List.map,Rows.uptoBulk,Rows.uptoBulkAll,Array.length_toList];have e1:a4.data.size=a4.size:=rfl;omega
  ·rw[hx];simp only[List.map,Rows.uptoBulk,Rows.uptoBulkAll,Array.length_toList];have e1:a5.data.size=a5.size:=rfl;omega
theorem aaD{w:World}{a:Addr}{n:Nat}{s:Nd}(h:∀k v,(jY s)[k]?=some v->w.cell? (a.add (n+k))=some v):NdAt w (a.add n) s :=
 ⟨by have:=h 0 _ rfl;simpa using this,by have:=h 1 _ rfl;rw[wL a n 1 (by omega)]at this;exact this⟩
theorem Qg{H:Type}{enc:TypeId × Value->H}{w:World}{base:Nat}{spare:Nat->Bool}{held:Bool}{fuel:Nat}{v:Value}{x:DataW H × List MemPlace}
  (h:DataW.trod enc prog w base spare held fuel 22 [v]=some x):∃L:List Nd,NdS w v L/\L.length<=Rows.uptoBulk x.1/\∀y∈L,y.n.size<=Rows.uptoBulk x.1/\y.r.size<=Rows.uptoBulk x.1:=by
 have hu:=underlying22
 rcases Deep.open_slice hu h with⟨hcs,hx⟩|⟨a,len,cap,m,n,D,Pl,hcs,hb,hl,hm,hmm,hx,hel⟩
 ·simp at hcs;exact⟨[],Or.inl ⟨hcs,rfl⟩,by simp,by simp⟩
 ·simp at hcs;subst hcs;have hle:len<=m:=by rw[hmm];split<;>omega
  have hS:∀i,i<len->∃s:Nd,(∀k u,(jY s)[k]?=some u->w.cell? (a.add (i*2+k))=some u)/\s.n.size<=Rows.uptoBulk (D i)/\s.r.size<=Rows.uptoBulk (D i):=by
   intro i hi;obtain⟨cs',h1,h2⟩:=hel i (by omega);obtain⟨s,hc,hs1,hs2⟩:=aaC h2;refine⟨s,fun k u hu=>?_,hs1,hs2⟩;rw[Qd]at h1;obtain⟨-,h4,h3⟩:=World.cells?_some h1;have hk:k<2:=(List.getElem?_eq_some_iff.1 hu).1;have h5:=h3 k hk;rw[Deep.add_add,hc,hu]at h5;exact h5
  obtain⟨S,hS⟩:=Deep.choose_lt hS;have hlen:((List.range len).map S).length=len:=by simp
  refine⟨(List.range len).map S,Or.inr ⟨a,cap,by rw[hlen],by rw[hlen];exact hl,fun i hi=>?_⟩,?_,fun y hy=>?_⟩
  ·have hi':i<len:=by rw[hlen]at hi;exact hi
   rw[List.getElem_map,List.getElem_range];exact aaD (hS i hi').1
  ·rw[hx,hlen];simp only[Rows.uptoBulk];have:=BL ((List.range len).map D);simp only[List.length_map,List.length_range]at this;omega
  ·obtain⟨i,hi,rfl⟩:=List.mem_map.1 hy;have hm:=EG ((List.range len).map D) (D i) (List.mem_map.2 ⟨i,hi,rfl⟩);have:=(hS i (List.mem_range.1 hi)).2;rw[hx];simp only[Rows.uptoBulk];omega
theorem aaE{H:Type}{enc:TypeId × Value->H}{w:World}{base:Nat}{spare:Nat->Bool}{held:Bool}{fuel:Nat}{cs:List Value}{x:DataW H × List MemPlace}
  (h:DataW.trod enc prog w base spare held fuel 43 cs=some x) :
  ∃(r:Re) (v:Value),cs=[.string r.nm,.string r.ve,v,.string r.da]/\NdS w v r.nd/\r.nm.size<=Rows.uptoBulk x.1/\r.ve.size<=Rows.uptoBulk x.1/\r.nd.length<=Rows.uptoBulk x.1/\∀y∈r.nd,y.n.size<=Rows.uptoBulk x.1/\y.r.size<=Rows.uptoBulk x.1:=by
 have hu:=underlying43;obtain⟨xs,n,_,hx,hl,hlen,hfs⟩:=DataW.trod_struct hu h;obtain⟨c0,c1,c2,c3,rfl⟩:=list4 (hl.trans Qe)
 match xs,hlen with
 | [y0,y1,y2,y3],_ =>
  have k9:prog.cellsOf 9=1:=by kernel_rfl
  have k8:prog.cellsOf 22=1:=by kernel_rfl
  have g0:=hfs 0 _ rfl;have g1:=hfs 1 _ rfl;have g2:=hfs 2 _ rfl;have g3:=hfs 3 _ rfl;simp[k8,k9]at g0 g1 g2 g3;obtain⟨a0,e0,rfl,w0⟩:=DataW.trod_string underlying9 g0;obtain⟨a1,e1,rfl,w1⟩:=DataW.trod_string underlying9 g1;obtain⟨a3,e3,rfl,w3⟩:=DataW.trod_string underlying9 g3;obtain⟨N,hN,hNl,IX⟩:=Qg g2;simp at e0 e1 e3;subst e0;subst e1;subst e3;refine⟨⟨a0,a1,N,a3⟩,c2,rfl,hN,?_,?_,?_,fun y hy=>?_⟩
  ·rw[hx];simp only[List.map,Rows.uptoBulk,Rows.uptoBulkAll,Array.length_toList];have e1:a0.data.size=a0.size:=rfl;omega
  ·rw[hx];simp only[List.map,Rows.uptoBulk,Rows.uptoBulkAll,Array.length_toList];have e1:a1.data.size=a1.size:=rfl;omega
  ·rw[hx];simp only[List.map,Rows.uptoBulk,Rows.uptoBulkAll,Array.length_toList];omega
  ·have:=IX y hy;rw[hx];simp only[List.map,Rows.uptoBulk,Rows.uptoBulkAll,Array.length_toList];omega
theorem aaF{H:Type}{enc:TypeId × Value->H}{w:World}{base:Nat}{spare:Nat->Bool}{held:Bool}{r:Reach}{b0:Nat}{v:Value}{d:DataW H}{p:List MemPlace}
  (hv:Value.okWide prog w r b0 23 v) (h:DataW.Trod enc prog w base spare held 23 v d p) :
  ∃L:List Re,ReS w v L/\L.length<=Rows.uptoBulk d/\∀s∈L,s.nm.size<=Rows.uptoBulk d/\s.ve.size<=Rows.uptoBulk d/\s.nd.length<=Rows.uptoBulk d/\∀y∈s.nd,y.n.size<=Rows.uptoBulk d/\y.r.size<=Rows.uptoBulk d:=by
 have hu:=underlying23;obtain⟨a0,l0,c0,rfl⟩:=okWide_slice hu hv;obtain⟨fuel,hf⟩:=h
 rcases Deep.open_slice hu hf with⟨hcs,hx⟩|⟨a,len,cap,m,n,D,Pl,hcs,hb,hl,hm,hmm,hx,hel⟩
 ·simp[Value.cells]at hcs;obtain⟨rfl,rfl,rfl⟩:=hcs;exact⟨[],Or.inl ⟨rfl,rfl⟩,by simp,by simp⟩
 ·simp[Value.cells]at hcs;obtain⟨rfl,rfl,rfl⟩:=hcs;have hle:l0<=m:=by rw[hmm];split<;>omega
  have hS:∀i,i<l0->∃s:Re,ReAt w (a.add (i*4)) s/\s.nm.size<=Rows.uptoBulk (D i)/\s.ve.size<=Rows.uptoBulk (D i)/\s.nd.length<=Rows.uptoBulk (D i)/\∀y∈s.nd,y.n.size<=Rows.uptoBulk (D i)/\y.r.size<=Rows.uptoBulk (D i):=by
   intro i hi;obtain⟨cs',h1,h2⟩:=hel i (by omega);obtain⟨s,v,hc,hn,hv1,hv2,hv3,hv4⟩:=aaE h2;rw[Qe]at h1;obtain⟨-,h4,h3⟩:=World.cells?_some h1;subst hc;have q0:=h3 0 (by omega);have q1:=h3 1 (by omega);have q2:=h3 2 (by omega);have q3:=h3 3 (by omega);rw[Deep.add_add]at q0 q1 q2 q3;rw[wL _ _ _ (by omega)]at q1 q2 q3;exact⟨s,⟨by simpa using q0,by simpa using q1,⟨v,by simpa using q2,hn⟩,by simpa using q3⟩,hv1,hv2,hv3,hv4⟩
  obtain⟨S,hS⟩:=Deep.choose_lt hS;have hlen:((List.range l0).map S).length=l0:=by simp
  have hd:d=.slice ((List.range l0).map D) ((List.range (m-l0)).map fun j=>D (l0+j)):=congrArg Prod.fst hx;have hbl:=BL ((List.range l0).map D);simp only[List.length_map,List.length_range]at hbl;refine⟨(List.range l0).map S,Or.inr ⟨a,c0,by rw[hlen],by rw[hlen];exact hl,fun i hi=>?_⟩,?_,fun s hs=>?_⟩
  ·have hi':i<l0:=by rw[hlen]at hi;exact hi
   rw[List.getElem_map,List.getElem_range];exact(hS i hi').1
  ·rw[hd,hlen];simp only[Rows.uptoBulk];omega
  ·obtain⟨i,hi,rfl⟩:=List.mem_map.1 hs;have hm:=EG ((List.range l0).map D) (D i) (List.mem_map.2 ⟨i,hi,rfl⟩);obtain⟨-,b1,b2,b3,b4⟩:=hS i (List.mem_range.1 hi);rw[hd];simp only[Rows.uptoBulk];exact⟨by omega,by omega,by omega,fun y hy=>by have:=b4 y hy;exact⟨by omega,by omega⟩⟩
open Go.RowKit
theorem ifA(w:World):(binOp .eql 20 (.iface 28 (.int .i64 10)) .nilIface).run prog w=.ok (.bool false) w:=by kernel_rfl
theorem ifB(w:World):(binOp .eql 20 (.iface 28 (.int .i64 10)) (.iface 28 (.int .i64 10))).run prog w=.ok (.bool true) w:=by kernel_rfl
theorem ifC(w:World):(binOp .eql 20 .nilIface .nilIface).run prog w=.ok (.bool true) w:=by kernel_rfl
theorem catch_panicking(p:Addr)(x:Int)(w:World)(hc:w.cell? p=some (.int .i64 x))(hz:w.frozen? p=false) :
  CallsD prog 19 #[.pointer (some p)] (.panicking [{ v:=.iface 28 (.int .i64 10),recovered:=false }]) w fun e u' w' =>
   e=.returned (.tuple #[])/\u'=.panicking [{ v:=.iface 28 (.int .i64 10),recovered:=true }]/\w'=w.setCell p (.int .i64 10):=by
 refine callsD_of_wpS func19 rfl fun c₀ cs hu=>?_
 apply wpS_seq;apply wpS_region;simp[wpOpsS,go_sem,recoverD,hu,ntmps19,Exit.thenS];have q1:=ifA;have q2:=ifB;refine wpS_of_wp ?_;go_wp2;simp[bodyPostS,results,Tryz.results19]
theorem catch_idle(p:Addr)(w:World) :
  CallsD prog 19 #[.pointer (some p)] .returning w fun e u' w'=>e=.returned (.tuple #[])/\u'=.returning/\w'=w:=by
 refine callsD_of_wpS func19 rfl fun c₀ cs hu=>?_
 apply wpS_seq;apply wpS_region;simp[wpOpsS,go_sem,recoverD,hu,ntmps19,Exit.thenS];have q1:=ifC;refine wpS_of_wp ?_;go_wp2
 cases c₀
 simp_all [bodyPostS,results,Tryz.results19]
open Go.RowKit
theorem aaG{L:List En}{w:World}{base:Nat}{v:Value}(h:yS L w base v L.length):EnS w v L:=by
 obtain⟨vs,hl,ho,hn⟩:=h;rw[List.take_length]at ho
 rcases ho.2 with⟨h1,h2⟩|⟨g,cap,cur,hv,hb,hc,h3,h4,h5,h6⟩
 ·exact Or.inl ⟨h1,List.length_eq_zero_iff.1 h2⟩
 ·refine Or.inr ⟨⟨g,0,none⟩,cap,hv,h3,fun i hi=>?_⟩;have h':=ho;rw[hv]at h';have key:∀k u,0<k->(oZ L[i] (vs[i]'(by omega)))[k]?=some u->w.cell? ⟨((⟨g,0,none⟩:Addr).add (i*4)).block,((⟨g,0,none⟩:Addr).add (i*4)).off+k,none⟩=some u:=fun k u hk hu=>by
   have:=h'.cells (g:=g) rfl (i*4+k) u (Hz L vs hl.symm i hi k u hu);rw[wL _ _ k hk]at this;exact this
  have k0:=h'.cells (g:=g) rfl (i*4+0) _ (Hz L vs hl.symm i hi 0 _ rfl);exact⟨by simpa using k0,key 1 _ (by omega) rfl,key 2 _ (by omega) rfl,_,key 3 _ (by omega) rfl,(hn i hi hi).1⟩
theorem aaH(sl:Value)(L:List En)(w:World)(h:EnS w sl L)(hL:L.length<=1048576)(hN:∀x∈L,x.nd.length<=1048576) :
  Calls prog 9 #[sl] w fun e w'=>∃o c,e=.returned (.slice o L.length c)/\EnS w' (.slice o L.length c) L/\w.grownBy w' none:=by
 rcases h with⟨rfl,rfl⟩|⟨a,cap,rfl,h2,h3⟩
 ·go_enter func9,ntmps9;go_wp2;go_loopw [3,4] (fun vm vi wr=>vi=.int .i64 0/\vm=.slice none 0 0/\w.grownBy wr none) (fun _ vi _=>0)
  case atStart=>exact⟨rfl,rfl,ak _ _⟩
  case round =>
   obtain⟨rfl,rfl,hb⟩:=hrel;have HB:Hd (w.grownBy wr none):=hb;clear hb;go_wp2;refine bodyPost_ret (results_tmp (t:=2) rfl _ _ _) rfl ⟨none,0,rfl,Or.inl ⟨rfl,rfl⟩,HB.o⟩
 ·refine(YN a cap L w hL h2 hN h3).mono ?_;rintro e w' ⟨v,rfl,hr,hb⟩;have h1:=aaG hr;obtain⟨o,c,rfl⟩:=Oz h1;exact⟨o,c,rfl,h1,ny hb⟩
open Go.ChangeShapes Go.WideShapes Go.ChangeAt Go.RowKit Go.Joins
theorem aaI{H:Type}{enc:TypeId × Value->H}{w:World}{base:Nat}{spare:Nat->Bool}{held:Bool}{r:Reach}{b0:Nat}{v:Value}{d:DataW H}{p:List MemPlace}
  (hv:Value.okWide prog w r b0 22 v) (h:DataW.Trod enc prog w base spare held 22 v d p) :
  ∃L:List Nd,NdS w v L/\L.length<=Rows.uptoBulk d/\∀y∈L,y.n.size<=Rows.uptoBulk d/\y.r.size<=Rows.uptoBulk d:=by
 have hu:=underlying22;obtain⟨a0,l0,c0,rfl⟩:=okWide_slice hu hv;obtain⟨fuel,hf⟩:=h;exact Qg hf
theorem aaJ:prog.cellsOf 3=1:=by kernel_rfl
theorem open_ints{H:Type}{enc:TypeId × Value->H}{w:World}{base:Nat}{spare:Nat->Bool}{held:Bool}{r:Reach}{b0:Nat}{v:Value}{d:DataW H}{p:List MemPlace}
  (hv:Value.okWide prog w r b0 25 v) (h:DataW.Trod enc prog w base spare held 25 v d p) :
  ∃L:List Int,IS w v L/\L.length<=Rows.uptoBulk d:=by
 have hu:=underlying25;obtain⟨a0,l0,c0,rfl⟩:=okWide_slice hu hv;obtain⟨fuel,hf⟩:=h
 rcases Deep.open_slice hu hf with⟨hcs,hx⟩|⟨a,len,cap,m,n,D,Pl,hcs,hb,hl,hm,hmm,hx,hel⟩
 ·simp[Value.cells]at hcs;obtain⟨rfl,rfl,rfl⟩:=hcs;exact⟨[],Or.inl ⟨rfl,rfl⟩,by simp⟩
 ·simp[Value.cells]at hcs;obtain⟨rfl,rfl,rfl⟩:=hcs;have hle:l0<=m:=by rw[hmm];split<;>omega
  have hS:∀i,i<l0->∃z:Int,w.cell? (a.add i)=some (.int .i64 z):=by
   intro i hi;obtain⟨cs',h1,h2⟩:=hel i (by omega);rw[aaJ]at h1;obtain⟨-,h4,h3⟩:=World.cells?_some h1;obtain⟨z,hc,-⟩:=DataW.trod_int underlying3 h2;have q0:=h3 0 (by omega);rw[hc]at q0;rw[Deep.add_add,Nat.add_zero]at q0;exact⟨z,by simpa using q0⟩
  obtain⟨S,hS⟩:=Deep.choose_lt hS;have hlen:((List.range l0).map S).length=l0:=by simp
  have hd:d=.slice ((List.range l0).map D) ((List.range (m-l0)).map fun j=>D (l0+j)):=congrArg Prod.fst hx;have hbl:=BL ((List.range l0).map D);simp only[List.length_map,List.length_range]at hbl;refine⟨(List.range l0).map S,Or.inr ⟨a,c0,by rw[hlen],by rw[hlen];exact hl,fun i hi=>?_⟩,?_⟩
  ·have hi':i<l0:=by rw[hlen]at hi;exact hi
   rw[List.getElem_map,List.getElem_range];exact hS i hi'
  ·rw[hd,hlen];simp only[Rows.uptoBulk];omega
open Go.ChangeShapes Go.WideShapes Go.ChangeAt Go.RowKit Go.Joins
instance:Inhabited En:=⟨⟨⟨#[]⟩,⟨#[]⟩,⟨#[]⟩,[]⟩⟩
theorem Qh:prog.cellsOf 51=4:=by kernel_rfl
theorem aaK:prog.cellsOf 9=1:=by kernel_rfl
theorem aaL{H:Type}{enc:TypeId × Value->H}{w:World}{base:Nat}{spare:Nat->Bool}{held:Bool}{fuel:Nat}{v:Value}{x:DataW H × List MemPlace}
  (h:DataW.trod enc prog w base spare held fuel 49 [v]=some x):∃L:List ByteArray,TxS w v L/\L.length<=Rows.uptoBulk x.1/\∀y∈L,y.size<=Rows.uptoBulk x.1:=by
 have hu:=underlying49
 rcases Deep.open_slice hu h with⟨hcs,hx⟩|⟨a,len,cap,m,n,D,Pl,hcs,hb,hl,hm,hmm,hx,hel⟩
 ·simp at hcs;exact⟨[],Or.inl ⟨hcs,rfl⟩,by simp,by simp⟩
 ·simp at hcs;subst hcs;have hle:len<=m:=by rw[hmm];split<;>omega
  have hS:∀i,i<len->∃s:ByteArray,w.cell? (a.add i)=some (.string s)/\s.size<=Rows.uptoBulk (D i):=by
   intro i hi;obtain⟨cs',h1,h2⟩:=hel i (by omega);rw[aaK]at h1;obtain⟨-,h4,h3⟩:=World.cells?_some h1;obtain⟨a0,e0,hd,w0⟩:=DataW.trod_string underlying9 h2;have q0:=h3 0 (by omega);rw[Deep.add_add,e0]at q0;refine⟨a0,by simpa using q0,?_⟩;have hd':=congrArg Prod.fst hd;simp only[]at hd';rw[hd'];simp only[Rows.uptoBulk,Array.length_toList];have e1:a0.data.size=a0.size:=rfl;omega
  obtain⟨S,hS⟩:=Deep.choose_lt hS;have hlen:((List.range len).map S).length=len:=by simp
  refine⟨(List.range len).map S,Or.inr ⟨a,cap,by rw[hlen],by rw[hlen];exact hl,fun i hi=>?_⟩,?_,fun y hy=>?_⟩
  ·have hi':i<len:=by rw[hlen]at hi;exact hi
   rw[List.getElem_map,List.getElem_range];exact(hS i hi').1
  ·rw[hx,hlen];simp only[Rows.uptoBulk];have:=BL ((List.range len).map D);simp only[List.length_map,List.length_range]at this;omega
  ·obtain⟨i,hi,rfl⟩:=List.mem_map.1 hy;have hm:=EG ((List.range len).map D) (D i) (List.mem_map.2 ⟨i,hi,rfl⟩);have:=(hS i (List.mem_range.1 hi)).2;rw[hx];simp only[Rows.uptoBulk];omega
theorem aaM{H:Type}{enc:TypeId × Value->H}{w:World}{base:Nat}{spare:Nat->Bool}{held:Bool}{fuel:Nat}{cs:List Value}{x:DataW H × List MemPlace}
  (h:DataW.trod enc prog w base spare held fuel 51 cs=some x) :
  ∃(r:En) (v:Value),cs=[.string r.nm,.string r.ve,.string r.dg,v]/\TxS w v r.nd/\r.nm.size<=Rows.uptoBulk x.1/\r.ve.size<=Rows.uptoBulk x.1/\r.dg.size<=Rows.uptoBulk x.1/\r.nd.length<=Rows.uptoBulk x.1/\∀y∈r.nd,y.size<=Rows.uptoBulk x.1:=by
 have hu:=underlying51;obtain⟨xs,n,_,hx,hl,hlen,hfs⟩:=DataW.trod_struct hu h;obtain⟨c0,c1,c2,c3,rfl⟩:=list4 (hl.trans Qh)
 match xs,hlen with
 | [y0,y1,y2,y3],_ =>
  have k9:prog.cellsOf 9=1:=by kernel_rfl
  have k8:prog.cellsOf 49=1:=by kernel_rfl
  have g0:=hfs 0 _ rfl;have g1:=hfs 1 _ rfl;have g2:=hfs 2 _ rfl;have g3:=hfs 3 _ rfl;simp[k8,k9]at g0 g1 g2 g3;obtain⟨a0,e0,rfl,w0⟩:=DataW.trod_string underlying9 g0;obtain⟨a1,e1,rfl,w1⟩:=DataW.trod_string underlying9 g1;obtain⟨a2,e2,rfl,w2⟩:=DataW.trod_string underlying9 g2;obtain⟨N,hN,hNl,IX⟩:=aaL g3;simp at e0 e1 e2;subst e0;subst e1;subst e2;have f0:a0.data.size=a0.size:=rfl;have f1:a1.data.size=a1.size:=rfl;have f2:a2.data.size=a2.size:=rfl;refine⟨⟨a0,a1,a2,N⟩,c3,rfl,hN,?_,?_,?_,?_,fun y hy=>?_⟩
  ·rw[hx];simp only[List.map,Rows.uptoBulk,Rows.uptoBulkAll,Array.length_toList];omega
  ·rw[hx];simp only[List.map,Rows.uptoBulk,Rows.uptoBulkAll,Array.length_toList];omega
  ·rw[hx];simp only[List.map,Rows.uptoBulk,Rows.uptoBulkAll,Array.length_toList];omega
  ·rw[hx];simp only[List.map,Rows.uptoBulk,Rows.uptoBulkAll,Array.length_toList];omega
  ·have:=IX y hy;rw[hx];simp only[List.map,Rows.uptoBulk,Rows.uptoBulkAll,Array.length_toList];omega
theorem open_entries{H:Type}{enc:TypeId × Value->H}{w:World}{base:Nat}{spare:Nat->Bool}{held:Bool}{r:Reach}{b0:Nat}{v:Value}{d:DataW H}{p:List MemPlace}
  (hv:Value.okWide prog w r b0 24 v) (h:DataW.Trod enc prog w base spare held 24 v d p) :
  ∃L:List En,EnS w v L/\L.length<=Rows.uptoBulk d/\∀s∈L,s.nm.size<=Rows.uptoBulk d/\s.ve.size<=Rows.uptoBulk d/\s.dg.size<=Rows.uptoBulk d/\s.nd.length<=Rows.uptoBulk d/\∀y∈s.nd,y.size<=Rows.uptoBulk d:=by
 have hu:=underlying24;obtain⟨a0,l0,c0,rfl⟩:=okWide_slice hu hv;obtain⟨fuel,hf⟩:=h
 rcases Deep.open_slice hu hf with⟨hcs,hx⟩|⟨a,len,cap,m,n,D,Pl,hcs,hb,hl,hm,hmm,hx,hel⟩
 ·simp[Value.cells]at hcs;obtain⟨rfl,rfl,rfl⟩:=hcs;exact⟨[],Or.inl ⟨rfl,rfl⟩,by simp,by simp⟩
 ·simp[Value.cells]at hcs;obtain⟨rfl,rfl,rfl⟩:=hcs;have hle:l0<=m:=by rw[hmm];split<;>omega
  have hS:∀i,i<l0->∃s:En,EnAt w (a.add (i*4)) s/\s.nm.size<=Rows.uptoBulk (D i)/\s.ve.size<=Rows.uptoBulk (D i)/\s.dg.size<=Rows.uptoBulk (D i)/\s.nd.length<=Rows.uptoBulk (D i)/\∀y∈s.nd,y.size<=Rows.uptoBulk (D i):=by
   intro i hi;obtain⟨cs',h1,h2⟩:=hel i (by omega);obtain⟨s,v,hc,hn,hv1,hv2,hv3,hv4,hv5⟩:=aaM h2;rw[Qh]at h1;obtain⟨-,h4,h3⟩:=World.cells?_some h1;subst hc;have q0:=h3 0 (by omega);have q1:=h3 1 (by omega);have q2:=h3 2 (by omega);have q3:=h3 3 (by omega);rw[Deep.add_add]at q0 q1 q2 q3;rw[wL _ _ _ (by omega)]at q1 q2 q3;exact⟨s,⟨by simpa using q0,by simpa using q1,by simpa using q2,v,by simpa using q3,hn⟩,hv1,hv2,hv3,hv4,hv5⟩
  obtain⟨S,hS⟩:=Deep.choose_lt hS;have hlen:((List.range l0).map S).length=l0:=by simp
  have hd:d=.slice ((List.range l0).map D) ((List.range (m-l0)).map fun j=>D (l0+j)):=congrArg Prod.fst hx;have hbl:=BL ((List.range l0).map D);simp only[List.length_map,List.length_range]at hbl;refine⟨(List.range l0).map S,Or.inr ⟨a,c0,by rw[hlen],by rw[hlen];exact hl,fun i hi=>?_⟩,?_,fun s hs=>?_⟩
  ·have hi':i<l0:=by rw[hlen]at hi;exact hi
   rw[List.getElem_map,List.getElem_range];exact(hS i hi').1
  ·rw[hd,hlen];simp only[Rows.uptoBulk];omega
  ·obtain⟨i,hi,rfl⟩:=List.mem_map.1 hs;have hm:=EG ((List.range l0).map D) (D i) (List.mem_map.2 ⟨i,hi,rfl⟩);obtain⟨-,b1,b2,b3,b4,b5⟩:=hS i (List.mem_range.1 hi);rw[hd];simp only[Rows.uptoBulk];exact⟨by omega,by omega,by omega,by omega,fun y hy=>by have:=b5 y hy;omega⟩
open Go.ChangeShapes Go.WideShapes Go.ChangeAt Go.RowKit
theorem aaN{H:Type}{enc:TypeId × Value->H}{w:World}{base:Nat}{spare:Nat->Bool}{held:Bool}{fuel:Nat}{cs:List Value}{x:DataW H × List MemPlace}
  (h:DataW.trod enc prog w base spare held fuel 58 cs=some x):3<=Rows.uptoBulk x.1:=by
 have hu:=underlying58;obtain⟨xs,n,_,hx,hl,hlen,hfs⟩:=DataW.trod_struct hu h
 match xs,hlen with
 | [y0,y1],_ =>
  have h0:=IW y0.1;have h1:=IW y1.1;rw[hx];simp only[List.map_cons,List.map_nil,Rows.uptoBulk,Rows.uptoBulkAll];omega
theorem aaO{H:Type}(l:List (DataW H))(h:∀d∈l,3<=Rows.uptoBulk d):3*l.length<=Rows.uptoBulkAll l:=by
 induction l with
 | nil=>simp
 | cons d l ih =>
  have h1:=h d (by simp);have h2:=ih (fun d hd=>h d (by simp[hd]));simp only[Rows.uptoBulkAll,List.length_cons];omega
theorem aaP{H:Type}{enc:TypeId × Value->H}{w:World}{base:Nat}{spare:Nat->Bool}{held:Bool}{v:Value}{d:DataW H}{p:List MemPlace}{L:List Nd}
  (h:DataW.Trod enc prog w base spare held 22 v d p) (hS:NdS w v L):3*L.length<=Rows.uptoBulk d:=by
 have hu:=underlying22;obtain⟨o,c,rfl⟩:=rY hS;obtain⟨fuel,hf⟩:=h
 rcases Deep.open_slice hu hf with⟨hcs,hx⟩|⟨a,len,cap,m,n,D,Pl,hcs,hb,hl,hm,hmm,hx,hel⟩
 ·simp[Value.cells]at hcs;rw[hcs.2.1];simp
 ·simp[Value.cells]at hcs;obtain⟨rfl,rfl,rfl⟩:=hcs;have hle:L.length<=m:=by rw[hmm];split<;>omega
  have hd:d=.slice ((List.range L.length).map D) ((List.range (m-L.length)).map fun j=>D (L.length+j)):=congrArg Prod.fst hx;have:=aaO ((List.range L.length).map D) (fun z hz=>by
   obtain⟨i,hi,rfl⟩:=List.mem_map.1 hz;obtain⟨cs',h1,h2⟩:=hel i (by have:=List.mem_range.1 hi;omega);exact aaN h2)
  simp only[List.length_map,List.length_range]at this;rw[hd];simp only[Rows.uptoBulk];omega
end Go.Proofs.YtapodndfpecglaaGreatDoor
