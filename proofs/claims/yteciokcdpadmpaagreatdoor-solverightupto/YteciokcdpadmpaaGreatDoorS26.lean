import Derived.Test.YteciokcdpadmpaaGreatDoorS18
import Derived.Test.YteciokcdpadmpaaGreatDoorS19
set_option linter.all false
set_option maxRecDepth 100000
set_option maxHeartbeats 0
open Go.Proofs.Tryz
namespace Go.Proofs.YteciokcdpadmpaaGreatDoor
open Go.ChangeShapes Go.WideShapes Go.ChangeAt Go.RowKit Go.Joins
instance:Inhabited En:=⟨⟨⟨#[]⟩,⟨#[]⟩,⟨#[]⟩,[]⟩⟩
theorem Ti:prog.cellsOf 55=4:=by kernel_rfl
theorem acV:prog.cellsOf 9=1:=by kernel_rfl
theorem acW{H:Type}{enc:TypeId × Value->H}{w:World}{base:Nat}{spare:Nat->Bool}{held:Bool}{fuel:Nat}{v:Value}{x:DataW H × List MemPlace}
  (h:DataW.trod enc prog w base spare held fuel 53 [v]=some x):∃L:List ByteArray,TxS w v L/\L.length<=Rows.uptoBulk x.1/\∀y∈L,y.size<=Rows.uptoBulk x.1:=by
 have hu:=underlying53
 rcases Deep.open_slice hu h with⟨hcs,hx⟩|⟨a,len,cap,m,n,D,Pl,hcs,hb,hl,hm,hmm,hx,hel⟩
 ·simp at hcs;exact⟨[],Or.inl ⟨hcs,rfl⟩,by simp,by simp⟩
 ·simp at hcs;subst hcs;have hle:len<=m:=by rw[hmm];split<;>omega
  have hS:∀i,i<len->∃s:ByteArray,w.cell? (a.add i)=some (.string s)/\s.size<=Rows.uptoBulk (D i):=by
   intro i hi;obtain⟨cs',h1,h2⟩:=hel i (by omega);rw[acV]at h1;obtain⟨-,h4,h3⟩:=World.cells?_some h1;obtain⟨a0,e0,hd,w0⟩:=DataW.trod_string underlying9 h2;have q0:=h3 0 (by omega);rw[Deep.add_add,e0]at q0;refine⟨a0,by simpa using q0,?_⟩;have hd':=congrArg Prod.fst hd;simp only[]at hd';rw[hd'];simp only[Rows.uptoBulk,Array.length_toList];have e1:a0.data.size=a0.size:=rfl;omega
  obtain⟨S,hS⟩:=Deep.choose_lt hS;have hlen:((List.range len).map S).length=len:=by simp
  refine⟨(List.range len).map S,Or.inr ⟨a,cap,by rw[hlen],by rw[hlen];exact hl,fun i hi=>?_⟩,?_,fun y hy=>?_⟩
  ·have hi':i<len:=by rw[hlen]at hi;exact hi
   rw[List.getElem_map,List.getElem_range];exact(hS i hi').1
  ·rw[hx,hlen];simp only[Rows.uptoBulk];have:=FX ((List.range len).map D);simp only[List.length_map,List.length_range]at this;omega
  ·obtain⟨i,hi,rfl⟩:=List.mem_map.1 hy;have hm:=FY ((List.range len).map D) (D i) (List.mem_map.2 ⟨i,hi,rfl⟩);have:=(hS i (List.mem_range.1 hi)).2;rw[hx];simp only[Rows.uptoBulk];omega
theorem acX{H:Type}{enc:TypeId × Value->H}{w:World}{base:Nat}{spare:Nat->Bool}{held:Bool}{fuel:Nat}{cs:List Value}{x:DataW H × List MemPlace}
  (h:DataW.trod enc prog w base spare held fuel 55 cs=some x) :
  ∃(r:En) (v:Value),cs=[.string r.nm,.string r.ve,.string r.dg,v]/\TxS w v r.nd/\r.nm.size<=Rows.uptoBulk x.1/\r.ve.size<=Rows.uptoBulk x.1/\r.dg.size<=Rows.uptoBulk x.1/\r.nd.length<=Rows.uptoBulk x.1/\∀y∈r.nd,y.size<=Rows.uptoBulk x.1:=by
 have hu:=underlying55;obtain⟨xs,n,_,hx,hl,hlen,hfs⟩:=DataW.trod_struct hu h;obtain⟨c0,c1,c2,c3,rfl⟩:=list4 (hl.trans Ti)
 match xs,hlen with
 | [y0,y1,y2,y3],_ =>
  have k9:prog.cellsOf 9=1:=by kernel_rfl
  have k8:prog.cellsOf 53=1:=by kernel_rfl
  have g0:=hfs 0 _ rfl;have g1:=hfs 1 _ rfl;have g2:=hfs 2 _ rfl;have g3:=hfs 3 _ rfl;simp[k8,k9]at g0 g1 g2 g3;obtain⟨a0,e0,rfl,w0⟩:=DataW.trod_string underlying9 g0;obtain⟨a1,e1,rfl,w1⟩:=DataW.trod_string underlying9 g1;obtain⟨a2,e2,rfl,w2⟩:=DataW.trod_string underlying9 g2;obtain⟨N,hN,hNl,J4⟩:=acW g3;simp at e0 e1 e2;subst e0;subst e1;subst e2;have f0:a0.data.size=a0.size:=rfl;have f1:a1.data.size=a1.size:=rfl;have f2:a2.data.size=a2.size:=rfl;refine⟨⟨a0,a1,a2,N⟩,c3,rfl,hN,?_,?_,?_,?_,fun y hy=>?_⟩
  ·rw[hx];simp only[List.map,Rows.uptoBulk,Rows.uptoBulkAll,Array.length_toList];omega
  ·rw[hx];simp only[List.map,Rows.uptoBulk,Rows.uptoBulkAll,Array.length_toList];omega
  ·rw[hx];simp only[List.map,Rows.uptoBulk,Rows.uptoBulkAll,Array.length_toList];omega
  ·rw[hx];simp only[List.map,Rows.uptoBulk,Rows.uptoBulkAll,Array.length_toList];omega
  ·have:=J4 y hy;rw[hx];simp only[List.map,Rows.uptoBulk,Rows.uptoBulkAll,Array.length_toList];omega
theorem open_entries{H:Type}{enc:TypeId × Value->H}{w:World}{base:Nat}{spare:Nat->Bool}{held:Bool}{r:Reach}{b0:Nat}{v:Value}{d:DataW H}{p:List MemPlace}
  (hv:Value.okWide prog w r b0 24 v) (h:DataW.Trod enc prog w base spare held 24 v d p) :
  ∃L:List En,EnS w v L/\L.length<=Rows.uptoBulk d/\∀s∈L,s.nm.size<=Rows.uptoBulk d/\s.ve.size<=Rows.uptoBulk d/\s.dg.size<=Rows.uptoBulk d/\s.nd.length<=Rows.uptoBulk d/\∀y∈s.nd,y.size<=Rows.uptoBulk d:=by
 have hu:=underlying24;obtain⟨a0,l0,c0,rfl⟩:=okWide_slice hu hv;obtain⟨fuel,hf⟩:=h
 rcases Deep.open_slice hu hf with⟨hcs,hx⟩|⟨a,len,cap,m,n,D,Pl,hcs,hb,hl,hm,hmm,hx,hel⟩
 ·simp[Value.cells]at hcs;obtain⟨rfl,rfl,rfl⟩:=hcs;exact⟨[],Or.inl ⟨rfl,rfl⟩,by simp,by simp⟩
 ·simp[Value.cells]at hcs;obtain⟨rfl,rfl,rfl⟩:=hcs;have hle:l0<=m:=by rw[hmm];split<;>omega
  have hS:∀i,i<l0->∃s:En,EnAt w (a.add (i*4)) s/\s.nm.size<=Rows.uptoBulk (D i)/\s.ve.size<=Rows.uptoBulk (D i)/\s.dg.size<=Rows.uptoBulk (D i)/\s.nd.length<=Rows.uptoBulk (D i)/\∀y∈s.nd,y.size<=Rows.uptoBulk (D i):=by
   intro i hi;obtain⟨cs',h1,h2⟩:=hel i (by omega);obtain⟨s,v,hc,hn,hv1,hv2,hv3,hv4,hv5⟩:=acX h2;rw[Ti]at h1;obtain⟨-,h4,h3⟩:=World.cells?_some h1;subst hc;have q0:=h3 0 (by omega);have q1:=h3 1 (by omega);have q2:=h3 2 (by omega);have q3:=h3 3 (by omega);rw[Deep.add_add]at q0 q1 q2 q3;rw[xO _ _ _ (by omega)]at q1 q2 q3;exact⟨s,⟨by simpa using q0,by simpa using q1,by simpa using q2,v,by simpa using q3,hn⟩,hv1,hv2,hv3,hv4,hv5⟩
  obtain⟨S,hS⟩:=Deep.choose_lt hS;have hlen:((List.range l0).map S).length=l0:=by simp
  have hd:d=.slice ((List.range l0).map D) ((List.range (m-l0)).map fun j=>D (l0+j)):=congrArg Prod.fst hx;have hbl:=FX ((List.range l0).map D);simp only[List.length_map,List.length_range]at hbl;refine⟨(List.range l0).map S,Or.inr ⟨a,c0,by rw[hlen],by rw[hlen];exact hl,fun i hi=>?_⟩,?_,fun s hs=>?_⟩
  ·have hi':i<l0:=by rw[hlen]at hi;exact hi
   rw[List.getElem_map,List.getElem_range];exact(hS i hi').1
  ·rw[hd,hlen];simp only[Rows.uptoBulk];omega
  ·obtain⟨i,hi,rfl⟩:=List.mem_map.1 hs;have hm:=FY ((List.range l0).map D) (D i) (List.mem_map.2 ⟨i,hi,rfl⟩);obtain⟨-,b1,b2,b3,b4,b5⟩:=hS i (List.mem_range.1 hi);rw[hd];simp only[Rows.uptoBulk];exact⟨by omega,by omega,by omega,by omega,fun y hy=>by have:=b5 y hy;omega⟩
open Go.ChangeShapes Go.WideShapes Go.ChangeAt Go.RowKit
theorem acY{H:Type}{enc:TypeId × Value->H}{w:World}{base:Nat}{spare:Nat->Bool}{held:Bool}{fuel:Nat}{cs:List Value}{x:DataW H × List MemPlace}
  (h:DataW.trod enc prog w base spare held fuel 49 cs=some x):3<=Rows.uptoBulk x.1:=by
 have hu:=underlying49;obtain⟨xs,n,_,hx,hl,hlen,hfs⟩:=DataW.trod_struct hu h
 match xs,hlen with
 | [y0,y1],_ =>
  have h0:=J3 y0.1;have h1:=J3 y1.1;rw[hx];simp only[List.map_cons,List.map_nil,Rows.uptoBulk,Rows.uptoBulkAll];omega
theorem acZ{H:Type}(l:List (DataW H))(h:∀d∈l,3<=Rows.uptoBulk d):3*l.length<=Rows.uptoBulkAll l:=by
 induction l with
 | nil=>simp
 | cons d l ih =>
  have h1:=h d (by simp);have h2:=ih (fun d hd=>h d (by simp[hd]));simp only[Rows.uptoBulkAll,List.length_cons];omega
theorem ac0{H:Type}{enc:TypeId × Value->H}{w:World}{base:Nat}{spare:Nat->Bool}{held:Bool}{v:Value}{d:DataW H}{p:List MemPlace}{L:List Nd}
  (h:DataW.Trod enc prog w base spare held 22 v d p) (hS:NdS w v L):3*L.length<=Rows.uptoBulk d:=by
 have hu:=underlying22;obtain⟨o,c,rfl⟩:=uh hS;obtain⟨fuel,hf⟩:=h
 rcases Deep.open_slice hu hf with⟨hcs,hx⟩|⟨a,len,cap,m,n,D,Pl,hcs,hb,hl,hm,hmm,hx,hel⟩
 ·simp[Value.cells]at hcs;rw[hcs.2.1];simp
 ·simp[Value.cells]at hcs;obtain⟨rfl,rfl,rfl⟩:=hcs;have hle:L.length<=m:=by rw[hmm];split<;>omega
  have hd:d=.slice ((List.range L.length).map D) ((List.range (m-L.length)).map fun j=>D (L.length+j)):=congrArg Prod.fst hx;have:=acZ ((List.range L.length).map D) (fun z hz=>by
   obtain⟨i,hi,rfl⟩:=List.mem_map.1 hz;obtain⟨cs',h1,h2⟩:=hel i (by have:=List.mem_range.1 hi;omega);exact acY h2)
  simp only[List.length_map,List.length_range]at this;rw[hd];simp only[Rows.uptoBulk];omega
end Go.Proofs.YteciokcdpadmpaaGreatDoor
