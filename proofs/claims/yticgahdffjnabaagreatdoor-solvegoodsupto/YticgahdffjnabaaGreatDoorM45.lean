import Derived.Test.YticgahdffjnabaaGreatDoorM40
import Derived.Test.YticgahdffjnabaaGreatDoorM44
import Derived.Test.YticgahdffjnabaaGreatDoorM02
import Derived.Deep.AppendLies
import Derived.Deep.AppendSrc
import Derived.Test.YticgahdffjnabaaGreatDoorM03
import Derived.Test.YticgahdffjnabaaGreatDoorRows
import Derived.ProofKit
import Derived.OpenShut
import Derived.ShutString
import Derived.SizedLaws
import Derived.Lib.SmallJoins
import Derived.Deep.Slices
import Derived.Carry
import Derived.DataReads
set_option linter.unusedVariables false
set_option maxHeartbeats 1600000
namespace Go.Proofs.YticgahdffjnabaaGreatDoor
open Go.RowKit Go.Maps
set_option maxRecDepth 100000 in
theorem sameI_any (v v':Value) (K:List Int) (w:World) (h:IS w v K) (h':IS w v' K) (hK:K.length<=1048576) :
  Calls Tryz.prog 7 #[v,v'] w fun e w'=>e=.returned (.bool true)/\w.grownBy w' none:=by
 have H1:Hd (IS w v K):=h;have H2:Hd (IS w v' K):=h';obtain ⟨o,c,rfl⟩:=is_slice h;obtain ⟨o',c',rfl⟩:=is_slice h';have hnn:((K.length:Int) != (K.length:Int))=false:=by simp
 clear h h';go_enter Tryz.func7,Tryz.ntmps7;go_wp2;go_loopw [5] (fun vi wr=>∃i:Nat,vi=.int .i64 i/\i<=K.length/\w.grownBy wr none) (fun vi _=>K.length - (intOf vi).toNat)
 case atStart=>exact ⟨0,rfl,Nat.zero_le _,gb_refl _ _⟩
 case round =>
  obtain ⟨i,rfl,hi,hg⟩:=hrel;have HG:Hd (w.grownBy wr none):=hg
  by_cases hlt:i < K.length
  ·obtain ⟨a,ho,e2,e3⟩:=is_at (H1.o.grow hg) hlt;obtain ⟨b,ho',f2,f3⟩:=is_at (H2.o.grow hg) hlt;have g1:=e3 i hlt;have g2:=f3 i hlt;obtain ⟨z,hz⟩:∃z:Int,K[i]=z:=⟨_,rfl⟩;rw [hz] at g1 g2;have hzz:(z != z)=false:=by simp
   have hic:i < c:=by omega
   have hic':i < c':=by omega
   subst ho ho';clear e3 f3 hz hg e2 f2;go_wp2;go_quiet (fail);go_wp2;go_roundw
   case rel=>exact ⟨i+1,by go_num,by omega,gb_drew HG.o _⟩
   case measure=>simp [intOf];omega
  ·clear hg;have hil:i=K.length:=by omega
   go_wp2;go_ret;exact ⟨rfl,HG.o⟩
theorem append_zero0 {P:Program} {w:World} {ops:Array Oper} {rest:List Oper} {o:Oper} {a:Act} {Q:Exit->Act->World->Prop} (hgd:o.guard=none) (s x:Operand) (t:TypeId)
  (ho:o.op=.call { callee:=.builtin .append,args:=#[s,x],argTypes:=#[t,t] }) (e:TypeId) (i:TypeInfo) (ht:P.underlying t=some (.slice e)) (hi:P.info? e=some i)
  (hs:a.eval s=.slice none 0 0) (p:Option Addr) (c:Nat) (hx:a.eval x=.slice p 0 c)
  (h:wpList P ops Q rest (a.put o.dst (.slice none 0 0)) w):wpList P ops Q (o :: rest) a w:=by
 refine wpList_plain hgd fun K hK=>?_
 have hsrc:Src P i.size t (.slice p 0 c) 0 [] w:=by
  cases p with
  | none=>exact Src.ofNil w ht c
  | some ad=>exact Src.ofSlice w ht ad 0 c [] (by simp) (by intro j u hu;simp at hu) (by intro u hu;cases hu)
 have hrun:(Builtin.append_ #[t,t] o.type #[.slice none 0 0,.slice p 0 c]).run P w=.ok (.slice none 0 0) w:=by
  simp [Builtin.append_,run_underlying ht,sizeOf,typeInfo,hi,hsrc.len,hsrc.cells]
 unfold Oper.wp;simp [execOp,ho,resolve,invoke,builtin,hs,hx,hrun,Result.andThen];exact hK _ _ h
theorem infoInt1:(Tryz.prog.info? 3).map (fun i=>(i.zero,i.size,i.bytes))=some (some (.int .i64 0),1,8):=by kernel_rfl
def cI (C:List Int):List Value:=C.map fun z=>Value.int .i64 z
theorem is_own {w:World} {base g cap:Nat} {C:List Int} (h:w.ownsRow base 3 1 (.slice (some ⟨g,0,none⟩) C.length cap) C.length (cI C)):IS w (.slice (some ⟨g,0,none⟩) C.length cap) C:=by
 rcases h.2 with ⟨h1,-⟩ | ⟨g',cap',cur,hv,hb,hc,h3,h4,h5,h6⟩
 ·cases h1
 ·cases hv
  refine Or.inr ⟨⟨g,0,none⟩,cap,rfl,h3,fun j hj=>?_⟩;exact h.cells (g:=g) rfl j _ (by unfold cI;simp [hj])
set_option maxRecDepth 100000 in
theorem solveGoodsLaw (v v' vc:Value) (N:List Nd) (L:List Re) (C:List Int) (w:World) (h:NdS w v N) (h':ReS w v' L) (hc:IS w vc C) (hN:N.length<=1048576) (hL:L.length<=1048576) (hC:C.length<=1048576) (hS:∀y ∈ N,y.n.size < 2 ^ 60/\y.r.size < 2 ^ 60) (hV:∀x ∈ L,x.nm.size < 2 ^ 60/\x.ve.size < 2 ^ 60) (hLN:∀x ∈ L,x.nd.length<=1048576) (hSS:∀x ∈ L,∀y ∈ x.nd,y.n.size < 2 ^ 60/\y.r.size < 2 ^ 60) :
  Calls Tryz.prog 3 #[v,v',vc] w fun e w'=>e=.returned (.bool true)/\w.grownBy w' none:=by
 have CN:Hd (∀w',w.grownBy w' none->Calls Tryz.prog 5 #[v] w' fun e w''=>∃o c,e=.returned (.slice o N.length c)/\NdS w'' (.slice o N.length c) N/\w'.grownBy w'' none):=fun w' hg=>cNeeds v N w' (h.grow hg) hN
 have CR:Hd (∀w',w.grownBy w' none->Calls Tryz.prog 6 #[v'] w' fun e w''=>∃o c,e=.returned (.slice o L.length c)/\ReS w'' (.slice o L.length c) L/\w'.grownBy w'' none):=fun w' hg=>(cReleases v' L w' (h'.grow hg) hL hLN).mono fun e w'' ⟨z,h1,h2,h3⟩=>by
  obtain ⟨o,c,rfl⟩:=reS_sl h2;exact ⟨o,c,h1,h2,h3⟩
 have CG:Hd (∀a b d w',NdS w' a N->ReS w' b L->IS w' d C->Calls Tryz.prog 4 #[a,b,d] w' fun e w''=>(∃b:Bool,e=.returned (.bool b)/\(b=true ↔ GoodP N L C))/\w'.grownBy w'' none):=fun a b d w' h1 h2 h3=>sGood_any a b d N L C w' h1 h2 h3 hN hL hC hS hV hLN hSS
 have CD:Hd (∀w',w.grownBy w' none->Calls Tryz.prog 8 #[v,v',vc] w' fun e w''=>(∃b:Bool,e=.returned (.bool b)/\(b=true ↔ GoodP N L C))/\w'.grownBy w'' none):=fun w' hg=>rGood_any v v' vc N L C w' (h.grow hg) (h'.grow hg) (hc.grow hg) hN hL hC hS hV hLN hSS
 have CS:Hd (∀d w',IS w' d C->w.grownBy w' none->Calls Tryz.prog 7 #[d,vc] w' fun e w''=>e=.returned (.bool true)/\w'.grownBy w'' none):=fun d w' h1 hg=>sameI_any d vc C w' h1 (hc.grow hg) hC
 obtain ⟨o,n,c,rfl⟩:∃o n c,v=.slice o n c:=by
  rcases h with ⟨rfl,-⟩ | ⟨_,_,rfl,-⟩ <;> exact ⟨_,_,_,rfl⟩
 obtain ⟨o',c',rfl⟩:=reS_sl h';obtain ⟨oc,cc,rfl⟩:=is_slice hc;have hinfo:=infoInt1;obtain ⟨i0,hi0,hii⟩:=Option.map_eq_some_iff.1 hinfo;simp only [Prod.mk.injEq] at hii;obtain ⟨hz0,hz1,hzb⟩:=hii;clear hinfo;have FIN:Hd (∀(b b':Bool),(b=true ↔ GoodP N L C)->(b'=true ↔ GoodP N L C)->(b == b')=true):=fun b b' h1 h2=>by
  have:b=b':=by
   cases b with
   | true=>exact ((h2.2 (h1.1 rfl))).symm
   | false =>
    cases b' with
    | false=>rfl
    | true=>exact (h1.2 (h2.1 rfl))
  rw [this];simp
 by_cases h0:C.length=0
 ·have hCe:C=[]:=List.eq_nil_of_length_eq_zero h0;have HIS:Hd (∀w',IS w' (.slice none 0 0) C):=fun w'=>Or.inl ⟨rfl,hCe⟩
  have HG:Hd (w.grownBy w none):=gb_refl _ _;rw [h0] at CD CS ⊢;clear h h' hc hS hV hLN hSS hCe;go_enter Tryz.func3,Tryz.ntmps3;go_wp2_with (first | (at_builtin;refine append_zero0 rfl _ _ 24 rfl 3 i0 Tryz.underlying24 hi0 rfl _ _ rfl ?_) | (go_at_call 5;refine (CN.o _ HG.o).mono ?_));rintro e w1 ⟨o1,c1,rfl,hn1,hg1⟩;replace HG:Hd (w.grownBy w1 none):=hg1;have HN1:Hd (NdS w1 (.slice o1 N.length c1) N):=hn1;clear hn1 hg1;go_wp2_with (first | (go_at_call 6;refine (CR.o _ HG.o).mono ?_));rintro e w2 ⟨o2,c2,rfl,hr2,hg2⟩;replace HG:Hd (w.grownBy w2 none):=gb_trans HG.o hg2;replace HN1:Hd (NdS w2 (.slice o1 N.length c1) N):=HN1.o.grow hg2;have HR2:Hd (ReS w2 (.slice o2 L.length c2) L):=hr2;clear hr2 hg2;go_wp2_with (first | (go_at_call 4;refine (CG.o _ _ _ _ HN1.o HR2.o (HIS.o _)).mono ?_));rintro e w3 ⟨⟨b,rfl,hb⟩,hg3⟩;replace HG:Hd (w.grownBy w3 none):=gb_trans HG.o hg3
  have HBB:Hd (b=true ↔ GoodP N L C):=hb;clear hb hg3 HN1 HR2;go_wp2_with (first | (go_at_call 7;refine (CS.o _ _ (HIS.o _) HG.o).mono ?_));rintro e w4 ⟨rfl,hg4⟩;replace HG:Hd (w.grownBy w4 none):=gb_trans HG.o hg4;clear hg4;go_wp2_with (first | (go_at_call 8;refine (CD.o _ HG.o).mono ?_));rintro e w5 ⟨⟨b',rfl,hb'⟩,hg5⟩;replace HG:Hd (w.grownBy w5 none):=gb_trans HG.o hg5;have hbb:=FIN.o b b' HBB.o hb';clear hb' hg5;go_wp2;refine bodyPost_ret (results_tmp (t:=6) rfl _ _ _) rfl ⟨rfl,HG.o⟩
 ·obtain ⟨a,ho,hcp,hat⟩:=is_at hc (i:=0) (by omega);subst ho;have HNE:Hd (∀j u,(cI C)[j]?=some u->w.cell? (a.add j)=some u):=fun j u hu=>by
   unfold cI at hu;rw [List.getElem?_map,Option.map_eq_some_iff] at hu;obtain ⟨z,hz,rfl⟩:=hu;obtain ⟨hj,rfl⟩:=List.getElem?_eq_some_iff.1 hz;exact hat j hj
  have hlen:(cI C).length=C.length * 1:=by unfold cI;simp
  have hone:∀u ∈ cI C,u.oneCell'=true:=fun u hu=>by
   unfold cI at hu;obtain ⟨z,-,rfl⟩:=List.mem_map.1 hu;rfl
  have hpos:0 < C.length:=by omega
  clear h h' hc hS hV hLN hSS hat hcp h0;go_enter Tryz.func3,Tryz.ntmps3;go_wp2_with (first | (at_builtin;refine wpList_append_lies _ rfl _ _ 24 rfl w.heap.size 3 i0 _ 1 8 Tryz.underlying24 hi0 hz0 hz1 hzb rfl (by decide) (.slice none 0 0) 0 [] rfl (World.ownsRow_nil _ _ _ _) a C.length cc (cI C) rfl hlen HNE.o hone hpos (by unfold maxLen;omega) (by omega) (Nat.le_refl _) _ rfl ?_;intro g cap1 w0 hown hgrow hat2 hlt2));have HG:Hd (w.grownBy w0 none):=hgrow;have HIS:Hd (IS w0 (.slice (some ⟨g,0,none⟩) C.length cap1) C):=by
   have h1:=hown;rw [Nat.zero_add,List.nil_append] at h1;exact is_own h1
  try rw [Nat.zero_add]
  clear hown hgrow hat2 hlt2;go_wp2_with (first | (go_at_call 5;refine (CN.o _ HG.o).mono ?_));rintro e w1 ⟨o1,c1,rfl,hn1,hg1⟩;replace HG:Hd (w.grownBy w1 none):=gb_trans HG.o hg1;replace HIS:Hd (IS w1 (.slice (some ⟨g,0,none⟩) C.length cap1) C):=HIS.o.grow hg1;have HN1:Hd (NdS w1 (.slice o1 N.length c1) N):=hn1;clear hn1 hg1;go_wp2_with (first | (go_at_call 6;refine (CR.o _ HG.o).mono ?_));rintro e w2 ⟨o2,c2,rfl,hr2,hg2⟩;replace HG:Hd (w.grownBy w2 none):=gb_trans HG.o hg2;replace HIS:Hd (IS w2 (.slice (some ⟨g,0,none⟩) C.length cap1) C):=HIS.o.grow hg2;replace HN1:Hd (NdS w2 (.slice o1 N.length c1) N):=HN1.o.grow hg2;have HR2:Hd (ReS w2 (.slice o2 L.length c2) L):=hr2;clear hr2 hg2;go_wp2_with (first | (go_at_call 4;refine (CG.o _ _ _ _ HN1.o HR2.o HIS.o).mono ?_));rintro e w3 ⟨⟨b,rfl,hb⟩,hg3⟩;replace HG:Hd (w.grownBy w3 none):=gb_trans HG.o hg3;replace HIS:Hd (IS w3 (.slice (some ⟨g,0,none⟩) C.length cap1) C):=HIS.o.grow hg3
  have HBB:Hd (b=true ↔ GoodP N L C):=hb;clear hb hg3 HN1 HR2;go_wp2_with (first | (go_at_call 7;refine (CS.o _ _ HIS.o HG.o).mono ?_));rintro e w4 ⟨rfl,hg4⟩;replace HG:Hd (w.grownBy w4 none):=gb_trans HG.o hg4;clear hg4;go_wp2_with (first | (go_at_call 8;refine (CD.o _ HG.o).mono ?_));rintro e w5 ⟨⟨b',rfl,hb'⟩,hg5⟩;replace HG:Hd (w.grownBy w5 none):=gb_trans HG.o hg5;have hbb:=FIN.o b b' HBB.o hb';clear hb' hg5;go_wp2;refine bodyPost_ret (results_tmp (t:=6) rfl _ _ _) rfl ⟨rfl,HG.o⟩
open Go.ChangeShapes Go.WideShapes Go.ChangeAt Go.RowKit Go.Joins
instance:Inhabited Nd:=⟨⟨⟨#[]⟩,⟨#[]⟩⟩⟩
instance:Inhabited Re:=⟨⟨⟨#[]⟩,⟨#[]⟩,[],⟨#[]⟩⟩⟩
theorem cellsNd:Tryz.prog.cellsOf 48=2:=by kernel_rfl
theorem cellsRe:Tryz.prog.cellsOf 51=4:=by kernel_rfl
theorem one_bulk {H:Type} (d:DataW H):1<=Rows.uptoBulk d:=by
 cases d with
 | lit l=>cases l <;> simp [Rows.uptoBulk]
 | _=>simp [Rows.uptoBulk]
theorem len_bulk {H:Type} (l:List (DataW H)):l.length<=Rows.uptoBulkAll l:=by
 induction l with
 | nil=>simp
 | cons d l ih =>
  have:=one_bulk d;simp only [Rows.uptoBulkAll,List.length_cons];omega
theorem mem_bulk {H:Type} (l:List (DataW H)) (d:DataW H) (h:d ∈ l):Rows.uptoBulk d<=Rows.uptoBulkAll l:=by
 induction l with
 | nil=>cases h
 | cons e l ih =>
  simp only [Rows.uptoBulkAll]
  rcases List.mem_cons.1 h with rfl | h
  ·omega
  ·have:=ih h;omega
theorem list2 {α:Type} {cs:List α} (h:cs.length=2):∃c0 c1,cs=[c0,c1]:=by
 match cs,h with
 | [c0,c1],_=>exact ⟨c0,c1,rfl⟩
theorem list4 {α:Type} {cs:List α} (h:cs.length=4):∃c0 c1 c2 c3,cs=[c0,c1,c2,c3]:=by
 match cs,h with
 | [c0,c1,c2,c3],_=>exact ⟨c0,c1,c2,c3,rfl⟩
set_option maxRecDepth 100000 in
theorem need_cells {H:Type} {enc:TypeId × Value->H} {w:World} {base:Nat} {spare:Nat->Bool} {held:Bool} {fuel:Nat} {cs:List Value} {x:DataW H × List MemPlace}
  (h:DataW.trod enc Tryz.prog w base spare held fuel 48 cs=some x):∃s:Nd,cs=ndC s/\s.n.size<=Rows.uptoBulk x.1/\s.r.size<=Rows.uptoBulk x.1:=by
 have hu:=Tryz.underlying48;obtain ⟨xs,n,_,hx,hl,hlen,hfs⟩:=DataW.trod_struct hu h;obtain ⟨c0,c1,rfl⟩:=list2 (hl.trans cellsNd)
 match xs,hlen with
 | [y0,y1],_ =>
  have k9:Tryz.prog.cellsOf 9=1:=by kernel_rfl
  have g0:=hfs 0 _ rfl;have g1:=hfs 1 _ rfl;simp [k9] at g0 g1;obtain ⟨a4,e4,rfl,w4⟩:=DataW.trod_string Tryz.underlying9 g0;obtain ⟨a5,e5,rfl,w5⟩:=DataW.trod_string Tryz.underlying9 g1;simp at e4 e5;subst e4;subst e5;refine ⟨⟨a4,a5⟩,rfl,?_,?_⟩
  ·rw [hx];simp only [List.map,Rows.uptoBulk,Rows.uptoBulkAll,Array.length_toList];have e1:a4.data.size=a4.size:=rfl;omega
  ·rw [hx];simp only [List.map,Rows.uptoBulk,Rows.uptoBulkAll,Array.length_toList];have e1:a5.data.size=a5.size:=rfl;omega
theorem nd_of_cells {w:World} {a:Addr} {n:Nat} {s:Nd} (h:∀k v,(ndC s)[k]?=some v->w.cell? (a.add (n+k))=some v):NdAt w (a.add n) s :=
 ⟨by have:=h 0 _ rfl;simpa using this,by have:=h 1 _ rfl;rw [hadd_off a n 1 (by omega)] at this;exact this⟩
set_option maxRecDepth 100000 in
theorem open_needs {H:Type} {enc:TypeId × Value->H} {w:World} {base:Nat} {spare:Nat->Bool} {held:Bool} {fuel:Nat} {v:Value} {x:DataW H × List MemPlace}
  (h:DataW.trod enc Tryz.prog w base spare held fuel 22 [v]=some x):∃L:List Nd,NdS w v L/\L.length<=Rows.uptoBulk x.1/\∀y ∈ L,y.n.size<=Rows.uptoBulk x.1/\y.r.size<=Rows.uptoBulk x.1:=by
 have hu:=Tryz.underlying22
 rcases Deep.open_slice hu h with ⟨hcs,hx⟩ | ⟨a,len,cap,m,n,D,Pl,hcs,hb,hl,hm,hmm,hx,hel⟩
 ·simp at hcs;exact ⟨[],Or.inl ⟨hcs,rfl⟩,by simp,by simp⟩
 ·simp at hcs;subst hcs;have hle:len<=m:=by rw [hmm];split <;> omega
  have hS:∀i,i < len->∃s:Nd,(∀k u,(ndC s)[k]?=some u->w.cell? (a.add (i * 2+k))=some u)/\s.n.size<=Rows.uptoBulk (D i)/\s.r.size<=Rows.uptoBulk (D i):=by
   intro i hi;obtain ⟨cs',h1,h2⟩:=hel i (by omega);obtain ⟨s,hc,hs1,hs2⟩:=need_cells h2;refine ⟨s,fun k u hu=>?_,hs1,hs2⟩;rw [cellsNd] at h1;obtain ⟨-,h4,h3⟩:=World.cells?_some h1;have hk:k < 2:=(List.getElem?_eq_some_iff.1 hu).1;have h5:=h3 k hk;rw [Deep.add_add,hc,hu] at h5;exact h5
  obtain ⟨S,hS⟩:=Deep.choose_lt hS;have hlen:((List.range len).map S).length=len:=by simp
  refine ⟨(List.range len).map S,Or.inr ⟨a,cap,by rw [hlen],by rw [hlen];exact hl,fun i hi=>?_⟩,?_,fun y hy=>?_⟩
  ·have hi':i < len:=by rw [hlen] at hi;exact hi
   rw [List.getElem_map,List.getElem_range];exact nd_of_cells (hS i hi').1
  ·rw [hx,hlen];simp only [Rows.uptoBulk];have:=len_bulk ((List.range len).map D);simp only [List.length_map,List.length_range] at this;omega
  ·obtain ⟨i,hi,rfl⟩:=List.mem_map.1 hy;have hm:=mem_bulk ((List.range len).map D) (D i) (List.mem_map.2 ⟨i,hi,rfl⟩);have:=(hS i (List.mem_range.1 hi)).2;rw [hx];simp only [Rows.uptoBulk];omega
set_option maxRecDepth 100000 in
theorem rel_cells {H:Type} {enc:TypeId × Value->H} {w:World} {base:Nat} {spare:Nat->Bool} {held:Bool} {fuel:Nat} {cs:List Value} {x:DataW H × List MemPlace}
  (h:DataW.trod enc Tryz.prog w base spare held fuel 51 cs=some x) :
  ∃(r:Re) (v:Value),cs=[.string r.nm,.string r.ve,v,.string r.da]/\NdS w v r.nd/\r.nm.size<=Rows.uptoBulk x.1/\r.ve.size<=Rows.uptoBulk x.1/\r.nd.length<=Rows.uptoBulk x.1/\∀y ∈ r.nd,y.n.size<=Rows.uptoBulk x.1/\y.r.size<=Rows.uptoBulk x.1:=by
 have hu:=Tryz.underlying51;obtain ⟨xs,n,_,hx,hl,hlen,hfs⟩:=DataW.trod_struct hu h;obtain ⟨c0,c1,c2,c3,rfl⟩:=list4 (hl.trans cellsRe)
 match xs,hlen with
 | [y0,y1,y2,y3],_ =>
  have k9:Tryz.prog.cellsOf 9=1:=by kernel_rfl
  have k8:Tryz.prog.cellsOf 22=1:=by kernel_rfl
  have g0:=hfs 0 _ rfl;have g1:=hfs 1 _ rfl;have g2:=hfs 2 _ rfl;have g3:=hfs 3 _ rfl;simp [k8,k9] at g0 g1 g2 g3;obtain ⟨a0,e0,rfl,w0⟩:=DataW.trod_string Tryz.underlying9 g0;obtain ⟨a1,e1,rfl,w1⟩:=DataW.trod_string Tryz.underlying9 g1;obtain ⟨a3,e3,rfl,w3⟩:=DataW.trod_string Tryz.underlying9 g3;obtain ⟨N,hN,hNl,hNy⟩:=open_needs g2;simp at e0 e1 e3;subst e0;subst e1;subst e3;refine ⟨⟨a0,a1,N,a3⟩,c2,rfl,hN,?_,?_,?_,fun y hy=>?_⟩
  ·rw [hx];simp only [List.map,Rows.uptoBulk,Rows.uptoBulkAll,Array.length_toList];have e1:a0.data.size=a0.size:=rfl;omega
  ·rw [hx];simp only [List.map,Rows.uptoBulk,Rows.uptoBulkAll,Array.length_toList];have e1:a1.data.size=a1.size:=rfl;omega
  ·rw [hx];simp only [List.map,Rows.uptoBulk,Rows.uptoBulkAll,Array.length_toList];omega
  ·have:=hNy y hy;rw [hx];simp only [List.map,Rows.uptoBulk,Rows.uptoBulkAll,Array.length_toList];omega
set_option maxRecDepth 100000 in
theorem open_releases {H:Type} {enc:TypeId × Value->H} {w:World} {base:Nat} {spare:Nat->Bool} {held:Bool} {r:Reach} {b0:Nat} {v:Value} {d:DataW H} {p:List MemPlace}
  (hv:Value.okWide Tryz.prog w r b0 23 v) (h:DataW.Trod enc Tryz.prog w base spare held 23 v d p) :
  ∃L:List Re,ReS w v L/\L.length<=Rows.uptoBulk d/\∀s ∈ L,s.nm.size<=Rows.uptoBulk d/\s.ve.size<=Rows.uptoBulk d/\s.nd.length<=Rows.uptoBulk d/\∀y ∈ s.nd,y.n.size<=Rows.uptoBulk d/\y.r.size<=Rows.uptoBulk d:=by
 have hu:=Tryz.underlying23;obtain ⟨a0,l0,c0,rfl⟩:=okWide_slice hu hv;obtain ⟨fuel,hf⟩:=h
 rcases Deep.open_slice hu hf with ⟨hcs,hx⟩ | ⟨a,len,cap,m,n,D,Pl,hcs,hb,hl,hm,hmm,hx,hel⟩
 ·simp [Value.cells] at hcs;obtain ⟨rfl,rfl,rfl⟩:=hcs;exact ⟨[],Or.inl ⟨rfl,rfl⟩,by simp,by simp⟩
 ·simp [Value.cells] at hcs;obtain ⟨rfl,rfl,rfl⟩:=hcs;have hle:l0<=m:=by rw [hmm];split <;> omega
  have hS:∀i,i < l0->∃s:Re,ReAt w (a.add (i * 4)) s/\s.nm.size<=Rows.uptoBulk (D i)/\s.ve.size<=Rows.uptoBulk (D i)/\s.nd.length<=Rows.uptoBulk (D i)/\∀y ∈ s.nd,y.n.size<=Rows.uptoBulk (D i)/\y.r.size<=Rows.uptoBulk (D i):=by
   intro i hi;obtain ⟨cs',h1,h2⟩:=hel i (by omega);obtain ⟨s,v,hc,hn,hv1,hv2,hv3,hv4⟩:=rel_cells h2;rw [cellsRe] at h1;obtain ⟨-,h4,h3⟩:=World.cells?_some h1;subst hc;have q0:=h3 0 (by omega);have q1:=h3 1 (by omega);have q2:=h3 2 (by omega);have q3:=h3 3 (by omega);rw [Deep.add_add] at q0 q1 q2 q3;rw [hadd_off _ _ _ (by omega)] at q1 q2 q3;exact ⟨s,⟨by simpa using q0,by simpa using q1,⟨v,by simpa using q2,hn⟩,by simpa using q3⟩,hv1,hv2,hv3,hv4⟩
  obtain ⟨S,hS⟩:=Deep.choose_lt hS;have hlen:((List.range l0).map S).length=l0:=by simp
  have hd:d=.slice ((List.range l0).map D) ((List.range (m - l0)).map fun j=>D (l0+j)):=congrArg Prod.fst hx;have hbl:=len_bulk ((List.range l0).map D);simp only [List.length_map,List.length_range] at hbl;refine ⟨(List.range l0).map S,Or.inr ⟨a,c0,by rw [hlen],by rw [hlen];exact hl,fun i hi=>?_⟩,?_,fun s hs=>?_⟩
  ·have hi':i < l0:=by rw [hlen] at hi;exact hi
   rw [List.getElem_map,List.getElem_range];exact (hS i hi').1
  ·rw [hd,hlen];simp only [Rows.uptoBulk];omega
  ·obtain ⟨i,hi,rfl⟩:=List.mem_map.1 hs;have hm:=mem_bulk ((List.range l0).map D) (D i) (List.mem_map.2 ⟨i,hi,rfl⟩);obtain ⟨-,b1,b2,b3,b4⟩:=hS i (List.mem_range.1 hi);rw [hd];simp only [Rows.uptoBulk];exact ⟨by omega,by omega,by omega,fun y hy=>by have:=b4 y hy;exact ⟨by omega,by omega⟩⟩
open Go.ChangeShapes Go.WideShapes Go.ChangeAt Go.RowKit Go.Joins
set_option maxRecDepth 100000 in
theorem open_needsA {H:Type} {enc:TypeId × Value->H} {w:World} {base:Nat} {spare:Nat->Bool} {held:Bool} {r:Reach} {b0:Nat} {v:Value} {d:DataW H} {p:List MemPlace}
  (hv:Value.okWide Tryz.prog w r b0 22 v) (h:DataW.Trod enc Tryz.prog w base spare held 22 v d p) :
  ∃L:List Nd,NdS w v L/\L.length<=Rows.uptoBulk d/\∀y ∈ L,y.n.size<=Rows.uptoBulk d/\y.r.size<=Rows.uptoBulk d:=by
 have hu:=Tryz.underlying22;obtain ⟨a0,l0,c0,rfl⟩:=okWide_slice hu hv;obtain ⟨fuel,hf⟩:=h;exact open_needs hf
theorem cellsInt:Tryz.prog.cellsOf 3=1:=by kernel_rfl
set_option maxRecDepth 100000 in
theorem open_ints {H:Type} {enc:TypeId × Value->H} {w:World} {base:Nat} {spare:Nat->Bool} {held:Bool} {r:Reach} {b0:Nat} {v:Value} {d:DataW H} {p:List MemPlace}
  (hv:Value.okWide Tryz.prog w r b0 24 v) (h:DataW.Trod enc Tryz.prog w base spare held 24 v d p) :
  ∃L:List Int,IS w v L/\L.length<=Rows.uptoBulk d:=by
 have hu:=Tryz.underlying24;obtain ⟨a0,l0,c0,rfl⟩:=okWide_slice hu hv;obtain ⟨fuel,hf⟩:=h
 rcases Deep.open_slice hu hf with ⟨hcs,hx⟩ | ⟨a,len,cap,m,n,D,Pl,hcs,hb,hl,hm,hmm,hx,hel⟩
 ·simp [Value.cells] at hcs;obtain ⟨rfl,rfl,rfl⟩:=hcs;exact ⟨[],Or.inl ⟨rfl,rfl⟩,by simp⟩
 ·simp [Value.cells] at hcs;obtain ⟨rfl,rfl,rfl⟩:=hcs;have hle:l0<=m:=by rw [hmm];split <;> omega
  have hS:∀i,i < l0->∃z:Int,w.cell? (a.add i)=some (.int .i64 z):=by
   intro i hi;obtain ⟨cs',h1,h2⟩:=hel i (by omega);rw [cellsInt] at h1;obtain ⟨-,h4,h3⟩:=World.cells?_some h1;obtain ⟨z,hc,-⟩:=DataW.trod_int Tryz.underlying3 h2;have q0:=h3 0 (by omega);rw [hc] at q0;rw [Deep.add_add,Nat.add_zero] at q0;exact ⟨z,by simpa using q0⟩
  obtain ⟨S,hS⟩:=Deep.choose_lt hS;have hlen:((List.range l0).map S).length=l0:=by simp
  have hd:d=.slice ((List.range l0).map D) ((List.range (m - l0)).map fun j=>D (l0+j)):=congrArg Prod.fst hx;have hbl:=len_bulk ((List.range l0).map D);simp only [List.length_map,List.length_range] at hbl;refine ⟨(List.range l0).map S,Or.inr ⟨a,c0,by rw [hlen],by rw [hlen];exact hl,fun i hi=>?_⟩,?_⟩
  ·have hi':i < l0:=by rw [hlen] at hi;exact hi
   rw [List.getElem_map,List.getElem_range];exact hS i hi'
  ·rw [hd,hlen];simp only [Rows.uptoBulk];omega
end Go.Proofs.YticgahdffjnabaaGreatDoor
