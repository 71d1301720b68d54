import Derived.Test.YtonfldbigenfhaaGreatDoorM38
import Derived.Test.YtonfldbigenfhaaGreatDoorM09
namespace Go.Proofs.YtonfldbigenfhaaGreatDoor
open Go.RowKit
set_option linter.unusedVariables false
theorem infoSr:(Tryz.prog.info? 77).map (fun i=>(i.zero,i.size,i.bytes))=some (some (.agg #[.int .i64 0,.int .i64 0,.int .i64 0,.string ⟨#[]⟩,.string ⟨#[]⟩,.int .i64 0,.int .i64 0,.int .i64 0,.string ⟨#[]⟩,.string ⟨#[]⟩,.bool false]),11,120):=by kernel_rfl
theorem sr_own {w:World} {base:Nat} {v:Value} {L:List Sp} (h:w.ownsRow base 77 11 v L.length (L.flatMap spC)):SpS w v L:=by
 rcases h.2 with ⟨h1,h2⟩ | ⟨g,cap,cur,h1,hb,hg,hn,hm,hs,ht⟩
 ·exact Or.inl ⟨h1,List.length_eq_zero_iff.1 h2⟩
 ·refine Or.inr ⟨⟨g,0,none⟩,cap,h1,hn,fun i hi=>elt_of_cells fun k u hu=>?_⟩
  have:=flat_get L i hi k u hu
  exact h.cells (g:=g) (by rw [h1];rfl) (i * 11+k) u this
theorem closeV (x y:V) {P:List Value} {k:Nat} (hP:P.length=k) :
  ((((((P++spC (spV y zeroV0 true)).set (k+5) (.int .i64 x.major)).set (k+6) (.int .i64 x.minor)).set (k+7) (.int .i64 x.patch)).set (k+8) (.string ⟨x.pre.toArray⟩)).set (k+9) (.string ⟨#[]⟩)).set (k+10) (.bool false)=P++spC (spV y x false):=by
 rw [set_behind hP,set_behind hP,set_behind hP,set_behind hP,set_behind hP,set_behind hP]
 simp only [spC,spV,zeroV0,List.set]
theorem openV (x:V):spC (spV x zeroV0 true)=[.int .i64 x.major,.int .i64 x.minor,.int .i64 x.patch,.string ⟨x.pre.toArray⟩,.string ⟨#[]⟩,.int .i64 0,.int .i64 0,.int .i64 0,.string ⟨#[]⟩,.string ⟨#[]⟩,.bool true]:=by
 simp only [spC,spV,zeroV0]
theorem last_cellR {w:World} {base:Nat} {gs capS M:Nat} {A:List Sp} {s:Sp} (h:w.ownsRow base 77 11 (.slice (some ⟨gs,0,none⟩) (M+1) capS) (M+1) ((A++[s]).flatMap spC)) (hA:A.length=M) (q:Nat) (v:Value) (hq:(spC s)[q]?=some v):w.cell? ⟨gs,M * 11+q,none⟩=some v:=by
 have h1:((A++[s]).flatMap spC)[M * 11+q]?=some v:=flat_get (A++[s]) M (by rw [List.length_append,hA];simp) q v (by rw [List.getElem_append_right (by omega)];simpa [hA] using hq)
 have:=h.cells (g:=gs) rfl (M * 11+q) v h1
 rw [add_zero_off] at this
 exact this
theorem gb_row0 {w wa wb:World} {row:Option Nat} (h:w.grownBy wa none) (hg:wa.grownBy wb row) (hr:∀q,row=some q->w.heap.size<=q):w.grownBy wb none :=
 ⟨hg.os.trans h.os,hg.tape.trans h.tape,hg.output.trans h.output,Nat.le_trans h.size hg.size,fun k hk hn=>(hg.block k (Nat.lt_of_lt_of_le hk h.size) (fun e=>by have:=hr k e.symm;omega)).trans (h.block k hk hn)⟩
def HadAt (w:World) (a:Addr) (l:List Bool):Prop:=∀i (hi:i < l.length),w.cell? (a.add i)=some (.bool l[i])
theorem HadAt.grow {w w':World} {a:Addr} {l:List Bool} (h:HadAt w a l) (hg:w.grownBy w' none):HadAt w' a l:=fun i hi=>hg.cell (h i hi) (by simp)
def NRel (D:List V) (h:V->Bool) (w:World) (vo von vi:Value) (wk:World):Prop :=
 ∃(i:Nat) (on:Bool) (T:List V),vi=.int .i64 i/\von=.bool on/\i<=D.length/\tog h false D=T++tog h on (D.drop i)/\T.length<=i/\(T.length % 2=if on=true then 1 else 0) ∧
  wk.ownsRow w.heap.size 77 11 vo (outs T).length ((outs T).flatMap spC)/\w.grownBy wk none
set_option maxRecDepth 100000 in
set_option maxHeartbeats 3200000 in
theorem normalBy_at (a:Addr) (cap:Nat) (a':Addr) (cap':Nat) (D:List V) (h:V->Bool) (w:World) (hl:D.length<=4194304) (hcap:D.length<=cap) (hcap':D.length<=cap') (hv:VsAt w a D) (hh:HadAt w a' (D.map h)) :
  Calls Tryz.prog 39 #[.slice (some a) D.length cap,.slice (some a') D.length cap'] w fun e w'=>∃vo,e=.returned vo/\SpS w' vo (outs (tog h false D))/\w.grownBy w' none:=by
 have hinfo:=infoSr
 obtain ⟨i1,hj0,hjj⟩:=Option.map_eq_some_iff.1 hinfo
 simp only [Prod.mk.injEq] at hjj
 obtain ⟨hy0,hy1,hyb⟩:=hjj
 clear hinfo
 have HV:Hid (VsAt w a D):=hv
 have HH:Hid (HadAt w a' (D.map h)):=hh
 clear hv hh
 go_enter Tryz.func39,Tryz.ntmps39
 go_wp2
 go_loopw [5,6,7] (fun vo von vi wk=>NRel D h w vo von vi wk) (fun _ _ vi _=>D.length - (intOf vi).toNat)
 case atStart=>exact ⟨0,false,[],rfl,rfl,Nat.zero_le _,rfl,Nat.le_refl _,rfl,World.ownsRow_nil _ _ _ _,gb_refl _ _⟩
 case round =>
  obtain ⟨i,on,T,rfl,rfl,hi,hT,hTl,hTp,how,hg⟩:=hrel
  have HG:Hid (w.grownBy wr none):=hg
  have HO:Hid (wr.ownsRow w.heap.size 77 11 u5 (outs T).length ((outs T).flatMap spC)):=how
  clear hg how
  by_cases hlt:i < D.length
  ·obtain ⟨d,hd⟩:∃d,D[i]=d:=⟨_,rfl⟩
   obtain ⟨b,hb⟩:∃b,h d=b:=⟨_,rfl⟩
   have HE:Hid (VAt wr (a.add (i * 5)) d):=by show VAt wr _ d;rw [<-hd];exact (HV.out i hlt).grow HG.out
   have hc:wr.cell? (a'.add i)=some (.bool b):=by
    have:=HG.out.cell (HH.out i (by simpa using hlt)) (by simp)
    simp only [List.getElem_map] at this
    rw [hd,hb] at this;exact this
   have HDR:Hid (tog h on (D.drop i)=if b=on then tog h on (D.drop (i+1)) else d :: tog h b (D.drop (i+1))):=by
    show _=_
    rw [List.drop_eq_getElem_cons hlt,hd,tog,hb]
   have HTT:Hid (tog h false D=T++tog h on (D.drop i)/\T.length<=i/\(T.length % 2=if on=true then 1 else 0)):=⟨hT,hTl,hTp⟩
   have HCW:Hid (w.cell? (a'.add i)=some (.bool b)):=by
    have:=HH.out i (by simpa using hlt)
    simp only [List.getElem_map] at this
    rw [hd,hb] at this;exact this
   clear hT hTl hTp hd hb
   obtain ⟨e0,e1,e2,e3,e4⟩:=HE.out
   cases on with
   | false =>
    cases b with
    | false =>
     have HNEW:Hid (tog h false D=T++tog h false (D.drop (i+1))):=by show _=_;rw [HTT.out.1,HDR.out,if_pos rfl]
     have HTP:Hid (T.length<=i/\(T.length % 2=if false=true then 1 else 0)):=HTT.out.2
     clear HTT HDR
     go_wp2
     go_roundw
     case rel=>exact ⟨i+1,false,T,by go_num,rfl,by omega,HNEW.out,by have:=HTP.out.1;omega,HTP.out.2,HO.out,HG.out⟩
     case measure=>simp [intOf];omega
    | true =>
     have HNEW:Hid (tog h false D=(T++[d])++tog h true (D.drop (i+1))):=by
      show _=_
      rw [HTT.out.1,HDR.out,if_neg (by decide),List.append_assoc];rfl
     have HTP:Hid (T.length<=i/\T.length % 2=0):=⟨HTT.out.2.1,by have:=HTT.out.2.2;simpa using this⟩
     have HOL:Hid ((outs T).length<=4194304):=by show _<=_;have q1:=outs_len T;have q2:=HTP.out.1;omega
     clear HTT HDR
     go_wp2_with (first | (at_builtin;refine wpList_append_own _ rfl _ _ 31 rfl w.heap.size 77 i1 _ 11 120 Tryz.underlying31 hj0 hy0 hy1 hyb rfl (by decide) _ _ _ rfl (HO.out.alloc _) _ 1 1 (spC (spV d zeroV0 true)) rfl rfl (by rw [openV];exact World.news_of_block (heap_alloc_new _ _)) (news_one _) (by unfold maxLen;have:=HOL.out;omega) (by have:=HOL.out;omega) (by have q1:=HG.out.size;simp;omega) ?_;intro v' w7 hown7 hgrow _;have HF2:Hid (w.grownBy w7 none):=gb_row0 (gb_alloc HG.out _) hgrow (fun q hq=>(HO.out.lt q hq).1);have hc7:w7.cell? (a'.add i)=some (.bool true):=HF2.out.cell HCW.out (by simp)))
     have HF3:Hid (w7.ownsRow w.heap.size 77 11 v' (outs (T++[d])).length ((outs (T++[d])).flatMap spC)):=by
      show World.ownsRow _ _ _ _ _ _ _
      rw [outs_even T _ HTP.out.2,List.length_append,List.flatMap_append]
      simpa using hown7
     exact ⟨⟨i+1,true,T++[d],by go_num,rfl,by omega,HNEW.out,by have:=HTP.out.1;simp;omega,by have:=HTP.out.2;simp;omega,HF3.out,HF2.out⟩,by simp [intOf];omega⟩
   | true =>
    cases b with
    | false =>
     have HNEW:Hid (tog h false D=(T++[d])++tog h false (D.drop (i+1))):=by
      show _=_
      rw [HTT.out.1,HDR.out,if_neg (by decide),List.append_assoc];rfl
     have HTP:Hid (T.length<=i/\T.length % 2=1):=⟨HTT.out.2.1,by have:=HTT.out.2.2;simpa using this⟩
     have hOL:(outs T).length<=4194304:=by have q1:=outs_len T;have q2:=HTP.out.1;omega
     obtain ⟨A,y,hA1,hA2⟩:=outs_odd T d HTP.out.2
     rw [hA1] at HO hOL
     obtain ⟨M,hM⟩:∃M,A.length=M:=⟨_,rfl⟩
     have hlen:(A++[spV y zeroV0 true]).length=M+1:=by rw [List.length_append,hM];rfl
     rw [hlen] at HO hOL
     obtain ⟨gs,capS,hu5⟩:∃gs capS,u5=.slice (some ⟨gs,0,none⟩) (M+1) capS:=by
      rcases HO.out.2 with ⟨_,h0⟩ | ⟨g,cap,cur,h1,_⟩
      ·omega
      ·exact ⟨g,cap,h1⟩
     subst hu5
     have HA2:Hid (outs (T++[d])=A++[spV y d false]/\A.length=M):=⟨hA2,hM⟩
     have hm1:IntKind.i64.wrap (((M+1:Nat):Int) - 1)=((M:Nat):Int):=by rw [IntKind.wrap_i64];omega
     have hm2:((M+1:Nat):Int) - 1=(M:Int):=by omega
     have hm3:(M:Int) < ((M+1:Nat):Int):=by omega
     have hm4:(M:Int) < (M:Int)+1:=by omega
     clear HTT HDR hA1 hA2 hM hlen
     have HGS:Hid (w.heap.size<=gs):=(HO.out.lt gs rfl).1
     have g9:wr.grownBy ((((((wr.setCell ⟨gs,M * 11+5,none⟩ (.int .i64 d.major)).setCell ⟨gs,M * 11+5+1,none⟩ (.int .i64 d.minor)).setCell ⟨gs,M * 11+5+2,none⟩ (.int .i64 d.patch)).setCell ⟨gs,M * 11+5+3,none⟩ (.string ⟨d.pre.toArray⟩)).setCell ⟨gs,M * 11+5+4,none⟩ (.string ⟨#[]⟩)).setCell ⟨gs,M * 11+10,none⟩ (.bool false)) (some gs):=gb_set (gb_set (gb_set (gb_set (gb_set (gb_set (gb_refl wr (some gs)) _ _) _ _) _ _) _ _) _ _) _ _
     have HG9:Hid (w.grownBy ((((((wr.setCell ⟨gs,M * 11+5,none⟩ (.int .i64 d.major)).setCell ⟨gs,M * 11+5+1,none⟩ (.int .i64 d.minor)).setCell ⟨gs,M * 11+5+2,none⟩ (.int .i64 d.patch)).setCell ⟨gs,M * 11+5+3,none⟩ (.string ⟨d.pre.toArray⟩)).setCell ⟨gs,M * 11+5+4,none⟩ (.string ⟨#[]⟩)).setCell ⟨gs,M * 11+10,none⟩ (.bool false)) none):=gb_row0 HG.out g9 (fun q hq=>by injection hq with hq;have:=HGS.out;omega)
     have hc9:=HG9.out.cell HCW.out (by simp)
     have c5:=last_cellR HO.out HA2.out.2 5 _ rfl
     have c6:=last_cellR HO.out HA2.out.2 6 _ rfl
     have c7:=last_cellR HO.out HA2.out.2 7 _ rfl
     have c8:=last_cellR HO.out HA2.out.2 8 _ rfl
     have c9:=last_cellR HO.out HA2.out.2 9 _ rfl
     have c10:=last_cellR HO.out HA2.out.2 10 _ rfl
     have fz:=own_unfrozen HO.out
     clear g9
     go_wp2
     clear c5 c6 c7 c8 c9 c10 fz
     have o9:=own_set (own_set (own_set (own_set (own_set (own_set HO.out (M * 11+5) (.int .i64 d.major) (by omega)) (M * 11+5+1) (.int .i64 d.minor) (by omega)) (M * 11+5+2) (.int .i64 d.patch) (by omega)) (M * 11+5+3) (.string ⟨d.pre.toArray⟩) (by omega)) (M * 11+5+4) (.string ⟨#[]⟩) (by omega)) (M * 11+10) (.bool false) (by omega)
     have hfl:(A++[spV y zeroV0 true]).flatMap spC=A.flatMap spC++spC (spV y zeroV0 true):=by rw [List.flatMap_append];simp
     have hPl:(A.flatMap spC).length=M * 11:=by rw [flat_len,HA2.out.2]
     rw [hfl] at o9
     have hcl:=closeV d y hPl
     have hol:(outs (T++[d])).length=M+1:=by rw [HA2.out.1,List.length_append,HA2.out.2];rfl
     have hof:(outs (T++[d])).flatMap spC=A.flatMap spC++spC (spV y d false):=by rw [HA2.out.1,List.flatMap_append];simp
     refine ⟨⟨i+1,false,T++[d],by go_num,rfl,by omega,HNEW.out,by have:=HTP.out.1;simp;omega,by have:=HTP.out.2;simp;omega,?_,HG9.out⟩,by simp [intOf];omega⟩
     rw [hol,hof,<-hcl]
     exact o9
    | true =>
     have HNEW:Hid (tog h false D=T++tog h true (D.drop (i+1))):=by show _=_;rw [HTT.out.1,HDR.out,if_pos rfl]
     have HTP:Hid (T.length<=i/\(T.length % 2=if true=true then 1 else 0)):=HTT.out.2
     clear HTT HDR
     go_wp2
     go_roundw
     case rel=>exact ⟨i+1,true,T,by go_num,rfl,by omega,HNEW.out,by have:=HTP.out.1;omega,HTP.out.2,HO.out,HG.out⟩
     case measure=>simp [intOf];omega
  ·have hie:i=D.length:=by omega
   have HF:Hid (SpS wr u5 (outs (tog h false D))):=by
    show SpS _ _ _
    rw [hT,hie,List.drop_length,tog,List.append_nil]
    exact sr_own HO.out
   clear hT hTl hTp hie hi HO
   go_wp2
   exact bodyPost_ret (results_tmp (t:=4) rfl _ _ _) rfl ⟨u5,rfl,HF.out,HG.out⟩
open Go.RowKit
set_option linter.unusedVariables false
theorem infoB:(Tryz.prog.info? 4).map (fun i=>(i.zero,i.size,i.bytes))=some (some (.bool false),1,1):=by kernel_rfl
def HadS (w:World) (sl:Value) (l:List Bool):Prop:=(sl=.slice none 0 0/\l=[])\/∃a cap,sl=.slice (some a) l.length cap/\l.length<=cap/\HadAt w a l
theorem had_own {w:World} {base:Nat} {v:Value} {l:List Bool} (h:w.ownsRow base 4 1 v l.length (l.map Value.bool)):HadS w v l:=by
 rcases h.2 with ⟨h1,h2⟩ | ⟨g,cap,cur,h1,hb,hg,hn,hm,hs,ht⟩
 ·exact Or.inl ⟨h1,List.length_eq_zero_iff.1 h2⟩
 ·refine Or.inr ⟨⟨g,0,none⟩,cap,h1,hn,fun i hi=>?_⟩
  exact h.cells (g:=g) (by rw [h1];rfl) i (.bool l[i]) (by rw [List.getElem?_map,List.getElem?_eq_getElem hi];rfl)
theorem bool_one (b:Bool):∀u ∈ [Value.bool b],u.oneCell'=true:=by
 intro u hu
 simp only [List.mem_cons,List.not_mem_nil,or_false] at hu
 subst hu;rfl
set_option maxHeartbeats 400000 in
theorem normalBy_zero (o:Option Addr) (c:Nat) (vh:Value) (w:World) :
  Calls Tryz.prog 39 #[.slice o 0 c,vh] w fun e w'=>∃vo,e=.returned vo/\SpS w' vo []/\w.grownBy w' none:=by
 go_enter Tryz.func39,Tryz.ntmps39
 go_wp2
 go_loopw [5,6,7] (fun vo von vi wk=>vi=.int .i64 0/\vo=.slice none 0 0/\w.grownBy wk none) (fun _ _ vi _=>0)
 case atStart=>exact ⟨rfl,rfl,gb_refl _ _⟩
 case round =>
  obtain ⟨rfl,rfl,hg⟩:=hrel
  have HG:Hid (w.grownBy wr none):=hg
  clear hg
  go_wp2
  exact bodyPost_ret (results_tmp (t:=4) rfl _ _ _) rfl ⟨_,rfl,Or.inl ⟨rfl,rfl⟩,HG.out⟩
theorem cNormalBy (vb vh:Value) (D:List V) (h:V->Bool) (w:World) (hl:D.length<=4194304) (hv:VsS w vb D) (hh:HadS w vh (D.map h)) :
  Calls Tryz.prog 39 #[vb,vh] w fun e w'=>∃vo,e=.returned vo/\SpS w' vo (outs (tog h false D))/\w.grownBy w' none:=by
 rcases hv with ⟨rfl,rfl⟩ | ⟨a,cap,rfl,h2,h3⟩
 ·exact normalBy_zero _ _ _ w
 ·rcases hh with ⟨rfl,h4⟩ | ⟨a',cap',rfl,h5,h6⟩
  ·have hD:D=[]:=by simpa using h4
   subst hD
   exact normalBy_zero _ _ _ w
  ·rw [List.length_map] at h5 ⊢
   exact normalBy_at a cap a' cap' D h w hl h2 h5 h3 h6
open Go.RowKit
set_option linter.unusedVariables false
def tuQ (x:Tq):List V:=tuT (teOf x)
theorem tuQ_len (x:Tq):(tuQ x).length=6:=rfl
def tuF (L:List Tq):List V:=L.flatMap tuQ
def tuA (A:List (List Tq)):List V:=A.flatMap tuF
theorem tuA_S (A:List (List Tq)):tuA A=tuS (A.map (·.map teOf)):=by
 unfold tuA tuS
 rw [List.flatMap_map]
 congr 1
 funext L
 unfold tuF
 rw [List.flatMap_map]
 rfl
theorem flat_prefix {α β:Type} (f:α->List β) (l:List α) (i:Nat) (hi:i < l.length) (Y:List β) (hY:Y <+: f l[i]):(l.take i).flatMap f++Y <+: l.flatMap f:=by
 obtain ⟨Z,hZ⟩:=hY
 refine ⟨Z++(l.drop (i+1)).flatMap f,?_⟩
 have e:l=l.take i++l[i] :: l.drop (i+1):=by rw [List.getElem_cons_drop,List.take_append_drop]
 conv=>rhs;rw [e]
 rw [List.flatMap_append,List.flatMap_cons,<-hZ]
 simp
theorem flatn_len {α β:Type} (f:α->List β) (n:Nat):∀(l:List α),(∀x ∈ l,(f x).length<=n)->(l.flatMap f).length<=n * l.length
 | [],_=>by simp
 | x :: l,h=>by
  have h1:=h x (by simp)
  have h2:=flatn_len f n l (fun y hy=>h y (by simp [hy]))
  rw [List.flatMap_cons,List.length_append,List.length_cons,Nat.mul_succ]
  omega
theorem tuA_len (A:List (List Tq)) (hA:A.length<=201) (h:∀L ∈ A,L.length<=1000):(tuA A).length<=1206000:=by
 have:=flatn_len tuF 6000 A (fun L hL=>by
  have h1:=flatn_len tuQ 6 L (fun x _=>Nat.le_of_eq (tuQ_len x))
  have h2:=h L hL
  show (L.flatMap tuQ).length<=_
  omega)
 show (A.flatMap tuF).length<=_
 omega
theorem adm_data (A:List (List Tq)) (d:V):admQ A ⟨d.major,d.minor,d.patch,(⟨d.pre.toArray⟩:ByteArray).data.toList⟩=admQ A d:=by cases d;simp
set_option maxRecDepth 100000 in
set_option maxHeartbeats 6400000 in
theorem spansOf_any (sv:Value) (A:List (List Tq)) (w:World) (h:SsAt w sv A) (hA:A.length<=201) (hok:∀L ∈ A,L.length<=1000/\∀x ∈ L,TqOk x) :
  Calls Tryz.prog 15 #[sv] w fun e w'=>∃vo,e=.returned vo/\SpS w' vo (outs (tog (admQ A) false (insAll [lowV] (tuA A))))/\w.grownBy w' none:=by
 have hinfo:=infoB
 obtain ⟨i1,hj0,hjj⟩:=Option.map_eq_some_iff.1 hinfo
 simp only [Prod.mk.injEq] at hjj
 obtain ⟨hy0,hy1,hyb⟩:=hjj
 clear hinfo
 have hfl:=tuA_len A hA (fun L hL=>(hok L hL).1)
 have hbk:∀d ∈ insAll [lowV] (tuA A),BOk d 300:=by
  rw [tuA_S]
  refine tuD_bok (S:=A.map (·.map teOf)) fun L hL t ht=>?_
  obtain ⟨L',hL',rfl⟩:=List.mem_map.1 hL
  obtain ⟨x,hx,rfl⟩:=List.mem_map.1 ht
  have hq:=(hok L' hL').2 x hx
  exact ⟨⟨hq.s0.1,hq.s0.2,hq.ok⟩,by have:=hq.sm;show x.p.data.toList.length<=_;simpa using this⟩
 have hsm:∀v ∈ tuA A,v.pre.length<=300:=by
  intro v hv
  obtain ⟨L,hL,hv⟩:=List.mem_flatMap.1 hv
  obtain ⟨x,hx,hv⟩:=List.mem_flatMap.1 hv
  have hq:=(hok L hL).2 x hx
  exact (tu_bok (teOf x) ⟨hq.s0.1,hq.s0.2,hq.ok⟩ (by have:=hq.sm;show x.p.data.toList.length<=_;simpa using this) v hv).sm
 have CW:Hid (∀sl X v w,VsS w sl (insAll [lowV] X)->X++[v] <+: tuA A->Calls Tryz.prog 37 #[sl,.agg #[.int .i64 v.major,.int .i64 v.minor,.int .i64 v.patch,.string ⟨v.pre.toArray⟩,.string ⟨#[]⟩]] w fun e w'=>∃vo,e=.returned vo/\VsS w' vo (insAll [lowV] (X++[v]))/\w.grownBy w' none):=by
  intro sl X v w hv hp
  have hl1:=hp.length_le
  have hl2:=all_len X [lowV]
  rw [insAll_snoc]
  refine cWith sl _ v w hv ?_ ?_ ?_
  ·simp only [List.length_append,List.length_cons,List.length_nil] at hl1 hl2;omega
  ·intro t ht
   rcases all_mem _ _ t ht with h | h
   ·rw [List.mem_singleton.1 h];show 1<=_;omega
   ·have:=hsm t (hp.subset (by simp [h]));omega
  ·have:=hsm v (hp.subset (by simp));omega
 have CW0:Hid (∀w,Calls Tryz.prog 37 #[.slice none 0 0,.agg #[.int .i64 0,.int .i64 0,.int .i64 0,.string ⟨#[48]⟩,.string ⟨#[]⟩]] w fun e w'=>∃vo,e=.returned vo/\VsS w' vo [lowV]/\w.grownBy w' none):=fun w=>cWith (.slice none 0 0) [] lowV w (Or.inl ⟨rfl,rfl⟩) (by simp) (fun t ht=>by simp at ht) (by show 1<=_;omega)
 have CT:Hid (∀x w,TqOk x->Calls Tryz.prog 38 #[.agg #[.int .i64 x.sg,.int .i64 x.m,.int .i64 x.a,.int .i64 x.b,.int .i64 x.c,.string x.p,.string x.q]] w fun e w'=>∃ga:Addr,e=.returned (.slice (some ga) 6 6)/\VsAt w' ga (tuQ x)/\w.grownBy w' none):=fun x w hx=>(turns_any x hx w).mono fun e w' ⟨g,h1,h2,h3⟩=>⟨_,h1,h2,h3⟩
 have HDN0:(insAll [lowV] (tuA A)).length<=2000000:=by
  have:=all_len (tuA A) [lowV]
  simp only [List.length_cons,List.length_nil] at this
  omega
 have CQ:Hid (∀d w,d ∈ insAll [lowV] (tuA A)->SsAt w sv A->Calls Tryz.prog 20 #[sv,.agg #[.int .i64 d.major,.int .i64 d.minor,.int .i64 d.patch,.string ⟨d.pre.toArray⟩,.string ⟨#[]⟩]] w fun e w'=>e=.returned (.bool (admQ A d))/\w.grownBy w' none):=fun d w hd h=>by
  have hs:=(hbk d hd).sm
  have:=admAll_any sv A d.major d.minor d.patch ⟨d.pre.toArray⟩ ⟨#[]⟩ w h hA hok (by show d.pre.toArray.size<=_;simp;omega)
  rw [adm_data] at this
  exact this
 have CNB:Hid (∀vb vh w,VsS w vb (insAll [lowV] (tuA A))->HadS w vh ((insAll [lowV] (tuA A)).map (admQ A))->Calls Tryz.prog 39 #[vb,vh] w fun e w'=>∃vo,e=.returned vo/\SpS w' vo (outs (tog (admQ A) false (insAll [lowV] (tuA A))))/\w.grownBy w' none):=fun vb vh w h1 h2=>cNormalBy vb vh _ (admQ A) w (by omega) h1 h2
 obtain ⟨D,hD⟩:∃D,insAll [lowV] (tuA A)=D:=⟨_,rfl⟩
 obtain ⟨g,hg⟩:∃g,admQ A=g:=⟨_,rfl⟩
 have HDN:Hid (D ≠ []/\D.length<=2000000):=⟨by rw [<-hD];exact List.ne_nil_of_mem (all_old (tuA A) [lowV] lowV (by simp)),by rw [<-hD];exact HDN0⟩
 have HD:Hid (insAll [lowV] (tuA A)=D):=hD
 rw [hD] at CQ CNB ⊢
 rw [hg] at CQ CNB ⊢
 have HSS0:Hid (SsAt w sv A):=h
 have HOK:Hid (∀L ∈ A,L.length<=1000/\∀x ∈ L,TqOk x):=hok
 clear hfl hbk hsm HDN0 hD hg hok
 rcases h with ⟨rfl,rfl⟩ | ⟨a,cap,rfl,hcap,hcells⟩
 ·go_enter Tryz.func15,Tryz.ntmps15
  go_wp2_with (first | (go_at_call 37;refine (CW0.out _).mono ?_))
  rintro e w1 ⟨vb,rfl,hvs,hg1⟩
  have HV1:Hid (VsS w1 vb D/\w.grownBy w1 none):=⟨by rw [<-HD.out];exact hvs,hg1⟩
  clear hvs hg1
  go_wp2
  go_loopw [3,4] (fun vv vi wk=>vi=.int .i64 0/\VsS wk vv D/\w1.grownBy wk none) (fun _ vi _=>0)
  case atStart=>exact ⟨rfl,HV1.out.1,gb_refl _ _⟩
  case round =>
   rename World=>w0
   obtain ⟨rfl,hvb,hg⟩:=hrel
   have HVB:Hid (VsS w0 u3 D):=hvb
   have HG0:Hid (w.grownBy w0 none):=gb_trans HV1.out.2 hg
   clear hg hvb
   have hvs:=HVB.out
   rcases hvs with ⟨rfl,hD0⟩ | ⟨ad,cap',rfl,hcap',hat⟩
   ·exact absurd hD0 HDN.out.1
   ·have HAT:Hid (VsAt w0 ad D):=hat
    have hDl:D.length<=2000000:=HDN.out.2
    clear hat
    go_wp2
    go_loopw [8,9] (fun vh vi wk=>∃i:Nat,vi=.int .i64 i/\i<=D.length/\wk.ownsRow w0.heap.size 4 1 vh i (((D.take i).map g).map Value.bool)/\w0.grownBy wk none) (fun _ vi _=>D.length - (intOf vi).toNat)
    case atStart=>exact ⟨0,rfl,Nat.zero_le _,World.ownsRow_nil _ _ _ _,gb_refl _ _⟩
    case round =>
     obtain ⟨i,rfl,hi,how,hg⟩:=hrel
     have HG:Hid (w0.grownBy wr none):=hg
     have HO:Hid (wr.ownsRow w0.heap.size 4 1 u8 i (((D.take i).map g).map Value.bool)):=how
     clear how hg
     by_cases hlt:i < D.length
     ·obtain ⟨d,hd⟩:∃d,D[i]=d:=⟨_,rfl⟩
      have hdm:d ∈ D:=by rw [<-hd];exact List.getElem_mem hlt
      have HE:Hid (VAt wr (ad.add (i * 5)) d):=by show VAt wr _ d;rw [<-hd];exact (HAT.out i hlt).grow HG.out
      have HNX:Hid (((D.take (i+1)).map g).map Value.bool=((D.take i).map g).map Value.bool++[.bool (g d)]):=by
       show _=_
       rw [List.take_succ_eq_append_getElem hlt,hd];simp
      clear hd
      have CHd:Hid (Calls Tryz.prog 20 #[.slice none 0 0,.agg #[.int .i64 d.major,.int .i64 d.minor,.int .i64 d.patch,.string ⟨d.pre.toArray⟩,.string ⟨#[]⟩]] wr fun e w'=>e=.returned (.bool (g d))/\wr.grownBy w' none):=CQ.out d wr hdm ((HSS0.out).grow (gb_trans HG0.out HG.out))
      obtain ⟨e0,e1,e2,e3,e4⟩:=HE.out
      clear hdm
      go_wp2_with (first | (go_at_call 20;refine (CHd.out).mono ?_))
      rintro e w2 ⟨rfl,hg⟩
      replace HG:Hid (w0.grownBy w2 none):=gb_trans HG.out hg
      replace HO:Hid (w2.ownsRow w0.heap.size 4 1 u8 i (((D.take i).map g).map Value.bool)):=own_keepV HO.out hg
      clear hg e0 e1 e2 e3 e4 HE CHd
      go_wp2_with (first | (at_builtin;refine wpList_append_own _ rfl _ _ 85 rfl w0.heap.size 4 i1 (.bool false) 1 1 Tryz.underlying85 hj0 hy0 hy1 hyb rfl (by decide) _ _ _ rfl (HO.out.alloc _) _ 1 1 [.bool (g d)] rfl rfl (World.news_of_block (heap_alloc_new _ _)) (bool_one _) (by unfold maxLen;omega) (by omega) (by have:=HG.out.size;simp;omega) ?_;intro v9 w9 hown9 hgrow _))
      have HG9:Hid (w0.grownBy w9 none):=gb_row0 (gb_alloc HG.out _) hgrow (fun q hq=>(HO.out.lt q hq).1)
      have HO9:Hid (w9.ownsRow w0.heap.size 4 1 v9 (i+1) (((D.take (i+1)).map g).map Value.bool)):=by show World.ownsRow _ _ _ _ _ _ _;rw [HNX.out];exact hown9
      clear hgrow hown9 HNX HO HG
      go_wp2
      go_roundw
      case rel=>exact ⟨i+1,by go_num,by omega,HO9.out,HG9.out⟩
      case measure=>simp [intOf];omega
     ·have hie:i=D.length:=by omega
      have HHS:Hid (HadS wr u8 (D.map g)):=by
       have:=HO.out
       rw [hie,List.take_length] at this
       exact had_own (by rw [List.length_map];exact this)
      have HV2:Hid (VsS wr (.slice (some ad) D.length cap') D):=HVB.out.grow HG.out
      have HG2:Hid (w.grownBy wr none):=gb_trans HG0.out HG.out
      clear hie hi HO
      go_wp2_with (first | (go_at_call 39;refine (CNB.out _ _ _ HV2.out HHS.out).mono ?_))
      rintro e w2 ⟨vo,rfl,ho,hg⟩
      have HOO:Hid (SpS w2 vo (outs (tog g false D))):=ho
      replace HG:Hid (w.grownBy w2 none):=gb_trans HG2.out hg
      clear ho hg
      go_wp2
      exact bodyPost_ret (results_tmp (t:=2) rfl _ _ _) rfl ⟨vo,rfl,HOO.out,HG.out⟩
 ·obtain ⟨N,hN⟩:∃N,A.length=N:=⟨_,rfl⟩
  have HN:Hid (A.length=N):=hN
  have HC:Hid (∀i (hi:i < A.length),∃sl,w.cell? (a.add i)=some sl/\TsAt w sl A[i]):=hcells
  rw [hN] at hcap hA HSS0 CQ ⊢
  clear hcells hN
  go_enter Tryz.func15,Tryz.ntmps15
  go_wp2_with (first | (go_at_call 37;refine (CW0.out _).mono ?_))
  rintro e w1 ⟨vb,rfl,hvs,hg1⟩
  have HV1:Hid (VsS w1 vb (insAll [lowV] (tuA (A.take 0)))/\w.grownBy w1 none):=⟨hvs,hg1⟩
  clear hvs hg1
  go_wp2
  go_loopw [3,4] (fun vv vi wk=>∃i:Nat,vi=.int .i64 i/\i<=N/\VsS wk vv (insAll [lowV] (tuA (A.take i)))/\w.grownBy wk none) (fun _ vi _=>N - (intOf vi).toNat)
  case atStart=>exact ⟨0,rfl,Nat.zero_le _,HV1.out.1,HV1.out.2⟩
  case round =>
   rename World=>w0
   obtain ⟨i,rfl,hi,hvs,hg⟩:=hrel
   have HVI:Hid (VsS w0 u3 (insAll [lowV] (tuA (A.take i)))):=hvs
   have HG0:Hid (w.grownBy w0 none):=hg
   clear hvs hg
   by_cases hlt:i < N
   ·have hlA:i < A.length:=by rw [HN.out];exact hlt
    obtain ⟨L,hL⟩:∃L,A[i]=L:=⟨_,rfl⟩
    obtain ⟨sl,hsl,hts⟩:=HC.out i hlA
    rw [hL] at hts
    have HLo:Hid (L.length<=1000/\∀x ∈ L,TqOk x):=by have:=HOK.out A[i] (List.getElem_mem hlA);rw [hL] at this;exact this
    obtain ⟨P,hP⟩:∃P,tuA (A.take i)=P:=⟨_,rfl⟩
    have HPN:Hid (tuA (A.take (i+1))=P++tuF L):=by
     show _=_
     rw [<-hP]
     unfold tuA
     rw [List.take_succ_eq_append_getElem hlA,List.flatMap_append,hL]
     simp
    have HPX:Hid (∀Y,Y <+: tuF L->P++Y <+: tuA A):=fun Y hY=>by rw [<-hP];exact flat_prefix tuF A i hlA Y (by rw [hL];exact hY)
    rw [hP] at HVI
    have hcw:w0.cell? (a.add i)=some sl:=HG0.out.cell hsl (by simp)
    have HTS:Hid (TsAt w0 sl L):=hts.grow HG0.out
    clear hts hsl hL hP
    rcases HTS.out with ⟨rfl,hLn⟩ | ⟨q,c1,rfl,hc1,hcell⟩
    ·have HNX:Hid (tuA (A.take (i+1))=P):=by show _=_;rw [HPN.out,hLn];simp [tuF]
     have HCW:Hid (w0.cell? (a.add i)=some (.slice none 0 0)):=hcw
     clear hLn HTS
     go_wp2
     go_loopw [3,5] (fun vv vk wk=>vk=.int .i64 0/\VsS wk vv (insAll [lowV] P)/\w0.grownBy wk none) (fun _ vk _=>0)
     case atStart=>exact ⟨rfl,HVI.out,gb_refl _ _⟩
     case round =>
      obtain ⟨rfl,hvk,hgk⟩:=hrel
      have hcw2:wr.cell? (a.add i)=some (.slice none 0 0):=hgk.cell HCW.out (by simp)
      have HGK:Hid (w0.grownBy wr none):=hgk
      have HVK:Hid (VsS wr u3 (insAll [lowV] P)):=hvk
      clear hgk hvk hcw
      go_wp2
      go_roundw
      case rel=>exact ⟨i+1,by go_num,by omega,by rw [HNX.out];exact HVK.out,gb_trans HG0.out HGK.out⟩
      case measure=>simp [intOf];omega
    ·obtain ⟨n1,hn1⟩:∃n1,L.length=n1:=⟨_,rfl⟩
     have HN1:Hid (L.length=n1):=hn1
     have hn2:n1<=1000:=by have:=HLo.out.1;omega
     have HCE:Hid (∀k (hk:k < L.length),TqAt w0 (q.add (k * 7)) L[k]):=hcell
     rw [hn1] at hcw hc1
     have HCW:Hid (w0.cell? (a.add i)=some (.slice (some q) n1 c1)):=hcw
     clear hcell hn1 HTS
     go_wp2
     go_loopw [3,5] (fun vv vk wk=>∃k:Nat,vk=.int .i64 k/\k<=n1/\VsS wk vv (insAll [lowV] (P++tuF (L.take k)))/\w0.grownBy wk none) (fun _ vk _=>n1 - (intOf vk).toNat)
     case atStart=>exact ⟨0,rfl,Nat.zero_le _,by simpa [tuF] using HVI.out,gb_refl _ _⟩
     case round =>
      rename World=>wk
      obtain ⟨k,rfl,hk,hvk,hgk⟩:=hrel
      have hcw2:wk.cell? (a.add i)=some (.slice (some q) n1 c1):=hgk.cell HCW.out (by simp)
      have HGK:Hid (w0.grownBy wk none):=hgk
      have HVK:Hid (VsS wk u3 (insAll [lowV] (P++tuF (L.take k)))):=hvk
      clear hgk hvk hcw
      by_cases hkl:k < n1
      ·have hkL:k < L.length:=by rw [HN1.out];exact hkl
       obtain ⟨x,hx⟩:∃x,L[k]=x:=⟨_,rfl⟩
       have HE:Hid (TqAt wk (q.add (k * 7)) x):=by show TqAt wk _ x;rw [<-hx];exact (HCE.out k hkL).grow HGK.out
       have hxo:TqOk x:=by rw [<-hx];exact HLo.out.2 _ (List.getElem_mem hkL)
       obtain ⟨P2,hP2⟩:∃P2,P++tuF (L.take k)=P2:=⟨_,rfl⟩
       obtain ⟨TT,hTT⟩:∃TT,tuQ x=TT:=⟨_,rfl⟩
       have HTL:Hid (TT.length=6):=by show _=_;rw [<-hTT];rfl
       have HP2N:Hid (P++tuF (L.take (k+1))=P2++TT):=by
        show _=_
        rw [<-hP2,<-hTT]
        unfold tuF
        rw [List.take_succ_eq_append_getElem hkL,List.flatMap_append,hx]
        simp
       have HP2X:Hid (∀Y,Y <+: TT->P2++Y <+: tuA A):=fun Y hY=>by
        rw [<-hP2,List.append_assoc]
        exact HPX.out _ (flat_prefix tuQ L k hkL Y (by rw [hx,hTT];exact hY))
       have CTx:Hid (∀w,Calls Tryz.prog 38 #[.agg #[.int .i64 x.sg,.int .i64 x.m,.int .i64 x.a,.int .i64 x.b,.int .i64 x.c,.string x.p,.string x.q]] w fun e w'=>∃ga:Addr,e=.returned (.slice (some ga) 6 6)/\VsAt w' ga TT/\w.grownBy w' none):=fun w=>by rw [<-hTT];exact CT.out x w hxo
       rw [hP2] at HVK
       clear hx hxo hP2 hTT
       obtain ⟨e0,e1,e2,e3,e4,e5,e6⟩:=HE.out
       go_wp2_with (first | (go_at_call 38;refine (CTx.out _).mono ?_))
       rintro e w2 ⟨ga,rfl,hat,hg⟩
       have HGT:Hid (w0.grownBy w2 none):=gb_trans HGK.out hg
       have HV2:Hid (VsS w2 u3 (insAll [lowV] (P2++TT.take 0))):=by show VsS _ _ _;have:=HVK.out.grow hg;simpa using this
       have HAT2:Hid (VsAt w2 ga TT):=hat
       clear hg hat e0 e1 e2 e3 e4 e5 e6 hcw2 HE
       go_wp2
       go_loopw [3,7] (fun vv vj wj=>∃j:Nat,vj=.int .i64 j/\j<=6/\VsS wj vv (insAll [lowV] (P2++TT.take j))/\w2.grownBy wj none) (fun _ vj _=>6 - (intOf vj).toNat)
       case atStart=>exact ⟨0,rfl,Nat.zero_le _,HV2.out,gb_refl _ _⟩
       case round =>
        obtain ⟨j,rfl,hj,hvj,hgj⟩:=hrel
        have HGJ:Hid (w2.grownBy wr none):=hgj
        have HVJ:Hid (VsS wr u3 (insAll [lowV] (P2++TT.take j))):=hvj
        clear hgj hvj
        by_cases hjl:j < 6
        ·have hjT:j < TT.length:=by rw [HTL.out];exact hjl
         obtain ⟨v,hv⟩:∃v,TT[j]=v:=⟨_,rfl⟩
         have HEJ:Hid (VAt wr (ga.add (j * 5)) v):=by show VAt wr _ v;rw [<-hv];exact (HAT2.out j hjT).grow HGJ.out
         have HTJ:Hid (P2++TT.take (j+1)=(P2++TT.take j)++[v]):=by show _=_;rw [List.take_succ_eq_append_getElem hjT,hv,List.append_assoc]
         have HPJ:Hid ((P2++TT.take j)++[v] <+: tuA A):=by show _ <+: _;rw [<-HTJ.out];exact HP2X.out _ (List.take_prefix _ _)
         clear hv
         obtain ⟨e0,e1,e2,e3,e4⟩:=HEJ.out
         go_wp2_with (first | (go_at_call 37;refine (CW.out _ _ v _ HVJ.out HPJ.out).mono ?_))
         rintro e w3 ⟨vo,rfl,ho,hg⟩
         have HO3:Hid (VsS w3 vo (insAll [lowV] (P2++TT.take (j+1)))):=by show VsS _ _ _;rw [HTJ.out];exact ho
         have HG3:Hid (w2.grownBy w3 none):=gb_trans HGJ.out hg
         clear ho hg e0 e1 e2 e3 e4
         go_wp2
         go_roundw
         case rel=>exact ⟨j+1,by go_num,by omega,HO3.out,HG3.out⟩
         case measure=>simp [intOf];omega
        ·have hj6:j=6:=by omega
         have HVE:Hid (VsS wr u3 (insAll [lowV] (P++tuF (L.take (k+1))))):=by
          have:=HVJ.out
          rw [hj6,List.take_of_length_le (by rw [HTL.out];exact Nat.le_refl _)] at this
          show VsS _ _ _
          rw [HP2N.out]
          exact this
         clear hj6 hj
         go_wp2
         go_roundw
         case rel=>exact ⟨k+1,by go_num,by omega,HVE.out,gb_trans HGT.out HGJ.out⟩
         case measure=>simp [intOf];omega
      ·have hkn:k=n1:=by omega
       have HVE:Hid (VsS wk u3 (insAll [lowV] (tuA (A.take (i+1))))):=by
        have:=HVK.out
        rw [hkn,List.take_of_length_le (by rw [HN1.out];exact Nat.le_refl _)] at this
        show VsS _ _ _
        rw [HPN.out]
        exact this
       clear hkn hk
       go_wp2
       go_roundw
       case rel=>exact ⟨i+1,by go_num,by omega,HVE.out,gb_trans HG0.out HGK.out⟩
       case measure=>simp [intOf];omega
   ·have hie:i=N:=by omega
    have HVB:Hid (VsS w0 u3 D):=by
     have:=HVI.out
     rw [hie,List.take_of_length_le (by rw [HN.out];exact Nat.le_refl _),HD.out] at this
     exact this
    clear hie hi
    have hvs:=HVB.out
    rcases hvs with ⟨rfl,hD0⟩ | ⟨ad,cap',rfl,hcap',hat⟩
    ·exact absurd hD0 HDN.out.1
    ·have HAT:Hid (VsAt w0 ad D):=hat
     have hDl:D.length<=2000000:=HDN.out.2
     clear hat
     go_wp2
     go_loopw [8,9] (fun vh vi wk=>∃i:Nat,vi=.int .i64 i/\i<=D.length/\wk.ownsRow w0.heap.size 4 1 vh i (((D.take i).map g).map Value.bool)/\w0.grownBy wk none) (fun _ vi _=>D.length - (intOf vi).toNat)
     case atStart=>exact ⟨0,rfl,Nat.zero_le _,World.ownsRow_nil _ _ _ _,gb_refl _ _⟩
     case round =>
      obtain ⟨i,rfl,hi,how,hg⟩:=hrel
      have HG:Hid (w0.grownBy wr none):=hg
      have HO:Hid (wr.ownsRow w0.heap.size 4 1 u8 i (((D.take i).map g).map Value.bool)):=how
      clear how hg
      by_cases hlt:i < D.length
      ·obtain ⟨d,hd⟩:∃d,D[i]=d:=⟨_,rfl⟩
       have hdm:d ∈ D:=by rw [<-hd];exact List.getElem_mem hlt
       have HE:Hid (VAt wr (ad.add (i * 5)) d):=by show VAt wr _ d;rw [<-hd];exact (HAT.out i hlt).grow HG.out
       have HNX:Hid (((D.take (i+1)).map g).map Value.bool=((D.take i).map g).map Value.bool++[.bool (g d)]):=by
        show _=_
        rw [List.take_succ_eq_append_getElem hlt,hd];simp
       clear hd
       have CHd:Hid (Calls Tryz.prog 20 #[.slice (some a) N cap,.agg #[.int .i64 d.major,.int .i64 d.minor,.int .i64 d.patch,.string ⟨d.pre.toArray⟩,.string ⟨#[]⟩]] wr fun e w'=>e=.returned (.bool (g d))/\wr.grownBy w' none):=CQ.out d wr hdm ((HSS0.out).grow (gb_trans HG0.out HG.out))
       obtain ⟨e0,e1,e2,e3,e4⟩:=HE.out
       clear hdm
       go_wp2_with (first | (go_at_call 20;refine (CHd.out).mono ?_))
       rintro e w2 ⟨rfl,hg⟩
       replace HG:Hid (w0.grownBy w2 none):=gb_trans HG.out hg
       replace HO:Hid (w2.ownsRow w0.heap.size 4 1 u8 i (((D.take i).map g).map Value.bool)):=own_keepV HO.out hg
       clear hg e0 e1 e2 e3 e4 HE CHd
       go_wp2_with (first | (at_builtin;refine wpList_append_own _ rfl _ _ 85 rfl w0.heap.size 4 i1 (.bool false) 1 1 Tryz.underlying85 hj0 hy0 hy1 hyb rfl (by decide) _ _ _ rfl (HO.out.alloc _) _ 1 1 [.bool (g d)] rfl rfl (World.news_of_block (heap_alloc_new _ _)) (bool_one _) (by unfold maxLen;omega) (by omega) (by have:=HG.out.size;simp;omega) ?_;intro v9 w9 hown9 hgrow _))
       have HG9:Hid (w0.grownBy w9 none):=gb_row0 (gb_alloc HG.out _) hgrow (fun q hq=>(HO.out.lt q hq).1)
       have HO9:Hid (w9.ownsRow w0.heap.size 4 1 v9 (i+1) (((D.take (i+1)).map g).map Value.bool)):=by show World.ownsRow _ _ _ _ _ _ _;rw [HNX.out];exact hown9
       clear hgrow hown9 HNX HO HG
       go_wp2
       go_roundw
       case rel=>exact ⟨i+1,by go_num,by omega,HO9.out,HG9.out⟩
       case measure=>simp [intOf];omega
      ·have hie:i=D.length:=by omega
       have HHS:Hid (HadS wr u8 (D.map g)):=by
        have:=HO.out
        rw [hie,List.take_length] at this
        exact had_own (by rw [List.length_map];exact this)
       have HV2:Hid (VsS wr (.slice (some ad) D.length cap') D):=HVB.out.grow HG.out
       have HG2:Hid (w.grownBy wr none):=gb_trans HG0.out HG.out
       clear hie hi HO
       go_wp2_with (first | (go_at_call 39;refine (CNB.out _ _ _ HV2.out HHS.out).mono ?_))
       rintro e w2 ⟨vo,rfl,ho,hg⟩
       have HOO:Hid (SpS w2 vo (outs (tog g false D))):=ho
       replace HG:Hid (w.grownBy w2 none):=gb_trans HG2.out hg
       clear ho hg
       go_wp2
       exact bodyPost_ret (results_tmp (t:=2) rfl _ _ _) rfl ⟨vo,rfl,HOO.out,HG.out⟩
end Go.Proofs.YtonfldbigenfhaaGreatDoor
