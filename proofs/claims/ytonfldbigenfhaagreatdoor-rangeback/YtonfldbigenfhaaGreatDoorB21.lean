import Derived.Test.YtonfldbigenfhaaGreatDoorB19
import Derived.Test.YtonfldbigenfhaaGreatDoorB20
import Derived.Deep.RegionHeld3
namespace Go.Proofs.YtonfldbigenfhaaGreatDoor
open Go.RowKit
set_option linter.unusedVariables false
set_option maxHeartbeats 800000 in
theorem lowest_any (w:World) :
  Calls Tryz.prog 46 #[] w fun e w'=>e=.returned (.agg #[.int .i64 0,.int .i64 0,.int .i64 0,.string ⟨#[48]⟩,.string ⟨#[]⟩])/\w.grownBy w' none:=by
 go_enter Tryz.func46,Tryz.ntmps46
 go_wp2
 refine bodyPost_ret (results_cell_row rfl _ _ w.heap.size 35 #[.int .i64 0,.int .i64 0,.int .i64 0,.string ⟨#[48]⟩,.string ⟨#[]⟩] (0,0) _ rfl ?_ Tryz.underlying35 rfl (by kernel_rfl)) rfl ⟨rfl,gb_alloc (gb_refl w none) _⟩
 exact heap_alloc_new w _
theorem infoStr:(Tryz.prog.info? 9).map (fun i=>(i.zero,i.size,i.bytes))=some (some (.string ⟨#[]⟩),1,16):=by kernel_rfl
theorem str_one (b:ByteArray):∀u ∈ [Value.string b],u.oneCell'=true:=by
 intro u hu
 simp only [List.mem_cons,List.not_mem_nil,or_false] at hu
 subst hu;rfl
theorem bytes_no {a b:ByteArray} (h:¬ a=b):(a.toList == b.toList)=false:=by
 rw [beq_eq_false_iff_ne]
 intro e
 apply h
 rw [Go.Lib.toList_data,Go.Lib.toList_data] at e
 cases a;cases b;simp only at e;rw [Array.toList_inj.1 e]
theorem texts_form {w:World} {base:Nat} {v:Value} {xs:List ByteArray} (h:w.ownsRow base 9 1 v xs.length (xs.map Value.string)) (hx:xs ≠ []) :
  ∃g cap,v=.slice (some ⟨g,0,none⟩) xs.length cap/\xs.length<=cap/\base<=g/\g < w.heap.size/\∀j x,xs[j]?=some x->w.cell? ⟨g,0+j,none⟩=some (.string x):=by
 rcases h.2 with ⟨h1,h2⟩ | ⟨g,cap,cur,h1,hb,hg,hn,hm,hs,ht⟩
 ·exact absurd (List.length_eq_zero_iff.1 h2) hx
 ·refine ⟨g,cap,h1,hn,hb,(Array.getElem?_eq_some_iff.1 hg).1,fun j x hj=>?_⟩
  have:=h.cells (g:=g) (by rw [h1];rfl) j (.string x) (by rw [List.getElem?_map,hj];rfl)
  rw [add_zero_off] at this
  rw [Nat.zero_add];exact this
theorem form1 {w:World} {base n:Nat} {e:TypeId} {size:Nat} {v:Value} {xs:List Value} (h:w.ownsRow base e size v (n+1) xs):∃g cap,v=.slice (some ⟨g,0,none⟩) (n+1) cap:=by
 rcases h.2 with ⟨h1,h2⟩ | ⟨g,cap,cur,h1,_⟩
 ·omega
 ·exact ⟨g,cap,h1⟩
theorem cJoin (base:Nat) (v:Value) (xs:List ByteArray) (sep:ByteArray) (w:World) (h:w.ownsRow base 9 1 v xs.length (xs.map Value.string)) (hx:xs ≠ []) (hn:xs.length<=140737488355328) (hl:(Lib.join (xs.map (·.data.toList)) sep.data.toList).length<=140737488355328) :
  Calls Tryz.prog 48 #[v,.string sep] w fun e w'=>e=.returned (.string ⟨(Lib.join (xs.map (·.data.toList)) sep.data.toList).toArray⟩)/\w.grownBy w' none:=by
 obtain ⟨g,cap,rfl,hc,hb,hg,hcell⟩:=texts_form h hx
 refine (Any.strings_Join Tryz.lays156 Tryz.Builder_Extra_156 g 0 cap xs sep w hcell hg hn hc hl).mono ?_
 rintro e w' ⟨rfl,hB⟩
 exact ⟨rfl,below_gb' hB⟩
theorem keep5 {p0 p1 p2 p3 p4:Addr} {c0 c1 c2 c3 c4:Value} {w w':World} (hg:w.grownBy w' none) (h:w.cell? p0=some c0/\w.cell? p1=some c1/\w.cell? p2=some c2/\w.cell? p3=some c3/\w.cell? p4=some c4):w'.cell? p0=some c0/\w'.cell? p1=some c1/\w'.cell? p2=some c2/\w'.cell? p3=some c3/\w'.cell? p4=some c4:=by
 obtain ⟨h0,h1,h2,h3,h4⟩:=h
 exact ⟨hg.cell h0 (by simp),hg.cell h1 (by simp),hg.cell h2 (by simp),hg.cell h3 (by simp),hg.cell h4 (by simp)⟩
set_option maxRecDepth 100000 in
set_option maxHeartbeats 1600000 in
theorem tx_n_t (t1 t2 t3:Int) (t4:ByteArray) (F T G U:List UInt8) (w:World) (ht:Tab w) (hG:[62,61]++F=G) (hU:[60]++T=U) (hGl:G.length<=1048611) (hUl:U.length<=1048611)
  (CF:∀w,Tab w->Calls Tryz.prog 45 #[.agg #[.int .i64 0,.int .i64 0,.int .i64 0,.string ⟨#[48]⟩,.string ⟨#[]⟩]] w fun e w'=>e=.returned (.string ⟨F.toArray⟩)/\w.grownBy w' none)
  (CT:∀w,Tab w->Calls Tryz.prog 45 #[.agg #[.int .i64 t1,.int .i64 t2,.int .i64 t3,.string t4,.string ⟨#[]⟩]] w fun e w'=>e=.returned (.string ⟨T.toArray⟩)/\w.grownBy w' none) :
  Calls Tryz.prog 47 #[.agg #[.int .i64 0,.int .i64 0,.int .i64 0,.string ⟨#[48]⟩,.string ⟨#[]⟩,.int .i64 t1,.int .i64 t2,.int .i64 t3,.string t4,.string ⟨#[]⟩,.bool true]] w fun e w'=>e=.returned (.string ⟨([42]:List UInt8).toArray⟩)/\w.grownBy w' none:=by
 have hinfo:=infoStr
 obtain ⟨i1,hj0,hjj⟩:=Option.map_eq_some_iff.1 hinfo
 simp only [Prod.mk.injEq] at hjj
 obtain ⟨hy0,hy1,hyb⟩:=hjj
 clear hinfo
 have HCF:Hid (∀w,Tab w->Calls Tryz.prog 45 #[.agg #[.int .i64 0,.int .i64 0,.int .i64 0,.string ⟨#[48]⟩,.string ⟨#[]⟩]] w fun e w'=>e=.returned (.string ⟨F.toArray⟩)/\w.grownBy w' none):=CF
 have HCT:Hid (∀w,Tab w->Calls Tryz.prog 45 #[.agg #[.int .i64 t1,.int .i64 t2,.int .i64 t3,.string t4,.string ⟨#[]⟩]] w fun e w'=>e=.returned (.string ⟨T.toArray⟩)/\w.grownBy w' none):=CT
 have aG:∀wx,(Op.stringOp .add ⟨#[62,61]⟩ ⟨F.toArray⟩).run Tryz.prog wx=.ok (.string ⟨G.toArray⟩) wx:=fun wx=>by rw [<-hG];exact add_lists [62,61] F wx (by rw [<-hG] at hGl;simp at hGl ⊢;omega)
 have aU:∀wx,(Op.stringOp .add ⟨#[60]⟩ ⟨T.toArray⟩).run Tryz.prog wx=.ok (.string ⟨U.toArray⟩) wx:=fun wx=>by rw [<-hU];exact add_lists [60] T wx (by rw [<-hU] at hUl;simp at hUl ⊢;omega)
 have CL:Hid (∀w,Calls Tryz.prog 46 #[] w fun e w'=>e=.returned (.agg #[.int .i64 0,.int .i64 0,.int .i64 0,.string ⟨#[48]⟩,.string ⟨#[]⟩])/\w.grownBy w' none):=lowest_any
 have HT0:Hid (Tab w):=ht
 clear ht hG hU hGl hUl CF CT
 go_enter Tryz.func47,Tryz.ntmps47
 go_wp2_with (fail)
 obtain ⟨A,hA⟩:∃A,w.heap.size=A:=⟨_,rfl⟩
 obtain ⟨W,hW⟩:∃W,w.alloc (.cells #[.int .i64 0,.int .i64 0,.int .i64 0,.string ⟨#[48]⟩,.string ⟨#[]⟩,.int .i64 t1,.int .i64 t2,.int .i64 t3,.string t4,.string ⟨#[]⟩,.bool true] 37)=W:=⟨_,rfl⟩
 have HEL:Hid (EltAt W ⟨A,0,none⟩ ⟨0,0,0,⟨#[48]⟩,⟨#[]⟩,t1,t2,t3,t4,⟨#[]⟩,true⟩):=by
  show EltAt W ⟨A,0,none⟩ _
  rw [<-hW,<-hA];exact elt_row (heap_alloc_new w _)
 have HG:Hid (w.grownBy W none):=by show w.grownBy W none;rw [<-hW];exact gb_alloc (gb_refl w none) _
 have HEL0:Hid (EltAt W ⟨A,0,none⟩ ⟨0,0,0,⟨#[48]⟩,⟨#[]⟩,t1,t2,t3,t4,⟨#[]⟩,true⟩):=HEL.out
 try rw [hW]
 try rw [hA]
 clear hW hA
 obtain ⟨e0,e1,e2,e3,e4,-⟩:=HEL.out
 simp only [Nat.zero_add] at e1 e2 e3 e4
 go_region_held3 (fun w'=>w'.cell? ⟨A,0,none⟩=some (.int .i64 0)/\w'.cell? ⟨A,1,none⟩=some (.int .i64 0)/\w'.cell? ⟨A,2,none⟩=some (.int .i64 0)/\w'.cell? ⟨A,3,none⟩=some (.string ⟨#[48]⟩)/\w'.cell? ⟨A,4,none⟩=some (.string ⟨#[]⟩)) ((first | exact keep5 (by assumption) (by assumption) | go_keep)) (first | (go_at_call 46;refine (CL.out _).mono ?_;rintro e w1 ⟨rfl,hg1⟩))
 have hgw:=gb_undrew hg1
 replace HEL:Hid (EltAt w1 ⟨A,0,none⟩ ⟨0,0,0,⟨#[48]⟩,⟨#[]⟩,t1,t2,t3,t4,⟨#[]⟩,true⟩):=HEL.out.grow hgw
 have HGW:Hid (W.grownBy w1 none):=hgw
 have HT1:Hid (Tab w1):=tab_grow HT0.out (gb_trans HG.out hgw)
 clear hg1 hgw e0 e1 e2 e3 e4
 obtain ⟨e0,e1,e2,e3,e4,e5,e6,e7,e8,e9,e10⟩:=HEL.out
 simp only [Nat.zero_add] at e1 e2 e3 e4 e5 e6 e7 e8 e9 e10
 go_wp2
 go_ret
 exact ⟨rfl,gb_trans HG.out HGW.out⟩
set_option maxRecDepth 100000 in
set_option maxHeartbeats 1600000 in
theorem tx_n_f (t1 t2 t3:Int) (t4:ByteArray) (F T G U:List UInt8) (w:World) (ht:Tab w) (hG:[62,61]++F=G) (hU:[60]++T=U) (hGl:G.length<=1048611) (hUl:U.length<=1048611)
  (CF:∀w,Tab w->Calls Tryz.prog 45 #[.agg #[.int .i64 0,.int .i64 0,.int .i64 0,.string ⟨#[48]⟩,.string ⟨#[]⟩]] w fun e w'=>e=.returned (.string ⟨F.toArray⟩)/\w.grownBy w' none)
  (CT:∀w,Tab w->Calls Tryz.prog 45 #[.agg #[.int .i64 t1,.int .i64 t2,.int .i64 t3,.string t4,.string ⟨#[]⟩]] w fun e w'=>e=.returned (.string ⟨T.toArray⟩)/\w.grownBy w' none) :
  Calls Tryz.prog 47 #[.agg #[.int .i64 0,.int .i64 0,.int .i64 0,.string ⟨#[48]⟩,.string ⟨#[]⟩,.int .i64 t1,.int .i64 t2,.int .i64 t3,.string t4,.string ⟨#[]⟩,.bool false]] w fun e w'=>e=.returned (.string ⟨(U:List UInt8).toArray⟩)/\w.grownBy w' none:=by
 have hinfo:=infoStr
 obtain ⟨i1,hj0,hjj⟩:=Option.map_eq_some_iff.1 hinfo
 simp only [Prod.mk.injEq] at hjj
 obtain ⟨hy0,hy1,hyb⟩:=hjj
 clear hinfo
 have HCF:Hid (∀w,Tab w->Calls Tryz.prog 45 #[.agg #[.int .i64 0,.int .i64 0,.int .i64 0,.string ⟨#[48]⟩,.string ⟨#[]⟩]] w fun e w'=>e=.returned (.string ⟨F.toArray⟩)/\w.grownBy w' none):=CF
 have HCT:Hid (∀w,Tab w->Calls Tryz.prog 45 #[.agg #[.int .i64 t1,.int .i64 t2,.int .i64 t3,.string t4,.string ⟨#[]⟩]] w fun e w'=>e=.returned (.string ⟨T.toArray⟩)/\w.grownBy w' none):=CT
 have aG:∀wx,(Op.stringOp .add ⟨#[62,61]⟩ ⟨F.toArray⟩).run Tryz.prog wx=.ok (.string ⟨G.toArray⟩) wx:=fun wx=>by rw [<-hG];exact add_lists [62,61] F wx (by rw [<-hG] at hGl;simp at hGl ⊢;omega)
 have aU:∀wx,(Op.stringOp .add ⟨#[60]⟩ ⟨T.toArray⟩).run Tryz.prog wx=.ok (.string ⟨U.toArray⟩) wx:=fun wx=>by rw [<-hU];exact add_lists [60] T wx (by rw [<-hU] at hUl;simp at hUl ⊢;omega)
 have CL:Hid (∀w,Calls Tryz.prog 46 #[] w fun e w'=>e=.returned (.agg #[.int .i64 0,.int .i64 0,.int .i64 0,.string ⟨#[48]⟩,.string ⟨#[]⟩])/\w.grownBy w' none):=lowest_any
 have J1:Hid (∀(base:Nat) (v:Value) (w:World),w.ownsRow base 9 1 v 1 [.string ⟨U.toArray⟩]->Calls Tryz.prog 48 #[v,.string ⟨#[32]⟩] w fun e w'=>e=.returned (.string ⟨U.toArray⟩)/\w.grownBy w' none):=fun base v w h=>by
  have:=cJoin base v [⟨U.toArray⟩] ⟨#[32]⟩ w h (by simp) (by simp) (by simp [Lib.join_one];omega)
  simpa [Lib.join_one] using this
 have HT0:Hid (Tab w):=ht
 clear ht hG hU hGl hUl CF CT
 go_enter Tryz.func47,Tryz.ntmps47
 go_wp2_with (fail)
 obtain ⟨A,hA⟩:∃A,w.heap.size=A:=⟨_,rfl⟩
 obtain ⟨W,hW⟩:∃W,w.alloc (.cells #[.int .i64 0,.int .i64 0,.int .i64 0,.string ⟨#[48]⟩,.string ⟨#[]⟩,.int .i64 t1,.int .i64 t2,.int .i64 t3,.string t4,.string ⟨#[]⟩,.bool false] 37)=W:=⟨_,rfl⟩
 have HEL:Hid (EltAt W ⟨A,0,none⟩ ⟨0,0,0,⟨#[48]⟩,⟨#[]⟩,t1,t2,t3,t4,⟨#[]⟩,false⟩):=by
  show EltAt W ⟨A,0,none⟩ _
  rw [<-hW,<-hA];exact elt_row (heap_alloc_new w _)
 have HG:Hid (w.grownBy W none):=by show w.grownBy W none;rw [<-hW];exact gb_alloc (gb_refl w none) _
 have HEL0:Hid (EltAt W ⟨A,0,none⟩ ⟨0,0,0,⟨#[48]⟩,⟨#[]⟩,t1,t2,t3,t4,⟨#[]⟩,false⟩):=HEL.out
 try rw [hW]
 try rw [hA]
 clear hW hA
 obtain ⟨e0,e1,e2,e3,e4,-⟩:=HEL.out
 simp only [Nat.zero_add] at e1 e2 e3 e4
 go_region_held3 (fun w'=>w'.cell? ⟨A,0,none⟩=some (.int .i64 0)/\w'.cell? ⟨A,1,none⟩=some (.int .i64 0)/\w'.cell? ⟨A,2,none⟩=some (.int .i64 0)/\w'.cell? ⟨A,3,none⟩=some (.string ⟨#[48]⟩)/\w'.cell? ⟨A,4,none⟩=some (.string ⟨#[]⟩)) ((first | exact keep5 (by assumption) (by assumption) | go_keep)) (first | (go_at_call 46;refine (CL.out _).mono ?_;rintro e w1 ⟨rfl,hg1⟩))
 have hgw:=gb_undrew hg1
 replace HEL:Hid (EltAt w1 ⟨A,0,none⟩ ⟨0,0,0,⟨#[48]⟩,⟨#[]⟩,t1,t2,t3,t4,⟨#[]⟩,false⟩):=HEL.out.grow hgw
 have HGW:Hid (W.grownBy w1 none):=hgw
 have HT1:Hid (Tab w1):=tab_grow HT0.out (gb_trans HG.out hgw)
 clear hg1 hgw e0 e1 e2 e3 e4
 obtain ⟨e0,e1,e2,e3,e4,e5,e6,e7,e8,e9,e10⟩:=HEL.out
 simp only [Nat.zero_add] at e1 e2 e3 e4 e5 e6 e7 e8 e9 e10
 go_wp2_with (first | (go_at_call_of 45 (Value.string t4);refine (HCT.out _ HT1.out).mono ?_;rintro e w2 ⟨rfl,hg2⟩) | (at_builtin;refine wpList_append_own _ rfl _ _ 93 rfl W.heap.size 9 i1 (.string ⟨#[]⟩) 1 16 Tryz.underlying93 hj0 hy0 hy1 hyb rfl (by decide) _ 0 [] rfl (World.ownsRow_nil _ _ _ _) _ 1 1 [.string ⟨U.toArray⟩] rfl rfl (World.news_of_block (heap_alloc_new _ _)) (str_one _) (by unfold maxLen;omega) (by omega) (by have q1:=HGW.out.size;have q2:=hg2.size;simp;omega) ?_;intro v3 x3 hown3 hgrow3 _;obtain ⟨g3,cap3,rfl⟩:=form1 hown3;have HW3:Hid (W.grownBy x3 none):=gb_row0 (gb_alloc (gb_trans HGW.out hg2) _) hgrow3 (fun q hq=>by cases hq);have HO3:Hid (x3.ownsRow W.heap.size 9 1 (.slice (some ⟨g3,0,none⟩) (0+1) cap3) (0+1) ([]++[.string ⟨U.toArray⟩])):=hown3;have HTT3:Hid (Tab x3):=tab_grow HT0.out (gb_trans HG.out HW3.out);have hel3:EltAt x3 ⟨A,0,none⟩ ⟨0,0,0,⟨#[48]⟩,⟨#[]⟩,t1,t2,t3,t4,⟨#[]⟩,false⟩:=HEL0.out.grow HW3.out;obtain ⟨-,-,-,-,-,d5,d6,d7,d8,d9,d10⟩:=hel3;simp only [Nat.zero_add] at d5 d6 d7 d8 d9 d10) | (go_at_call 48;refine (J1.out W.heap.size _ _ HO3.out).mono ?_;rintro e w9 ⟨rfl,hg9⟩))
 go_ret
 exact ⟨rfl,gb_trans HG.out (gb_trans HW3.out hg9)⟩
set_option maxRecDepth 100000 in
set_option maxHeartbeats 1600000 in
theorem tx_0_t (f1 f2 f3:Int) (f4:ByteArray) (t1 t2 t3:Int) (t4:ByteArray) (q:¬ f1=0) (F T G U:List UInt8) (w:World) (ht:Tab w) (hG:[62,61]++F=G) (hU:[60]++T=U) (hGl:G.length<=1048611) (hUl:U.length<=1048611)
  (CF:∀w,Tab w->Calls Tryz.prog 45 #[.agg #[.int .i64 f1,.int .i64 f2,.int .i64 f3,.string f4,.string ⟨#[]⟩]] w fun e w'=>e=.returned (.string ⟨F.toArray⟩)/\w.grownBy w' none)
  (CT:∀w,Tab w->Calls Tryz.prog 45 #[.agg #[.int .i64 t1,.int .i64 t2,.int .i64 t3,.string t4,.string ⟨#[]⟩]] w fun e w'=>e=.returned (.string ⟨T.toArray⟩)/\w.grownBy w' none) :
  Calls Tryz.prog 47 #[.agg #[.int .i64 f1,.int .i64 f2,.int .i64 f3,.string f4,.string ⟨#[]⟩,.int .i64 t1,.int .i64 t2,.int .i64 t3,.string t4,.string ⟨#[]⟩,.bool true]] w fun e w'=>e=.returned (.string ⟨(G:List UInt8).toArray⟩)/\w.grownBy w' none:=by
 have hinfo:=infoStr
 obtain ⟨i1,hj0,hjj⟩:=Option.map_eq_some_iff.1 hinfo
 simp only [Prod.mk.injEq] at hjj
 obtain ⟨hy0,hy1,hyb⟩:=hjj
 clear hinfo
 have HCF:Hid (∀w,Tab w->Calls Tryz.prog 45 #[.agg #[.int .i64 f1,.int .i64 f2,.int .i64 f3,.string f4,.string ⟨#[]⟩]] w fun e w'=>e=.returned (.string ⟨F.toArray⟩)/\w.grownBy w' none):=CF
 have HCT:Hid (∀w,Tab w->Calls Tryz.prog 45 #[.agg #[.int .i64 t1,.int .i64 t2,.int .i64 t3,.string t4,.string ⟨#[]⟩]] w fun e w'=>e=.returned (.string ⟨T.toArray⟩)/\w.grownBy w' none):=CT
 have aG:∀wx,(Op.stringOp .add ⟨#[62,61]⟩ ⟨F.toArray⟩).run Tryz.prog wx=.ok (.string ⟨G.toArray⟩) wx:=fun wx=>by rw [<-hG];exact add_lists [62,61] F wx (by rw [<-hG] at hGl;simp at hGl ⊢;omega)
 have aU:∀wx,(Op.stringOp .add ⟨#[60]⟩ ⟨T.toArray⟩).run Tryz.prog wx=.ok (.string ⟨U.toArray⟩) wx:=fun wx=>by rw [<-hU];exact add_lists [60] T wx (by rw [<-hU] at hUl;simp at hUl ⊢;omega)
 have CL:Hid (∀w,Calls Tryz.prog 46 #[] w fun e w'=>e=.returned (.agg #[.int .i64 0,.int .i64 0,.int .i64 0,.string ⟨#[48]⟩,.string ⟨#[]⟩])/\w.grownBy w' none):=lowest_any
 have J1:Hid (∀(base:Nat) (v:Value) (w:World),w.ownsRow base 9 1 v 1 [.string ⟨G.toArray⟩]->Calls Tryz.prog 48 #[v,.string ⟨#[32]⟩] w fun e w'=>e=.returned (.string ⟨G.toArray⟩)/\w.grownBy w' none):=fun base v w h=>by
  have:=cJoin base v [⟨G.toArray⟩] ⟨#[32]⟩ w h (by simp) (by simp) (by simp [Lib.join_one];omega)
  simpa [Lib.join_one] using this
 have HT0:Hid (Tab w):=ht
 clear ht hG hU hGl hUl CF CT
 go_enter Tryz.func47,Tryz.ntmps47
 go_wp2_with (fail)
 obtain ⟨A,hA⟩:∃A,w.heap.size=A:=⟨_,rfl⟩
 obtain ⟨W,hW⟩:∃W,w.alloc (.cells #[.int .i64 f1,.int .i64 f2,.int .i64 f3,.string f4,.string ⟨#[]⟩,.int .i64 t1,.int .i64 t2,.int .i64 t3,.string t4,.string ⟨#[]⟩,.bool true] 37)=W:=⟨_,rfl⟩
 have HEL:Hid (EltAt W ⟨A,0,none⟩ ⟨f1,f2,f3,f4,⟨#[]⟩,t1,t2,t3,t4,⟨#[]⟩,true⟩):=by
  show EltAt W ⟨A,0,none⟩ _
  rw [<-hW,<-hA];exact elt_row (heap_alloc_new w _)
 have HG:Hid (w.grownBy W none):=by show w.grownBy W none;rw [<-hW];exact gb_alloc (gb_refl w none) _
 have HEL0:Hid (EltAt W ⟨A,0,none⟩ ⟨f1,f2,f3,f4,⟨#[]⟩,t1,t2,t3,t4,⟨#[]⟩,true⟩):=HEL.out
 try rw [hW]
 try rw [hA]
 clear hW hA
 obtain ⟨e0,e1,e2,e3,e4,-⟩:=HEL.out
 simp only [Nat.zero_add] at e1 e2 e3 e4
 go_region_held3 (fun w'=>w'.cell? ⟨A,0,none⟩=some (.int .i64 f1)/\w'.cell? ⟨A,1,none⟩=some (.int .i64 f2)/\w'.cell? ⟨A,2,none⟩=some (.int .i64 f3)/\w'.cell? ⟨A,3,none⟩=some (.string f4)/\w'.cell? ⟨A,4,none⟩=some (.string ⟨#[]⟩)) ((first | exact keep5 (by assumption) (by assumption) | go_keep)) (first | (go_at_call 46;refine (CL.out _).mono ?_;rintro e w1 ⟨rfl,hg1⟩))
 have hgw:=gb_undrew hg1
 replace HEL:Hid (EltAt w1 ⟨A,0,none⟩ ⟨f1,f2,f3,f4,⟨#[]⟩,t1,t2,t3,t4,⟨#[]⟩,true⟩):=HEL.out.grow hgw
 have HGW:Hid (W.grownBy w1 none):=hgw
 have HT1:Hid (Tab w1):=tab_grow HT0.out (gb_trans HG.out hgw)
 clear hg1 hgw e0 e1 e2 e3 e4
 obtain ⟨e0,e1,e2,e3,e4,e5,e6,e7,e8,e9,e10⟩:=HEL.out
 simp only [Nat.zero_add] at e1 e2 e3 e4 e5 e6 e7 e8 e9 e10
 go_wp2_with (first | (go_at_call_of 45 (Value.string f4);refine (HCF.out _ HT1.out).mono ?_;rintro e w2 ⟨rfl,hg2⟩) | (at_builtin;refine wpList_append_own _ rfl _ _ 93 rfl W.heap.size 9 i1 (.string ⟨#[]⟩) 1 16 Tryz.underlying93 hj0 hy0 hy1 hyb rfl (by decide) _ 0 [] rfl (World.ownsRow_nil _ _ _ _) _ 1 1 [.string ⟨G.toArray⟩] rfl rfl (World.news_of_block (heap_alloc_new _ _)) (str_one _) (by unfold maxLen;omega) (by omega) (by have q1:=HGW.out.size;have q2:=hg2.size;simp;omega) ?_;intro v3 x3 hown3 hgrow3 _;obtain ⟨g3,cap3,rfl⟩:=form1 hown3;have HW3:Hid (W.grownBy x3 none):=gb_row0 (gb_alloc (gb_trans HGW.out hg2) _) hgrow3 (fun q hq=>by cases hq);have HO3:Hid (x3.ownsRow W.heap.size 9 1 (.slice (some ⟨g3,0,none⟩) (0+1) cap3) (0+1) ([]++[.string ⟨G.toArray⟩])):=hown3;have HTT3:Hid (Tab x3):=tab_grow HT0.out (gb_trans HG.out HW3.out);have hel3:EltAt x3 ⟨A,0,none⟩ ⟨f1,f2,f3,f4,⟨#[]⟩,t1,t2,t3,t4,⟨#[]⟩,true⟩:=HEL0.out.grow HW3.out;obtain ⟨-,-,-,-,-,d5,d6,d7,d8,d9,d10⟩:=hel3;simp only [Nat.zero_add] at d5 d6 d7 d8 d9 d10) | (go_at_call 48;refine (J1.out W.heap.size _ _ HO3.out).mono ?_;rintro e w9 ⟨rfl,hg9⟩))
 go_ret
 exact ⟨rfl,gb_trans HG.out (gb_trans HW3.out hg9)⟩
set_option maxRecDepth 100000 in
set_option maxHeartbeats 1600000 in
theorem tx_0_f (f1 f2 f3:Int) (f4:ByteArray) (t1 t2 t3:Int) (t4:ByteArray) (q:¬ f1=0) (F T G U:List UInt8) (w:World) (ht:Tab w) (hG:[62,61]++F=G) (hU:[60]++T=U) (hGl:G.length<=1048611) (hUl:U.length<=1048611)
  (CF:∀w,Tab w->Calls Tryz.prog 45 #[.agg #[.int .i64 f1,.int .i64 f2,.int .i64 f3,.string f4,.string ⟨#[]⟩]] w fun e w'=>e=.returned (.string ⟨F.toArray⟩)/\w.grownBy w' none)
  (CT:∀w,Tab w->Calls Tryz.prog 45 #[.agg #[.int .i64 t1,.int .i64 t2,.int .i64 t3,.string t4,.string ⟨#[]⟩]] w fun e w'=>e=.returned (.string ⟨T.toArray⟩)/\w.grownBy w' none) :
  Calls Tryz.prog 47 #[.agg #[.int .i64 f1,.int .i64 f2,.int .i64 f3,.string f4,.string ⟨#[]⟩,.int .i64 t1,.int .i64 t2,.int .i64 t3,.string t4,.string ⟨#[]⟩,.bool false]] w fun e w'=>e=.returned (.string ⟨((G++([32]++U)):List UInt8).toArray⟩)/\w.grownBy w' none:=by
 have hinfo:=infoStr
 obtain ⟨i1,hj0,hjj⟩:=Option.map_eq_some_iff.1 hinfo
 simp only [Prod.mk.injEq] at hjj
 obtain ⟨hy0,hy1,hyb⟩:=hjj
 clear hinfo
 have HCF:Hid (∀w,Tab w->Calls Tryz.prog 45 #[.agg #[.int .i64 f1,.int .i64 f2,.int .i64 f3,.string f4,.string ⟨#[]⟩]] w fun e w'=>e=.returned (.string ⟨F.toArray⟩)/\w.grownBy w' none):=CF
 have HCT:Hid (∀w,Tab w->Calls Tryz.prog 45 #[.agg #[.int .i64 t1,.int .i64 t2,.int .i64 t3,.string t4,.string ⟨#[]⟩]] w fun e w'=>e=.returned (.string ⟨T.toArray⟩)/\w.grownBy w' none):=CT
 have aG:∀wx,(Op.stringOp .add ⟨#[62,61]⟩ ⟨F.toArray⟩).run Tryz.prog wx=.ok (.string ⟨G.toArray⟩) wx:=fun wx=>by rw [<-hG];exact add_lists [62,61] F wx (by rw [<-hG] at hGl;simp at hGl ⊢;omega)
 have aU:∀wx,(Op.stringOp .add ⟨#[60]⟩ ⟨T.toArray⟩).run Tryz.prog wx=.ok (.string ⟨U.toArray⟩) wx:=fun wx=>by rw [<-hU];exact add_lists [60] T wx (by rw [<-hU] at hUl;simp at hUl ⊢;omega)
 have CL:Hid (∀w,Calls Tryz.prog 46 #[] w fun e w'=>e=.returned (.agg #[.int .i64 0,.int .i64 0,.int .i64 0,.string ⟨#[48]⟩,.string ⟨#[]⟩])/\w.grownBy w' none):=lowest_any
 have J1:Hid (∀(base:Nat) (v:Value) (w:World),w.ownsRow base 9 1 v 2 [.string ⟨G.toArray⟩,.string ⟨U.toArray⟩]->Calls Tryz.prog 48 #[v,.string ⟨#[32]⟩] w fun e w'=>e=.returned (.string ⟨(G++([32]++U)).toArray⟩)/\w.grownBy w' none):=fun base v w h=>by
  have e:Lib.join [G,U] [32]=G++([32]++U):=by simp [Lib.join,List.intercalate]
  have:=cJoin base v [⟨G.toArray⟩,⟨U.toArray⟩] ⟨#[32]⟩ w h (by simp) (by simp) (by
   show (Lib.join [G,U] [32]).length<=_
   rw [e];simp;omega)
  have e2:([(⟨G.toArray⟩:ByteArray),⟨U.toArray⟩].map (·.data.toList))=[G,U]:=rfl
  rw [e2] at this
  have e3:(⟨#[32]⟩:ByteArray).data.toList=[32]:=rfl
  rw [e3,e] at this
  exact this
 have HT0:Hid (Tab w):=ht
 clear ht hG hU hGl hUl CF CT
 go_enter Tryz.func47,Tryz.ntmps47
 go_wp2_with (fail)
 obtain ⟨A,hA⟩:∃A,w.heap.size=A:=⟨_,rfl⟩
 obtain ⟨W,hW⟩:∃W,w.alloc (.cells #[.int .i64 f1,.int .i64 f2,.int .i64 f3,.string f4,.string ⟨#[]⟩,.int .i64 t1,.int .i64 t2,.int .i64 t3,.string t4,.string ⟨#[]⟩,.bool false] 37)=W:=⟨_,rfl⟩
 have HEL:Hid (EltAt W ⟨A,0,none⟩ ⟨f1,f2,f3,f4,⟨#[]⟩,t1,t2,t3,t4,⟨#[]⟩,false⟩):=by
  show EltAt W ⟨A,0,none⟩ _
  rw [<-hW,<-hA];exact elt_row (heap_alloc_new w _)
 have HG:Hid (w.grownBy W none):=by show w.grownBy W none;rw [<-hW];exact gb_alloc (gb_refl w none) _
 have HEL0:Hid (EltAt W ⟨A,0,none⟩ ⟨f1,f2,f3,f4,⟨#[]⟩,t1,t2,t3,t4,⟨#[]⟩,false⟩):=HEL.out
 try rw [hW]
 try rw [hA]
 clear hW hA
 obtain ⟨e0,e1,e2,e3,e4,-⟩:=HEL.out
 simp only [Nat.zero_add] at e1 e2 e3 e4
 go_region_held3 (fun w'=>w'.cell? ⟨A,0,none⟩=some (.int .i64 f1)/\w'.cell? ⟨A,1,none⟩=some (.int .i64 f2)/\w'.cell? ⟨A,2,none⟩=some (.int .i64 f3)/\w'.cell? ⟨A,3,none⟩=some (.string f4)/\w'.cell? ⟨A,4,none⟩=some (.string ⟨#[]⟩)) ((first | exact keep5 (by assumption) (by assumption) | go_keep)) (first | (go_at_call 46;refine (CL.out _).mono ?_;rintro e w1 ⟨rfl,hg1⟩))
 have hgw:=gb_undrew hg1
 replace HEL:Hid (EltAt w1 ⟨A,0,none⟩ ⟨f1,f2,f3,f4,⟨#[]⟩,t1,t2,t3,t4,⟨#[]⟩,false⟩):=HEL.out.grow hgw
 have HGW:Hid (W.grownBy w1 none):=hgw
 have HT1:Hid (Tab w1):=tab_grow HT0.out (gb_trans HG.out hgw)
 clear hg1 hgw e0 e1 e2 e3 e4
 obtain ⟨e0,e1,e2,e3,e4,e5,e6,e7,e8,e9,e10⟩:=HEL.out
 simp only [Nat.zero_add] at e1 e2 e3 e4 e5 e6 e7 e8 e9 e10
 go_wp2_with (first | (go_at_call_of 45 (Value.string f4);refine (HCF.out _ HT1.out).mono ?_;rintro e w2 ⟨rfl,hg2⟩) | (go_at_call_of 45 (Value.string t4);refine (HCT.out _ HTT3.out).mono ?_;rintro e w5 ⟨rfl,hg5⟩) | (at_builtin;refine wpList_append_own _ rfl _ _ 93 rfl W.heap.size 9 i1 (.string ⟨#[]⟩) 1 16 Tryz.underlying93 hj0 hy0 hy1 hyb rfl (by decide) _ 0 [] rfl (World.ownsRow_nil _ _ _ _) _ 1 1 [.string ⟨G.toArray⟩] rfl rfl (World.news_of_block (heap_alloc_new _ _)) (str_one _) (by unfold maxLen;omega) (by omega) (by have q1:=HGW.out.size;have q2:=hg2.size;simp;omega) ?_;intro v3 x3 hown3 hgrow3 _;obtain ⟨g3,cap3,rfl⟩:=form1 hown3;have HW3:Hid (W.grownBy x3 none):=gb_row0 (gb_alloc (gb_trans HGW.out hg2) _) hgrow3 (fun q hq=>by cases hq);have HO3:Hid (x3.ownsRow W.heap.size 9 1 (.slice (some ⟨g3,0,none⟩) (0+1) cap3) (0+1) ([]++[.string ⟨G.toArray⟩])):=hown3;have HTT3:Hid (Tab x3):=tab_grow HT0.out (gb_trans HG.out HW3.out);have hel3:EltAt x3 ⟨A,0,none⟩ ⟨f1,f2,f3,f4,⟨#[]⟩,t1,t2,t3,t4,⟨#[]⟩,false⟩:=HEL0.out.grow HW3.out;obtain ⟨-,-,-,-,-,d5,d6,d7,d8,d9,d10⟩:=hel3;simp only [Nat.zero_add] at d5 d6 d7 d8 d9 d10) | (at_builtin;refine wpList_append_own _ rfl _ _ 93 rfl W.heap.size 9 i1 (.string ⟨#[]⟩) 1 16 Tryz.underlying93 hj0 hy0 hy1 hyb rfl (by decide) _ (0+1) ([]++[.string ⟨G.toArray⟩]) rfl ((own_keepV HO3.out hg5).alloc _) _ 1 1 [.string ⟨U.toArray⟩] rfl rfl (World.news_of_block (heap_alloc_new _ _)) (str_one _) (by unfold maxLen;omega) (by omega) (by have q1:=HW3.out.size;have q2:=hg5.size;simp;omega) ?_;intro v6 x6 hown6 hgrow6 _;obtain ⟨g6,cap6,rfl⟩:=form1 hown6;have HW6:Hid (W.grownBy x6 none):=gb_row0 (gb_alloc (gb_trans HW3.out hg5) _) hgrow6 (fun q hq=>(HO3.out.lt q hq).1);have HO6:Hid (x6.ownsRow W.heap.size 9 1 (.slice (some ⟨g6,0,none⟩) (0+1+1) cap6) (0+1+1) ([]++[.string ⟨G.toArray⟩]++[.string ⟨U.toArray⟩])):=hown6;have HTT6:Hid (Tab x6):=tab_grow HT0.out (gb_trans HG.out HW6.out);have hel6:EltAt x6 ⟨A,0,none⟩ ⟨f1,f2,f3,f4,⟨#[]⟩,t1,t2,t3,t4,⟨#[]⟩,false⟩:=HEL0.out.grow HW6.out;obtain ⟨-,-,-,-,-,d5,d6,d7,d8,d9,d10⟩:=hel6;simp only [Nat.zero_add] at d5 d6 d7 d8 d9 d10) | (go_at_call 48;refine (J1.out W.heap.size _ _ HO6.out).mono ?_;rintro e w9 ⟨rfl,hg9⟩))
 go_ret
 exact ⟨rfl,gb_trans HG.out (gb_trans HW6.out hg9)⟩
set_option maxRecDepth 100000 in
set_option maxHeartbeats 1600000 in
theorem tx_1_t (f2 f3:Int) (f4:ByteArray) (t1 t2 t3:Int) (t4:ByteArray) (q:¬ f2=0) (F T G U:List UInt8) (w:World) (ht:Tab w) (hG:[62,61]++F=G) (hU:[60]++T=U) (hGl:G.length<=1048611) (hUl:U.length<=1048611)
  (CF:∀w,Tab w->Calls Tryz.prog 45 #[.agg #[.int .i64 0,.int .i64 f2,.int .i64 f3,.string f4,.string ⟨#[]⟩]] w fun e w'=>e=.returned (.string ⟨F.toArray⟩)/\w.grownBy w' none)
  (CT:∀w,Tab w->Calls Tryz.prog 45 #[.agg #[.int .i64 t1,.int .i64 t2,.int .i64 t3,.string t4,.string ⟨#[]⟩]] w fun e w'=>e=.returned (.string ⟨T.toArray⟩)/\w.grownBy w' none) :
  Calls Tryz.prog 47 #[.agg #[.int .i64 0,.int .i64 f2,.int .i64 f3,.string f4,.string ⟨#[]⟩,.int .i64 t1,.int .i64 t2,.int .i64 t3,.string t4,.string ⟨#[]⟩,.bool true]] w fun e w'=>e=.returned (.string ⟨(G:List UInt8).toArray⟩)/\w.grownBy w' none:=by
 have hinfo:=infoStr
 obtain ⟨i1,hj0,hjj⟩:=Option.map_eq_some_iff.1 hinfo
 simp only [Prod.mk.injEq] at hjj
 obtain ⟨hy0,hy1,hyb⟩:=hjj
 clear hinfo
 have HCF:Hid (∀w,Tab w->Calls Tryz.prog 45 #[.agg #[.int .i64 0,.int .i64 f2,.int .i64 f3,.string f4,.string ⟨#[]⟩]] w fun e w'=>e=.returned (.string ⟨F.toArray⟩)/\w.grownBy w' none):=CF
 have HCT:Hid (∀w,Tab w->Calls Tryz.prog 45 #[.agg #[.int .i64 t1,.int .i64 t2,.int .i64 t3,.string t4,.string ⟨#[]⟩]] w fun e w'=>e=.returned (.string ⟨T.toArray⟩)/\w.grownBy w' none):=CT
 have aG:∀wx,(Op.stringOp .add ⟨#[62,61]⟩ ⟨F.toArray⟩).run Tryz.prog wx=.ok (.string ⟨G.toArray⟩) wx:=fun wx=>by rw [<-hG];exact add_lists [62,61] F wx (by rw [<-hG] at hGl;simp at hGl ⊢;omega)
 have aU:∀wx,(Op.stringOp .add ⟨#[60]⟩ ⟨T.toArray⟩).run Tryz.prog wx=.ok (.string ⟨U.toArray⟩) wx:=fun wx=>by rw [<-hU];exact add_lists [60] T wx (by rw [<-hU] at hUl;simp at hUl ⊢;omega)
 have CL:Hid (∀w,Calls Tryz.prog 46 #[] w fun e w'=>e=.returned (.agg #[.int .i64 0,.int .i64 0,.int .i64 0,.string ⟨#[48]⟩,.string ⟨#[]⟩])/\w.grownBy w' none):=lowest_any
 have J1:Hid (∀(base:Nat) (v:Value) (w:World),w.ownsRow base 9 1 v 1 [.string ⟨G.toArray⟩]->Calls Tryz.prog 48 #[v,.string ⟨#[32]⟩] w fun e w'=>e=.returned (.string ⟨G.toArray⟩)/\w.grownBy w' none):=fun base v w h=>by
  have:=cJoin base v [⟨G.toArray⟩] ⟨#[32]⟩ w h (by simp) (by simp) (by simp [Lib.join_one];omega)
  simpa [Lib.join_one] using this
 have HT0:Hid (Tab w):=ht
 clear ht hG hU hGl hUl CF CT
 go_enter Tryz.func47,Tryz.ntmps47
 go_wp2_with (fail)
 obtain ⟨A,hA⟩:∃A,w.heap.size=A:=⟨_,rfl⟩
 obtain ⟨W,hW⟩:∃W,w.alloc (.cells #[.int .i64 0,.int .i64 f2,.int .i64 f3,.string f4,.string ⟨#[]⟩,.int .i64 t1,.int .i64 t2,.int .i64 t3,.string t4,.string ⟨#[]⟩,.bool true] 37)=W:=⟨_,rfl⟩
 have HEL:Hid (EltAt W ⟨A,0,none⟩ ⟨0,f2,f3,f4,⟨#[]⟩,t1,t2,t3,t4,⟨#[]⟩,true⟩):=by
  show EltAt W ⟨A,0,none⟩ _
  rw [<-hW,<-hA];exact elt_row (heap_alloc_new w _)
 have HG:Hid (w.grownBy W none):=by show w.grownBy W none;rw [<-hW];exact gb_alloc (gb_refl w none) _
 have HEL0:Hid (EltAt W ⟨A,0,none⟩ ⟨0,f2,f3,f4,⟨#[]⟩,t1,t2,t3,t4,⟨#[]⟩,true⟩):=HEL.out
 try rw [hW]
 try rw [hA]
 clear hW hA
 obtain ⟨e0,e1,e2,e3,e4,-⟩:=HEL.out
 simp only [Nat.zero_add] at e1 e2 e3 e4
 go_region_held3 (fun w'=>w'.cell? ⟨A,0,none⟩=some (.int .i64 0)/\w'.cell? ⟨A,1,none⟩=some (.int .i64 f2)/\w'.cell? ⟨A,2,none⟩=some (.int .i64 f3)/\w'.cell? ⟨A,3,none⟩=some (.string f4)/\w'.cell? ⟨A,4,none⟩=some (.string ⟨#[]⟩)) ((first | exact keep5 (by assumption) (by assumption) | go_keep)) (first | (go_at_call 46;refine (CL.out _).mono ?_;rintro e w1 ⟨rfl,hg1⟩))
 have hgw:=gb_undrew hg1
 replace HEL:Hid (EltAt w1 ⟨A,0,none⟩ ⟨0,f2,f3,f4,⟨#[]⟩,t1,t2,t3,t4,⟨#[]⟩,true⟩):=HEL.out.grow hgw
 have HGW:Hid (W.grownBy w1 none):=hgw
 have HT1:Hid (Tab w1):=tab_grow HT0.out (gb_trans HG.out hgw)
 clear hg1 hgw e0 e1 e2 e3 e4
 obtain ⟨e0,e1,e2,e3,e4,e5,e6,e7,e8,e9,e10⟩:=HEL.out
 simp only [Nat.zero_add] at e1 e2 e3 e4 e5 e6 e7 e8 e9 e10
 go_wp2_with (first | (go_at_call_of 45 (Value.string f4);refine (HCF.out _ HT1.out).mono ?_;rintro e w2 ⟨rfl,hg2⟩) | (at_builtin;refine wpList_append_own _ rfl _ _ 93 rfl W.heap.size 9 i1 (.string ⟨#[]⟩) 1 16 Tryz.underlying93 hj0 hy0 hy1 hyb rfl (by decide) _ 0 [] rfl (World.ownsRow_nil _ _ _ _) _ 1 1 [.string ⟨G.toArray⟩] rfl rfl (World.news_of_block (heap_alloc_new _ _)) (str_one _) (by unfold maxLen;omega) (by omega) (by have q1:=HGW.out.size;have q2:=hg2.size;simp;omega) ?_;intro v3 x3 hown3 hgrow3 _;obtain ⟨g3,cap3,rfl⟩:=form1 hown3;have HW3:Hid (W.grownBy x3 none):=gb_row0 (gb_alloc (gb_trans HGW.out hg2) _) hgrow3 (fun q hq=>by cases hq);have HO3:Hid (x3.ownsRow W.heap.size 9 1 (.slice (some ⟨g3,0,none⟩) (0+1) cap3) (0+1) ([]++[.string ⟨G.toArray⟩])):=hown3;have HTT3:Hid (Tab x3):=tab_grow HT0.out (gb_trans HG.out HW3.out);have hel3:EltAt x3 ⟨A,0,none⟩ ⟨0,f2,f3,f4,⟨#[]⟩,t1,t2,t3,t4,⟨#[]⟩,true⟩:=HEL0.out.grow HW3.out;obtain ⟨-,-,-,-,-,d5,d6,d7,d8,d9,d10⟩:=hel3;simp only [Nat.zero_add] at d5 d6 d7 d8 d9 d10) | (go_at_call 48;refine (J1.out W.heap.size _ _ HO3.out).mono ?_;rintro e w9 ⟨rfl,hg9⟩))
 go_ret
 exact ⟨rfl,gb_trans HG.out (gb_trans HW3.out hg9)⟩
set_option maxRecDepth 100000 in
set_option maxHeartbeats 1600000 in
theorem tx_1_f (f2 f3:Int) (f4:ByteArray) (t1 t2 t3:Int) (t4:ByteArray) (q:¬ f2=0) (F T G U:List UInt8) (w:World) (ht:Tab w) (hG:[62,61]++F=G) (hU:[60]++T=U) (hGl:G.length<=1048611) (hUl:U.length<=1048611)
  (CF:∀w,Tab w->Calls Tryz.prog 45 #[.agg #[.int .i64 0,.int .i64 f2,.int .i64 f3,.string f4,.string ⟨#[]⟩]] w fun e w'=>e=.returned (.string ⟨F.toArray⟩)/\w.grownBy w' none)
  (CT:∀w,Tab w->Calls Tryz.prog 45 #[.agg #[.int .i64 t1,.int .i64 t2,.int .i64 t3,.string t4,.string ⟨#[]⟩]] w fun e w'=>e=.returned (.string ⟨T.toArray⟩)/\w.grownBy w' none) :
  Calls Tryz.prog 47 #[.agg #[.int .i64 0,.int .i64 f2,.int .i64 f3,.string f4,.string ⟨#[]⟩,.int .i64 t1,.int .i64 t2,.int .i64 t3,.string t4,.string ⟨#[]⟩,.bool false]] w fun e w'=>e=.returned (.string ⟨((G++([32]++U)):List UInt8).toArray⟩)/\w.grownBy w' none:=by
 have hinfo:=infoStr
 obtain ⟨i1,hj0,hjj⟩:=Option.map_eq_some_iff.1 hinfo
 simp only [Prod.mk.injEq] at hjj
 obtain ⟨hy0,hy1,hyb⟩:=hjj
 clear hinfo
 have HCF:Hid (∀w,Tab w->Calls Tryz.prog 45 #[.agg #[.int .i64 0,.int .i64 f2,.int .i64 f3,.string f4,.string ⟨#[]⟩]] w fun e w'=>e=.returned (.string ⟨F.toArray⟩)/\w.grownBy w' none):=CF
 have HCT:Hid (∀w,Tab w->Calls Tryz.prog 45 #[.agg #[.int .i64 t1,.int .i64 t2,.int .i64 t3,.string t4,.string ⟨#[]⟩]] w fun e w'=>e=.returned (.string ⟨T.toArray⟩)/\w.grownBy w' none):=CT
 have aG:∀wx,(Op.stringOp .add ⟨#[62,61]⟩ ⟨F.toArray⟩).run Tryz.prog wx=.ok (.string ⟨G.toArray⟩) wx:=fun wx=>by rw [<-hG];exact add_lists [62,61] F wx (by rw [<-hG] at hGl;simp at hGl ⊢;omega)
 have aU:∀wx,(Op.stringOp .add ⟨#[60]⟩ ⟨T.toArray⟩).run Tryz.prog wx=.ok (.string ⟨U.toArray⟩) wx:=fun wx=>by rw [<-hU];exact add_lists [60] T wx (by rw [<-hU] at hUl;simp at hUl ⊢;omega)
 have CL:Hid (∀w,Calls Tryz.prog 46 #[] w fun e w'=>e=.returned (.agg #[.int .i64 0,.int .i64 0,.int .i64 0,.string ⟨#[48]⟩,.string ⟨#[]⟩])/\w.grownBy w' none):=lowest_any
 have J1:Hid (∀(base:Nat) (v:Value) (w:World),w.ownsRow base 9 1 v 2 [.string ⟨G.toArray⟩,.string ⟨U.toArray⟩]->Calls Tryz.prog 48 #[v,.string ⟨#[32]⟩] w fun e w'=>e=.returned (.string ⟨(G++([32]++U)).toArray⟩)/\w.grownBy w' none):=fun base v w h=>by
  have e:Lib.join [G,U] [32]=G++([32]++U):=by simp [Lib.join,List.intercalate]
  have:=cJoin base v [⟨G.toArray⟩,⟨U.toArray⟩] ⟨#[32]⟩ w h (by simp) (by simp) (by
   show (Lib.join [G,U] [32]).length<=_
   rw [e];simp;omega)
  have e2:([(⟨G.toArray⟩:ByteArray),⟨U.toArray⟩].map (·.data.toList))=[G,U]:=rfl
  rw [e2] at this
  have e3:(⟨#[32]⟩:ByteArray).data.toList=[32]:=rfl
  rw [e3,e] at this
  exact this
 have HT0:Hid (Tab w):=ht
 clear ht hG hU hGl hUl CF CT
 go_enter Tryz.func47,Tryz.ntmps47
 go_wp2_with (fail)
 obtain ⟨A,hA⟩:∃A,w.heap.size=A:=⟨_,rfl⟩
 obtain ⟨W,hW⟩:∃W,w.alloc (.cells #[.int .i64 0,.int .i64 f2,.int .i64 f3,.string f4,.string ⟨#[]⟩,.int .i64 t1,.int .i64 t2,.int .i64 t3,.string t4,.string ⟨#[]⟩,.bool false] 37)=W:=⟨_,rfl⟩
 have HEL:Hid (EltAt W ⟨A,0,none⟩ ⟨0,f2,f3,f4,⟨#[]⟩,t1,t2,t3,t4,⟨#[]⟩,false⟩):=by
  show EltAt W ⟨A,0,none⟩ _
  rw [<-hW,<-hA];exact elt_row (heap_alloc_new w _)
 have HG:Hid (w.grownBy W none):=by show w.grownBy W none;rw [<-hW];exact gb_alloc (gb_refl w none) _
 have HEL0:Hid (EltAt W ⟨A,0,none⟩ ⟨0,f2,f3,f4,⟨#[]⟩,t1,t2,t3,t4,⟨#[]⟩,false⟩):=HEL.out
 try rw [hW]
 try rw [hA]
 clear hW hA
 obtain ⟨e0,e1,e2,e3,e4,-⟩:=HEL.out
 simp only [Nat.zero_add] at e1 e2 e3 e4
 go_region_held3 (fun w'=>w'.cell? ⟨A,0,none⟩=some (.int .i64 0)/\w'.cell? ⟨A,1,none⟩=some (.int .i64 f2)/\w'.cell? ⟨A,2,none⟩=some (.int .i64 f3)/\w'.cell? ⟨A,3,none⟩=some (.string f4)/\w'.cell? ⟨A,4,none⟩=some (.string ⟨#[]⟩)) ((first | exact keep5 (by assumption) (by assumption) | go_keep)) (first | (go_at_call 46;refine (CL.out _).mono ?_;rintro e w1 ⟨rfl,hg1⟩))
 have hgw:=gb_undrew hg1
 replace HEL:Hid (EltAt w1 ⟨A,0,none⟩ ⟨0,f2,f3,f4,⟨#[]⟩,t1,t2,t3,t4,⟨#[]⟩,false⟩):=HEL.out.grow hgw
 have HGW:Hid (W.grownBy w1 none):=hgw
 have HT1:Hid (Tab w1):=tab_grow HT0.out (gb_trans HG.out hgw)
 clear hg1 hgw e0 e1 e2 e3 e4
 obtain ⟨e0,e1,e2,e3,e4,e5,e6,e7,e8,e9,e10⟩:=HEL.out
 simp only [Nat.zero_add] at e1 e2 e3 e4 e5 e6 e7 e8 e9 e10
 go_wp2_with (first | (go_at_call_of 45 (Value.string f4);refine (HCF.out _ HT1.out).mono ?_;rintro e w2 ⟨rfl,hg2⟩) | (go_at_call_of 45 (Value.string t4);refine (HCT.out _ HTT3.out).mono ?_;rintro e w5 ⟨rfl,hg5⟩) | (at_builtin;refine wpList_append_own _ rfl _ _ 93 rfl W.heap.size 9 i1 (.string ⟨#[]⟩) 1 16 Tryz.underlying93 hj0 hy0 hy1 hyb rfl (by decide) _ 0 [] rfl (World.ownsRow_nil _ _ _ _) _ 1 1 [.string ⟨G.toArray⟩] rfl rfl (World.news_of_block (heap_alloc_new _ _)) (str_one _) (by unfold maxLen;omega) (by omega) (by have q1:=HGW.out.size;have q2:=hg2.size;simp;omega) ?_;intro v3 x3 hown3 hgrow3 _;obtain ⟨g3,cap3,rfl⟩:=form1 hown3;have HW3:Hid (W.grownBy x3 none):=gb_row0 (gb_alloc (gb_trans HGW.out hg2) _) hgrow3 (fun q hq=>by cases hq);have HO3:Hid (x3.ownsRow W.heap.size 9 1 (.slice (some ⟨g3,0,none⟩) (0+1) cap3) (0+1) ([]++[.string ⟨G.toArray⟩])):=hown3;have HTT3:Hid (Tab x3):=tab_grow HT0.out (gb_trans HG.out HW3.out);have hel3:EltAt x3 ⟨A,0,none⟩ ⟨0,f2,f3,f4,⟨#[]⟩,t1,t2,t3,t4,⟨#[]⟩,false⟩:=HEL0.out.grow HW3.out;obtain ⟨-,-,-,-,-,d5,d6,d7,d8,d9,d10⟩:=hel3;simp only [Nat.zero_add] at d5 d6 d7 d8 d9 d10) | (at_builtin;refine wpList_append_own _ rfl _ _ 93 rfl W.heap.size 9 i1 (.string ⟨#[]⟩) 1 16 Tryz.underlying93 hj0 hy0 hy1 hyb rfl (by decide) _ (0+1) ([]++[.string ⟨G.toArray⟩]) rfl ((own_keepV HO3.out hg5).alloc _) _ 1 1 [.string ⟨U.toArray⟩] rfl rfl (World.news_of_block (heap_alloc_new _ _)) (str_one _) (by unfold maxLen;omega) (by omega) (by have q1:=HW3.out.size;have q2:=hg5.size;simp;omega) ?_;intro v6 x6 hown6 hgrow6 _;obtain ⟨g6,cap6,rfl⟩:=form1 hown6;have HW6:Hid (W.grownBy x6 none):=gb_row0 (gb_alloc (gb_trans HW3.out hg5) _) hgrow6 (fun q hq=>(HO3.out.lt q hq).1);have HO6:Hid (x6.ownsRow W.heap.size 9 1 (.slice (some ⟨g6,0,none⟩) (0+1+1) cap6) (0+1+1) ([]++[.string ⟨G.toArray⟩]++[.string ⟨U.toArray⟩])):=hown6;have HTT6:Hid (Tab x6):=tab_grow HT0.out (gb_trans HG.out HW6.out);have hel6:EltAt x6 ⟨A,0,none⟩ ⟨0,f2,f3,f4,⟨#[]⟩,t1,t2,t3,t4,⟨#[]⟩,false⟩:=HEL0.out.grow HW6.out;obtain ⟨-,-,-,-,-,d5,d6,d7,d8,d9,d10⟩:=hel6;simp only [Nat.zero_add] at d5 d6 d7 d8 d9 d10) | (go_at_call 48;refine (J1.out W.heap.size _ _ HO6.out).mono ?_;rintro e w9 ⟨rfl,hg9⟩))
 go_ret
 exact ⟨rfl,gb_trans HG.out (gb_trans HW6.out hg9)⟩
set_option maxRecDepth 100000 in
set_option maxHeartbeats 1600000 in
theorem tx_2_t (f3:Int) (f4:ByteArray) (t1 t2 t3:Int) (t4:ByteArray) (q:¬ f3=0) (F T G U:List UInt8) (w:World) (ht:Tab w) (hG:[62,61]++F=G) (hU:[60]++T=U) (hGl:G.length<=1048611) (hUl:U.length<=1048611)
  (CF:∀w,Tab w->Calls Tryz.prog 45 #[.agg #[.int .i64 0,.int .i64 0,.int .i64 f3,.string f4,.string ⟨#[]⟩]] w fun e w'=>e=.returned (.string ⟨F.toArray⟩)/\w.grownBy w' none)
  (CT:∀w,Tab w->Calls Tryz.prog 45 #[.agg #[.int .i64 t1,.int .i64 t2,.int .i64 t3,.string t4,.string ⟨#[]⟩]] w fun e w'=>e=.returned (.string ⟨T.toArray⟩)/\w.grownBy w' none) :
  Calls Tryz.prog 47 #[.agg #[.int .i64 0,.int .i64 0,.int .i64 f3,.string f4,.string ⟨#[]⟩,.int .i64 t1,.int .i64 t2,.int .i64 t3,.string t4,.string ⟨#[]⟩,.bool true]] w fun e w'=>e=.returned (.string ⟨(G:List UInt8).toArray⟩)/\w.grownBy w' none:=by
 have hinfo:=infoStr
 obtain ⟨i1,hj0,hjj⟩:=Option.map_eq_some_iff.1 hinfo
 simp only [Prod.mk.injEq] at hjj
 obtain ⟨hy0,hy1,hyb⟩:=hjj
 clear hinfo
 have HCF:Hid (∀w,Tab w->Calls Tryz.prog 45 #[.agg #[.int .i64 0,.int .i64 0,.int .i64 f3,.string f4,.string ⟨#[]⟩]] w fun e w'=>e=.returned (.string ⟨F.toArray⟩)/\w.grownBy w' none):=CF
 have HCT:Hid (∀w,Tab w->Calls Tryz.prog 45 #[.agg #[.int .i64 t1,.int .i64 t2,.int .i64 t3,.string t4,.string ⟨#[]⟩]] w fun e w'=>e=.returned (.string ⟨T.toArray⟩)/\w.grownBy w' none):=CT
 have aG:∀wx,(Op.stringOp .add ⟨#[62,61]⟩ ⟨F.toArray⟩).run Tryz.prog wx=.ok (.string ⟨G.toArray⟩) wx:=fun wx=>by rw [<-hG];exact add_lists [62,61] F wx (by rw [<-hG] at hGl;simp at hGl ⊢;omega)
 have aU:∀wx,(Op.stringOp .add ⟨#[60]⟩ ⟨T.toArray⟩).run Tryz.prog wx=.ok (.string ⟨U.toArray⟩) wx:=fun wx=>by rw [<-hU];exact add_lists [60] T wx (by rw [<-hU] at hUl;simp at hUl ⊢;omega)
 have CL:Hid (∀w,Calls Tryz.prog 46 #[] w fun e w'=>e=.returned (.agg #[.int .i64 0,.int .i64 0,.int .i64 0,.string ⟨#[48]⟩,.string ⟨#[]⟩])/\w.grownBy w' none):=lowest_any
 have J1:Hid (∀(base:Nat) (v:Value) (w:World),w.ownsRow base 9 1 v 1 [.string ⟨G.toArray⟩]->Calls Tryz.prog 48 #[v,.string ⟨#[32]⟩] w fun e w'=>e=.returned (.string ⟨G.toArray⟩)/\w.grownBy w' none):=fun base v w h=>by
  have:=cJoin base v [⟨G.toArray⟩] ⟨#[32]⟩ w h (by simp) (by simp) (by simp [Lib.join_one];omega)
  simpa [Lib.join_one] using this
 have HT0:Hid (Tab w):=ht
 clear ht hG hU hGl hUl CF CT
 go_enter Tryz.func47,Tryz.ntmps47
 go_wp2_with (fail)
 obtain ⟨A,hA⟩:∃A,w.heap.size=A:=⟨_,rfl⟩
 obtain ⟨W,hW⟩:∃W,w.alloc (.cells #[.int .i64 0,.int .i64 0,.int .i64 f3,.string f4,.string ⟨#[]⟩,.int .i64 t1,.int .i64 t2,.int .i64 t3,.string t4,.string ⟨#[]⟩,.bool true] 37)=W:=⟨_,rfl⟩
 have HEL:Hid (EltAt W ⟨A,0,none⟩ ⟨0,0,f3,f4,⟨#[]⟩,t1,t2,t3,t4,⟨#[]⟩,true⟩):=by
  show EltAt W ⟨A,0,none⟩ _
  rw [<-hW,<-hA];exact elt_row (heap_alloc_new w _)
 have HG:Hid (w.grownBy W none):=by show w.grownBy W none;rw [<-hW];exact gb_alloc (gb_refl w none) _
 have HEL0:Hid (EltAt W ⟨A,0,none⟩ ⟨0,0,f3,f4,⟨#[]⟩,t1,t2,t3,t4,⟨#[]⟩,true⟩):=HEL.out
 try rw [hW]
 try rw [hA]
 clear hW hA
 obtain ⟨e0,e1,e2,e3,e4,-⟩:=HEL.out
 simp only [Nat.zero_add] at e1 e2 e3 e4
 go_region_held3 (fun w'=>w'.cell? ⟨A,0,none⟩=some (.int .i64 0)/\w'.cell? ⟨A,1,none⟩=some (.int .i64 0)/\w'.cell? ⟨A,2,none⟩=some (.int .i64 f3)/\w'.cell? ⟨A,3,none⟩=some (.string f4)/\w'.cell? ⟨A,4,none⟩=some (.string ⟨#[]⟩)) ((first | exact keep5 (by assumption) (by assumption) | go_keep)) (first | (go_at_call 46;refine (CL.out _).mono ?_;rintro e w1 ⟨rfl,hg1⟩))
 have hgw:=gb_undrew hg1
 replace HEL:Hid (EltAt w1 ⟨A,0,none⟩ ⟨0,0,f3,f4,⟨#[]⟩,t1,t2,t3,t4,⟨#[]⟩,true⟩):=HEL.out.grow hgw
 have HGW:Hid (W.grownBy w1 none):=hgw
 have HT1:Hid (Tab w1):=tab_grow HT0.out (gb_trans HG.out hgw)
 clear hg1 hgw e0 e1 e2 e3 e4
 obtain ⟨e0,e1,e2,e3,e4,e5,e6,e7,e8,e9,e10⟩:=HEL.out
 simp only [Nat.zero_add] at e1 e2 e3 e4 e5 e6 e7 e8 e9 e10
 go_wp2_with (first | (go_at_call_of 45 (Value.string f4);refine (HCF.out _ HT1.out).mono ?_;rintro e w2 ⟨rfl,hg2⟩) | (at_builtin;refine wpList_append_own _ rfl _ _ 93 rfl W.heap.size 9 i1 (.string ⟨#[]⟩) 1 16 Tryz.underlying93 hj0 hy0 hy1 hyb rfl (by decide) _ 0 [] rfl (World.ownsRow_nil _ _ _ _) _ 1 1 [.string ⟨G.toArray⟩] rfl rfl (World.news_of_block (heap_alloc_new _ _)) (str_one _) (by unfold maxLen;omega) (by omega) (by have q1:=HGW.out.size;have q2:=hg2.size;simp;omega) ?_;intro v3 x3 hown3 hgrow3 _;obtain ⟨g3,cap3,rfl⟩:=form1 hown3;have HW3:Hid (W.grownBy x3 none):=gb_row0 (gb_alloc (gb_trans HGW.out hg2) _) hgrow3 (fun q hq=>by cases hq);have HO3:Hid (x3.ownsRow W.heap.size 9 1 (.slice (some ⟨g3,0,none⟩) (0+1) cap3) (0+1) ([]++[.string ⟨G.toArray⟩])):=hown3;have HTT3:Hid (Tab x3):=tab_grow HT0.out (gb_trans HG.out HW3.out);have hel3:EltAt x3 ⟨A,0,none⟩ ⟨0,0,f3,f4,⟨#[]⟩,t1,t2,t3,t4,⟨#[]⟩,true⟩:=HEL0.out.grow HW3.out;obtain ⟨-,-,-,-,-,d5,d6,d7,d8,d9,d10⟩:=hel3;simp only [Nat.zero_add] at d5 d6 d7 d8 d9 d10) | (go_at_call 48;refine (J1.out W.heap.size _ _ HO3.out).mono ?_;rintro e w9 ⟨rfl,hg9⟩))
 go_ret
 exact ⟨rfl,gb_trans HG.out (gb_trans HW3.out hg9)⟩
set_option maxRecDepth 100000 in
set_option maxHeartbeats 1600000 in
theorem tx_2_f (f3:Int) (f4:ByteArray) (t1 t2 t3:Int) (t4:ByteArray) (q:¬ f3=0) (F T G U:List UInt8) (w:World) (ht:Tab w) (hG:[62,61]++F=G) (hU:[60]++T=U) (hGl:G.length<=1048611) (hUl:U.length<=1048611)
  (CF:∀w,Tab w->Calls Tryz.prog 45 #[.agg #[.int .i64 0,.int .i64 0,.int .i64 f3,.string f4,.string ⟨#[]⟩]] w fun e w'=>e=.returned (.string ⟨F.toArray⟩)/\w.grownBy w' none)
  (CT:∀w,Tab w->Calls Tryz.prog 45 #[.agg #[.int .i64 t1,.int .i64 t2,.int .i64 t3,.string t4,.string ⟨#[]⟩]] w fun e w'=>e=.returned (.string ⟨T.toArray⟩)/\w.grownBy w' none) :
  Calls Tryz.prog 47 #[.agg #[.int .i64 0,.int .i64 0,.int .i64 f3,.string f4,.string ⟨#[]⟩,.int .i64 t1,.int .i64 t2,.int .i64 t3,.string t4,.string ⟨#[]⟩,.bool false]] w fun e w'=>e=.returned (.string ⟨((G++([32]++U)):List UInt8).toArray⟩)/\w.grownBy w' none:=by
 have hinfo:=infoStr
 obtain ⟨i1,hj0,hjj⟩:=Option.map_eq_some_iff.1 hinfo
 simp only [Prod.mk.injEq] at hjj
 obtain ⟨hy0,hy1,hyb⟩:=hjj
 clear hinfo
 have HCF:Hid (∀w,Tab w->Calls Tryz.prog 45 #[.agg #[.int .i64 0,.int .i64 0,.int .i64 f3,.string f4,.string ⟨#[]⟩]] w fun e w'=>e=.returned (.string ⟨F.toArray⟩)/\w.grownBy w' none):=CF
 have HCT:Hid (∀w,Tab w->Calls Tryz.prog 45 #[.agg #[.int .i64 t1,.int .i64 t2,.int .i64 t3,.string t4,.string ⟨#[]⟩]] w fun e w'=>e=.returned (.string ⟨T.toArray⟩)/\w.grownBy w' none):=CT
 have aG:∀wx,(Op.stringOp .add ⟨#[62,61]⟩ ⟨F.toArray⟩).run Tryz.prog wx=.ok (.string ⟨G.toArray⟩) wx:=fun wx=>by rw [<-hG];exact add_lists [62,61] F wx (by rw [<-hG] at hGl;simp at hGl ⊢;omega)
 have aU:∀wx,(Op.stringOp .add ⟨#[60]⟩ ⟨T.toArray⟩).run Tryz.prog wx=.ok (.string ⟨U.toArray⟩) wx:=fun wx=>by rw [<-hU];exact add_lists [60] T wx (by rw [<-hU] at hUl;simp at hUl ⊢;omega)
 have CL:Hid (∀w,Calls Tryz.prog 46 #[] w fun e w'=>e=.returned (.agg #[.int .i64 0,.int .i64 0,.int .i64 0,.string ⟨#[48]⟩,.string ⟨#[]⟩])/\w.grownBy w' none):=lowest_any
 have J1:Hid (∀(base:Nat) (v:Value) (w:World),w.ownsRow base 9 1 v 2 [.string ⟨G.toArray⟩,.string ⟨U.toArray⟩]->Calls Tryz.prog 48 #[v,.string ⟨#[32]⟩] w fun e w'=>e=.returned (.string ⟨(G++([32]++U)).toArray⟩)/\w.grownBy w' none):=fun base v w h=>by
  have e:Lib.join [G,U] [32]=G++([32]++U):=by simp [Lib.join,List.intercalate]
  have:=cJoin base v [⟨G.toArray⟩,⟨U.toArray⟩] ⟨#[32]⟩ w h (by simp) (by simp) (by
   show (Lib.join [G,U] [32]).length<=_
   rw [e];simp;omega)
  have e2:([(⟨G.toArray⟩:ByteArray),⟨U.toArray⟩].map (·.data.toList))=[G,U]:=rfl
  rw [e2] at this
  have e3:(⟨#[32]⟩:ByteArray).data.toList=[32]:=rfl
  rw [e3,e] at this
  exact this
 have HT0:Hid (Tab w):=ht
 clear ht hG hU hGl hUl CF CT
 go_enter Tryz.func47,Tryz.ntmps47
 go_wp2_with (fail)
 obtain ⟨A,hA⟩:∃A,w.heap.size=A:=⟨_,rfl⟩
 obtain ⟨W,hW⟩:∃W,w.alloc (.cells #[.int .i64 0,.int .i64 0,.int .i64 f3,.string f4,.string ⟨#[]⟩,.int .i64 t1,.int .i64 t2,.int .i64 t3,.string t4,.string ⟨#[]⟩,.bool false] 37)=W:=⟨_,rfl⟩
 have HEL:Hid (EltAt W ⟨A,0,none⟩ ⟨0,0,f3,f4,⟨#[]⟩,t1,t2,t3,t4,⟨#[]⟩,false⟩):=by
  show EltAt W ⟨A,0,none⟩ _
  rw [<-hW,<-hA];exact elt_row (heap_alloc_new w _)
 have HG:Hid (w.grownBy W none):=by show w.grownBy W none;rw [<-hW];exact gb_alloc (gb_refl w none) _
 have HEL0:Hid (EltAt W ⟨A,0,none⟩ ⟨0,0,f3,f4,⟨#[]⟩,t1,t2,t3,t4,⟨#[]⟩,false⟩):=HEL.out
 try rw [hW]
 try rw [hA]
 clear hW hA
 obtain ⟨e0,e1,e2,e3,e4,-⟩:=HEL.out
 simp only [Nat.zero_add] at e1 e2 e3 e4
 go_region_held3 (fun w'=>w'.cell? ⟨A,0,none⟩=some (.int .i64 0)/\w'.cell? ⟨A,1,none⟩=some (.int .i64 0)/\w'.cell? ⟨A,2,none⟩=some (.int .i64 f3)/\w'.cell? ⟨A,3,none⟩=some (.string f4)/\w'.cell? ⟨A,4,none⟩=some (.string ⟨#[]⟩)) ((first | exact keep5 (by assumption) (by assumption) | go_keep)) (first | (go_at_call 46;refine (CL.out _).mono ?_;rintro e w1 ⟨rfl,hg1⟩))
 have hgw:=gb_undrew hg1
 replace HEL:Hid (EltAt w1 ⟨A,0,none⟩ ⟨0,0,f3,f4,⟨#[]⟩,t1,t2,t3,t4,⟨#[]⟩,false⟩):=HEL.out.grow hgw
 have HGW:Hid (W.grownBy w1 none):=hgw
 have HT1:Hid (Tab w1):=tab_grow HT0.out (gb_trans HG.out hgw)
 clear hg1 hgw e0 e1 e2 e3 e4
 obtain ⟨e0,e1,e2,e3,e4,e5,e6,e7,e8,e9,e10⟩:=HEL.out
 simp only [Nat.zero_add] at e1 e2 e3 e4 e5 e6 e7 e8 e9 e10
 go_wp2_with (first | (go_at_call_of 45 (Value.string f4);refine (HCF.out _ HT1.out).mono ?_;rintro e w2 ⟨rfl,hg2⟩) | (go_at_call_of 45 (Value.string t4);refine (HCT.out _ HTT3.out).mono ?_;rintro e w5 ⟨rfl,hg5⟩) | (at_builtin;refine wpList_append_own _ rfl _ _ 93 rfl W.heap.size 9 i1 (.string ⟨#[]⟩) 1 16 Tryz.underlying93 hj0 hy0 hy1 hyb rfl (by decide) _ 0 [] rfl (World.ownsRow_nil _ _ _ _) _ 1 1 [.string ⟨G.toArray⟩] rfl rfl (World.news_of_block (heap_alloc_new _ _)) (str_one _) (by unfold maxLen;omega) (by omega) (by have q1:=HGW.out.size;have q2:=hg2.size;simp;omega) ?_;intro v3 x3 hown3 hgrow3 _;obtain ⟨g3,cap3,rfl⟩:=form1 hown3;have HW3:Hid (W.grownBy x3 none):=gb_row0 (gb_alloc (gb_trans HGW.out hg2) _) hgrow3 (fun q hq=>by cases hq);have HO3:Hid (x3.ownsRow W.heap.size 9 1 (.slice (some ⟨g3,0,none⟩) (0+1) cap3) (0+1) ([]++[.string ⟨G.toArray⟩])):=hown3;have HTT3:Hid (Tab x3):=tab_grow HT0.out (gb_trans HG.out HW3.out);have hel3:EltAt x3 ⟨A,0,none⟩ ⟨0,0,f3,f4,⟨#[]⟩,t1,t2,t3,t4,⟨#[]⟩,false⟩:=HEL0.out.grow HW3.out;obtain ⟨-,-,-,-,-,d5,d6,d7,d8,d9,d10⟩:=hel3;simp only [Nat.zero_add] at d5 d6 d7 d8 d9 d10) | (at_builtin;refine wpList_append_own _ rfl _ _ 93 rfl W.heap.size 9 i1 (.string ⟨#[]⟩) 1 16 Tryz.underlying93 hj0 hy0 hy1 hyb rfl (by decide) _ (0+1) ([]++[.string ⟨G.toArray⟩]) rfl ((own_keepV HO3.out hg5).alloc _) _ 1 1 [.string ⟨U.toArray⟩] rfl rfl (World.news_of_block (heap_alloc_new _ _)) (str_one _) (by unfold maxLen;omega) (by omega) (by have q1:=HW3.out.size;have q2:=hg5.size;simp;omega) ?_;intro v6 x6 hown6 hgrow6 _;obtain ⟨g6,cap6,rfl⟩:=form1 hown6;have HW6:Hid (W.grownBy x6 none):=gb_row0 (gb_alloc (gb_trans HW3.out hg5) _) hgrow6 (fun q hq=>(HO3.out.lt q hq).1);have HO6:Hid (x6.ownsRow W.heap.size 9 1 (.slice (some ⟨g6,0,none⟩) (0+1+1) cap6) (0+1+1) ([]++[.string ⟨G.toArray⟩]++[.string ⟨U.toArray⟩])):=hown6;have HTT6:Hid (Tab x6):=tab_grow HT0.out (gb_trans HG.out HW6.out);have hel6:EltAt x6 ⟨A,0,none⟩ ⟨0,0,f3,f4,⟨#[]⟩,t1,t2,t3,t4,⟨#[]⟩,false⟩:=HEL0.out.grow HW6.out;obtain ⟨-,-,-,-,-,d5,d6,d7,d8,d9,d10⟩:=hel6;simp only [Nat.zero_add] at d5 d6 d7 d8 d9 d10) | (go_at_call 48;refine (J1.out W.heap.size _ _ HO6.out).mono ?_;rintro e w9 ⟨rfl,hg9⟩))
 go_ret
 exact ⟨rfl,gb_trans HG.out (gb_trans HW6.out hg9)⟩
set_option maxRecDepth 100000 in
set_option maxHeartbeats 1600000 in
theorem tx_3_t (f4:ByteArray) (t1 t2 t3:Int) (t4:ByteArray) (q0:¬ f4=⟨#[48]⟩) (F T G U:List UInt8) (w:World) (ht:Tab w) (hG:[62,61]++F=G) (hU:[60]++T=U) (hGl:G.length<=1048611) (hUl:U.length<=1048611)
  (CF:∀w,Tab w->Calls Tryz.prog 45 #[.agg #[.int .i64 0,.int .i64 0,.int .i64 0,.string f4,.string ⟨#[]⟩]] w fun e w'=>e=.returned (.string ⟨F.toArray⟩)/\w.grownBy w' none)
  (CT:∀w,Tab w->Calls Tryz.prog 45 #[.agg #[.int .i64 t1,.int .i64 t2,.int .i64 t3,.string t4,.string ⟨#[]⟩]] w fun e w'=>e=.returned (.string ⟨T.toArray⟩)/\w.grownBy w' none) :
  Calls Tryz.prog 47 #[.agg #[.int .i64 0,.int .i64 0,.int .i64 0,.string f4,.string ⟨#[]⟩,.int .i64 t1,.int .i64 t2,.int .i64 t3,.string t4,.string ⟨#[]⟩,.bool true]] w fun e w'=>e=.returned (.string ⟨(G:List UInt8).toArray⟩)/\w.grownBy w' none:=by
 have hinfo:=infoStr
 obtain ⟨i1,hj0,hjj⟩:=Option.map_eq_some_iff.1 hinfo
 simp only [Prod.mk.injEq] at hjj
 obtain ⟨hy0,hy1,hyb⟩:=hjj
 clear hinfo
 have HCF:Hid (∀w,Tab w->Calls Tryz.prog 45 #[.agg #[.int .i64 0,.int .i64 0,.int .i64 0,.string f4,.string ⟨#[]⟩]] w fun e w'=>e=.returned (.string ⟨F.toArray⟩)/\w.grownBy w' none):=CF
 have HCT:Hid (∀w,Tab w->Calls Tryz.prog 45 #[.agg #[.int .i64 t1,.int .i64 t2,.int .i64 t3,.string t4,.string ⟨#[]⟩]] w fun e w'=>e=.returned (.string ⟨T.toArray⟩)/\w.grownBy w' none):=CT
 have aG:∀wx,(Op.stringOp .add ⟨#[62,61]⟩ ⟨F.toArray⟩).run Tryz.prog wx=.ok (.string ⟨G.toArray⟩) wx:=fun wx=>by rw [<-hG];exact add_lists [62,61] F wx (by rw [<-hG] at hGl;simp at hGl ⊢;omega)
 have aU:∀wx,(Op.stringOp .add ⟨#[60]⟩ ⟨T.toArray⟩).run Tryz.prog wx=.ok (.string ⟨U.toArray⟩) wx:=fun wx=>by rw [<-hU];exact add_lists [60] T wx (by rw [<-hU] at hUl;simp at hUl ⊢;omega)
 have CL:Hid (∀w,Calls Tryz.prog 46 #[] w fun e w'=>e=.returned (.agg #[.int .i64 0,.int .i64 0,.int .i64 0,.string ⟨#[48]⟩,.string ⟨#[]⟩])/\w.grownBy w' none):=lowest_any
 have J1:Hid (∀(base:Nat) (v:Value) (w:World),w.ownsRow base 9 1 v 1 [.string ⟨G.toArray⟩]->Calls Tryz.prog 48 #[v,.string ⟨#[32]⟩] w fun e w'=>e=.returned (.string ⟨G.toArray⟩)/\w.grownBy w' none):=fun base v w h=>by
  have:=cJoin base v [⟨G.toArray⟩] ⟨#[32]⟩ w h (by simp) (by simp) (by simp [Lib.join_one];omega)
  simpa [Lib.join_one] using this
 have HT0:Hid (Tab w):=ht
 have q:=bytes_no q0
 have q2:(f4.toList == [48])=false:=by have e:(⟨#[48]⟩:ByteArray).toList=[48]:=(by rw [Go.Lib.toList_data]);rw [e] at q;exact q
 clear ht hG hU hGl hUl CF CT
 go_enter Tryz.func47,Tryz.ntmps47
 go_wp2_with (fail)
 obtain ⟨A,hA⟩:∃A,w.heap.size=A:=⟨_,rfl⟩
 obtain ⟨W,hW⟩:∃W,w.alloc (.cells #[.int .i64 0,.int .i64 0,.int .i64 0,.string f4,.string ⟨#[]⟩,.int .i64 t1,.int .i64 t2,.int .i64 t3,.string t4,.string ⟨#[]⟩,.bool true] 37)=W:=⟨_,rfl⟩
 have HEL:Hid (EltAt W ⟨A,0,none⟩ ⟨0,0,0,f4,⟨#[]⟩,t1,t2,t3,t4,⟨#[]⟩,true⟩):=by
  show EltAt W ⟨A,0,none⟩ _
  rw [<-hW,<-hA];exact elt_row (heap_alloc_new w _)
 have HG:Hid (w.grownBy W none):=by show w.grownBy W none;rw [<-hW];exact gb_alloc (gb_refl w none) _
 have HEL0:Hid (EltAt W ⟨A,0,none⟩ ⟨0,0,0,f4,⟨#[]⟩,t1,t2,t3,t4,⟨#[]⟩,true⟩):=HEL.out
 try rw [hW]
 try rw [hA]
 clear hW hA
 obtain ⟨e0,e1,e2,e3,e4,-⟩:=HEL.out
 simp only [Nat.zero_add] at e1 e2 e3 e4
 go_region_held3 (fun w'=>w'.cell? ⟨A,0,none⟩=some (.int .i64 0)/\w'.cell? ⟨A,1,none⟩=some (.int .i64 0)/\w'.cell? ⟨A,2,none⟩=some (.int .i64 0)/\w'.cell? ⟨A,3,none⟩=some (.string f4)/\w'.cell? ⟨A,4,none⟩=some (.string ⟨#[]⟩)) ((first | exact keep5 (by assumption) (by assumption) | go_keep)) (first | (go_at_call 46;refine (CL.out _).mono ?_;rintro e w1 ⟨rfl,hg1⟩))
 have hgw:=gb_undrew hg1
 replace HEL:Hid (EltAt w1 ⟨A,0,none⟩ ⟨0,0,0,f4,⟨#[]⟩,t1,t2,t3,t4,⟨#[]⟩,true⟩):=HEL.out.grow hgw
 have HGW:Hid (W.grownBy w1 none):=hgw
 have HT1:Hid (Tab w1):=tab_grow HT0.out (gb_trans HG.out hgw)
 clear hg1 hgw e0 e1 e2 e3 e4
 obtain ⟨e0,e1,e2,e3,e4,e5,e6,e7,e8,e9,e10⟩:=HEL.out
 simp only [Nat.zero_add] at e1 e2 e3 e4 e5 e6 e7 e8 e9 e10
 go_wp2_with (first | (go_at_call_of 45 (Value.string f4);refine (HCF.out _ HT1.out).mono ?_;rintro e w2 ⟨rfl,hg2⟩) | (at_builtin;refine wpList_append_own _ rfl _ _ 93 rfl W.heap.size 9 i1 (.string ⟨#[]⟩) 1 16 Tryz.underlying93 hj0 hy0 hy1 hyb rfl (by decide) _ 0 [] rfl (World.ownsRow_nil _ _ _ _) _ 1 1 [.string ⟨G.toArray⟩] rfl rfl (World.news_of_block (heap_alloc_new _ _)) (str_one _) (by unfold maxLen;omega) (by omega) (by have q1:=HGW.out.size;have q2:=hg2.size;simp;omega) ?_;intro v3 x3 hown3 hgrow3 _;obtain ⟨g3,cap3,rfl⟩:=form1 hown3;have HW3:Hid (W.grownBy x3 none):=gb_row0 (gb_alloc (gb_trans HGW.out hg2) _) hgrow3 (fun q hq=>by cases hq);have HO3:Hid (x3.ownsRow W.heap.size 9 1 (.slice (some ⟨g3,0,none⟩) (0+1) cap3) (0+1) ([]++[.string ⟨G.toArray⟩])):=hown3;have HTT3:Hid (Tab x3):=tab_grow HT0.out (gb_trans HG.out HW3.out);have hel3:EltAt x3 ⟨A,0,none⟩ ⟨0,0,0,f4,⟨#[]⟩,t1,t2,t3,t4,⟨#[]⟩,true⟩:=HEL0.out.grow HW3.out;obtain ⟨-,-,-,-,-,d5,d6,d7,d8,d9,d10⟩:=hel3;simp only [Nat.zero_add] at d5 d6 d7 d8 d9 d10) | (go_at_call 48;refine (J1.out W.heap.size _ _ HO3.out).mono ?_;rintro e w9 ⟨rfl,hg9⟩))
 go_ret
 exact ⟨rfl,gb_trans HG.out (gb_trans HW3.out hg9)⟩
set_option maxRecDepth 100000 in
set_option maxHeartbeats 1600000 in
theorem tx_3_f (f4:ByteArray) (t1 t2 t3:Int) (t4:ByteArray) (q0:¬ f4=⟨#[48]⟩) (F T G U:List UInt8) (w:World) (ht:Tab w) (hG:[62,61]++F=G) (hU:[60]++T=U) (hGl:G.length<=1048611) (hUl:U.length<=1048611)
  (CF:∀w,Tab w->Calls Tryz.prog 45 #[.agg #[.int .i64 0,.int .i64 0,.int .i64 0,.string f4,.string ⟨#[]⟩]] w fun e w'=>e=.returned (.string ⟨F.toArray⟩)/\w.grownBy w' none)
  (CT:∀w,Tab w->Calls Tryz.prog 45 #[.agg #[.int .i64 t1,.int .i64 t2,.int .i64 t3,.string t4,.string ⟨#[]⟩]] w fun e w'=>e=.returned (.string ⟨T.toArray⟩)/\w.grownBy w' none) :
  Calls Tryz.prog 47 #[.agg #[.int .i64 0,.int .i64 0,.int .i64 0,.string f4,.string ⟨#[]⟩,.int .i64 t1,.int .i64 t2,.int .i64 t3,.string t4,.string ⟨#[]⟩,.bool false]] w fun e w'=>e=.returned (.string ⟨((G++([32]++U)):List UInt8).toArray⟩)/\w.grownBy w' none:=by
 have hinfo:=infoStr
 obtain ⟨i1,hj0,hjj⟩:=Option.map_eq_some_iff.1 hinfo
 simp only [Prod.mk.injEq] at hjj
 obtain ⟨hy0,hy1,hyb⟩:=hjj
 clear hinfo
 have HCF:Hid (∀w,Tab w->Calls Tryz.prog 45 #[.agg #[.int .i64 0,.int .i64 0,.int .i64 0,.string f4,.string ⟨#[]⟩]] w fun e w'=>e=.returned (.string ⟨F.toArray⟩)/\w.grownBy w' none):=CF
 have HCT:Hid (∀w,Tab w->Calls Tryz.prog 45 #[.agg #[.int .i64 t1,.int .i64 t2,.int .i64 t3,.string t4,.string ⟨#[]⟩]] w fun e w'=>e=.returned (.string ⟨T.toArray⟩)/\w.grownBy w' none):=CT
 have aG:∀wx,(Op.stringOp .add ⟨#[62,61]⟩ ⟨F.toArray⟩).run Tryz.prog wx=.ok (.string ⟨G.toArray⟩) wx:=fun wx=>by rw [<-hG];exact add_lists [62,61] F wx (by rw [<-hG] at hGl;simp at hGl ⊢;omega)
 have aU:∀wx,(Op.stringOp .add ⟨#[60]⟩ ⟨T.toArray⟩).run Tryz.prog wx=.ok (.string ⟨U.toArray⟩) wx:=fun wx=>by rw [<-hU];exact add_lists [60] T wx (by rw [<-hU] at hUl;simp at hUl ⊢;omega)
 have CL:Hid (∀w,Calls Tryz.prog 46 #[] w fun e w'=>e=.returned (.agg #[.int .i64 0,.int .i64 0,.int .i64 0,.string ⟨#[48]⟩,.string ⟨#[]⟩])/\w.grownBy w' none):=lowest_any
 have J1:Hid (∀(base:Nat) (v:Value) (w:World),w.ownsRow base 9 1 v 2 [.string ⟨G.toArray⟩,.string ⟨U.toArray⟩]->Calls Tryz.prog 48 #[v,.string ⟨#[32]⟩] w fun e w'=>e=.returned (.string ⟨(G++([32]++U)).toArray⟩)/\w.grownBy w' none):=fun base v w h=>by
  have e:Lib.join [G,U] [32]=G++([32]++U):=by simp [Lib.join,List.intercalate]
  have:=cJoin base v [⟨G.toArray⟩,⟨U.toArray⟩] ⟨#[32]⟩ w h (by simp) (by simp) (by
   show (Lib.join [G,U] [32]).length<=_
   rw [e];simp;omega)
  have e2:([(⟨G.toArray⟩:ByteArray),⟨U.toArray⟩].map (·.data.toList))=[G,U]:=rfl
  rw [e2] at this
  have e3:(⟨#[32]⟩:ByteArray).data.toList=[32]:=rfl
  rw [e3,e] at this
  exact this
 have HT0:Hid (Tab w):=ht
 have q:=bytes_no q0
 have q2:(f4.toList == [48])=false:=by have e:(⟨#[48]⟩:ByteArray).toList=[48]:=(by rw [Go.Lib.toList_data]);rw [e] at q;exact q
 clear ht hG hU hGl hUl CF CT
 go_enter Tryz.func47,Tryz.ntmps47
 go_wp2_with (fail)
 obtain ⟨A,hA⟩:∃A,w.heap.size=A:=⟨_,rfl⟩
 obtain ⟨W,hW⟩:∃W,w.alloc (.cells #[.int .i64 0,.int .i64 0,.int .i64 0,.string f4,.string ⟨#[]⟩,.int .i64 t1,.int .i64 t2,.int .i64 t3,.string t4,.string ⟨#[]⟩,.bool false] 37)=W:=⟨_,rfl⟩
 have HEL:Hid (EltAt W ⟨A,0,none⟩ ⟨0,0,0,f4,⟨#[]⟩,t1,t2,t3,t4,⟨#[]⟩,false⟩):=by
  show EltAt W ⟨A,0,none⟩ _
  rw [<-hW,<-hA];exact elt_row (heap_alloc_new w _)
 have HG:Hid (w.grownBy W none):=by show w.grownBy W none;rw [<-hW];exact gb_alloc (gb_refl w none) _
 have HEL0:Hid (EltAt W ⟨A,0,none⟩ ⟨0,0,0,f4,⟨#[]⟩,t1,t2,t3,t4,⟨#[]⟩,false⟩):=HEL.out
 try rw [hW]
 try rw [hA]
 clear hW hA
 obtain ⟨e0,e1,e2,e3,e4,-⟩:=HEL.out
 simp only [Nat.zero_add] at e1 e2 e3 e4
 go_region_held3 (fun w'=>w'.cell? ⟨A,0,none⟩=some (.int .i64 0)/\w'.cell? ⟨A,1,none⟩=some (.int .i64 0)/\w'.cell? ⟨A,2,none⟩=some (.int .i64 0)/\w'.cell? ⟨A,3,none⟩=some (.string f4)/\w'.cell? ⟨A,4,none⟩=some (.string ⟨#[]⟩)) ((first | exact keep5 (by assumption) (by assumption) | go_keep)) (first | (go_at_call 46;refine (CL.out _).mono ?_;rintro e w1 ⟨rfl,hg1⟩))
 have hgw:=gb_undrew hg1
 replace HEL:Hid (EltAt w1 ⟨A,0,none⟩ ⟨0,0,0,f4,⟨#[]⟩,t1,t2,t3,t4,⟨#[]⟩,false⟩):=HEL.out.grow hgw
 have HGW:Hid (W.grownBy w1 none):=hgw
 have HT1:Hid (Tab w1):=tab_grow HT0.out (gb_trans HG.out hgw)
 clear hg1 hgw e0 e1 e2 e3 e4
 obtain ⟨e0,e1,e2,e3,e4,e5,e6,e7,e8,e9,e10⟩:=HEL.out
 simp only [Nat.zero_add] at e1 e2 e3 e4 e5 e6 e7 e8 e9 e10
 go_wp2_with (first | (go_at_call_of 45 (Value.string f4);refine (HCF.out _ HT1.out).mono ?_;rintro e w2 ⟨rfl,hg2⟩) | (go_at_call_of 45 (Value.string t4);refine (HCT.out _ HTT3.out).mono ?_;rintro e w5 ⟨rfl,hg5⟩) | (at_builtin;refine wpList_append_own _ rfl _ _ 93 rfl W.heap.size 9 i1 (.string ⟨#[]⟩) 1 16 Tryz.underlying93 hj0 hy0 hy1 hyb rfl (by decide) _ 0 [] rfl (World.ownsRow_nil _ _ _ _) _ 1 1 [.string ⟨G.toArray⟩] rfl rfl (World.news_of_block (heap_alloc_new _ _)) (str_one _) (by unfold maxLen;omega) (by omega) (by have q1:=HGW.out.size;have q2:=hg2.size;simp;omega) ?_;intro v3 x3 hown3 hgrow3 _;obtain ⟨g3,cap3,rfl⟩:=form1 hown3;have HW3:Hid (W.grownBy x3 none):=gb_row0 (gb_alloc (gb_trans HGW.out hg2) _) hgrow3 (fun q hq=>by cases hq);have HO3:Hid (x3.ownsRow W.heap.size 9 1 (.slice (some ⟨g3,0,none⟩) (0+1) cap3) (0+1) ([]++[.string ⟨G.toArray⟩])):=hown3;have HTT3:Hid (Tab x3):=tab_grow HT0.out (gb_trans HG.out HW3.out);have hel3:EltAt x3 ⟨A,0,none⟩ ⟨0,0,0,f4,⟨#[]⟩,t1,t2,t3,t4,⟨#[]⟩,false⟩:=HEL0.out.grow HW3.out;obtain ⟨-,-,-,-,-,d5,d6,d7,d8,d9,d10⟩:=hel3;simp only [Nat.zero_add] at d5 d6 d7 d8 d9 d10) | (at_builtin;refine wpList_append_own _ rfl _ _ 93 rfl W.heap.size 9 i1 (.string ⟨#[]⟩) 1 16 Tryz.underlying93 hj0 hy0 hy1 hyb rfl (by decide) _ (0+1) ([]++[.string ⟨G.toArray⟩]) rfl ((own_keepV HO3.out hg5).alloc _) _ 1 1 [.string ⟨U.toArray⟩] rfl rfl (World.news_of_block (heap_alloc_new _ _)) (str_one _) (by unfold maxLen;omega) (by omega) (by have q1:=HW3.out.size;have q2:=hg5.size;simp;omega) ?_;intro v6 x6 hown6 hgrow6 _;obtain ⟨g6,cap6,rfl⟩:=form1 hown6;have HW6:Hid (W.grownBy x6 none):=gb_row0 (gb_alloc (gb_trans HW3.out hg5) _) hgrow6 (fun q hq=>(HO3.out.lt q hq).1);have HO6:Hid (x6.ownsRow W.heap.size 9 1 (.slice (some ⟨g6,0,none⟩) (0+1+1) cap6) (0+1+1) ([]++[.string ⟨G.toArray⟩]++[.string ⟨U.toArray⟩])):=hown6;have HTT6:Hid (Tab x6):=tab_grow HT0.out (gb_trans HG.out HW6.out);have hel6:EltAt x6 ⟨A,0,none⟩ ⟨0,0,0,f4,⟨#[]⟩,t1,t2,t3,t4,⟨#[]⟩,false⟩:=HEL0.out.grow HW6.out;obtain ⟨-,-,-,-,-,d5,d6,d7,d8,d9,d10⟩:=hel6;simp only [Nat.zero_add] at d5 d6 d7 d8 d9 d10) | (go_at_call 48;refine (J1.out W.heap.size _ _ HO6.out).mono ?_;rintro e w9 ⟨rfl,hg9⟩))
 go_ret
 exact ⟨rfl,gb_trans HG.out (gb_trans HW6.out hg9)⟩
theorem textOf_any (s:Sp) (w:World) (hs:NSp s) (ht:Tab w) :
  Calls Tryz.prog 47 #[.agg #[.int .i64 s.f1,.int .i64 s.f2,.int .i64 s.f3,.string s.f4,.string s.f5,.int .i64 s.t1,.int .i64 s.t2,.int .i64 s.t3,.string s.t4,.string s.t5,.bool s.o]] w fun e w'=>e=.returned (.string ⟨(tOf s).toArray⟩)/\w.grownBy w' none:=by
 obtain ⟨f1,f2,f3,f4,f5,t1,t2,t3,t4,t5,o⟩:=s
 obtain ⟨b1,b2,b3,b4,b5,c1,c2,c3,c4,c5,lf,lt,low⟩:=hs
 simp only at b1 b2 b3 b4 b5 c1 c2 c3 c4 c5 low
 subst b5 c5
 have CF:∀w,Tab w->Calls Tryz.prog 45 #[.agg #[.int .i64 f1,.int .i64 f2,.int .i64 f3,.string f4,.string ⟨#[]⟩]] w fun e w'=>e=.returned (.string ⟨(fromT ⟨f1,f2,f3,f4,⟨#[]⟩,t1,t2,t3,t4,⟨#[]⟩,o⟩).toArray⟩)/\w.grownBy w' none:=fun w h=>vtext_any f1 f2 f3 f4 ⟨#[]⟩ w h ⟨by omega,by omega⟩ ⟨by omega,by omega⟩ ⟨by omega,by omega⟩ (by omega) (by decide)
 have CT:∀w,Tab w->Calls Tryz.prog 45 #[.agg #[.int .i64 t1,.int .i64 t2,.int .i64 t3,.string t4,.string ⟨#[]⟩]] w fun e w'=>e=.returned (.string ⟨(toT ⟨f1,f2,f3,f4,⟨#[]⟩,t1,t2,t3,t4,⟨#[]⟩,o⟩).toArray⟩)/\w.grownBy w' none:=fun w h=>vtext_any t1 t2 t3 t4 ⟨#[]⟩ w h ⟨by omega,by omega⟩ ⟨by omega,by omega⟩ ⟨by omega,by omega⟩ (by omega) (by decide)
 have hR:tOf ⟨f1,f2,f3,f4,⟨#[]⟩,t1,t2,t3,t4,⟨#[]⟩,o⟩=if lowS ⟨f1,f2,f3,f4,⟨#[]⟩,t1,t2,t3,t4,⟨#[]⟩,o⟩=true then (if o=true then [62,61]++fromT ⟨f1,f2,f3,f4,⟨#[]⟩,t1,t2,t3,t4,⟨#[]⟩,o⟩ else ([62,61]++fromT ⟨f1,f2,f3,f4,⟨#[]⟩,t1,t2,t3,t4,⟨#[]⟩,o⟩)++([32]++([60]++toT ⟨f1,f2,f3,f4,⟨#[]⟩,t1,t2,t3,t4,⟨#[]⟩,o⟩))) else if o=true then [42] else [60]++toT ⟨f1,f2,f3,f4,⟨#[]⟩,t1,t2,t3,t4,⟨#[]⟩,o⟩:=rfl
 rw [hR]
 clear hR
 obtain ⟨F,hF⟩:∃F,fromT ⟨f1,f2,f3,f4,⟨#[]⟩,t1,t2,t3,t4,⟨#[]⟩,o⟩=F:=⟨_,rfl⟩
 obtain ⟨T,hT⟩:∃F,toT ⟨f1,f2,f3,f4,⟨#[]⟩,t1,t2,t3,t4,⟨#[]⟩,o⟩=F:=⟨_,rfl⟩
 obtain ⟨lo,hlo⟩:∃b,lowS ⟨f1,f2,f3,f4,⟨#[]⟩,t1,t2,t3,t4,⟨#[]⟩,o⟩=b:=⟨_,rfl⟩
 rw [hF] at CF lf ⊢
 rw [hT] at CT lt ⊢
 rw [hlo] at low ⊢
 clear hF hT hlo b1 b2 b3 b4 c1 c2 c3 c4
 have hGl:([62,61]++F).length<=1048611:=by simp;omega
 have hUl:([60]++T).length<=1048611:=by simp;omega
 cases lo with
 | false =>
  obtain ⟨rfl,rfl,rfl,rfl⟩:=low.1 rfl
  cases o with
  | true=>exact tx_n_t t1 t2 t3 t4 F T _ _ w ht rfl rfl hGl hUl CF CT
  | false=>exact tx_n_f t1 t2 t3 t4 F T _ _ w ht rfl rfl hGl hUl CF CT
 | true =>
  have hn:¬ (f1=0/\f2=0/\f3=0/\f4=⟨#[48]⟩):=fun h=>absurd (low.2 h) (by decide)
  by_cases q1:f1=0
  ·subst q1
   by_cases q2:f2=0
   ·subst q2
    by_cases q3:f3=0
    ·subst q3
     have q4:¬ f4=⟨#[48]⟩:=fun h=>hn ⟨rfl,rfl,rfl,h⟩
     cases o with
     | true=>exact tx_3_t f4 t1 t2 t3 t4 q4 F T _ _ w ht rfl rfl hGl hUl CF CT
     | false=>exact tx_3_f f4 t1 t2 t3 t4 q4 F T _ _ w ht rfl rfl hGl hUl CF CT
    ·cases o with
     | true=>exact tx_2_t f3 f4 t1 t2 t3 t4 q3 F T _ _ w ht rfl rfl hGl hUl CF CT
     | false=>exact tx_2_f f3 f4 t1 t2 t3 t4 q3 F T _ _ w ht rfl rfl hGl hUl CF CT
   ·cases o with
    | true=>exact tx_1_t f2 f3 f4 t1 t2 t3 t4 q2 F T _ _ w ht rfl rfl hGl hUl CF CT
    | false=>exact tx_1_f f2 f3 f4 t1 t2 t3 t4 q2 F T _ _ w ht rfl rfl hGl hUl CF CT
  ·cases o with
   | true=>exact tx_0_t f1 f2 f3 f4 t1 t2 t3 t4 q1 F T _ _ w ht rfl rfl hGl hUl CF CT
   | false=>exact tx_0_f f1 f2 f3 f4 t1 t2 t3 t4 q1 F T _ _ w ht rfl rfl hGl hUl CF CT
end Go.Proofs.YtonfldbigenfhaaGreatDoor
