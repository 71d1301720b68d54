import Derived.Test.YtbgnflcebafjjaaGreatDoorP39
import Derived.Test.YtbgnflcebafjjaaGreatDoorP43
import Derived.Test.YtbgnflcebafjjaaGreatDoorP42
import Derived.Test.YtbgnflcebafjjaaGreatDoorRows
import Derived.Test.YtbgnflcebafjjaaGreatDoorTie
import Derived.LaidLaws
import Derived.RowKitTokens
import Derived.Stop.ErrReads
import Derived.LaidSub
import Derived.LaidHandle
import Derived.Lib.LaidU8T
import Derived.Lib.LaidTab
namespace Go.Proofs.YtbgnflcebafjjaaGreatDoor
open Go.RowKit Go.Maps Go.WideMaps Go.Joins Go.Shelf
set_option linter.unusedVariables false
theorem nvd_of {w:World} {B P:Nat} {ns:List Tn} {m:Nat} {own:List Nat} {N c:Nat} {OV:Value} {xs:List Value} {ks:Nat->Value} (h:DtD w B P ns m own (.slice (some ⟨N,0,none⟩) ns.length c) OV xs ks):Nv w (.slice (some ⟨N,0,none⟩) ns.length c) N c ns:=by
 refine ⟨rfl,fun i hi=>?_⟩
 obtain ⟨h0,h1,h2,h3,h4,h5,-⟩:=h.node i hi
 exact ⟨ks i,h0,h1,h2,h3,h4,h5,NuS.of (h.kid i hi)⟩
set_option maxRecDepth 100000 in
set_option maxHeartbeats 3200000 in
theorem dPrint_any (s:ByteArray) (w:World) (h0:0 < w.heap.size) (hmx:s.size < 2 ^ 62) :
  Calls Tryz.prog 12 #[.string s] w (PnPost (rdToml s.data.toList) w):=by
 have CR:Hid (Calls Tryz.prog 8 #[.string s] w (RtPost (rdToml s.data.toList) w)):=dRead_any dHeader_any s w h0 hmx
 have HER:Hid (∀c p,rdToml s.data.toList=.error (c,p)->(c=1/\p=0)\/(2<=c/\c<=5)):=er_toml _
 have HFO:Hid (∀ns,rdToml s.data.toList=.ok ns->∀w' N c,w.grownBy w' none->Nv w' (.slice (some ⟨N,0,none⟩) ns.length c) N c ns->Calls Tryz.prog 21 #[.slice (some ⟨N,0,none⟩) ns.length c,.int .i64 0,.string ⟨#[]⟩,.string ⟨#[]⟩] w' fun e w''=>e=.returned (.string ⟨(fmT ns).toArray⟩)/\w'.grownBy w'' none):=fun ns h w' N c hg hnv=>by
  obtain ⟨T,own,W,hn⟩:=toml_tv _ ns h
  have F:Ef ns own:=⟨W,T.gt,T.nod,T.kdd,T.two,T.root,fun i hi=>by have:=(T.txt ns[i] (List.getElem_mem hi)).1;omega⟩
  have E:Edv w' N c ns own:=⟨hnv,W,T.gt,by omega,fun i hi=>(by
   have:=T.txt ns[i] (List.getElem_mem hi)
   omega),fun i hi=>(by
   have:=T.txt ns[i] (List.getElem_mem hi)
   omega),fun p q hq hp=>by
   have hql:=W.lt _ _ hq
   have h1:=(T.shp p q hq ns[q] (List.getElem?_eq_getElem hql)).par
   rw [kdAt_in hql]
   rw [hp] at h1
   rcases h1 with ⟨h1,-⟩ | ⟨-,-,h1⟩ | ⟨h1,-⟩
   ·exact absurd h1 (by decide)
   ·exact h1
   ·exact absurd h1 (by decide)⟩
  have h1:=dT_fmT F
  have h2:=dTable E F (fun p q hq hp=>by
   have hql:=W.lt _ _ hq
   have h1:=(T.shp p q hq ns[q] (List.getElem?_eq_getElem hql)).par
   rw [kdAt_in hql]
   rw [hp] at h1
   rcases h1 with ⟨-,-,h1⟩ | ⟨h1,-⟩ | ⟨h1,-⟩
   ·exact h1
   ·exact absurd h1 (by decide)
   ·exact absurd h1 (by decide)) ns.length 0 [] [] w' F.root.1 F.root.2 (by omega) (gb_refl _ _) (by simp) (by rw [h1];exact fmT_max F T hn)
  rw [h1] at h2
  exact h2
 obtain ⟨X,hX⟩:∃X,rdToml s.data.toList=X:=⟨_,rfl⟩
 rw [hX] at CR HER HFO ⊢
 clear hX
 go_enter Tryz.func12,Tryz.ntmps12
 go_wp2_with (first | (go_at_call 8;refine CR.out.mono ?_))
 rintro e w2 ⟨h1,h2,hg2⟩
 have HG2:Hid (w.grownBy w2 none):=hg2
 clear hg2
 match X,h1,h2,HER,HFO with
 | .ok ns,h1,_,_,HFO =>
  obtain ⟨N,c,OV,xs,ks,own,m,rfl,hD⟩:=h1 ns rfl
  have CF:Hid (Calls Tryz.prog 21 #[.slice (some ⟨N,0,none⟩) ns.length c,.int .i64 0,.string ⟨#[]⟩,.string ⟨#[]⟩] w2 fun e w'=>e=.returned (.string ⟨(fmT ns).toArray⟩)/\w2.grownBy w' none):=HFO.out ns rfl w2 N c HG2.out (nvd_of hD)
  clear h1 h2 hD
  go_wp2_with (first | (go_at_call 21;refine CF.out.mono ?_;rintro e w3 ⟨rfl,hg3⟩))
  refine bodyPost_ret (results_tmp3 (t:=2) (u:=3) (v:=4) rfl _ _ _) rfl ?_
  exact ⟨fun ns' hh=>(by injection hh with hh;subst hh;rfl),fun c p hh=>(by cases hh),gb_trans HG2.out hg3⟩
 | .error (c,p),_,h2,HER,_ =>
  obtain rfl:=h2 c p rfl
  have hrg:=HER.out c p rfl
  have hc0:(c != 0)=true:=by
   rw [bne_iff_ne]
   omega
  clear h1 h2 hrg
  go_wp2
  refine bodyPost_ret (results_tmp3 (t:=2) (u:=3) (v:=4) rfl _ _ _) rfl ?_
  exact ⟨fun ns' hh=>(by cases hh),fun c' p' hh=>(by injection hh with hh;injection hh with e1 e2;subst e1 e2;rfl),HG2.out⟩
set_option maxRecDepth 100000 in
set_option maxHeartbeats 3200000 in
theorem tomlPrintsLaw (s:ByteArray) (E:Int->TypeId × Value) (b:Int->Addr) (w:World) (G:Gl w w.heap.size E) (S:Sn w E b) (TB:Tab w) (h0:0 < w.heap.size) (hs:s.size<=140737488351232) :
  Calls Tryz.prog 4 #[.string s] w fun e w'=>e=.returned (.bool true)/\w.grownBy w' none:=by
 obtain ⟨T,hT⟩:∃T:ByteArray,⟨(ft (rdToml s.data.toList)).toArray⟩=T:=⟨_,rfl⟩
 obtain ⟨n,hn⟩:∃n,fe (rdToml s.data.toList)=n:=⟨_,rfl⟩
 obtain ⟨pl,hpl⟩:∃n,fp (rdToml s.data.toList)=n:=⟨_,rfl⟩
 have CP:Hid (Calls Tryz.prog 11 #[.string s] w fun e w''=>e=.returned (.tuple #[.string T,.int .i64 n,.int .i64 (pl:Nat)])/\w.grownBy w'' none):=(tPrint_any s E b w G S TB (by omega)).mono fun e w'' h=>by
  have:=pn_val h
  rw [hT,hn,hpl] at this
  exact this
 have CD:Hid (∀w',w.grownBy w' none->Calls Tryz.prog 12 #[.string s] w' fun e w''=>e=.returned (.tuple #[.string T,.int .i64 n,.int .i64 (pl:Nat)])/\w'.grownBy w'' none):=fun w' hg=>(dPrint_any s w' (Nat.lt_of_lt_of_le h0 hg.size) (by omega)).mono fun e w'' h=>by
  have:=pn_val h
  rw [hT,hn,hpl] at this
  exact this
 have CU:Hid (∀(w:World) (n:Int),Calls Tryz.prog 10 #[.int .i64 n] w fun e w'=>e=.returned (.int .i64 n)/\w'=w):=lNum_any
 clear G S TB hT hn hpl
 go_enter Tryz.func4,Tryz.ntmps4
 go_wp2_with (first | (go_at_call 11;refine CP.out.mono ?_))
 first | rintro e w1 rfl hg1 | rintro e w1 ⟨rfl,hg1⟩
 have HG1:Hid (w.grownBy w1 none):=hg1
 clear hg1
 go_wp2_with (first | (go_at_call 12;refine (CD.out _ HG1.out).mono ?_))
 first | rintro e w2 rfl hg2 | rintro e w2 ⟨rfl,hg2⟩
 have HG2:Hid (w.grownBy w2 none):=gb_trans HG1.out hg2
 clear hg2
 go_wp2_with (first | (go_at_call 10;refine (CU.out _ _).mono ?_;rintro e w' ⟨rfl,rfl⟩))
 go_ret
 exact ⟨rfl,HG2.out⟩
end Go.Proofs.YtbgnflcebafjjaaGreatDoor
namespace Go.Proofs.YtbgnflcebafjjaaGreatDoor
open Go.RowKit Go.Joins Go.ChangeShapes Go.WideShapes
set_option linter.unusedVariables false
def u8R:Shelf.Ren:=⟨fun x=>x,fun x=>if x=5 then 5 else if x=119 then 213 else if x=138 then 215 else 216,fun x=>if x=3 then 7 else 8⟩
theorem u8T:U8Types Tryz.prog u8R:=⟨by kernel_rfl,by kernel_rfl,by kernel_rfl,by kernel_rfl⟩
theorem u8X:U8Extra Tryz.prog u8R:=⟨by kernel_rfl,by kernel_rfl,by kernel_rfl,by kernel_rfl,by kernel_rfl,by kernel_rfl,by kernel_rfl⟩
theorem first_is:(Rows.laid_unicode_utf8_first:DataW Unit)=Lib.firstData:=by kernel_rfl
theorem accept_is:(Rows.laid_unicode_utf8_acceptRanges:DataW Unit)=Lib.acceptData:=by kernel_rfl
theorem es_star : "*" ++ "errors.errorString" = "*errors.errorString":=by decide
theorem es_row (u:TypeId) (h:Tryz.prog.typeName? 3 u=some "*errors.errorString"):u=235 :=
 typeName_ptr_named (nm := "errors.errorString") (by rw [es_star];kernel_rfl) (by kernel_rfl) (by decide) u (by rw [es_star];exact h)
theorem es_cells:Tryz.prog.cellsOf 237=1:=by kernel_rfl
theorem st_cells:Tryz.prog.cellsOf 9=1:=by kernel_rfl
theorem g_lo:Tryz.prog.globalNamed "pantry/toml.errLong"=some 0:=by kernel_rfl
theorem g_te:Tryz.prog.globalNamed "pantry/toml.errText"=some 5:=by kernel_rfl
theorem g_ra:Tryz.prog.globalNamed "pantry/toml.errRange"=some 1:=by kernel_rfl
theorem g_ma:Tryz.prog.globalNamed "pantry/toml.errMany"=some 2:=by kernel_rfl
theorem g_tw:Tryz.prog.globalNamed "pantry/toml.errTwice"=some 3:=by kernel_rfl
theorem g_ty:Tryz.prog.globalNamed "errors.errorType"=some 4:=by kernel_rfl
theorem y_lo:(Tryz.prog.globals[0]?).map (·.type)=some 43:=by kernel_rfl
theorem y_te:(Tryz.prog.globals[5]?).map (·.type)=some 43:=by kernel_rfl
theorem y_ra:(Tryz.prog.globals[1]?).map (·.type)=some 43:=by kernel_rfl
theorem y_ma:(Tryz.prog.globals[2]?).map (·.type)=some 43:=by kernel_rfl
theorem y_tw:(Tryz.prog.globals[3]?).map (·.type)=some 43:=by kernel_rfl
theorem er_one:∀ty,ty < Tryz.prog.types.size->Tryz.prog.rowNamed ty [101,114,114,111,114]=true->ty=43:=by
 have h:(List.range Tryz.prog.types.size).all (fun t=>!(Tryz.prog.rowNamed t [101,114,114,111,114]) || t == 43)=true:=by kernel_rfl
 intro ty hty hr
 have:=List.all_eq_true.1 h ty (List.mem_range.2 hty)
 rw [hr] at this
 simpa using this
theorem rt_is:(Tryz.prog.cutTypes.find? (·.1 == "internal/reflectlite.rtype")).map (·.2)=some 139:=by kernel_rfl
theorem gl_size:Tryz.prog.globals.size=14:=by kernel_rfl
set_option maxRecDepth 100000 in
theorem sent_five {W:World} (h:laidMet Tryz.prog [("pantry/toml.errLong",Rows.laid_pantry_toml_errLong),("pantry/toml.errText",Rows.laid_pantry_toml_errText),("pantry/toml.errRange",Rows.laid_pantry_toml_errRange),("pantry/toml.errMany",Rows.laid_pantry_toml_errMany),("pantry/toml.errTwice",Rows.laid_pantry_toml_errTwice)] W) :
  ∃(b:Int->Addr),(∀k,1<=k->k<=5->∃cs t,W.heap[(b k).block]?=some (.cells cs t (0,0)))/\(∀k m,1<=k->k<=5->1<=m->m<=5->b k=b m->k=m) ∧
   W.cell? ⟨0,0,none⟩=some (.iface 235 (.pointer (some (b 1))))/\W.cell? ⟨5,0,none⟩=some (.iface 235 (.pointer (some (b 2))))/\W.cell? ⟨1,0,none⟩=some (.iface 235 (.pointer (some (b 3))))/\W.cell? ⟨2,0,none⟩=some (.iface 235 (.pointer (some (b 4))))/\W.cell? ⟨3,0,none⟩=some (.iface 235 (.pointer (some (b 5)))):=by
 obtain ⟨ps,⟨g1,t1,cs1,f1,p1,q1,hg1,ht1,hv1,hd1,⟨g2,t2,cs2,f2,p2,q2,hg2,ht2,hv2,hd2,⟨g3,t3,cs3,f3,p3,q3,hg3,ht3,hv3,hd3,⟨g4,t4,cs4,f4,p4,q4,hg4,ht4,hv4,hd4,⟨g5,t5,cs5,f5,p5,q5,hg5,ht5,hv5,hd5,hq5,e5⟩,e4⟩,e3⟩,e2⟩,e1⟩,hnd,hrows⟩:=h
 obtain rfl:=Option.some.inj (g_lo.symm.trans hg1)
 obtain rfl:=Option.some.inj (g_te.symm.trans hg2)
 obtain rfl:=Option.some.inj (g_ra.symm.trans hg3)
 obtain rfl:=Option.some.inj (g_ma.symm.trans hg4)
 obtain rfl:=Option.some.inj (g_tw.symm.trans hg5)
 obtain rfl:=Option.some.inj (y_lo.symm.trans ht1)
 obtain rfl:=Option.some.inj (y_te.symm.trans ht2)
 obtain rfl:=Option.some.inj (y_ra.symm.trans ht3)
 obtain rfl:=Option.some.inj (y_ma.symm.trans ht4)
 obtain rfl:=Option.some.inj (y_tw.symm.trans ht5)
 have hq5':q5=[]:=hq5
 subst hq5' e5 e4 e3 e2 e1
 obtain ⟨l1⟩:=cs1
 obtain ⟨l2⟩:=cs2
 obtain ⟨l3⟩:=cs3
 obtain ⟨l4⟩:=cs4
 obtain ⟨l5⟩:=cs5
 have ok1:∀u v,l1=[.iface u v]->Value.okWide Tryz.prog W .any 0 u v:=fun u v e=>by
  subst e
  exact (hrows 0 0 (by simp [MemPlace.row])).2 u v (by simpa using World.var?_cell hg1 hv1 0)
 have ok2:∀u v,l2=[.iface u v]->Value.okWide Tryz.prog W .any 0 u v:=fun u v e=>by
  subst e
  exact (hrows 5 0 (by simp [MemPlace.row])).2 u v (by simpa using World.var?_cell hg2 hv2 0)
 have ok3:∀u v,l3=[.iface u v]->Value.okWide Tryz.prog W .any 0 u v:=fun u v e=>by
  subst e
  exact (hrows 1 0 (by simp [MemPlace.row])).2 u v (by simpa using World.var?_cell hg3 hv3 0)
 have ok4:∀u v,l4=[.iface u v]->Value.okWide Tryz.prog W .any 0 u v:=fun u v e=>by
  subst e
  exact (hrows 2 0 (by simp [MemPlace.row])).2 u v (by simpa using World.var?_cell hg4 hv4 0)
 have ok5:∀u v,l5=[.iface u v]->Value.okWide Tryz.prog W .any 0 u v:=fun u v e=>by
  subst e
  exact (hrows 3 0 (by simp [MemPlace.row])).2 u v (by simpa using World.var?_cell hg5 hv5 0)
 obtain ⟨a1,s1,rfl,-,-,-,rfl⟩:=errorString_of_trod Tryz.underlying43 es_row Tryz.underlying235 Tryz.underlying237 rfl rfl Tryz.underlying9 es_cells st_cells hd1 ok1
 obtain ⟨a2,s2,rfl,-,-,-,rfl⟩:=errorString_of_trod Tryz.underlying43 es_row Tryz.underlying235 Tryz.underlying237 rfl rfl Tryz.underlying9 es_cells st_cells hd2 ok2
 obtain ⟨a3,s3,rfl,-,-,-,rfl⟩:=errorString_of_trod Tryz.underlying43 es_row Tryz.underlying235 Tryz.underlying237 rfl rfl Tryz.underlying9 es_cells st_cells hd3 ok3
 obtain ⟨a4,s4,rfl,-,-,-,rfl⟩:=errorString_of_trod Tryz.underlying43 es_row Tryz.underlying235 Tryz.underlying237 rfl rfl Tryz.underlying9 es_cells st_cells hd4 ok4
 obtain ⟨a5,s5,rfl,-,-,-,rfl⟩:=errorString_of_trod Tryz.underlying43 es_row Tryz.underlying235 Tryz.underlying237 rfl rfl Tryz.underlying9 es_cells st_cells hd5 ok5
 have b1:=(hrows a1.block a1.off (by simp [MemPlace.row])).1
 have b2:=(hrows a2.block a2.off (by simp [MemPlace.row])).1
 have b3:=(hrows a3.block a3.off (by simp [MemPlace.row])).1
 have b4:=(hrows a4.block a4.off (by simp [MemPlace.row])).1
 have b5:=(hrows a5.block a5.off (by simp [MemPlace.row])).1
 have c1:=World.var?_cell hg1 hv1 0
 have c2:=World.var?_cell hg2 hv2 0
 have c3:=World.var?_cell hg3 hv3 0
 have c4:=World.var?_cell hg4 hv4 0
 have c5:=World.var?_cell hg5 hv5 0
 have n12:a1 ≠ a2:=by rintro rfl;simp [MemPlace.row] at hnd
 have n13:a1 ≠ a3:=by rintro rfl;simp [MemPlace.row] at hnd
 have n14:a1 ≠ a4:=by rintro rfl;simp [MemPlace.row] at hnd
 have n15:a1 ≠ a5:=by rintro rfl;simp [MemPlace.row] at hnd
 have n23:a2 ≠ a3:=by rintro rfl;simp [MemPlace.row] at hnd
 have n24:a2 ≠ a4:=by rintro rfl;simp [MemPlace.row] at hnd
 have n25:a2 ≠ a5:=by rintro rfl;simp [MemPlace.row] at hnd
 have n34:a3 ≠ a4:=by rintro rfl;simp [MemPlace.row] at hnd
 have n35:a3 ≠ a5:=by rintro rfl;simp [MemPlace.row] at hnd
 have n45:a4 ≠ a5:=by rintro rfl;simp [MemPlace.row] at hnd
 refine ⟨fun k=>if k=1 then a1 else if k=2 then a2 else if k=3 then a3 else if k=4 then a4 else a5,fun k h1 h5=>?_,fun k m h1 h5 h1' h5'=>?_,by simpa using c1,by simpa using c2,by simpa using c3,by simpa using c4,by simpa using c5⟩
 ·have hk:k=1\/k=2\/k=3\/k=4\/k=5:=by omega
  rcases hk with rfl | rfl | rfl | rfl | rfl
  ·exact b1
  ·exact b2
  ·exact b3
  ·exact b4
  ·exact b5
 ·have hk:k=1\/k=2\/k=3\/k=4\/k=5:=by omega
  have hm:m=1\/m=2\/m=3\/m=4\/m=5:=by omega
  rcases hk with rfl | rfl | rfl | rfl | rfl <;> rcases hm with rfl | rfl | rfl | rfl | rfl <;> simp [n12,n13,n14,n15,n23,n24,n25,n34,n35,n45,n12.symm,n13.symm,n14.symm,n15.symm,n23.symm,n24.symm,n25.symm,n34.symm,n35.symm,n45.symm]
theorem lt_cell {W:World} {g k:Nat} {v:Value} (h:W.cell? ⟨g,k,none⟩=some v):g < W.heap.size:=block_lt_of_cell h
set_option maxRecDepth 100000 in
theorem tomlLaid {W:World} (h:laidMetH Tryz.prog Rows.tomlParsesRow.laid W):∃(E:Int->TypeId × Value) (b:Int->Addr),Gl W W.heap.size E/\Sn W E b:=by
 obtain ⟨hL,hH⟩:=laidMetH_iff.1 h
 have h5:laidMet Tryz.prog [("pantry/toml.errLong",Rows.laid_pantry_toml_errLong),("pantry/toml.errText",Rows.laid_pantry_toml_errText),("pantry/toml.errRange",Rows.laid_pantry_toml_errRange),("pantry/toml.errMany",Rows.laid_pantry_toml_errMany),("pantry/toml.errTwice",Rows.laid_pantry_toml_errTwice)] W:=hL.filter (fun x=>x.1 == "pantry/toml.errLong" || x.1 == "pantry/toml.errText" || x.1 == "pantry/toml.errRange" || x.1 == "pantry/toml.errMany" || x.1 == "pantry/toml.errTwice")
 have ht:laidMet Tryz.prog [("unicode/utf8.acceptRanges",Rows.laid_unicode_utf8_acceptRanges),("unicode/utf8.first",Rows.laid_unicode_utf8_first)] W:=hL.filter (fun x=>x.1 == "unicode/utf8.acceptRanges" || x.1 == "unicode/utf8.first")
 obtain ⟨b,b1,b2,c1,c2,c3,c4,c5⟩:=sent_five h5
 rw [first_is,accept_is] at ht
 have tabs:Lib.Utf8Tabs 7 8 W:=utf8Tabs_of_readsT u8T u8X (Lib.laidMet.reads ht (.tail _ (.head _))) (Lib.laidMet.reads ht (.head _))
 have hh:=hH ("errors.errorType",Rows.laid_errors_errorType) (by exact .head _)
 obtain ⟨name,u,ty,e1,e2,e3,e4,e5⟩:=hh
 obtain rfl:=Option.some.inj (rt_is.symm.trans e2)
 have en:name=[101,114,114,111,114]:=(Option.some.inj e1).symm
 rw [en] at e4
 obtain rfl:=er_one ty e3 e4
 have cty:=World.var?_cell g_ty e5 0
 refine ⟨fun k=>(235,.pointer (some (b k))),b,⟨⟨c2,c3,c4,c5⟩,⟨lt_cell c2,lt_cell c3,lt_cell c4,lt_cell c5⟩,tabs,?_,?_⟩,⟨fun k _ _=>rfl,b1,b2,?_,c1⟩⟩
 ·exact lt_cell (tabs.1 0 (by omega))
 ·exact lt_cell (tabs.2 0 (by omega)).1
 ·rw [cty]
  unfold typeHandle
  rw [gl_size]
  rfl
theorem own:ownKnob Tryz.prog.godebug=none:=by kernel_rfl
def litV {H:Type}:DataW H->Value
 | .lit (.int k n)=>.int k n
 | _=>.bool false
def rowV {H:Type}:DataW H->Array Value
 | .agg ps=>(ps.flatMap fun d=>match d with | .agg qs=>qs.map litV | d=>[litV d]).toArray
 | _=>#[]
def sentS {H:Type}:DataW H->ByteArray
 | .iface _ (.ptr (.agg [.lit (.string l)]))=>⟨l.toArray⟩
 | _=>⟨#[]⟩
def lowG (P:Program):Nat:=(World.holding P default ⟨#[],#[],[]⟩).heap.size
def sentO (d:DataW Unit):Obj:=.cells #[.string (sentS d)] 237 (0,0)
def sentC (P:Program) (k:Nat) (t:TypeId):Obj:=.cells #[.iface 235 (.pointer (some ⟨lowG P+k,0,none⟩))] t (0,0)
def laidWorld (P:Program) (os:Os):World :=
 let w0:=World.holding P os ⟨#[sentO Rows.laid_strconv_ErrRange,sentO Rows.laid_strconv_ErrSyntax,sentO Rows.laid_pantry_toml_errLong,sentO Rows.laid_pantry_toml_errText,sentO Rows.laid_pantry_toml_errRange,sentO Rows.laid_pantry_toml_errMany,sentO Rows.laid_pantry_toml_errTwice],#[],[]⟩
 { w0 with heap:=((((((((((((w0.heap.setIfInBounds 12 (.cells (rowV (Rows.laid_math_bits_deBruijn32tab:DataW Unit)) 238 (0,0))).setIfInBounds 13 (.cells (rowV (Rows.laid_math_bits_deBruijn64tab:DataW Unit)) 239 (0,0))).setIfInBounds 9 (.cells (rowV (Rows.laid_internal_strconv_uint64pow10:DataW Unit)) 227 (0,0))).setIfInBounds 8 (.cells (rowV (Rows.laid_unicode_utf8_acceptRanges:DataW Unit)) 216 (0,0))).setIfInBounds 7 (.cells (rowV Rows.laid_unicode_utf8_first) 213 (0,0))).setIfInBounds 4 (.cells #[.iface 139 (.agg #[.pointer (some ⟨14,43,none⟩)])] 99 (0,0))).setIfInBounds 11 (sentC P 0 43)).setIfInBounds 10 (sentC P 1 43)).setIfInBounds 0 (sentC P 2 43)).setIfInBounds 5 (sentC P 3 43)).setIfInBounds 1 (sentC P 4 43)).setIfInBounds 2 (sentC P 5 43)).setIfInBounds 3 (sentC P 6 43) }
end Go.Proofs.YtbgnflcebafjjaaGreatDoor
