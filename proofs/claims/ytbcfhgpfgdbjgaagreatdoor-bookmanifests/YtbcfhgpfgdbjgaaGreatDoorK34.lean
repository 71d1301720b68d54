import Derived.Test.YtbcfhgpfgdbjgaaGreatDoorK29
import Derived.Test.YtbcfhgpfgdbjgaaGreatDoorTie
import Derived.LaidLaws
import Derived.Stop.ErrReads
import Derived.LaidHandle
import Derived.Lib.LaidU8T
import Derived.Lib.LaidTab
set_option linter.all false
set_option maxRecDepth 100000
set_option maxHeartbeats 0
open Go.Proofs.Tryz
namespace Go.Proofs.YtbcfhgpfgdbjgaaGreatDoor
open Go.RowKit Go.Joins Go.ChangeShapes Go.WideShapes
variable{W:World}
def u8R:Shelf.Ren:=⟨fun x=>x,fun x=>if x=5 then 5 else if x=119 then 293 else if x=138 then 295 else 296,fun x=>if x=3 then 6 else 7⟩
theorem u8T:U8Types prog u8R:=⟨by kernel_rfl,by kernel_rfl,by kernel_rfl,by kernel_rfl⟩
theorem u8X:U8Extra prog u8R:=⟨by kernel_rfl,by kernel_rfl,by kernel_rfl,by kernel_rfl,by kernel_rfl,by kernel_rfl,by kernel_rfl⟩
theorem akm:(Rows.laid_unicode_utf8_first:DataW Unit)=Lib.firstData:=by kernel_rfl
theorem akn:(Rows.laid_unicode_utf8_acceptRanges:DataW Unit)=Lib.acceptData:=by kernel_rfl
theorem aas : "*" ++ "errors.errorString" = "*errors.errorString":=by decide
theorem Hz(u:TypeId)(h:prog.typeName? 3 u=some "*errors.errorString"):u=336 :=
 typeName_ptr_named (nm := "errors.errorString") (by rw[aas];kernel_rfl) (by kernel_rfl) (by decide) u (by rw[aas];exact h)
theorem H8:prog.cellsOf 338=1:=by kernel_rfl
theorem H9:prog.cellsOf 9=1:=by kernel_rfl
theorem ako:prog.globalNamed "pantry/toml.errLong"=some 0:=by kernel_rfl
theorem akp:prog.globalNamed "pantry/toml.errText"=some 5:=by kernel_rfl
theorem akq:prog.globalNamed "pantry/toml.errRange"=some 1:=by kernel_rfl
theorem akr:prog.globalNamed "pantry/toml.errMany"=some 2:=by kernel_rfl
theorem aks:prog.globalNamed "pantry/toml.errTwice"=some 3:=by kernel_rfl
theorem akt:prog.globalNamed "errors.errorType"=some 4:=by kernel_rfl
theorem aku:(prog.globals[0]?).map (·.type)=some 75:=by kernel_rfl
theorem akv:(prog.globals[5]?).map (·.type)=some 75:=by kernel_rfl
theorem akw:(prog.globals[1]?).map (·.type)=some 75:=by kernel_rfl
theorem akx:(prog.globals[2]?).map (·.type)=some 75:=by kernel_rfl
theorem aky:(prog.globals[3]?).map (·.type)=some 75:=by kernel_rfl
theorem akz:∀ty,ty<prog.types.size->prog.rowNamed ty [101,114,114,111,114]=true->ty=75:=by
 have h:(List.range prog.types.size).all (fun t=>!(prog.rowNamed t [101,114,114,111,114]) || t == 75)=true:=by kernel_rfl
 intro ty hty hr;have:=List.all_eq_true.1 h ty (List.mem_range.2 hty);rw[hr]at this;simpa using this
theorem akA:(prog.cutTypes.find? (·.1 == "internal/reflectlite.rtype")).map (·.2)=some 179:=by kernel_rfl
theorem akB:prog.globals.size=14:=by kernel_rfl
theorem akC(h:laidMet prog [("pantry/toml.errLong",Rows.laid_pantry_toml_errLong),("pantry/toml.errText",Rows.laid_pantry_toml_errText),("pantry/toml.errRange",Rows.laid_pantry_toml_errRange),("pantry/toml.errMany",Rows.laid_pantry_toml_errMany),("pantry/toml.errTwice",Rows.laid_pantry_toml_errTwice)] W) :
  ∃(b:Int->Addr),(∀k,1<=k->k<=5->∃cs t,W.heap[(b k).block]?=some (.cells cs t (0,0)))/\(∀k m,1<=k->k<=5->1<=m->m<=5->b k=b m->k=m) ∧
   W.cell? ⟨0,0,none⟩=some (.iface 336 (.pointer (some (b 1))))/\W.cell? ⟨5,0,none⟩=some (.iface 336 (.pointer (some (b 2))))/\W.cell? ⟨1,0,none⟩=some (.iface 336 (.pointer (some (b 3))))/\W.cell? ⟨2,0,none⟩=some (.iface 336 (.pointer (some (b 4))))/\W.cell? ⟨3,0,none⟩=some (.iface 336 (.pointer (some (b 5)))):=by
 obtain⟨ps,⟨g1,t1,cs1,f1,p1,q1,hg1,ht1,hv1,hd1,⟨g2,t2,cs2,f2,p2,q2,hg2,ht2,hv2,hd2,⟨g3,t3,cs3,f3,p3,q3,hg3,ht3,hv3,hd3,⟨g4,t4,cs4,f4,p4,q4,hg4,qR,hv4,hd4,⟨g5,t5,cs5,f5,p5,q5,hg5,yz,hv5,hd5,hq5,e5⟩,e4⟩,e3⟩,e2⟩,e1⟩,hnd,hrows⟩:=h;obtain rfl:=Option.some.inj (ako.symm.trans hg1);obtain rfl:=Option.some.inj (akp.symm.trans hg2);obtain rfl:=Option.some.inj (akq.symm.trans hg3);obtain rfl:=Option.some.inj (akr.symm.trans hg4);obtain rfl:=Option.some.inj (aks.symm.trans hg5);obtain rfl:=Option.some.inj (aku.symm.trans ht1);obtain rfl:=Option.some.inj (akv.symm.trans ht2);obtain rfl:=Option.some.inj (akw.symm.trans ht3);obtain rfl:=Option.some.inj (akx.symm.trans qR);obtain rfl:=Option.some.inj (aky.symm.trans yz);have akD:q5=[]:=hq5;subst akD e5 e4 e3 e2 e1;obtain⟨l1⟩:=cs1;obtain⟨l2⟩:=cs2;obtain⟨l3⟩:=cs3;obtain⟨l4⟩:=cs4;obtain⟨l5⟩:=cs5;have ok1:∀u v,l1=[.iface u v]->Value.okWide prog W .any 0 u v:=fun u v e=>by
  subst e;exact(hrows 0 0 (by simp[MemPlace.row])).2 u v (by simpa using World.var?_cell hg1 hv1 0)
 have ok2:∀u v,l2=[.iface u v]->Value.okWide prog W .any 0 u v:=fun u v e=>by
  subst e;exact(hrows 5 0 (by simp[MemPlace.row])).2 u v (by simpa using World.var?_cell hg2 hv2 0)
 have ok3:∀u v,l3=[.iface u v]->Value.okWide prog W .any 0 u v:=fun u v e=>by
  subst e;exact(hrows 1 0 (by simp[MemPlace.row])).2 u v (by simpa using World.var?_cell hg3 hv3 0)
 have ok4:∀u v,l4=[.iface u v]->Value.okWide prog W .any 0 u v:=fun u v e=>by
  subst e;exact(hrows 2 0 (by simp[MemPlace.row])).2 u v (by simpa using World.var?_cell hg4 hv4 0)
 have ok5:∀u v,l5=[.iface u v]->Value.okWide prog W .any 0 u v:=fun u v e=>by
  subst e;exact(hrows 3 0 (by simp[MemPlace.row])).2 u v (by simpa using World.var?_cell hg5 hv5 0)
 obtain⟨a1,s1,rfl,-,-,-,rfl⟩:=errorString_of_trod underlying75 Hz underlying336 underlying338 rfl rfl underlying9 H8 H9 hd1 ok1;obtain⟨a2,s2,rfl,-,-,-,rfl⟩:=errorString_of_trod underlying75 Hz underlying336 underlying338 rfl rfl underlying9 H8 H9 hd2 ok2;obtain⟨a3,s3,rfl,-,-,-,rfl⟩:=errorString_of_trod underlying75 Hz underlying336 underlying338 rfl rfl underlying9 H8 H9 hd3 ok3;obtain⟨a4,s4,rfl,-,-,-,rfl⟩:=errorString_of_trod underlying75 Hz underlying336 underlying338 rfl rfl underlying9 H8 H9 hd4 ok4;obtain⟨a5,s5,rfl,-,-,-,rfl⟩:=errorString_of_trod underlying75 Hz underlying336 underlying338 rfl rfl underlying9 H8 H9 hd5 ok5;have b1:=(hrows a1.block a1.off (by simp[MemPlace.row])).1;have b2:=(hrows a2.block a2.off (by simp[MemPlace.row])).1
 have b3:=(hrows a3.block a3.off (by simp[MemPlace.row])).1;have b4:=(hrows a4.block a4.off (by simp[MemPlace.row])).1;have b5:=(hrows a5.block a5.off (by simp[MemPlace.row])).1;have c1:=World.var?_cell hg1 hv1 0;have c2:=World.var?_cell hg2 hv2 0;have c3:=World.var?_cell hg3 hv3 0;have c4:=World.var?_cell hg4 hv4 0;have c5:=World.var?_cell hg5 hv5 0;have n12:a1≠a2:=by rintro rfl;simp[MemPlace.row]at hnd
 have n13:a1≠a3:=by rintro rfl;simp[MemPlace.row]at hnd
 have n14:a1≠a4:=by rintro rfl;simp[MemPlace.row]at hnd
 have n15:a1≠a5:=by rintro rfl;simp[MemPlace.row]at hnd
 have n23:a2≠a3:=by rintro rfl;simp[MemPlace.row]at hnd
 have n24:a2≠a4:=by rintro rfl;simp[MemPlace.row]at hnd
 have n25:a2≠a5:=by rintro rfl;simp[MemPlace.row]at hnd
 have n34:a3≠a4:=by rintro rfl;simp[MemPlace.row]at hnd
 have n35:a3≠a5:=by rintro rfl;simp[MemPlace.row]at hnd
 have n45:a4≠a5:=by rintro rfl;simp[MemPlace.row]at hnd
 refine⟨fun k=>if k=1 then a1 else if k=2 then a2 else if k=3 then a3 else if k=4 then a4 else a5,fun k h1 h5=>?_,fun k m h1 h5 h1' h5'=>?_,by simpa using c1,by simpa using c2,by simpa using c3,by simpa using c4,by simpa using c5⟩
 ·have hk:k=1\/k=2\/k=3\/k=4\/k=5:=by omega
  rcases hk with rfl|rfl|rfl|rfl|rfl
  ·exact b1
  ·exact b2
  ·exact b3
  ·exact b4
  ·exact b5
 ·have hk:k=1\/k=2\/k=3\/k=4\/k=5:=by omega
  have hm:m=1\/m=2\/m=3\/m=4\/m=5:=by omega
  rcases hk with rfl|rfl|rfl|rfl|rfl<;>rcases hm with rfl|rfl|rfl|rfl|rfl<;>simp[n12,n13,n14,n15,n23,n24,n25,n34,n35,n45,n12.symm,n13.symm,n14.symm,n15.symm,n23.symm,n24.symm,n25.symm,n34.symm,n35.symm,n45.symm]
theorem Ec{g k:Nat}{v:Value}(h:W.cell? ⟨g,k,none⟩=some v):g<W.heap.size:=block_lt_of_cell h
theorem aaD(h:laidMetH prog Rows.bookManifestsRow.laid W):∃(E:Int->TypeId × Value) (b:Int->Addr),Gl W W.heap.size E/\Sn W E b:=by
 obtain⟨hL,hH⟩:=laidMetH_iff.1 h;have h5:laidMet prog [("pantry/toml.errLong",Rows.laid_pantry_toml_errLong),("pantry/toml.errText",Rows.laid_pantry_toml_errText),("pantry/toml.errRange",Rows.laid_pantry_toml_errRange),("pantry/toml.errMany",Rows.laid_pantry_toml_errMany),("pantry/toml.errTwice",Rows.laid_pantry_toml_errTwice)] W:=hL.filter (fun x=>x.1 == "pantry/toml.errLong" || x.1 == "pantry/toml.errText" || x.1 == "pantry/toml.errRange" || x.1 == "pantry/toml.errMany" || x.1 == "pantry/toml.errTwice");have ht:laidMet prog [("unicode/utf8.acceptRanges",Rows.laid_unicode_utf8_acceptRanges),("unicode/utf8.first",Rows.laid_unicode_utf8_first)] W:=hL.filter (fun x=>x.1 == "unicode/utf8.acceptRanges" || x.1 == "unicode/utf8.first");obtain⟨b,b1,b2,c1,c2,c3,c4,c5⟩:=akC h5;rw[akm,akn]at ht;have tabs:Lib.Utf8Tabs 6 7 W:=utf8Tabs_of_readsT u8T u8X (Lib.laidMet.reads ht (.tail _ (.head _))) (Lib.laidMet.reads ht (.head _))
 have hh:=hH ("errors.errorType",Rows.laid_errors_errorType) (by exact .head _);obtain⟨name,u,ty,e1,e2,e3,e4,e5⟩:=hh;obtain rfl:=Option.some.inj (akA.symm.trans e2);have en:=(Option.some.inj e1).symm;rw[en]at e4;obtain rfl:=akz ty e3 e4;have cty:=World.var?_cell akt e5 0;refine⟨fun k=>(336,.pointer (some (b k))),b,⟨⟨c2,c3,c4,c5⟩,⟨Ec c2,Ec c3,Ec c4,Ec c5⟩,tabs,?_,?_⟩,⟨fun k _ _=>rfl,b1,b2,?_,c1⟩⟩
 ·exact Ec (tabs.1 0 (by omega))
 ·exact Ec (tabs.2 0 (by omega)).1
 ·rw[cty];unfold typeHandle;rw[akB];rfl
theorem own:ownKnob prog.godebug=none:=by kernel_rfl
def aat{H:Type}:DataW H->Value
 | .lit (.int k n)=>.int k n
 |_=>.bool false
def Ia{H:Type}:DataW H->Array Value
 | .agg ps=>(ps.flatMap fun d=>match d with | .agg qs=>qs.map aat|d=>[aat d]).toArray
 |_=>#[]
def akE{H:Type}:DataW H->ByteArray
 | .iface _ (.ptr (.agg [.lit (.string l)]))=>⟨l.toArray⟩
 |_=>⟨#[]⟩
def akF(P:Program):Nat:=(World.holding P default ⟨#[],#[],[]⟩).heap.size
def AC(d:DataW Unit):Obj:=.cells #[.string (akE d)] 338 (0,0)
def AL(P:Program)(k:Nat)(t:TypeId):Obj:=.cells #[.iface 336 (.pointer (some ⟨akF P+k,0,none⟩))] t (0,0)
def laidWorld(P:Program)(os:Os):World :=
 let w0:=World.holding P os ⟨#[AC Rows.laid_strconv_ErrRange,AC Rows.laid_strconv_ErrSyntax,AC Rows.laid_pantry_toml_errLong,AC Rows.laid_pantry_toml_errText,AC Rows.laid_pantry_toml_errRange,AC Rows.laid_pantry_toml_errMany,AC Rows.laid_pantry_toml_errTwice],#[],[]⟩
 { w0 with heap:=((((((((((((w0.heap.setIfInBounds 12 (.cells (Ia (Rows.laid_math_bits_deBruijn32tab:DataW Unit)) 354 (0,0))).setIfInBounds 13 (.cells (Ia (Rows.laid_math_bits_deBruijn64tab:DataW Unit)) 355 (0,0))).setIfInBounds 11 (.cells (Ia (Rows.laid_internal_strconv_uint64pow10:DataW Unit)) 352 (0,0))).setIfInBounds 7 (.cells (Ia (Rows.laid_unicode_utf8_acceptRanges:DataW Unit)) 296 (0,0))).setIfInBounds 6 (.cells (Ia Rows.laid_unicode_utf8_first) 293 (0,0))).setIfInBounds 4 (.cells #[.iface 179 (.agg #[.pointer (some ⟨14,75,none⟩)])] 143 (0,0))).setIfInBounds 9 (AL P 0 75)).setIfInBounds 8 (AL P 1 75)).setIfInBounds 0 (AL P 2 75)).setIfInBounds 5 (AL P 3 75)).setIfInBounds 1 (AL P 4 75)).setIfInBounds 2 (AL P 5 75)).setIfInBounds 3 (AL P 6 75) }
theorem laid_met(os:Os):laidMetH prog Rows.bookManifestsRow.laid ((laidWorld prog os).forCall (fun _ _=>0) ⟨#[],#[.string ⟨#[]⟩],[]⟩).memory :=
 laidMetH_of_parts (laidMet_of_run' 8 (by kernel_rfl) (by kernel_rfl)) (by kernel_rfl)
end Go.Proofs.YtbcfhgpfgdbjgaaGreatDoor
