import Derived.Test.YtnnbgjaphfhibaaGreatDoorE32
import Derived.Test.YtnnbgjaphfhibaaGreatDoorE27
import Derived.Test.YtnnbgjaphfhibaaGreatDoorE31
import Derived.Test.YtnnbgjaphfhibaaGreatDoorTie
import Derived.LaidLaws
import Derived.Stop.ErrReads
import Derived.LaidHandle
import Derived.Lib.LaidU8T
import Derived.Lib.LaidTab
set_option linter.all false
set_option maxRecDepth 100000
set_option maxHeartbeats 0
open Go.Proofs.Tryz
namespace Go.Proofs.YtnnbgjaphfhibaaGreatDoor
open Go.RowKit Go.Maps Go.WideMaps Go.Joins
def aii(r:Rs (List Tn))(w:World)(e:Ending)(w':World):Prop :=
 (∀ns,r=.ok ns->∃N c OV xs ks own m,e=.returned (.tuple #[.slice (some ⟨N,0,none⟩) ns.length c,.int .i64 0,.int .i64 0])/\DtD w' w.heap.size 0 ns m own (.slice (some ⟨N,0,none⟩) ns.length c) OV xs ks) ∧
 (∀c p,r=.error (c,p)->e=.returned (.tuple #[.slice none 0 0,.int .i64 c,.int .i64 (p:Nat)]))/\w.grownBy w' none
theorem Fq.cells{w:World}{B P R:Nat}{s:ByteArray}{now de:Nat}{e:Int × Nat}(h:Fq w B P R s now de e):w.cell? ⟨R,5,none⟩=some (.int .i64 e.1)/\w.cell? ⟨R,6,none⟩=some (.int .i64 (e.2:Nat))/\(e.1 == 0)=false/\(e.1 != 0)=true:=by
 obtain⟨L,O,⟨h1,j,h2,h3⟩,-⟩:=h;exact⟨h3.cells.2.2.2.2.2.1,h3.cells.2.2.2.2.2.2.1,by simpa using h1,by simpa using h1⟩
theorem aij(CH:PI)(s:ByteArray)(w:World)(h0:0<w.heap.size)(hmx:s.size<2 ^ 62) :
  Calls prog 12 #[.string s] w (aii (jK s.data.toList) w):=by
 have hl:s.data.toList.length=s.size:=by simp
 have HE:=Fa s.data.toList;rw[hl]at HE
 by_cases hbig:100000<s.size
 ·rw[if_pos hbig]at HE;rw[HE];have hb:(100000:Int)<(s.size:Int):=by omega
  clear HE hbig CH;go_enter func12,ntmps12;go_wp2;refine bodyPost_ret (results_tmp3 (t:=2) (u:=3) (v:=4) rfl _ _ _) rfl ?_;exact⟨fun ns hh=>(by cases hh),fun c p hh=>(by cases hh;rfl),au _ _⟩
 ·rw[if_neg hbig]at HE;rw[HE];have hb:(s.size:Int)<=100000:=by omega
  have hs:s.size<=100000:=by omega
  have hgR:w.grownBy (w.alloc (.cells #[.string s,.int .i64 0,.slice none 0 0,.slice none 0 0,.int .i64 0,.int .i64 0,.int .i64 0,.int .i64 0] 74)) none:=World.grownBy_alloc _ _ none;have hR:=heap_alloc_new w (.cells #[.string s,.int .i64 0,.slice none 0 0,.slice none 0 0,.int .i64 0,.int .i64 0,.int .i64 0,.int .i64 0] 74);have Zg:Hd (Ds (w.alloc (.cells #[.string s,.int .i64 0,.slice none 0 0,.slice none 0 0,.int .i64 0,.int .i64 0,.int .i64 0,.int .i64 0] 74)) w.heap.size s (.slice none 0 0) (.slice none 0 0) 0 0 (.ok 0)):=⟨by omega,hR⟩;have hsz1:(w.alloc (.cells #[.string s,.int .i64 0,.slice none 0 0,.slice none 0 0,.int .i64 0,.int .i64 0,.int .i64 0,.int .i64 0] 74)).heap.size=w.heap.size+1:=World.size_alloc _ _;obtain⟨B,hB⟩:=zN (w.heap.size);have CA:Hd (Calls prog 29 #[.pointer (some ⟨w.heap.size,0,none⟩),.int .i64 (-1),.agg #[.int .i64 0,.string ⟨#[]⟩,.string ⟨#[]⟩,.int .i64 0,.slice none 0 0,.int .i64 0]] (w.alloc (.cells #[.string s,.int .i64 0,.slice none 0 0,.slice none 0 0,.int .i64 0,.int .i64 0,.int .i64 0,.int .i64 0] 74)) fun e w'=>e=.returned (.int .i64 0)/\Dt w' B 0 w.heap.size s 0 0 (.ok 0) [⟨0,[],[],0,[],0⟩] []/\Below B w w'):=by
   refine(afl B 0 w.heap.size s 0 0 (.ok 0) _ Zg.o (by omega) (by omega) (by omega)).mono ?_;rintro e w' ⟨rfl,a,b⟩;refine⟨rfl,a,?_⟩;have h1:=Gj hgR;rw[hB]at h1;exact h1.trans b.bel
  have CL:Hd (∀d w',Dt w' B 0 B s d.now 0 (.ok d.i) d.ns d.own->Li s.data.toList d->Calls prog 30 #[.pointer (some ⟨B,0,none⟩)] w' (EY B 0 B s d.now d.own (gW s.data.toList d) w')):=fun d w' h L=>agC CH B 0 B s d.now d.i d.ns d.own w' h (by omega) hs L
  have D6:=ae (fun d d' (a:Li s.data.toList d) (b:d.i<s.size) (c:gW s.data.toList d=.ok d')=>Jl s.data.toList d d' a (by omega) c);obtain⟨S,hS⟩:=zN (jA s.data.toList (s.data.toList.length+1) ⟨0,[⟨0,[],[],0,[],0⟩],[],0⟩);have HS:=ae hS;rw[<-hl,hS];have dY:=ae hB;have HST:Hd (Li s.data.toList ⟨0,[⟨0,[],[],0,[],0⟩],[],0⟩):=EQ _;have dD:Hd (∀f d,jA s.data.toList (f+1) d=if s.data.toList.length<=d.i then .ok d else match gW s.data.toList d with | .error e=>.error e | .ok d1=>jA s.data.toList f d1):=BF _;clear HE hbig hS hB hR hgR Zg hsz1 CH;go_enter func12,ntmps12;go_wp2_with (go_at_call 29;refine CA.o.mono ?_);rintro e w2 ⟨rfl,hd2,hb2⟩;rw[dY.o]at hd2 ⊢;have HD2:=ae hd2;have HB2:=ae hb2;clear hd2 hb2 CA;go_wp2;go_loopw [] (fun wr=>∃(q:Rs Sd) (f:Nat),(∀d,q=.ok d->Dt wr B 0 B s d.now 0 (.ok d.i) d.ns d.own/\Li s.data.toList d/\s.size-d.i<f/\jA s.data.toList f d=S)/\(∀c,q=.error c->(∃now,Fq wr B 0 B s now 0 c)/\S=.error c)/\Below B w wr) (fun wr=>dM wr B s)
  case atStart=>exact⟨.ok ⟨0,[⟨0,[],[],0,[],0⟩],[],0⟩,s.data.toList.length+1,fun d hd=>(by cases hd;exact⟨HD2.o,HST.o,by simp only[];omega,HS.o⟩),fun c hc=>(by cases hc),HB2.o⟩
  case round =>
   obtain⟨q,f,hok,her,hbe⟩:=hrel;have fP:=ae hbe;clear hbe
   match q,hok,her with
   | .error c,_,her =>
    obtain⟨⟨now,hf⟩,hSe⟩:=her c rfl;obtain⟨c5,c6,z1,z2⟩:=hf.cells;have az:=ae hSe;obtain⟨x,hx⟩:=zN (c.1);obtain⟨y,hy⟩:=zN (c.2);have Uj:Hd (c=(x,y)):=by show c=_;rw[<-hx,<-hy]
    rw[hx]at c5 z1 z2;rw[hy]at c6;clear hok her hf hSe hx hy;go_wp2;go_quiet (fail);go_wp2;refine bodyPost_ret (results_tmp3 (t:=2) (u:=3) (v:=4) rfl _ _ _) rfl ?_;rw[az.o,Uj.o];refine⟨fun ns hh=>(by cases hh),fun c' p' hh=>?_,?_⟩
    ·have hh:(Except.error (x,y):Rs (List Tn))=.error (c',p'):=hh;injection hh with hh
     injection hh with e1 e2
     subst e1 e2;rfl
    ·have hb:=fP.o;rw[<-dY.o]at hb;exact ay (Jr hb) _
   | .ok d,hok,_ =>
    obtain⟨hd,hL,hfu,hall⟩:=hok d rfl;obtain⟨f,rfl⟩:∃f',f=f'+1:=⟨f-1,by omega⟩;rw[dD.o]at hall;have HD:=ae hd;have HM:=ae (EC hd);obtain⟨-,c1,c5,-,-,hdi,-⟩:=hd.cells;have mO:=CL.o d wr hd hL;have QE:=D6.o d;obtain⟨N,cc,O,oc,c2,-⟩:=hd.parts
    by_cases hlt:d.i<s.size
    ·rw[if_neg (by omega)]at hall;have ajF:((d.i:Nat):Int)<(s.size:Int):=by omega
     obtain⟨V,hV⟩:=zN (gW s.data.toList d);have JW:=ae (fun d' (hh:V=.ok d')=>QE d' hL hlt (hV.trans hh));rw[hV]at hall mO;have Bi:=ae mO;have HAE:Hd (∀e,V=.error e->S=.error e):=fun e hh=>by rw[hh]at hall;exact hall.symm
     have HAO:Hd (∀d1,V=.ok d1->jA s.data.toList f d1=S):=fun d1 hh=>by rw[hh]at hall;exact hall
     clear hok her hd hL hall hV mO QE c2;go_wp2_with (go_at_call 30;refine Bi.o.mono ?_;rintro e w3 ⟨rfl,a1,a2,hf3⟩);refine⟨⟨V,f,fun d1 hh=>?_,fun c hh=>⟨a2 c hh,HAE.o c hh⟩,fP.o.trans hf3.bel⟩,?_⟩
     ·have:=JW.o d1 hh;exact⟨a1 d1 hh,this.1,by omega,HAO.o d1 hh⟩
     ·rw[HM.o]
      match V,a1,a2,JW with
      | .error c,_,a2,_ =>
       obtain⟨now,hf⟩:=a2 c rfl;rw[OC hf];omega
      | .ok d1,a1,_,JW =>
       have:=JW.o d1 rfl;rw[EC (a1 d1 rfl)];omega
    ·rw[if_pos (by omega)]at hall;have ajG:¬((d.i:Nat):Int)<(s.size:Int):=by omega
     have ajH:(s.size:Int)<=((d.i:Nat):Int):=by omega
     have az:=ae hall.symm;obtain⟨x1,x2,N,cc,O,oc,xs,ks,x3,x4,x5,x6⟩:=HD.o;obtain⟨-,-,c2',-,-,-,-,-,-⟩:=x6.2.cells;have IU:=ae x5;clear hok her hd hL hall mO QE c2 x1 x2 x3 x4 x5 x6;go_wp2;refine bodyPost_ret (results_tmp3 (t:=2) (u:=3) (v:=4) rfl _ _ _) rfl ?_;rw[az.o];refine⟨fun ns hh=>?_,fun c p hh=>(by cases hh),?_⟩
     ·have hh:(Except.ok d.ns:Rs (List Tn))=.ok ns:=hh;injection hh with hh
      subst hh;rw[dY.o];exact⟨N,cc,_,xs,ks,d.own,_,rfl,IU.o⟩
     ·have hb:=fP.o;rw[<-dY.o]at hb;exact Jr hb
open Go.RowKit Go.Joins Go.ChangeShapes Go.WideShapes
def Zh:Shelf.Ren:=⟨fun x=>x,fun x=>if x=5 then 5 else if x=119 then 301 else if x=138 then 303 else 304,fun x=>if x=3 then 10 else 11⟩
theorem u8T:U8Types prog Zh:=⟨by kernel_rfl,by kernel_rfl,by kernel_rfl,by kernel_rfl⟩
theorem u8X:U8Extra prog Zh:=⟨by kernel_rfl,by kernel_rfl,by kernel_rfl,by kernel_rfl,by kernel_rfl,by kernel_rfl,by kernel_rfl⟩
theorem aik:(Rows.laid_unicode_utf8_first:DataW Unit)=Lib.firstData:=by kernel_rfl
theorem ail:(Rows.laid_unicode_utf8_acceptRanges:DataW Unit)=Lib.acceptData:=by kernel_rfl
theorem Zi : "*" ++ "errors.errorString" = "*errors.errorString":=by decide
theorem FT(u:TypeId)(h:prog.typeName? 3 u=some "*errors.errorString"):u=317 :=
 typeName_ptr_named (nm := "errors.errorString") (by rw[Zi];kernel_rfl) (by kernel_rfl) (by decide) u (by rw[Zi];exact h)
theorem FU:prog.cellsOf 319=1:=by kernel_rfl
theorem FV:prog.cellsOf 9=1:=by kernel_rfl
theorem aim:prog.globalNamed "pantry/toml.errLong"=some 0:=by kernel_rfl
theorem ain:prog.globalNamed "pantry/toml.errText"=some 6:=by kernel_rfl
theorem aio:prog.globalNamed "pantry/toml.errRange"=some 1:=by kernel_rfl
theorem aip:prog.globalNamed "pantry/toml.errMany"=some 2:=by kernel_rfl
theorem aiq:prog.globalNamed "pantry/toml.errTwice"=some 3:=by kernel_rfl
theorem air:prog.globalNamed "errors.errorType"=some 4:=by kernel_rfl
theorem ais:(prog.globals[0]?).map (·.type)=some 94:=by kernel_rfl
theorem ait:(prog.globals[6]?).map (·.type)=some 94:=by kernel_rfl
theorem aiu:(prog.globals[1]?).map (·.type)=some 94:=by kernel_rfl
theorem aiv:(prog.globals[2]?).map (·.type)=some 94:=by kernel_rfl
theorem aiw:(prog.globals[3]?).map (·.type)=some 94:=by kernel_rfl
theorem aix:∀ty,ty<prog.types.size->prog.rowNamed ty [101,114,114,111,114]=true->ty=94:=by
 have h:(List.range prog.types.size).all (fun t=>!(prog.rowNamed t [101,114,114,111,114]) || t == 94)=true:=by kernel_rfl
 intro ty hty hr;have:=List.all_eq_true.1 h ty (List.mem_range.2 hty);rw[hr]at this;simpa using this
theorem aiy:(prog.cutTypes.find? (·.1 == "internal/reflectlite.rtype")).map (·.2)=some 219:=by kernel_rfl
theorem aiz:prog.globals.size=14:=by kernel_rfl
theorem aiA{W:World}(h:laidMet prog [("pantry/toml.errLong",Rows.laid_pantry_toml_errLong),("pantry/toml.errText",Rows.laid_pantry_toml_errText),("pantry/toml.errRange",Rows.laid_pantry_toml_errRange),("pantry/toml.errMany",Rows.laid_pantry_toml_errMany),("pantry/toml.errTwice",Rows.laid_pantry_toml_errTwice)] W) :
  ∃(b:Int->Addr),(∀k,1<=k->k<=5->∃cs t,W.heap[(b k).block]?=some (.cells cs t (0,0)))/\(∀k m,1<=k->k<=5->1<=m->m<=5->b k=b m->k=m) ∧
   W.cell? ⟨0,0,none⟩=some (.iface 317 (.pointer (some (b 1))))/\W.cell? ⟨6,0,none⟩=some (.iface 317 (.pointer (some (b 2))))/\W.cell? ⟨1,0,none⟩=some (.iface 317 (.pointer (some (b 3))))/\W.cell? ⟨2,0,none⟩=some (.iface 317 (.pointer (some (b 4))))/\W.cell? ⟨3,0,none⟩=some (.iface 317 (.pointer (some (b 5)))):=by
 obtain⟨ps,⟨g1,t1,cs1,f1,p1,q1,hg1,ht1,hv1,hd1,⟨g2,t2,cs2,f2,p2,q2,hg2,ht2,hv2,hd2,⟨g3,t3,cs3,f3,p3,q3,hg3,ht3,hv3,hd3,⟨g4,t4,cs4,f4,p4,q4,hg4,qE,hv4,hd4,⟨g5,t5,cs5,f5,p5,q5,hg5,xJ,hv5,hd5,hq5,e5⟩,e4⟩,e3⟩,e2⟩,e1⟩,hnd,hrows⟩:=h;obtain rfl:=Option.some.inj (aim.symm.trans hg1);obtain rfl:=Option.some.inj (ain.symm.trans hg2);obtain rfl:=Option.some.inj (aio.symm.trans hg3);obtain rfl:=Option.some.inj (aip.symm.trans hg4);obtain rfl:=Option.some.inj (aiq.symm.trans hg5);obtain rfl:=Option.some.inj (ais.symm.trans ht1);obtain rfl:=Option.some.inj (ait.symm.trans ht2);obtain rfl:=Option.some.inj (aiu.symm.trans ht3);obtain rfl:=Option.some.inj (aiv.symm.trans qE);obtain rfl:=Option.some.inj (aiw.symm.trans xJ);have aiB:q5=[]:=hq5;subst aiB e5 e4 e3 e2 e1;obtain⟨l1⟩:=cs1;obtain⟨l2⟩:=cs2;obtain⟨l3⟩:=cs3;obtain⟨l4⟩:=cs4;obtain⟨l5⟩:=cs5;have ok1:∀u v,l1=[.iface u v]->Value.okWide prog W .any 0 u v:=fun u v e=>by
  subst e;exact(hrows 0 0 (by simp[MemPlace.row])).2 u v (by simpa using World.var?_cell hg1 hv1 0)
 have ok2:∀u v,l2=[.iface u v]->Value.okWide prog W .any 0 u v:=fun u v e=>by
  subst e;exact(hrows 6 0 (by simp[MemPlace.row])).2 u v (by simpa using World.var?_cell hg2 hv2 0)
 have ok3:∀u v,l3=[.iface u v]->Value.okWide prog W .any 0 u v:=fun u v e=>by
  subst e;exact(hrows 1 0 (by simp[MemPlace.row])).2 u v (by simpa using World.var?_cell hg3 hv3 0)
 have ok4:∀u v,l4=[.iface u v]->Value.okWide prog W .any 0 u v:=fun u v e=>by
  subst e;exact(hrows 2 0 (by simp[MemPlace.row])).2 u v (by simpa using World.var?_cell hg4 hv4 0)
 have ok5:∀u v,l5=[.iface u v]->Value.okWide prog W .any 0 u v:=fun u v e=>by
  subst e;exact(hrows 3 0 (by simp[MemPlace.row])).2 u v (by simpa using World.var?_cell hg5 hv5 0)
 obtain⟨a1,s1,rfl,-,-,-,rfl⟩:=errorString_of_trod underlying94 FT underlying317 underlying319 rfl rfl underlying9 FU FV hd1 ok1;obtain⟨a2,s2,rfl,-,-,-,rfl⟩:=errorString_of_trod underlying94 FT underlying317 underlying319 rfl rfl underlying9 FU FV hd2 ok2;obtain⟨a3,s3,rfl,-,-,-,rfl⟩:=errorString_of_trod underlying94 FT underlying317 underlying319 rfl rfl underlying9 FU FV hd3 ok3;obtain⟨a4,s4,rfl,-,-,-,rfl⟩:=errorString_of_trod underlying94 FT underlying317 underlying319 rfl rfl underlying9 FU FV hd4 ok4;obtain⟨a5,s5,rfl,-,-,-,rfl⟩:=errorString_of_trod underlying94 FT underlying317 underlying319 rfl rfl underlying9 FU FV hd5 ok5;have b1:=(hrows a1.block a1.off (by simp[MemPlace.row])).1;have b2:=(hrows a2.block a2.off (by simp[MemPlace.row])).1
 have b3:=(hrows a3.block a3.off (by simp[MemPlace.row])).1;have b4:=(hrows a4.block a4.off (by simp[MemPlace.row])).1;have b5:=(hrows a5.block a5.off (by simp[MemPlace.row])).1;have c1:=World.var?_cell hg1 hv1 0;have c2:=World.var?_cell hg2 hv2 0;have c3:=World.var?_cell hg3 hv3 0;have c4:=World.var?_cell hg4 hv4 0;have c5:=World.var?_cell hg5 hv5 0;have n12:a1≠a2:=by rintro rfl;simp[MemPlace.row]at hnd
 have n13:a1≠a3:=by rintro rfl;simp[MemPlace.row]at hnd
 have n14:a1≠a4:=by rintro rfl;simp[MemPlace.row]at hnd
 have n15:a1≠a5:=by rintro rfl;simp[MemPlace.row]at hnd
 have n23:a2≠a3:=by rintro rfl;simp[MemPlace.row]at hnd
 have n24:a2≠a4:=by rintro rfl;simp[MemPlace.row]at hnd
 have n25:a2≠a5:=by rintro rfl;simp[MemPlace.row]at hnd
 have n34:a3≠a4:=by rintro rfl;simp[MemPlace.row]at hnd
 have n35:a3≠a5:=by rintro rfl;simp[MemPlace.row]at hnd
 have n45:a4≠a5:=by rintro rfl;simp[MemPlace.row]at hnd
 refine⟨fun k=>if k=1 then a1 else if k=2 then a2 else if k=3 then a3 else if k=4 then a4 else a5,fun k h1 h5=>?_,fun k m h1 h5 h1' h5'=>?_,by simpa using c1,by simpa using c2,by simpa using c3,by simpa using c4,by simpa using c5⟩
 ·have hk:k=1\/k=2\/k=3\/k=4\/k=5:=by omega
  rcases hk with rfl|rfl|rfl|rfl|rfl
  ·exact b1
  ·exact b2
  ·exact b3
  ·exact b4
  ·exact b5
 ·have hk:k=1\/k=2\/k=3\/k=4\/k=5:=by omega
  have hm:m=1\/m=2\/m=3\/m=4\/m=5:=by omega
  rcases hk with rfl|rfl|rfl|rfl|rfl<;>rcases hm with rfl|rfl|rfl|rfl|rfl<;>simp[n12,n13,n14,n15,n23,n24,n25,n34,n35,n45,n12.symm,n13.symm,n14.symm,n15.symm,n23.symm,n24.symm,n25.symm,n34.symm,n35.symm,n45.symm]
theorem BR{W:World}{g k:Nat}{v:Value}(h:W.cell? ⟨g,k,none⟩=some v):g<W.heap.size:=block_lt_of_cell h
theorem ZW{W:World}(h:laidMetH prog Rows.bookOneRow.laid W):∃(E:Int->TypeId × Value) (b:Int->Addr),Gl W W.heap.size E/\Sn W E b:=by
 obtain⟨hL,hH⟩:=laidMetH_iff.1 h;have h5:laidMet prog [("pantry/toml.errLong",Rows.laid_pantry_toml_errLong),("pantry/toml.errText",Rows.laid_pantry_toml_errText),("pantry/toml.errRange",Rows.laid_pantry_toml_errRange),("pantry/toml.errMany",Rows.laid_pantry_toml_errMany),("pantry/toml.errTwice",Rows.laid_pantry_toml_errTwice)] W:=hL.filter (fun x=>x.1 == "pantry/toml.errLong" || x.1 == "pantry/toml.errText" || x.1 == "pantry/toml.errRange" || x.1 == "pantry/toml.errMany" || x.1 == "pantry/toml.errTwice");have ht:laidMet prog [("unicode/utf8.acceptRanges",Rows.laid_unicode_utf8_acceptRanges),("unicode/utf8.first",Rows.laid_unicode_utf8_first)] W:=hL.filter (fun x=>x.1 == "unicode/utf8.acceptRanges" || x.1 == "unicode/utf8.first");obtain⟨b,b1,b2,c1,c2,c3,c4,c5⟩:=aiA h5;rw[aik,ail]at ht;have tabs:Lib.Utf8Tabs 10 11 W:=utf8Tabs_of_readsT u8T u8X (Lib.laidMet.reads ht (.tail _ (.head _))) (Lib.laidMet.reads ht (.head _))
 have hh:=hH ("errors.errorType",Rows.laid_errors_errorType) (by exact .head _);obtain⟨name,u,ty,e1,e2,e3,e4,e5⟩:=hh;obtain rfl:=Option.some.inj (aiy.symm.trans e2);have en:=(Option.some.inj e1).symm;rw[en]at e4;obtain rfl:=aix ty e3 e4;have cty:=World.var?_cell air e5 0;refine⟨fun k=>(317,.pointer (some (b k))),b,⟨⟨c2,c3,c4,c5⟩,⟨BR c2,BR c3,BR c4,BR c5⟩,tabs,?_,?_⟩,⟨fun k _ _=>rfl,b1,b2,?_,c1⟩⟩
 ·exact BR (tabs.1 0 (by omega))
 ·exact BR (tabs.2 0 (by omega)).1
 ·rw[cty];unfold typeHandle;rw[aiz];rfl
theorem own:ownKnob prog.godebug=none:=by kernel_rfl
def Zj{H:Type}:DataW H->Value
 | .lit (.int k n)=>.int k n
 | _=>.bool false
def FW{H:Type}:DataW H->Array Value
 | .agg ps=>(ps.flatMap fun d=>match d with | .agg qs=>qs.map Zj|d=>[Zj d]).toArray
 | _=>#[]
def aiC{H:Type}:DataW H->ByteArray
 | .iface _ (.ptr (.agg [.lit (.string l)]))=>⟨l.toArray⟩
 | _=>⟨#[]⟩
def aiD(P:Program):Nat:=(World.holding P default ⟨#[],#[],[]⟩).heap.size
def zJ(d:DataW Unit):Obj:=.cells #[.string (aiC d)] 319 (0,0)
def zK(P:Program)(k:Nat)(t:TypeId):Obj:=.cells #[.iface 317 (.pointer (some ⟨aiD P+k,0,none⟩))] t (0,0)
def laidWorld(P:Program)(os:Os):World :=
 let w0:=World.holding P os ⟨#[zJ Rows.laid_strconv_ErrRange,zJ Rows.laid_strconv_ErrSyntax,zJ Rows.laid_pantry_toml_errLong,zJ Rows.laid_pantry_toml_errText,zJ Rows.laid_pantry_toml_errRange,zJ Rows.laid_pantry_toml_errMany,zJ Rows.laid_pantry_toml_errTwice],#[],[]⟩
 { w0 with heap:=((((((((((((w0.heap.setIfInBounds 8 (.cells (FW (Rows.laid_math_bits_deBruijn32tab:DataW Unit)) 293 (0,0))).setIfInBounds 9 (.cells (FW (Rows.laid_math_bits_deBruijn64tab:DataW Unit)) 294 (0,0))).setIfInBounds 5 (.cells (FW (Rows.laid_internal_strconv_uint64pow10:DataW Unit)) 253 (0,0))).setIfInBounds 11 (.cells (FW (Rows.laid_unicode_utf8_acceptRanges:DataW Unit)) 304 (0,0))).setIfInBounds 10 (.cells (FW Rows.laid_unicode_utf8_first) 301 (0,0))).setIfInBounds 4 (.cells #[.iface 219 (.agg #[.pointer (some ⟨14,94,none⟩)])] 172 (0,0))).setIfInBounds 13 (zK P 0 94)).setIfInBounds 12 (zK P 1 94)).setIfInBounds 0 (zK P 2 94)).setIfInBounds 6 (zK P 3 94)).setIfInBounds 1 (zK P 4 94)).setIfInBounds 2 (zK P 5 94)).setIfInBounds 3 (zK P 6 94) }
theorem laid_met(os:Os):laidMetH prog Rows.bookOneRow.laid ((laidWorld prog os).forCall (fun _ _=>0) ⟨#[],#[.string ⟨#[]⟩],[]⟩).memory :=
 laidMetH_of_parts (laidMet_of_run' 8 (by kernel_rfl) (by kernel_rfl)) (by kernel_rfl)
end Go.Proofs.YtnnbgjaphfhibaaGreatDoor
