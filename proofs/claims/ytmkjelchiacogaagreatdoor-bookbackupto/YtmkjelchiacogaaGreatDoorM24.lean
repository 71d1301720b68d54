import Derived.Test.YtmkjelchiacogaaGreatDoorM13
import Derived.Deep.LoopGhost
import Derived.Test.YtmkjelchiacogaaGreatDoorM02
import Derived.LaidEql
import Derived.Stop.Asserts
import Derived.RowKitTokens
import Derived.Test.YtmkjelchiacogaaGreatDoorM10
set_option linter.unusedVariables false
set_option linter.unusedSimpArgs false
set_option maxRecDepth 100000
set_option maxHeartbeats 6400000
open Go.Proofs.Tryz
namespace Go.Proofs.YtmkjelchiacogaaGreatDoor
open Go.RowKit Go.Maps Go.WideMaps Go.Joins Go.Shelf
theorem aez{w:World}{B:Nat}{e:TypeId}{s:Nat}{o:Option Addr}{n c:Nat}{xs:List Value}(h:w.ownsRow B e s (.slice o n c) n xs)(a:Nat)(ha:a<=n):w.ownsRow B e s (.slice o a c) a (xs.take (a*s)):=by
 have hl:xs.length=n*s:=h.1;have hle:a*s<=n*s:=Nat.mul_le_mul_right _ ha;refine⟨by rw[List.length_take];omega,?_⟩
 rcases h.2 with⟨hv,hn⟩|⟨g,cap,cur,hv,h1,h2,h3,h4,h5,h6⟩
 ·injection hv with ho _ hc
  subst ho hc;have:a=0:=by omega
  subst this;exact Or.inl ⟨rfl,rfl⟩
 ·injection hv with ho _ hc
  subst ho hc;refine Or.inr ⟨g,c,cur,rfl,h1,h2,by omega,h4,h5,?_⟩;rw[<-h6,List.take_take];congr 1;omega
theorem IG(td:List Vt)(v:Vt)(i:Nat)(hi:i<4):(bQ (td++[v]))[td.length*4+i]?=(vC v)[i]?:=by
 rw[Lh,List.getElem?_append_right (by rw[G5];omega),G5];have e:bQ [v]=vC v:=by simp[bQ]
 rw[e];congr 1;omega
theorem aeA(td:List Vt)(v:Vt):(bQ (td++[v])).take (td.length*4)=bQ td:=by
 rw[Lh,List.take_append_of_le_length (by rw[G5];exact Nat.le_refl _),List.take_of_length_le (by rw[G5];exact Nat.le_refl _)]
theorem aeB{w0:World}{N c:Nat}{NV:Value}{ns:List Tn}{own:List Nat}(E:Ev w0 NV N c ns own)(F:Ef ns own)(hR:(oQ ns).length<=70368744177664) :
  Calls prog 20 #[NV] w0 fun e w'=>e=.returned (.string ⟨(oQ ns).toArray⟩)/\w0.grownBy w' none:=by
 have hEl:=E.len;have hfm:=Lu F;obtain⟨R,hRe⟩:=zN (oQ ns);rw[hRe]at hfm hR ⊢;obtain⟨o,l0,c0,hv⟩:∃o l c,NV=.slice o l c:=⟨_,_,_,E.nv.val⟩;subst hv;obtain⟨B,hB⟩:=zN (w0.heap.size);have hbp:=heap_alloc_new w0 (.cells #[.slice o l0 c0,.pointer none,.slice none 0 0,.slice none 0 0] 111);have hg1:w0.grownBy (w0.alloc (.cells #[.slice o l0 c0,.pointer none,.slice none 0 0,.slice none 0 0] 111)) none:=World.grownBy_alloc _ _ none;obtain⟨w1,hw1⟩:∃W,w0.alloc (.cells #[.slice o l0 c0,.pointer none,.slice none 0 0,.slice none 0 0] 111)=W:=⟨_,rfl⟩;rw[hw1]at hbp hg1;have hP1:Pn w1 w0.heap.size w0.heap.size (.slice o l0 c0) [] []:=⟨Nat.le_refl _,.pointer none,.slice none 0 0,.slice none 0 0,hbp,Or.inl rfl,World.ownsRow_nil _ _ _ _,World.ownsRow_nil _ _ _ _,fun g hg=>(by cases hg),fun _=>rfl⟩;have hl0:=Lr ns _ _ _ _ _ hfm;have Xc:Hd (Calls prog 51 #[.pointer (some ⟨w0.heap.size,0,none⟩),.int .i64 0] w1 fun e w'=>e=.returned (.tuple #[])/\Pn w' w0.heap.size w0.heap.size (.slice o l0 c0) (dK ns 0) []/\PF w0.heap.size w1 w'):=Tu E [] [] 0 w1 F.root.1 (F.kdd 0 F.root.2) hP1 hg1 (by simp;omega)
 have zH:Hd (∀w,Pn w w0.heap.size w0.heap.size (.slice o l0 c0) (dK ns 0) []->w0.grownBy w none->Calls prog 52 #[.pointer (some ⟨w0.heap.size,0,none⟩),.int .i64 0,.slice none 0 0] w fun e w'=>∃v,e=.returned v/\w'.ownsRow w0.heap.size 116 4 v (dm ns 0 0).length (bQ (dm ns 0 0))/\VF w0.heap.size w w'):=fun w h1 h2=>Uc E (dK ns 0) [] 0 [] (.slice none 0 0) w F.root.1 (F.kdd 0 F.root.2) h1 h2 (World.ownsRow_nil _ _ _ _) (by simp)
 have CH:Hd (∀(out path:List UInt8) (v:Vt) w,Pn w B B (.slice o l0 c0) out path->v.ab<=path.length->v.ky.length<=1048576->out.length+(iR out (bu path v.ab v.ky) v.dbl).length<=70368744177664->Calls prog 53 #[.pointer (some ⟨B,0,none⟩),.agg #[.int .i64 (v.t:Nat),.string ⟨v.ky.toArray⟩,.bool v.dbl,.int .i64 (v.ab:Nat)]] w fun e w'=>e=.returned (.tuple #[])/\Pn w' B B (.slice o l0 c0) (out++iR out (bu path v.ab v.ky) v.dbl) (bu path v.ab v.ky)/\PF B w w'):=fun out path v w h1 h2 h3 h4=>abS B B (.slice o l0 c0) out path v.t v.ky v.dbl v.ab w h1 h2 h3 h4
 have CP:Hd (∀(out path:List UInt8) (t:Nat) w,t<ns.length->ag ns t=0->Pn w B B (.slice o l0 c0) out path->w0.grownBy w none->out.length+(dK ns t).length<=70368744177664->Calls prog 51 #[.pointer (some ⟨B,0,none⟩),.int .i64 (t:Nat)] w fun e w'=>e=.returned (.tuple #[])/\Pn w' B B (.slice o l0 c0) (out++dK ns t) path/\PF B w w'):=fun out path t w h1 h2 h3 h4 h5=>by
  have:=Tu E out path t w h1 (F.kdd t h2) (by rw[hB];exact h3) h4 h5;rw[hB]at this;exact this
 have CB:Hd (∀(out path:List UInt8) (t:Nat) (td:List Vt) (tv:Value) w,t<ns.length->ag ns t=0->Pn w B B (.slice o l0 c0) out path->w0.grownBy w none->w.ownsRow B 116 4 tv td.length (bQ td)->td.length<=900000->Calls prog 52 #[.pointer (some ⟨B,0,none⟩),.int .i64 (t:Nat),tv] w fun e w'=>∃v,e=.returned v/\w'.ownsRow B 116 4 v (td++dm ns t path.length).length (bQ (td++dm ns t path.length))/\VF B w w'):=fun out path t td tv w h1 h2 h3 h4 h5 h6=>by
  have:=Uc E out path t td tv w h1 (F.kdd t h2) (by rw[hB];exact h3) h4 (by rw[hB];exact h5) h6;rw[hB]at this;exact this
 have lV:Hd (∀w w',w0.grownBy w none->Below B w w'->w0.grownBy w' none):=fun w w' h1 h2=>C9 h1 (by rw[hB];exact h2)
 have HF:Hd (Ef ns own):=F;have EE:Hd (lH ns ns.length (dK ns 0) [] (dm ns 0 0)=some R):=hfm;have aB:Hd (w0.grownBy w1 none):=hg1;rw[hB]at Xc zH;have HW1:Hd (w0.alloc (.cells #[.slice o l0 c0,.pointer none,.slice none 0 0,.slice none 0 0] 111)=w1):=hw1;clear hfm hP1 hbp hg1 E F hRe hl0 hw1;go_enter func20,ntmps20;go_upto_region 2 with fail
 rw[HW1.o];go_wp2_with (first|(go_at_call 51;refine Xc.o.mono ?_;rintro e w2 ⟨rfl,hp2,hf2⟩)|(go_at_call 52;refine(zH.o _ hp2 (lV.o _ _ aB.o hf2.bel)).mono ?_;rintro e w3 ⟨tv3,rfl,hr3,hv3⟩));have pR:Hd (Pn w3 B B (.slice o l0 c0) (dK ns 0) []):=hp2.keep fun b cs t fz hb ht=>hv3.oth b cs t fz hb (by rcases ht with rfl|rfl<;>decide) (by rcases ht with rfl|rfl<;>decide)
 have aQ:Hd (w0.grownBy w3 none):=lV.o _ _ (lV.o _ _ aB.o hf2.bel) hv3.bel;have HR3:Hd (w3.ownsRow B 116 4 tv3 (dm ns 0 0).length (bQ (dm ns 0 0))):=hr3;clear hp2 hf2 hr3 hv3
 go_loopg [4] (ns.length) (fun f v4 wr=>∃(out path:List UInt8) (V:List Nat) (td:List Vt),Pn wr B B (.slice o l0 c0) out path/\wr.ownsRow B 116 4 v4 td.length (bQ td)/\w0.grownBy wr none/\Iv ns path V td/\lH ns f out path td=some R)
 case atStart=>exact⟨_,_,[0],dm ns 0 0,pR.o,HR3.o,aQ.o,Iv.start HF.o,EE.o⟩
 case round =>
  obtain⟨out,path,V,td,hp,hr,hg,Az,hfm⟩:=hrel;obtain⟨f,rfl⟩:∃f,gk=f+1:=by
   cases gk with
   | zero=>cases hfm
   | succ f=>exact⟨f,rfl⟩
  rcases Hg td with rfl|⟨td,v,rfl⟩
  ·obtain⟨o4,c4,rfl⟩:=ku hr;rw[Hf]at hfm;obtain rfl:out=R:=by injection hfm
   have CS:Hd (Calls prog 34 #[.pointer (some ⟨B,1,none⟩)] wr fun e w'=>e=.returned (.string ⟨out.toArray⟩)/\Below B wr w'):=aag B B _ out path wr hp hR;have HG:Hd (w0.grownBy wr none):=hg;clear hp hr hg Az hfm;go_wp2_with (go_at_call 34;refine CS.o.mono ?_);rintro e w' ⟨rfl,hbl⟩;have HB':Hd (w0.grownBy w' none):=lV.o _ _ HG.o hbl;clear hbl;go_wp2;go_ret;exact⟨rfl,HB'.o⟩
  ·rw[Dp]at hfm;have hlen:=Az.len;rw[List.length_append,List.length_singleton]at hlen;obtain⟨htl,htk,hky⟩:=Az.tab v (by simp);have hab:=Az.ab v (by simp);have hst:=Az.step HF.o;have hl1:=Lr ns _ _ _ _ _ hfm;rw[List.length_append,List.length_append]at hl1;rw[List.length_append,List.length_singleton]at hr;obtain⟨g,cap,hv4,-,-⟩:=hr.form (by omega);subst hv4;have hcells:=hr.cells (g:=g) rfl;have e0:=hcells (td.length*4) _ (by have:=IG td v 0 (by omega);simpa [vC] using this);have e1:=hcells (td.length*4+1) _ (by have:=IG td v 1 (by omega);simpa [vC] using this);have e2:=hcells (td.length*4+2) _ (by have:=IG td v 2 (by omega);simpa [vC] using this);have e3:=hcells (td.length*4+3) _ (by have:=IG td v 3 (by omega);simpa [vC] using this);rw[sD]at e0 e1 e2 e3;have hcut:=aez hr td.length (by omega);rw[aeA]at hcut;have aeC:td.length+1<=cap:=by
    rcases hr.2 with⟨h1,-⟩|⟨g',cap',cur,h1,-,-,h2,-⟩
    ·cases h1
    ·injection h1 with _ _ h3
     subst h3;exact h2
   have HST:Hd (Iv ns (bu path v.ab v.ky) (V++[v.t]) (td++dm ns v.t (bu path v.ab v.ky).length)/\lH ns f (out++iR out (bu path v.ab v.ky) v.dbl++dK ns v.t) (bu path v.ab v.ky) (td++dm ns v.t (bu path v.ab v.ky).length)=some R):=⟨hst,hfm⟩;obtain⟨m,hm⟩:=zN (td.length);rw[hm]at e0 e1 e2 e3 hcut aeC hlen hr ⊢;have hmb:m<=900000:=by omega
   have hm1:((m+1:Nat):Int)-1=(m:Int):=by omega
   have hmI:(m:Int)<((m+1:Nat):Int):=by omega
   have hmc:(m:Int)<=(cap:Int):=by omega
   have hm0:(0:Int)<=(m:Int):=by omega
   have hmp:(0:Int)<((m+1:Nat):Int):=by omega
   obtain⟨K,hK⟩:∃K:ByteArray,⟨v.ky.toArray⟩=K:=⟨_,rfl⟩;rw[hK]at e1;have hga:wr.grownBy (wr.alloc (.cells #[.int .i64 (v.t:Nat),.string K,.bool v.dbl,.int .i64 (v.ab:Nat)] 116)) none:=World.grownBy_alloc _ _ none;have hbx:=heap_alloc_new wr (.cells #[.int .i64 (v.t:Nat),.string K,.bool v.dbl,.int .i64 (v.ab:Nat)] 116);obtain⟨wa,Bj⟩:∃W,wr.alloc (.cells #[.int .i64 (v.t:Nat),.string K,.bool v.dbl,.int .i64 (v.ab:Nat)] 116)=W:=⟨_,rfl⟩;obtain⟨bx,nP⟩:∃b,wr.heap.size=b:=⟨_,rfl⟩;rw[Bj]at hbx hga;rw[nP]at hbx;have lY:Hd (wr.alloc (.cells #[.int .i64 (v.t:Nat),.string K,.bool v.dbl,.int .i64 (v.ab:Nat)] 116)=wa/\wr.heap.size=bx):=⟨Bj,nP⟩;have dJ:Hd (wa.heap[bx]?=some (.cells #[.int .i64 (v.t:Nat),.string K,.bool v.dbl,.int .i64 (v.ab:Nat)] 116 (0,0))):=hbx;have vM:Hd (wa.ownsRow B 116 4 (.slice (some ⟨g,0,none⟩) m cap) td.length (bQ td)):=by
    show World.ownsRow _ _ _ _ _ _ _;rw[hm];exact bW hcut fun g cur _ hc=>hga.block g (aA hc) (by simp)
   have uo:Hd (w0.grownBy wa none):=af hg hga;have AA:Hd (Calls prog 53 #[.pointer (some ⟨B,0,none⟩),.agg #[.int .i64 (v.t:Nat),.string K,.bool v.dbl,.int .i64 (v.ab:Nat)]] wa fun e w'=>e=.returned (.tuple #[])/\Pn w' B B (.slice o l0 c0) (out++iR out (bu path v.ab v.ky) v.dbl) (bu path v.ab v.ky)/\PF B wa w'):=by
    rw[<-hK];exact CH.o out path v wa (hp.gb hga) hab hky (by omega)
   have EF:Hd (∀w,Pn w B B (.slice o l0 c0) (out++iR out (bu path v.ab v.ky) v.dbl) (bu path v.ab v.ky)->w0.grownBy w none->Calls prog 51 #[.pointer (some ⟨B,0,none⟩),.int .i64 (v.t:Nat)] w fun e w'=>e=.returned (.tuple #[])/\Pn w' B B (.slice o l0 c0) (out++iR out (bu path v.ab v.ky) v.dbl++dK ns v.t) (bu path v.ab v.ky)/\PF B w w'):=fun w h1 h2=>CP.o _ _ v.t w htl htk h1 h2 (by rw[List.length_append];omega)
   have uG:Hd (∀w,Pn w B B (.slice o l0 c0) (out++iR out (bu path v.ab v.ky) v.dbl++dK ns v.t) (bu path v.ab v.ky)->w0.grownBy w none->w.ownsRow B 116 4 (.slice (some ⟨g,0,none⟩) m cap) td.length (bQ td)->Calls prog 52 #[.pointer (some ⟨B,0,none⟩),.int .i64 (v.t:Nat),.slice (some ⟨g,0,none⟩) m cap] w fun e w'=>∃u,e=.returned u/\w'.ownsRow B 116 4 u (td++dm ns v.t (bu path v.ab v.ky).length).length (bQ (td++dm ns v.t (bu path v.ab v.ky).length))/\VF B w w'):=fun w h1 h2 h3=>CB.o _ _ v.t td _ w htl htk h1 h2 h3 (by omega)
   have b0:wa.cell? ⟨bx,0,none⟩=some (.int .i64 (v.t:Nat)):=by rw[ae hbx];rfl
   have b1:wa.cell? ⟨bx,1,none⟩=some (.string K):=by rw[ae hbx];rfl
   have b2:wa.cell? ⟨bx,2,none⟩=some (.bool v.dbl):=by rw[ae hbx];rfl
   have b3:wa.cell? ⟨bx,3,none⟩=some (.int .i64 (v.ab:Nat)):=by rw[ae hbx];rfl
   obtain⟨vt,hvt⟩:∃x,v.t=x:=⟨_,rfl⟩;obtain⟨va,hva⟩:∃x,v.ab=x:=⟨_,rfl⟩;obtain⟨vd,hvd⟩:∃x,v.dbl=x:=⟨_,rfl⟩;obtain⟨P',hP'⟩:∃x,bu path v.ab v.ky=x:=⟨_,rfl⟩;rw[hP']at HST AA EF uG;rw[hvt]at HST AA EF uG e0 b0 lY dJ;rw[hvd]at HST AA EF uG e2 b2 lY dJ;rw[hva]at AA e3 b3 lY dJ;obtain⟨O1,tq⟩:∃x,out++iR out P' vd=x:=⟨_,rfl⟩;rw[tq]at HST AA EF uG;clear hr hcells hcut hst hfm Az hK hga hbx Bj nP hp hg hvt hva hvd hP' tq hl1 htl htk hky hab hm;go_upto_region 8 with fail
   try rw[lY.o.1]
   try rw[lY.o.2]
   clear e0 e1 e2 e3;go_wp2_with (go_at_call 53;refine AA.o.mono ?_);rintro e wb ⟨rfl,hpb,hfb⟩;have hbb:=(hfb.oth _ _ _ _ dJ.o (by decide) (by decide)).trans dJ.o;have nO:Hd (wb.heap[bx]?=some (.cells #[.int .i64 (vt:Nat),.string K,.bool vd,.int .i64 (va:Nat)] 116 (0,0))):=hbb;have f0:wb.cell? ⟨bx,0,none⟩=some (.int .i64 (vt:Nat)):=by rw[ae hbb];rfl
   have G6:Hd (Pn wb B B (.slice o l0 c0) O1 P'):=hpb;have bY:Hd (w0.grownBy wb none):=lV.o _ _ uo.o hfb.bel;have lq:Hd (wb.ownsRow B 116 4 (.slice (some ⟨g,0,none⟩) m cap) td.length (bQ td)):=bW vM.o fun g cur _ hc=>hfb.oth _ _ _ _ hc (by decide) (by decide)
   clear hpb hfb hbb b0 b1 b2 b3;go_wp2_with (go_at_call 51;refine(EF.o _ G6.o bY.o).mono ?_);rintro e wd ⟨rfl,Xd,hfd⟩;have hbd:=(hfd.oth _ _ _ _ nO.o (by decide) (by decide)).trans nO.o;have g0:wd.cell? ⟨bx,0,none⟩=some (.int .i64 (vt:Nat)):=by rw[ae hbd];rfl
   have Xe:Hd (Pn wd B B (.slice o l0 c0) (O1++dK ns vt) P'):=Xd;have gV:Hd (w0.grownBy wd none):=lV.o _ _ bY.o hfd.bel;have bH:Hd (wd.ownsRow B 116 4 (.slice (some ⟨g,0,none⟩) m cap) td.length (bQ td)):=bW lq.o fun g cur _ hc=>hfd.oth _ _ _ _ hc (by decide) (by decide)
   clear Xd hfd hbd f0;go_wp2_with (go_at_call 52;refine(uG.o _ Xe.o gV.o bH.o).mono ?_);rintro e we ⟨u,rfl,hre,jo⟩;have jb:Hd (Pn we B B (.slice o l0 c0) (O1++dK ns vt) P'):=Xe.o.keep fun b cs t fz hb ht=>jo.oth b cs t fz hb (by rcases ht with rfl|rfl<;>decide) (by rcases ht with rfl|rfl<;>decide)
   have oD:Hd (w0.grownBy we none):=lV.o _ _ gV.o jo.bel;have ji:Hd (we.ownsRow B 116 4 u (td++dm ns vt P'.length).length (bQ (td++dm ns vt P'.length))):=hre;clear hre jo g0;go_wp2
   go_roundg f
   case measure=>omega
   case rel=>exact⟨_,_,_,_,jb.o,ji.o,oD.o,HST.o.1,HST.o.2⟩
open Go.RowKit Go.Extern.Stop Go.Stop Go.Extern
theorem II(v:Value)(w:World):(ReflectliteType.typeOf #[.iface 330 v]).run prog w=.ok (.iface 202 (.agg #[.pointer (some ⟨14,330,none⟩)])) w:=by kernel_rfl
def IJ:Array Value->Sem Value:=ReflectliteType.method fun t=>do Rtype.noPackHeld "Comparable" t;pure (.bool (<-typeInfo t).comparable)
theorem Oj(w:World):(IJ #[.agg #[.pointer (some ⟨14,330,none⟩)]]).run prog w=.ok (.bool true) w:=by kernel_rfl
theorem Ol(v:Value)(w:World):(Go.method 459 202 v "Comparable").run prog w=.ok (282,v) w:=by kernel_rfl
theorem Om:(prog.info? 330).map (·.comparable)=some true:=by kernel_rfl
theorem Oo:(prog.info? 332).map (·.size)=some 1:=by kernel_rfl
theorem Xf(v:Value)(xT:TypeId)(w:World):(Instr.typeAssert (.iface 330 v) xT 213 true).run prog w=.ok (.tuple #[.nilIface,.bool false]) w:=run_typeAssert_lacksB underlying213 (by kernel_rfl) (by kernel_rfl) v xT w
theorem Oq(v:Value)(xT:TypeId)(w:World):(Instr.typeAssert (.iface 330 v) xT 209 true).run prog w=.ok (.tuple #[.nilIface,.bool false]) w:=run_typeAssert_lacksB underlying209 (by kernel_rfl) (by kernel_rfl) v xT w
theorem Ot(v:Value)(xT:TypeId)(w:World):(Instr.typeAssert (.iface 330 v) xT 210 true).run prog w=.ok (.tuple #[.nilIface,.bool false]) w:=run_typeAssert_lacksB underlying210 (by kernel_rfl) (by kernel_rfl) v xT w
theorem aeD(v:Value)(xT:TypeId)(w:World):(Instr.typeAssert (.iface 330 v) xT 206 true).run prog w=.ok (.tuple #[.nilIface,.bool false]) w:=run_typeAssert_lacksB underlying206 (by kernel_rfl) (by kernel_rfl) v xT w
theorem Xg(v:Value)(xT:TypeId)(w:World):(Instr.typeAssert (.iface 104 v) xT 213 true).run prog w=.ok (.tuple #[.nilIface,.bool false]) w:=run_typeAssert_lacksB underlying213 (by kernel_rfl) (by kernel_rfl) v xT w
theorem Xh(v:Value)(xT:TypeId)(w:World):(Instr.typeAssert (.iface 104 v) xT 209 true).run prog w=.ok (.tuple #[.iface 104 v,.bool true]) w:=run_typeAssert_hasB underlying209 (by kernel_rfl) v xT w
theorem Xi(v:Value)(w:World):(Go.method 459 104 v "Unwrap").run prog w=.ok (276,v) w:=by kernel_rfl
theorem is_same(a:Addr)(w:World):Calls prog 50 #[.iface 330 (.pointer (some a)),.iface 330 (.pointer (some a))] w fun e w'=>e=.returned (.bool true)/\w'=w:=by
 obtain⟨i,hi,hcmp⟩:=Option.map_eq_some_iff.1 Om;obtain⟨j,hj,hjs⟩:=Option.map_eq_some_iff.1 Oo;have h8:=@run_callFunc_extern prog 84 _ ReflectliteType.typeOf func84 (by kernel_rfl) (by kernel_rfl) (by kernel_rfl) (by kernel_rfl);have h32:=@run_callFunc_extern prog 282 _ IJ func282 (by kernel_rfl) (by kernel_rfl) (by kernel_rfl) (by kernel_rfl);have tT:=II;have cT:=Oj;have mR:=Ol;have heq:=run_eql_iface_ptr_same (P:=prog) w a underlying50 underlying330 hi hcmp hj;go_enter func50,ntmps50;go_wp2;refine wp_loop_rounds 1 ?_;rw[rounds_succ];go_wp2;go_ret;exact⟨rfl,rfl⟩
theorem aeE(F:Nat)(b:Addr)(w:World)(h1:w.cell? ⟨F,1,none⟩=some (.iface 330 (.pointer (some b)))) :
  Calls prog 50 #[.iface 104 (.pointer (some ⟨F,0,none⟩)),.iface 330 (.pointer (some b))] w fun e w'=>e=.returned (.bool true)/\w'=w:=by
 obtain⟨i,hi,hcmp⟩:=Option.map_eq_some_iff.1 Om;obtain⟨j,hj,hjs⟩:=Option.map_eq_some_iff.1 Oo;have h8:=@run_callFunc_extern prog 84 _ ReflectliteType.typeOf func84 (by kernel_rfl) (by kernel_rfl) (by kernel_rfl) (by kernel_rfl);have h32:=@run_callFunc_extern prog 282 _ IJ func282 (by kernel_rfl) (by kernel_rfl) (by kernel_rfl) (by kernel_rfl);have tT:=II;have cT:=Oj;have mR:=Ol;have nE:=Xf;have uE:=Oq;have vE:=Ot;have nW:=Xg;have uW:=Xh;have mU:=Xi;have heq:=run_eql_iface_ptr_same (P:=prog) w b underlying50 underlying330 hi hcmp hj;have hty:=run_eql_iface_types (P:=prog) 104 330 (.pointer (some ⟨F,0,none⟩)) (.pointer (some b)) underlying50 (by decide) w;go_enter func50,ntmps50;go_wp2;refine wp_loop_rounds 2 ?_;rw[rounds_succ];go_wp2;rw[rounds_succ];go_wp2
 go_ret;exact⟨rfl,rfl⟩
theorem aeF(F:Nat)(b a:Addr)(ca cb:Array Value)(ta tb:TypeId)(w:World)(h1:w.cell? ⟨F,1,none⟩=some (.iface 330 (.pointer (some a))))(hne:a≠b)(ha:w.heap[a.block]?=some (.cells ca ta (0,0)))(hb:w.heap[b.block]?=some (.cells cb tb (0,0))) :
  Calls prog 50 #[.iface 104 (.pointer (some ⟨F,0,none⟩)),.iface 330 (.pointer (some b))] w fun e w'=>e=.returned (.bool false)/\w'=w:=by
 obtain⟨i,hi,hcmp⟩:=Option.map_eq_some_iff.1 Om;obtain⟨j,hj,hjs⟩:=Option.map_eq_some_iff.1 Oo;have h8:=@run_callFunc_extern prog 84 _ ReflectliteType.typeOf func84 (by kernel_rfl) (by kernel_rfl) (by kernel_rfl) (by kernel_rfl);have h32:=@run_callFunc_extern prog 282 _ IJ func282 (by kernel_rfl) (by kernel_rfl) (by kernel_rfl) (by kernel_rfl);have tT:=II;have cT:=Oj;have mR:=Ol;have nE:=Xf;have uE:=Oq;have vE:=Ot;have nW:=Xg;have uW:=Xh;have mU:=Xi;have heq:=run_eql_iface_ptr_other (P:=prog) w underlying50 underlying330 hi hcmp hj (by rw[hjs];decide) hne ha hb;have hty:=run_eql_iface_types (P:=prog) 104 330 (.pointer (some ⟨F,0,none⟩)) (.pointer (some b)) underlying50 (by decide) w;go_enter func50,ntmps50;go_wp2;refine wp_loop_rounds 2 ?_;rw[rounds_succ];go_wp2
 rw[rounds_succ];go_wp2;go_ret;exact⟨rfl,rfl⟩
open Go.RowKit Go.Extern.Stop Go.Stop Go.Extern
theorem Xj(t:Addr)(w:World):(ReflectliteValue.unpack (.iface 106 (.pointer (some t)))).run prog w
  = .ok (.agg #[.pointer (some ⟨14,106,none⟩),.pointer (some ⟨w.heap.size,0,none⟩),.int .u64 150]) (w.alloc (.cells #[.pointer (some t)] 106)):=by kernel_rfl
theorem aType(a:Addr)(w:World):(ReflectliteValue.methodAny (ReflectliteValue.valueError "reflectlite.Value.Type" 0) (fun t _ _ _=>ReflectliteType.toType t) #[.agg #[.pointer (some ⟨14,106,none⟩),.pointer (some a),.int .u64 150]]).run prog w
  = .ok (.iface 202 (.agg #[.pointer (some ⟨14,106,none⟩)])) w:=by kernel_rfl
theorem Xk(h:Value)(w:World):(Go.method 459 202 (.agg #[h]) "Kind").run prog w=.ok (271,h) w:=by kernel_rfl
theorem Xl(w:World):((ReflectliteType.abiMethod fun t=>(fun a:Nat=>Value.int IntKind.u8 (a:Int)) <$> Rtype.kind t) #[.pointer (some ⟨14,106,none⟩)]).run prog w=.ok (.int .u8 22) w:=by kernel_rfl
theorem Xm(w:World):((ReflectliteType.abiMethod fun t=>(fun a:Nat=>Value.int IntKind.u8 (a:Int)) <$> Rtype.kind t) #[.pointer (some ⟨14,104,none⟩)]).run prog w=.ok (.int .u8 22) w:=by kernel_rfl
theorem Xn(z:Sem Value)(f:TypeId->Addr->Nat->Nat->Sem Value)(v:Value) :
  ReflectliteValue.method z f #[v]=(do match <-ReflectliteValue.parts v with|none=>z|some (t,a,fl)=>f t a fl (fl % 32)):=rfl
theorem Xo(a:Addr)(w:World):(ReflectliteValue.parts (.agg #[.pointer (some ⟨14,106,none⟩),.pointer (some a),.int .u64 150])).run prog w=.ok (some (106,a,150)) w:=by kernel_rfl
theorem Xp(a p:Addr)(W:World)(ha:W.cell? a=some (.pointer (some p))) :
  (ReflectliteValue.method (ReflectliteValue.valueError "reflectlite.Value.IsNil" 0) ReflectliteValue.isNil #[.agg #[.pointer (some ⟨14,106,none⟩),.pointer (some a),.int .u64 150]]).run prog W=.ok (.bool false) W:=by
 rw[Xn];simp only[Sem.run_bind,Xo,Result.andThen];simp[ReflectliteValue.isNil,loadVar,isAgg,underlying,underlying106,ha,Result.andThen]
theorem Xq(h:Value)(w:World):(Go.method 459 202 (.agg #[h]) "Elem").run prog w=.ok (283,.agg #[h]) w:=by kernel_rfl
theorem Xr(h:Value)(w:World):(Go.method 459 202 (.agg #[h]) "Implements").run prog w=.ok (284,.agg #[h]) w:=by kernel_rfl
theorem Xt(h:Value)(w:World):(Go.method 459 202 (.agg #[h]) "AssignableTo").run prog w=.ok (281,.agg #[h]) w:=by kernel_rfl
theorem Xu(w:World):(ReflectliteType.method ReflectliteType.elem #[.agg #[.pointer (some ⟨14,106,none⟩)]]).run prog w=.ok (.iface 202 (.agg #[.pointer (some ⟨14,104,none⟩)])) w:=by kernel_rfl
theorem Xv(w:World):(ReflectliteType.relation "Implements" ReflectliteType.implements_ #[.agg #[.pointer (some ⟨14,104,none⟩)],.iface 202 (.agg #[.pointer (some ⟨14,50,none⟩)])]).run prog w=.ok (.bool true) w:=by kernel_rfl
theorem aeG(v:Value)(w:World):(ReflectliteType.typeOf #[.iface 104 v]).run prog w=.ok (.iface 202 (.agg #[.pointer (some ⟨14,104,none⟩)])) w:=by kernel_rfl
theorem aeH(w:World):(ReflectliteType.relation "AssignableTo" ReflectliteType.assignableTo #[.agg #[.pointer (some ⟨14,104,none⟩)],.iface 202 (.agg #[.pointer (some ⟨14,104,none⟩)])]).run prog w=.ok (.bool true) w:=by kernel_rfl
theorem aeI(w:World):(ReflectliteType.relation "AssignableTo" ReflectliteType.assignableTo #[.agg #[.pointer (some ⟨14,330,none⟩)],.iface 202 (.agg #[.pointer (some ⟨14,104,none⟩)])]).run prog w=.ok (.bool false) w:=by kernel_rfl
theorem aeJ(e:Addr)(w:World):(ReflectliteValue.unpack (.iface 104 (.pointer (some e)))).run prog w
  = .ok (.agg #[.pointer (some ⟨14,104,none⟩),.pointer (some ⟨w.heap.size,0,none⟩),.int .u64 150]) (w.alloc (.cells #[.pointer (some e)] 104)):=by kernel_rfl
theorem aeK(w:World):(Rtype.elem? 106).run prog w=.ok (some 104) w:=by kernel_rfl
theorem aMk(p:Addr)(w:World):(ReflectliteValue.mk 104 p ReflectliteValue.flagAddr).run prog w=.ok (.agg #[.pointer (some ⟨14,104,none⟩),.pointer (some p),.int .u64 406]) w:=by kernel_rfl
theorem aeL(a p:Addr)(W:World)(ha:W.cell? a=some (.pointer (some p))) :
  (ReflectliteValue.method (ReflectliteValue.valueError "reflectlite.Value.Elem" 0) ReflectliteValue.elem #[.agg #[.pointer (some ⟨14,106,none⟩),.pointer (some a),.int .u64 150]]).run prog W
   = .ok (.agg #[.pointer (some ⟨14,104,none⟩),.pointer (some p),.int .u64 406]) W:=by
 rw[Xn];simp only[Sem.run_bind,Xo,Result.andThen];simp[ReflectliteValue.elem,loadVar,isAgg,underlying,underlying106,ha,Result.andThen,aeK,aMk]
theorem aeM(v x:Value):ReflectliteValue.set #[v,x]=(do
  let (some (dst,a,fl),some (src,b,_)):=(<-ReflectliteValue.parts v,<-ReflectliteValue.parts x)
   | unsupported (.noEntry "extern/(internal/reflectlite.Value).Set.zeroValue")
  if fl / ReflectliteValue.flagAddr % 2 == 0 then unsupported (.noEntry "extern/(internal/reflectlite.Value).Set.unaddressable")
  let val <-loadVar src b
  if <-Rtype.directlyAssignable dst src then storeVar dst a val
  else if <-Rtype.implements dst src then
   if(<-Rtype.kind src) == 20 then
    match val with
    | .nilIface=>unsupported (.noEntry "extern/reflectlite: a nil value of one interface type handed on as a value of another")
    | _=>storeVar dst a val
   else storeVar dst a (.iface src val)
  else panicString ("reflectlite.Set: value of type "++(<-Rtype.spelt src) ++ " is not assignable to type "++(<-Rtype.spelt dst))
  pure (.tuple #[])):=rfl
theorem aeN(a:Addr)(w:World):(ReflectliteValue.parts (.agg #[.pointer (some ⟨14,104,none⟩),.pointer (some a),.int .u64 406])).run prog w=.ok (some (104,a,406)) w:=by kernel_rfl
theorem aeO(a:Addr)(w:World):(ReflectliteValue.parts (.agg #[.pointer (some ⟨14,104,none⟩),.pointer (some a),.int .u64 150])).run prog w=.ok (some (104,a,150)) w:=by kernel_rfl
theorem aeP(w:World):(Rtype.directlyAssignable 104 104).run prog w=.ok true w:=by kernel_rfl
theorem aeQ(ta b e:Addr)(old:Value)(W:World)(hb:W.cell? b=some (.pointer (some e)))(ht:W.cell? ta=some old)(hf:W.frozen? ta=false) :
  (ReflectliteValue.set #[.agg #[.pointer (some ⟨14,104,none⟩),.pointer (some ta),.int .u64 406],.agg #[.pointer (some ⟨14,104,none⟩),.pointer (some b),.int .u64 150]]).run prog W
   = .ok (.tuple #[]) (W.setCell ta (.pointer (some e))):=by
 rw[aeM];simp only[Sem.run_bind,aeN,aeO,Result.andThen];simp[ReflectliteValue.flagAddr,loadVar,isAgg,underlying,underlying104,hb,Result.andThen,aeP,storeVar,Value.cells,storeCells,Addr.add];rw[run_store prog W ta _ _ (by rfl)];simp[ht,hf]
theorem as_hit(e t:Addr)(old:Value)(w:World)(hg:w.cell? ⟨4,0,none⟩=some (.iface 202 (.agg #[.pointer (some ⟨14,50,none⟩)])))(ht0:w.cell? t=some old)(hf0:w.frozen? t=false) :
  Calls prog 49 #[.iface 104 (.pointer (some e)),.iface 106 (.pointer (some t))] w fun ev w'=>ev=.returned (.bool true)/\w'=((((w.alloc (.cells #[.pointer (some t)] 106)).alloc (.cells #[.pointer (some ⟨14,106,none⟩),.pointer (some ⟨w.heap.size,0,none⟩),.int .u64 150] 146)).alloc (.cells #[.pointer (some ⟨14,106,none⟩),.pointer (some ⟨w.heap.size,0,none⟩),.int .u64 150] 146)).alloc (.cells #[.pointer (some e)] 104)).setCell t (.pointer (some e)):=by
 have h6:=@run_callFunc_extern prog 80 _ (fun args=>ReflectliteValue.unpack (args.getD 0 (.tuple #[]))) func80 (by kernel_rfl) (by kernel_rfl) (by kernel_rfl) (by kernel_rfl);have h7:=@run_callFunc_extern prog 81 _ (ReflectliteValue.methodAny (ReflectliteValue.valueError "reflectlite.Value.Type" 0) (fun t _ _ _=>ReflectliteType.toType t)) func81 (by kernel_rfl) (by kernel_rfl) (by kernel_rfl) (by kernel_rfl);have h8:=@run_callFunc_extern prog 82 _ (ReflectliteValue.method (ReflectliteValue.valueError "reflectlite.Value.IsNil" 0) ReflectliteValue.isNil) func82 (by kernel_rfl) (by kernel_rfl) (by kernel_rfl) (by kernel_rfl);have h27:=@run_callFunc_extern prog 271 _ (ReflectliteType.abiMethod fun t=>do pure (.int .u8 (<-Rtype.kind t))) func271 (by kernel_rfl) (by kernel_rfl) (by kernel_rfl) (by kernel_rfl);have h37:=@run_callFunc_extern prog 283 _ (ReflectliteType.method ReflectliteType.elem) func283 (by kernel_rfl) (by kernel_rfl) (by kernel_rfl) (by kernel_rfl)
 have h38:=@run_callFunc_extern prog 284 _ (ReflectliteType.relation "Implements" ReflectliteType.implements_) func284 (by kernel_rfl) (by kernel_rfl) (by kernel_rfl) (by kernel_rfl);have h10:=@run_callFunc_extern prog 84 _ ReflectliteType.typeOf func84 (by kernel_rfl) (by kernel_rfl) (by kernel_rfl) (by kernel_rfl);have h35:=@run_callFunc_extern prog 281 _ (ReflectliteType.relation "AssignableTo" ReflectliteType.assignableTo) func281 (by kernel_rfl) (by kernel_rfl) (by kernel_rfl) (by kernel_rfl);have h11:=@run_callFunc_extern prog 126 _ (ReflectliteValue.method (ReflectliteValue.valueError "reflectlite.Value.Elem" 0) ReflectliteValue.elem) func126 (by kernel_rfl) (by kernel_rfl) (by kernel_rfl) (by kernel_rfl);have h12:=@run_callFunc_extern prog 127 _ ReflectliteValue.set func127 (by kernel_rfl) (by kernel_rfl) (by kernel_rfl) (by kernel_rfl)
 have tO:=aeG;have mA:=Xt;have a25:=aeH;have v25:=aeJ;have f6:=Xj;have f7:=aType;have mK:=Xk;have mE:=Xq;have mI:=Xr;have k27:=Xl;have k25:=Xm;have e27:=Xu;have i25:=Xv;have n8:=Xp ⟨w.heap.size,0,none⟩ t ((w.alloc (.cells #[.pointer (some t)] 106)).alloc (.cells #[.pointer (some ⟨14,106,none⟩),.pointer (some ⟨w.heap.size,0,none⟩),.int .u64 150] 146)) (by simp);have hlt:4<w.heap.size:=by
  rcases Nat.lt_or_ge 4 w.heap.size with h|h
  ·exact h
  ·simp[World.cell?,Array.getElem?_eq_none h]at hg
 have hg2:((w.alloc (.cells #[.pointer (some t)] 106)).alloc (.cells #[.pointer (some ⟨14,106,none⟩),.pointer (some ⟨w.heap.size,0,none⟩),.int .u64 150] 146)).cell? ⟨4,0,none⟩=some (.iface 202 (.agg #[.pointer (some ⟨14,50,none⟩)])):=by
  rw[World.cell?_alloc_lt _ _ ⟨4,0,none⟩ (by simp;omega),World.cell?_alloc_lt _ _ ⟨4,0,none⟩ hlt];exact hg
 have htl:t.block<w.heap.size:=by
  rcases Nat.lt_or_ge t.block w.heap.size with h|h
  ·exact h
  ·simp[World.cell?,Array.getElem?_eq_none h]at ht0
 have el:=aeL ⟨w.heap.size,0,none⟩ t (((w.alloc (.cells #[.pointer (some t)] 106)).alloc (.cells #[.pointer (some ⟨14,106,none⟩),.pointer (some ⟨w.heap.size,0,none⟩),.int .u64 150] 146)).alloc (.cells #[.pointer (some ⟨14,106,none⟩),.pointer (some ⟨w.heap.size,0,none⟩),.int .u64 150] 146)) (by rw[World.cell?_alloc_lt _ _ ⟨w.heap.size,0,none⟩ (by simp;omega)];simp);have st:=aeQ t ⟨w.heap.size+1+1+1,0,none⟩ e old ((((w.alloc (.cells #[.pointer (some t)] 106)).alloc (.cells #[.pointer (some ⟨14,106,none⟩),.pointer (some ⟨w.heap.size,0,none⟩),.int .u64 150] 146)).alloc (.cells #[.pointer (some ⟨14,106,none⟩),.pointer (some ⟨w.heap.size,0,none⟩),.int .u64 150] 146)).alloc (.cells #[.pointer (some e)] 104))
  (by rw[World.cell?_alloc_at _ _ _ _ (by simp)];rfl)
  (by rw[World.cell?_alloc_lt _ _ t (by simp;omega),World.cell?_alloc_lt _ _ t (by simp;omega),World.cell?_alloc_lt _ _ t (by simp;omega),World.cell?_alloc_lt _ _ t htl];exact ht0)
  (by rw[World.frozen?_alloc_old _ _ t (by simp;omega),World.frozen?_alloc_old _ _ t (by simp;omega),World.frozen?_alloc_old _ _ t (by simp;omega),World.frozen?_alloc_old _ _ t (Nat.ne_of_lt htl)];exact hf0)
 go_enter func49,ntmps49;go_wp2;refine wp_loop_rounds 1 ?_;rw[rounds_succ];go_wp2;go_ret;exact⟨rfl,rfl⟩
theorem aeR(e t:Addr)(old:Value)(w:World)(hg:w.cell? ⟨4,0,none⟩=some (.iface 202 (.agg #[.pointer (some ⟨14,50,none⟩)])))(ht0:w.cell? t=some old)(hf0:w.frozen? t=false) :
  Calls prog 49 #[.iface 330 (.pointer (some e)),.iface 106 (.pointer (some t))] w fun ev w'=>ev=.returned (.bool false)/\w.grownBy w' none:=by
 have h6:=@run_callFunc_extern prog 80 _ (fun args=>ReflectliteValue.unpack (args.getD 0 (.tuple #[]))) func80 (by kernel_rfl) (by kernel_rfl) (by kernel_rfl) (by kernel_rfl);have h7:=@run_callFunc_extern prog 81 _ (ReflectliteValue.methodAny (ReflectliteValue.valueError "reflectlite.Value.Type" 0) (fun t _ _ _=>ReflectliteType.toType t)) func81 (by kernel_rfl) (by kernel_rfl) (by kernel_rfl) (by kernel_rfl);have h8:=@run_callFunc_extern prog 82 _ (ReflectliteValue.method (ReflectliteValue.valueError "reflectlite.Value.IsNil" 0) ReflectliteValue.isNil) func82 (by kernel_rfl) (by kernel_rfl) (by kernel_rfl) (by kernel_rfl);have h27:=@run_callFunc_extern prog 271 _ (ReflectliteType.abiMethod fun t=>do pure (.int .u8 (<-Rtype.kind t))) func271 (by kernel_rfl) (by kernel_rfl) (by kernel_rfl) (by kernel_rfl);have h37:=@run_callFunc_extern prog 283 _ (ReflectliteType.method ReflectliteType.elem) func283 (by kernel_rfl) (by kernel_rfl) (by kernel_rfl) (by kernel_rfl)
 have h38:=@run_callFunc_extern prog 284 _ (ReflectliteType.relation "Implements" ReflectliteType.implements_) func284 (by kernel_rfl) (by kernel_rfl) (by kernel_rfl) (by kernel_rfl);have h10:=@run_callFunc_extern prog 84 _ ReflectliteType.typeOf func84 (by kernel_rfl) (by kernel_rfl) (by kernel_rfl) (by kernel_rfl);have h35:=@run_callFunc_extern prog 281 _ (ReflectliteType.relation "AssignableTo" ReflectliteType.assignableTo) func281 (by kernel_rfl) (by kernel_rfl) (by kernel_rfl) (by kernel_rfl);have tO:=II;have mA:=Xt;have a25:=aeI;have f6:=Xj;have f7:=aType;have mK:=Xk;have mE:=Xq;have mI:=Xr;have k27:=Xl;have k25:=Xm;have e27:=Xu;have i25:=Xv;have nA:=aeD;have uE:=Oq;have vE:=Ot;have n8:=Xp ⟨w.heap.size,0,none⟩ t ((w.alloc (.cells #[.pointer (some t)] 106)).alloc (.cells #[.pointer (some ⟨14,106,none⟩),.pointer (some ⟨w.heap.size,0,none⟩),.int .u64 150] 146)) (by simp)
 have hlt:4<w.heap.size:=by
  rcases Nat.lt_or_ge 4 w.heap.size with h|h
  ·exact h
  ·simp[World.cell?,Array.getElem?_eq_none h]at hg
 have hg2:((w.alloc (.cells #[.pointer (some t)] 106)).alloc (.cells #[.pointer (some ⟨14,106,none⟩),.pointer (some ⟨w.heap.size,0,none⟩),.int .u64 150] 146)).cell? ⟨4,0,none⟩=some (.iface 202 (.agg #[.pointer (some ⟨14,50,none⟩)])):=by
  rw[World.cell?_alloc_lt _ _ ⟨4,0,none⟩ (by simp;omega),World.cell?_alloc_lt _ _ ⟨4,0,none⟩ hlt];exact hg
 have htl:t.block<w.heap.size:=by
  rcases Nat.lt_or_ge t.block w.heap.size with h|h
  ·exact h
  ·simp[World.cell?,Array.getElem?_eq_none h]at ht0
 have HG:Hd (w.grownBy (((w.alloc (.cells #[.pointer (some t)] 106)).alloc (.cells #[.pointer (some ⟨14,106,none⟩),.pointer (some ⟨w.heap.size,0,none⟩),.int .u64 150] 146)).alloc (.cells #[.pointer (some ⟨14,106,none⟩),.pointer (some ⟨w.heap.size,0,none⟩),.int .u64 150] 146)) none):=af (af (World.grownBy_alloc _ _ none) (World.grownBy_alloc _ _ none)) (World.grownBy_alloc _ _ none);go_enter func49,ntmps49;go_wp2;refine wp_loop_rounds 1 ?_;rw[rounds_succ];go_wp2;go_ret
 first
 | exact⟨rfl,HG.o⟩
 | (refine⟨rfl,?_⟩;trace_state;exact HG.o)
open Go.RowKit Go.Maps Go.WideMaps Go.Joins
structure Sn(w:World)(E:Int->TypeId × Value)(b:Int->Addr):Prop where
 ptr:∀k,1<=k->k<=5->E k=(330,.pointer (some (b k)))
 blk:∀k,1<=k->k<=5->∃cs t,w.heap[(b k).block]?=some (.cells cs t (0,0))
 ne:∀k m,1<=k->k<=5->1<=m->m<=5->b k=b m->k=m
 ty:w.cell? ⟨4,0,none⟩=some (.iface 202 (.agg #[.pointer (some ⟨14,50,none⟩)]))
 lo:w.cell? ⟨0,0,none⟩=some (.iface (E 1).1 (E 1).2)
theorem Sn.grow{w w':World}{E:Int->TypeId × Value}{b:Int->Addr}(h:Sn w E b)(hg:w.grownBy w' none):Sn w' E b :=
 ⟨h.ptr,fun k h1 h2=>by
  obtain⟨cs,t,hb⟩:=h.blk k h1 h2;exact⟨cs,t,(hg.block _ (aA hb) (by simp)).trans hb⟩,h.ne,hg.cell h.ty (by simp),hg.cell h.lo (by simp)⟩
theorem aeS(w:World)(E:Int->TypeId × Value)(b:Int->Addr)(h:Sn w E b)(F:Nat)(c k:Int)(h1:1<=c)(h2:c<=5)(h3:1<=k)(h4:k<=5)(hF:w.cell? ⟨F,1,none⟩=some (.iface (E c).1 (E c).2)) :
  Calls prog 50 #[.iface 104 (.pointer (some ⟨F,0,none⟩)),.iface (E k).1 (E k).2] w fun e w'=>e=.returned (.bool (decide (c=k)))/\w'=w:=by
 have ec:=h.ptr c h1 h2;have ek:=h.ptr k h3 h4;rw[ec]at hF;rw[ek]
 by_cases hck:c=k
 ·subst hck;rw[decide_eq_true rfl];exact aeE F (b c) w hF
 ·rw[decide_eq_false hck];obtain⟨ca,ta,ha⟩:=h.blk c h1 h2;obtain⟨cb,tb,hb⟩:=h.blk k h3 h4;exact aeF F (b k) (b c) ca cb ta tb w hF (fun e=>hck (h.ne c k h1 h2 h3 h4 e)) ha hb
theorem Xw(E:Int->TypeId × Value)(b:Int->Addr)(w:World)(F:Nat)(c:Int)(p:Nat)(G:Gl w w.heap.size E)(S:Sn w E b)(h1:1<=c)(h2:c<=5)(hF:w.heap[F]?=some (.cells #[.int .i64 (p:Nat),.iface (E c).1 (E c).2] 108 (0,0))) :
  Calls prog 19 #[.iface 104 (.pointer (some ⟨F,0,none⟩))] w fun e w'=>e=.returned (.tuple #[.int .i64 c,.int .i64 (p:Nat)])/\w.grownBy w' none:=by
 -- the variable's block
 have uP:w.grownBy (w.alloc (.cells #[.pointer none] 104)) none:=World.grownBy_alloc _ _ none;obtain⟨w1,hw1⟩:∃W,w.alloc (.cells #[.pointer none] 104)=W:=⟨_,rfl⟩;have hT:w1.heap[w.heap.size]?=some (.cells #[.pointer none] 104 (0,0)):=by rw[<-hw1];exact heap_alloc_new w _
 rw[hw1]at uP;have S1:=S.grow uP;obtain⟨T,hTe⟩:=zN (w.heap.size);rw[hTe]at hT;have CA:=as_hit ⟨F,0,none⟩ ⟨T,0,none⟩ (.pointer none) w1 S1.ty (by rw[ae hT];rfl) (Lib.frozen_of_heap hT 0)
 -- the world behind errors.As
 have nY:¬F=T:=fun e=>by have:=aA hF;omega
 have post:∀w2:World,w2=((((w1.alloc (.cells #[.pointer (some ⟨T,0,none⟩)] 106)).alloc (.cells #[.pointer (some ⟨14,106,none⟩),.pointer (some ⟨w1.heap.size,0,none⟩),.int .u64 150] 146)).alloc (.cells #[.pointer (some ⟨14,106,none⟩),.pointer (some ⟨w1.heap.size,0,none⟩),.int .u64 150] 146)).alloc (.cells #[.pointer (some ⟨F,0,none⟩)] 104)).setCell ⟨T,0,none⟩ (.pointer (some ⟨F,0,none⟩))->w.grownBy w2 none/\w2.cell? ⟨T,0,none⟩=some (.pointer (some ⟨F,0,none⟩))/\w2.cell? ⟨F,0,none⟩=some (.int .i64 (p:Nat))/\w2.cell? ⟨F,1,none⟩=some (.iface (E c).1 (E c).2):=fun w2 e=>by
  obtain⟨wx,hwx⟩:∃W,(((w1.alloc (.cells #[.pointer (some ⟨T,0,none⟩)] 106)).alloc (.cells #[.pointer (some ⟨14,106,none⟩),.pointer (some ⟨w1.heap.size,0,none⟩),.int .u64 150] 146)).alloc (.cells #[.pointer (some ⟨14,106,none⟩),.pointer (some ⟨w1.heap.size,0,none⟩),.int .u64 150] 146)).alloc (.cells #[.pointer (some ⟨F,0,none⟩)] 104)=W:=⟨_,rfl⟩;have g1:w1.grownBy wx none:=by
   rw[<-hwx];exact af (af (af (World.grownBy_alloc _ _ none) (World.grownBy_alloc _ _ none)) (World.grownBy_alloc _ _ none)) (World.grownBy_alloc _ _ none)
  rw[hwx]at e;have hTx:wx.heap[T]?=some (.cells #[.pointer none] 104 (0,0)):=(g1.block T (aA hT) (by simp)).trans hT;have hset:=block_setCell (i:=0) hTx (.pointer (some ⟨F,0,none⟩));rw[<-e]at hset;have hF2:w2.heap[F]?=some (.cells #[.int .i64 (p:Nat),.iface (E c).1 (E c).2] 108 (0,0)):=by
   have e1:=(uP.block F (aA hF) (by simp)).trans hF;have e2:=(g1.block F (aA e1) (by simp)).trans e1;rw[e];exact(heap_setCell_other _ _ _ _ nY).trans e2
  refine⟨?_,by rw[ae hset];rfl,by rw[ae hF2];rfl,by rw[ae hF2];rfl⟩;have g2:w.grownBy wx none:=af uP g1;rw[e];refine⟨g2.os,g2.tape,g2.output,by simpa [World.setCell] using g2.size,fun k hk hn=>?_⟩;rw[heap_setCell_other wx _ k _ (by simp;omega)];exact g2.block k hk hn
 have qp:Hd (Calls prog 49 #[.iface 104 (.pointer (some ⟨F,0,none⟩)),.iface 106 (.pointer (some ⟨T,0,none⟩))] w1 fun ev w2=>ev=.returned (.bool true)/\w.grownBy w2 none/\w2.cell? ⟨T,0,none⟩=some (.pointer (some ⟨F,0,none⟩))/\w2.cell? ⟨F,0,none⟩=some (.int .i64 (p:Nat))/\w2.cell? ⟨F,1,none⟩=some (.iface (E c).1 (E c).2)):=by
  refine CA.mono ?_;rintro e w2 ⟨rfl,hw2⟩;exact⟨rfl,post w2 hw2⟩
 have EG:Hd (∀w2,w.grownBy w2 none->w2.cell? ⟨F,1,none⟩=some (.iface (E c).1 (E c).2)->∀k,1<=k->k<=5->Calls prog 50 #[.iface 104 (.pointer (some ⟨F,0,none⟩)),.iface (E k).1 (E k).2] w2 fun e w'=>e=.returned (.bool (decide (c=k)))/\w'=w2):=fun w2 hg hc k h3 h4=>aeS w2 E b (S.grow hg) F c k (by omega) h2 h3 h4 hc
 have iF:Hd (∀w2,w.grownBy w2 none->w2.cell? ⟨0,0,none⟩=some (.iface (E 1).1 (E 1).2)/\w2.cell? ⟨1,0,none⟩=some (.iface (E 3).1 (E 3).2)/\w2.cell? ⟨2,0,none⟩=some (.iface (E 4).1 (E 4).2)/\w2.cell? ⟨3,0,none⟩=some (.iface (E 5).1 (E 5).2)):=fun w2 hg=>⟨(S.grow hg).lo,hg.cell G.es.ra (by simp),hg.cell G.es.ma (by simp),hg.cell G.es.tw (by simp)⟩
 have HW1:Hd (w.alloc (.cells #[.pointer none] 104)=w1):=hw1;obtain⟨t1,ht1⟩:∃x,E 1=x:=⟨_,rfl⟩;obtain⟨t3,ht3⟩:∃x,E 3=x:=⟨_,rfl⟩;obtain⟨t4,pK⟩:∃x,E 4=x:=⟨_,rfl⟩;obtain⟨t5,vS⟩:∃x,E 5=x:=⟨_,rfl⟩;have lN:Hd (∀w2,w.grownBy w2 none->w2.cell? ⟨F,1,none⟩=some (.iface (E c).1 (E c).2)->Calls prog 50 #[.iface 104 (.pointer (some ⟨F,0,none⟩)),.iface t1.1 t1.2] w2 fun e w'=>e=.returned (.bool (decide (c=1)))/\w'=w2):=fun w2 a d=>by
  have:=EG.o w2 a d 1 (by omega) (by omega);rw[ht1]at this;exact this
 have AB:Hd (∀w2,w.grownBy w2 none->w2.cell? ⟨F,1,none⟩=some (.iface (E c).1 (E c).2)->Calls prog 50 #[.iface 104 (.pointer (some ⟨F,0,none⟩)),.iface t3.1 t3.2] w2 fun e w'=>e=.returned (.bool (decide (c=3)))/\w'=w2):=fun w2 a d=>by
  have:=EG.o w2 a d 3 (by omega) (by omega);rw[ht3]at this;exact this
 have EH:Hd (∀w2,w.grownBy w2 none->w2.cell? ⟨F,1,none⟩=some (.iface (E c).1 (E c).2)->Calls prog 50 #[.iface 104 (.pointer (some ⟨F,0,none⟩)),.iface t4.1 t4.2] w2 fun e w'=>e=.returned (.bool (decide (c=4)))/\w'=w2):=fun w2 a d=>by
  have:=EG.o w2 a d 4 (by omega) (by omega);rw[pK]at this;exact this
 have IK:Hd (∀w2,w.grownBy w2 none->w2.cell? ⟨F,1,none⟩=some (.iface (E c).1 (E c).2)->Calls prog 50 #[.iface 104 (.pointer (some ⟨F,0,none⟩)),.iface t5.1 t5.2] w2 fun e w'=>e=.returned (.bool (decide (c=5)))/\w'=w2):=fun w2 a d=>by
  have:=EG.o w2 a d 5 (by omega) (by omega);rw[vS]at this;exact this
 rw[ht1,ht3,pK,vS]at iF;have jK:Hd (w.heap.size=T):=hTe;have HC:Hd (1<=c/\c<=5):=⟨h1,h2⟩;obtain⟨v,hv⟩:∃v:Value,Value.iface (E c).1 (E c).2=v:=⟨_,rfl⟩;rw[hv]at lN AB EH IK qp;clear hw1 uP hT S1 S G hTe CA post EG ht1 ht3 pK vS hF nY h1 h2 hv;obtain⟨b1,hb1⟩:∃x,decide (c=1)=x:=⟨_,rfl⟩;obtain⟨b3,hb3⟩:∃x,decide (c=3)=x:=⟨_,rfl⟩;obtain⟨b4,hb4⟩:∃x,decide (c=4)=x:=⟨_,rfl⟩;obtain⟨b5,hb5⟩:∃x,decide (c=5)=x:=⟨_,rfl⟩;have HB:Hd (decide (c=1)=b1/\decide (c=3)=b3/\decide (c=4)=b4/\decide (c=5)=b5):=⟨hb1,hb3,hb4,hb5⟩;rw[hb1]at lN;rw[hb3]at AB;rw[hb4]at EH;rw[hb5]at IK;clear hb1 hb3 hb4 hb5;rw[<-jK.o,<-HW1.o]at qp
 cases b1 with
 | true =>
  go_enter func19,ntmps19;go_wp2_with (go_at_call 49;refine qp.o.mono ?_);rintro e w2 ⟨rfl,hg2,v1,v2,v3⟩;obtain⟨y1,y3,y4,y5⟩:=iF.o w2 hg2;have HG2:Hd (w.grownBy w2 none):=hg2;have ja:Hd (w2.cell? ⟨F,1,none⟩=some v):=v3;clear hg2 v3 jK HW1 qp;obtain⟨T2,hT2⟩:∃x,w.heap.size=x:=⟨_,rfl⟩;rw[hT2]at v1 ⊢;clear hT2;go_wp2_with (go_at_call 50;refine(lN.o _ HG2.o ja.o).mono ?_)
  first|rintro e w' rfl rfl|rintro e w' ⟨rfl,rfl⟩
  go_wp2;refine bodyPost_ret (results_tmp2 (t:=2) (u:=3) rfl _ _ _) rfl ?_;have e:c=1:=by
   have q1:=HB.o;have q2:=HC.o;simp at q1;omega
  rw[e];exact⟨rfl,HG2.o⟩
 | false =>
  cases b3 with
  | true =>
   go_enter func19,ntmps19;go_wp2_with (go_at_call 49;refine qp.o.mono ?_);rintro e w2 ⟨rfl,hg2,v1,v2,v3⟩;obtain⟨y1,y3,y4,y5⟩:=iF.o w2 hg2;have HG2:Hd (w.grownBy w2 none):=hg2;have ja:Hd (w2.cell? ⟨F,1,none⟩=some v):=v3;clear hg2 v3 jK HW1 qp;obtain⟨T2,hT2⟩:∃x,w.heap.size=x:=⟨_,rfl⟩;rw[hT2]at v1 ⊢;clear hT2;go_wp2_with (go_at_call 50;refine(lN.o _ HG2.o ja.o).mono ?_)
   first|rintro e w' rfl rfl|rintro e w' ⟨rfl,rfl⟩
   go_wp2_with (go_at_call 50;refine(AB.o _ HG2.o ja.o).mono ?_)
   first|rintro e w' rfl rfl|rintro e w' ⟨rfl,rfl⟩
   go_wp2;refine bodyPost_ret (results_tmp2 (t:=2) (u:=3) rfl _ _ _) rfl ?_;have e:c=3:=by
    have q1:=HB.o;have q2:=HC.o;simp at q1;omega
   rw[e];exact⟨rfl,HG2.o⟩
  | false =>
   cases b4 with
   | true =>
    go_enter func19,ntmps19;go_wp2_with (go_at_call 49;refine qp.o.mono ?_);rintro e w2 ⟨rfl,hg2,v1,v2,v3⟩;obtain⟨y1,y3,y4,y5⟩:=iF.o w2 hg2;have HG2:Hd (w.grownBy w2 none):=hg2;have ja:Hd (w2.cell? ⟨F,1,none⟩=some v):=v3;clear hg2 v3 jK HW1 qp;obtain⟨T2,hT2⟩:∃x,w.heap.size=x:=⟨_,rfl⟩;rw[hT2]at v1 ⊢;clear hT2;go_wp2_with (go_at_call 50;refine(lN.o _ HG2.o ja.o).mono ?_)
    first|rintro e w' rfl rfl|rintro e w' ⟨rfl,rfl⟩
    go_wp2_with (go_at_call 50;refine(AB.o _ HG2.o ja.o).mono ?_)
    first|rintro e w' rfl rfl|rintro e w' ⟨rfl,rfl⟩
    go_wp2_with (go_at_call 50;refine(EH.o _ HG2.o ja.o).mono ?_)
    first|rintro e w' rfl rfl|rintro e w' ⟨rfl,rfl⟩
    go_wp2;refine bodyPost_ret (results_tmp2 (t:=2) (u:=3) rfl _ _ _) rfl ?_;have e:c=4:=by
     have q1:=HB.o;have q2:=HC.o;simp at q1;omega
    rw[e];exact⟨rfl,HG2.o⟩
   | false =>
    cases b5 with
    | true =>
     go_enter func19,ntmps19;go_wp2_with (go_at_call 49;refine qp.o.mono ?_);rintro e w2 ⟨rfl,hg2,v1,v2,v3⟩;obtain⟨y1,y3,y4,y5⟩:=iF.o w2 hg2;have HG2:Hd (w.grownBy w2 none):=hg2;have ja:Hd (w2.cell? ⟨F,1,none⟩=some v):=v3;clear hg2 v3 jK HW1 qp;obtain⟨T2,hT2⟩:∃x,w.heap.size=x:=⟨_,rfl⟩;rw[hT2]at v1 ⊢;clear hT2;go_wp2_with (go_at_call 50;refine(lN.o _ HG2.o ja.o).mono ?_)
     first|rintro e w' rfl rfl|rintro e w' ⟨rfl,rfl⟩
     go_wp2_with (go_at_call 50;refine(AB.o _ HG2.o ja.o).mono ?_)
     first|rintro e w' rfl rfl|rintro e w' ⟨rfl,rfl⟩
     go_wp2_with (go_at_call 50;refine(EH.o _ HG2.o ja.o).mono ?_)
     first|rintro e w' rfl rfl|rintro e w' ⟨rfl,rfl⟩
     go_wp2_with (go_at_call 50;refine(IK.o _ HG2.o ja.o).mono ?_)
     first|rintro e w' rfl rfl|rintro e w' ⟨rfl,rfl⟩
     go_wp2;refine bodyPost_ret (results_tmp2 (t:=2) (u:=3) rfl _ _ _) rfl ?_;have e:c=5:=by
      have q1:=HB.o;have q2:=HC.o;simp at q1;omega
     rw[e];exact⟨rfl,HG2.o⟩
    | false =>
     go_enter func19,ntmps19;go_wp2_with (go_at_call 49;refine qp.o.mono ?_);rintro e w2 ⟨rfl,hg2,v1,v2,v3⟩;obtain⟨y1,y3,y4,y5⟩:=iF.o w2 hg2;have HG2:Hd (w.grownBy w2 none):=hg2;have ja:Hd (w2.cell? ⟨F,1,none⟩=some v):=v3;clear hg2 v3 jK HW1 qp;obtain⟨T2,hT2⟩:∃x,w.heap.size=x:=⟨_,rfl⟩;rw[hT2]at v1 ⊢;clear hT2;go_wp2_with (go_at_call 50;refine(lN.o _ HG2.o ja.o).mono ?_)
     first|rintro e w' rfl rfl|rintro e w' ⟨rfl,rfl⟩
     go_wp2_with (go_at_call 50;refine(AB.o _ HG2.o ja.o).mono ?_)
     first|rintro e w' rfl rfl|rintro e w' ⟨rfl,rfl⟩
     go_wp2_with (go_at_call 50;refine(EH.o _ HG2.o ja.o).mono ?_)
     first|rintro e w' rfl rfl|rintro e w' ⟨rfl,rfl⟩
     go_wp2_with (go_at_call 50;refine(IK.o _ HG2.o ja.o).mono ?_)
     first|rintro e w' rfl rfl|rintro e w' ⟨rfl,rfl⟩
     go_wp2;refine bodyPost_ret (results_tmp2 (t:=2) (u:=3) rfl _ _ _) rfl ?_;have e:c=2:=by
      have q1:=HB.o;have q2:=HC.o;simp at q1;omega
     rw[e];exact⟨rfl,HG2.o⟩
def ErN(c:Int × Nat):Prop:=2<=c.1/\c.1<=5
def fK{α:Type}(r:Rs α):Prop:=∀c,r=.error c->ErN c
theorem fM{α:Type}(a:α):fK (.ok a:Rs α):=fun c h=>by cases h
theorem kX{α:Type}(p:Nat):fK (.error (2,p):Rs α):=fun c h=>by cases h;exact⟨(by decide:(2:Int)<=2),(by decide:(2:Int)<=5)⟩
theorem aeT{α:Type}(p:Nat):fK (.error (3,p):Rs α):=fun c h=>by cases h;exact⟨(by decide:(2:Int)<=3),(by decide:(3:Int)<=5)⟩
theorem aeU{α:Type}(p:Nat):fK (.error (4,p):Rs α):=fun c h=>by cases h;exact⟨(by decide:(2:Int)<=4),(by decide:(4:Int)<=5)⟩
theorem EI{α:Type}(p:Nat):fK (.error (5,p):Rs α):=fun c h=>by cases h;exact⟨(by decide:(2:Int)<=5),(by decide:(5:Int)<=5)⟩
theorem jU{α β:Type}{r:Rs α}(h:fK r){c:Int × Nat}(hc:r=.error c):fK (.error c:Rs β):=fun c' h'=>by cases h';exact h c hc
theorem Xx(l:List UInt8):∀(k i n:Nat),fK (four l k i n)
 | 0,i,n=>fM _
 | k+1,i,n=>by
  rw[Jm];split
  ·exact kX _
  ·exact Xx l k _ _
theorem aeV(l:List UInt8)(i:Nat):fK (esc l i):=by
 unfold esc;split
 ·cases h:four l 4 (i+2) 0 with
  | error e=>exact jU (Xx l 4 (i+2) 0) h
  | ok q =>
   obtain⟨n,j⟩:=q;simp only[];split
   ·exact kX _
   ·exact fM _
 ·repeat' split
  all_goals first|exact fM _|exact kX _
theorem IL(l:List UInt8):∀(f i:Nat) (acc:List UInt8),fK (str l f i acc)
 | 0,i,acc=>kX _
 | f+1,i,acc=>by
  rw[y9];split
  ·exact fM _
  ·split
   ·cases h:esc l i with
    | error e=>exact jU (aeV l i) h
    | ok q =>
     obtain⟨b,j⟩:=q;exact IL l f j _
   ·split
    ·exact kX _
    ·split
     ·exact kX _
     ·exact IL l f _ _
theorem Xy(l:List UInt8)(i:Nat):fK (eG l i):=by
 unfold eG;split
 ·exact IL _ _ _ _
 ·split
  ·exact kX _
  ·exact fM _
theorem aeW(l:List UInt8)(i:Nat):fK (jR l i):=by
 unfold jR;simp only[];generalize (if ay (nx l i)=true then i else i+1)=a;split
 ·exact kX _
 ·split
  ·exact aeT _
  ·exact fM _
theorem aeX(l:List UInt8)(i:Nat):fK (mg l i):=by
 unfold mg;simp only[];split
 ·exact fM _
 ·split
  ·exact fM _
  ·exact kX _
theorem Ou(l:List UInt8):∀(f i:Nat),fK (gap l f i)
 | 0,i=>kX _
 | f+1,i=>by
  rw[FC];split
  ·exact kX _
  ·split
   ·exact Ou l f _
   ·exact fM _
theorem IM(l:List UInt8)(i:Nat)(c:Int):fK (must l i c):=by
 unfold must;split
 ·exact fM _
 ·exact kX _
theorem aeY(l:List UInt8):∀f:Nat,(∀i up k p d ns,fK (val l f i up k p d ns))/\(∀i up d ns,fK (lst l f i up d ns)):=by
 intro f
 induction f with
 | zero =>
  refine⟨fun i up k p d ns=>?_,fun i up d ns=>?_⟩
  ·rw[val];exact kX _
  ·rw[lst];exact kX _
 | succ f ih =>
  refine⟨fun i up k p d ns=>?_,fun i up d ns=>?_⟩
  ·rw[x9];split
   ·cases h:str l (l.length+1) (i+1) [] with
    | error e=>exact jU (IL _ _ _ _) h
    | ok q=>exact fM _
   ·split
    ·cases h:jR l i with
     | error e=>exact jU (aeW _ _) h
     | ok q=>exact fM _
    ·split
     ·cases h:mg l i with
      | error e=>exact jU (aeX _ _) h
      | ok q=>exact fM _
     ·split
      ·split
       ·exact aeU _
       ·exact ih.2 _ _ _ _
      ·exact kX _
  ·rw[zG]
   cases h:gap l (l.length+1) i with
   | error e=>exact jU (Ou _ _ _) h
   | ok j =>
    simp only[];split
    ·exact fM _
    ·cases h2:val l f j up [] j d ns with
     | error e=>exact jU (ih.1 _ _ _ _ _ _) h2
     | ok q =>
      obtain⟨j1,ns1⟩:=q;simp only[]
      cases h3:gap l (l.length+1) j1 with
      | error e=>exact jU (Ou _ _ _) h3
      | ok j2 =>
       simp only[];split
       ·exact ih.2 _ _ _ _
       ·split
        ·exact fM _
        ·exact kX _
theorem aeZ(ns:List Tn)(t:Nat)(k:List UInt8)(p:Nat):fK (iK ns t k p):=by
 unfold iK
 cases aG ns t k with
 | none=>exact fM _
 | some q =>
  simp only[];split
  ·exact fM _
  ·split
   ·cases ns[q]? with
    | none=>exact EI _
    | some u=>exact fM _
   ·exact EI _
theorem ae0(ns:List Tn)(own:List Nat)(t:Nat)(k:List UInt8)(p:Nat):fK (jA ns own t k p):=by
 unfold jA
 cases aG ns t k with
 | none=>exact fM _
 | some q =>
  simp only[];split
  ·exact fM _
  ·exact EI _
theorem ae1(ns:List Tn)(t:Nat)(k:List UInt8)(p:Nat):fK (iL ns t k p):=by
 unfold iL
 cases aG ns t k with
 | none=>exact fM _
 | some q =>
  simp only[];split
  ·exact fM _
  ·exact EI _
theorem Xz(many:Bool)(own:List Nat):∀(ks:List (List UInt8 × Nat)) (t:Nat) (ns:List Tn),fK (way many own ks t ns)
 | [],t,ns=>fM _
 | [(k,p)],t,ns=>by
  show fK (if many=true then iL ns t k p else jA ns own t k p);split
  ·exact ae1 _ _ _ _
  ·exact ae0 _ _ _ _ _
 | (k,p) :: x :: r,t,ns=>by
  show fK (match iK ns t k p with | .error e=>.error e | .ok (t1,ns1)=>way many own (x :: r) t1 ns1)
  cases h:iK ns t k p with
  | error e=>exact jU (aeZ _ _ _ _) h
  | ok q =>
   obtain⟨t1,ns1⟩:=q;exact Xz many own (x :: r) t1 ns1
theorem XA(l:List UInt8):∀(f i:Nat) (acc:List (List UInt8 × Nat)),fK (iD l f i acc)
 | 0,i,acc=>kX _
 | f+1,i,acc=>by
  show fK (match eG l (bl l i) with | .error e=>.error e | .ok (k,j)=>if nx l (bl l j)=46 then iD l f (bl l j+1) (acc++[(k,bl l i)]) else .ok (acc++[(k,bl l i)],bl l j))
  cases h:eG l (bl l i) with
  | error e=>exact jU (Xy _ _) h
  | ok q =>
   obtain⟨k,j⟩:=q;simp only[];split
   ·exact XA l f _ _
   ·exact fM _
theorem ae2(l:List UInt8)(d:Sd):fK (jS l d):=by
 unfold jS;simp only[];generalize (if decide (nx l (d.i+1)=91)=true then d.i+2 else d.i+1)=a
 cases h:iD l (l.length+1) a [] with
 | error e=>exact jU (XA _ _ _ _) h
 | ok q =>
  obtain⟨ks,j⟩:=q;simp only[]
  cases h2:must l j 93 with
  | error e=>exact jU (IM _ _ _) h2
  | ok j1 =>
   simp only[];have h3':fK (if decide (nx l (d.i+1)=91)=true then must l j1 93 else .ok j1):=by
    split
    ·exact IM _ _ _
    ·exact fM _
   cases h3:(if decide (nx l (d.i+1)=91)=true then must l j1 93 else .ok j1) with
   | error e=>exact jU h3' h3
   | ok j2 =>
    simp only[]
    cases h4:way (decide (nx l (d.i+1)=91)) d.own ks 0 d.ns with
    | error e=>exact jU (Xz _ _ _ _ _) h4
    | ok q=>exact fM _
theorem ae3(l:List UInt8)(d:Sd):fK (rdPair l d):=by
 unfold rdPair
 cases h:eG l d.i with
 | error e=>exact jU (Xy _ _) h
 | ok q =>
  obtain⟨k,j⟩:=q;simp only[]
  cases h2:must l (bl l j) 61 with
  | error e=>exact jU (IM _ _ _) h2
  | ok j1 =>
   simp only[]
   cases aG d.ns d.now k with
   | some q=>exact EI _
   | none =>
    simp only[]
    cases h4:val l (2*l.length+2) (bl l j1) d.now k d.i 0 d.ns with
    | error e=>exact jU ((aeY l _).1 _ _ _ _ _ _) h4
    | ok q=>exact fM _
theorem ae4(l:List UInt8)(d:Sd):fK (jI l d):=by
 unfold jI;simp only[];have hX:fK (if nx l (bl l d.i)=91 then jS l ⟨bl l d.i,d.ns,d.own,d.now⟩ else if nx l (bl l d.i)=34\/aV (nx l (bl l d.i))=true then rdPair l ⟨bl l d.i,d.ns,d.own,d.now⟩ else .ok ⟨bl l d.i,d.ns,d.own,d.now⟩):=by
  split
  ·exact ae2 _ _
  ·split
   ·exact ae3 _ _
   ·exact fM _
 generalize (if nx l (bl l d.i)=91 then jS l ⟨bl l d.i,d.ns,d.own,d.now⟩ else if nx l (bl l d.i)=34\/aV (nx l (bl l d.i))=true then rdPair l ⟨bl l d.i,d.ns,d.own,d.now⟩ else .ok ⟨bl l d.i,d.ns,d.own,d.now⟩:Rs Sd)=X at hX ⊢
 cases X with
 | error e=>exact jU hX rfl
 | ok d1 =>
  simp only[];split
  ·exact kX _
  ·split
   ·exact fM _
   ·cases h:must l (bi l (bl l d1.i)).2 10 with
    | error e=>exact jU (IM _ _ _) h
    | ok j=>exact fM _
theorem XB(l:List UInt8):∀(f:Nat) (d:Sd),fK (jW l f d)
 | 0,d=>fM _
 | f+1,d=>by
  show fK (if l.length<=d.i then .ok d else match jI l d with | .error e=>.error e | .ok s1=>jW l f s1);split
  ·exact fM _
  ·cases h:jI l d with
   | error e=>exact jU (ae4 _ _) h
   | ok d1=>exact XB l f d1
theorem XC(l:List UInt8)(c:Int)(p:Nat)(h:jf l=.error (c,p)):(c=1/\p=0)\/(2<=c/\c<=5):=by
 unfold jf at h;split at h
 ·cases h;exact Or.inl ⟨rfl,rfl⟩
 ·right
  cases hr:jW l (l.length+1) ⟨0,[⟨0,[],[],0,[],0⟩],[],0⟩ with
  | error e =>
   rw[hr]at h
   cases h
   exact XB l _ _ _ hr
  | ok d=>rw[hr]at h;cases h
end Go.Proofs.YtmkjelchiacogaaGreatDoor
