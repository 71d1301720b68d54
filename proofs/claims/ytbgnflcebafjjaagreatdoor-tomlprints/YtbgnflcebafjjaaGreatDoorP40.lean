import Derived.Test.YtbgnflcebafjjaaGreatDoorP24
import Derived.Deep.LoopGhost
import Derived.Test.YtbgnflcebafjjaaGreatDoorP04
import Derived.Test.YtbgnflcebafjjaaGreatDoorP16
import Derived.Test.YtbgnflcebafjjaaGreatDoorP26
namespace Go.Proofs.YtbgnflcebafjjaaGreatDoor
open Go.RowKit Go.Maps Go.WideMaps Go.Joins Go.Shelf
set_option linter.unusedVariables false
theorem own_cutS {w:World} {B:Nat} {e:TypeId} {s:Nat} {o:Option Addr} {n c:Nat} {xs:List Value} (h:w.ownsRow B e s (.slice o n c) n xs) (a:Nat) (ha:a<=n):w.ownsRow B e s (.slice o a c) a (xs.take (a * s)):=by
 have hl:xs.length=n * s:=h.1
 have hle:a * s<=n * s:=Nat.mul_le_mul_right _ ha
 refine ⟨by rw [List.length_take];omega,?_⟩
 rcases h.2 with ⟨hv,hn⟩ | ⟨g,cap,cur,hv,h1,h2,h3,h4,h5,h6⟩
 ·injection hv with ho _ hc
  subst ho hc
  have:a=0:=by omega
  subst this
  exact Or.inl ⟨rfl,rfl⟩
 ·injection hv with ho _ hc
  subst ho hc
  refine Or.inr ⟨g,c,cur,rfl,h1,h2,by omega,h4,h5,?_⟩
  rw [<-h6,List.take_take]
  congr 1
  omega
theorem vCs_at (td:List Vt) (v:Vt) (i:Nat) (hi:i < 4):(vCs (td++[v]))[td.length * 4+i]?=(vC v)[i]?:=by
 rw [vCs_app,List.getElem?_append_right (by rw [vCs_len];omega),vCs_len]
 have e:vCs [v]=vC v:=by simp [vCs]
 rw [e]
 congr 1
 omega
theorem vCs_take (td:List Vt) (v:Vt):(vCs (td++[v])).take (td.length * 4)=vCs td:=by
 rw [vCs_app,List.take_append_of_le_length (by rw [vCs_len];exact Nat.le_refl _),List.take_of_length_le (by rw [vCs_len];exact Nat.le_refl _)]
set_option maxRecDepth 100000 in
set_option maxHeartbeats 6400000 in
theorem pForm {w0:World} {N c:Nat} {NV:Value} {ns:List Tn} {own:List Nat} (E:Ev w0 NV N c ns own) (F:Ef ns own) (hR:(fmT ns).length<=70368744177664) :
  Calls Tryz.prog 20 #[NV] w0 fun e w'=>e=.returned (.string ⟨(fmT ns).toArray⟩)/\w0.grownBy w' none:=by
 have hEl:=E.len
 have hfm:=fmT_eq F
 obtain ⟨R,hRe⟩:∃R,fmT ns=R:=⟨_,rfl⟩
 rw [hRe] at hfm hR ⊢
 obtain ⟨o,l0,c0,hv⟩:∃o l c,NV=.slice o l c:=⟨_,_,_,E.nv.val⟩
 subst hv
 obtain ⟨B,hB⟩:∃B,w0.heap.size=B:=⟨_,rfl⟩
 have hbp:=heap_alloc_new w0 (.cells #[.slice o l0 c0,.pointer none,.slice none 0 0,.slice none 0 0] 78)
 have hg1:w0.grownBy (w0.alloc (.cells #[.slice o l0 c0,.pointer none,.slice none 0 0,.slice none 0 0] 78)) none:=World.grownBy_alloc _ _ none
 obtain ⟨w1,hw1⟩:∃W,w0.alloc (.cells #[.slice o l0 c0,.pointer none,.slice none 0 0,.slice none 0 0] 78)=W:=⟨_,rfl⟩
 rw [hw1] at hbp hg1
 have hP1:Pn w1 w0.heap.size w0.heap.size (.slice o l0 c0) [] []:=⟨Nat.le_refl _,.pointer none,.slice none 0 0,.slice none 0 0,hbp,Or.inl rfl,World.ownsRow_nil _ _ _ _,World.ownsRow_nil _ _ _ _,fun g hg=>(by cases hg),fun _=>rfl⟩
 have hl0:=fmO_len ns _ _ _ _ _ hfm
 have CP0:Hid (Calls Tryz.prog 32 #[.pointer (some ⟨w0.heap.size,0,none⟩),.int .i64 0] w1 fun e w'=>e=.returned (.tuple #[])/\Pn w' w0.heap.size w0.heap.size (.slice o l0 c0) (prT ns 0) []/\PF w0.heap.size w1 w'):=pPairs E [] [] 0 w1 F.root.1 (F.kdd 0 F.root.2) hP1 hg1 (by simp;omega)
 have CB0:Hid (∀w,Pn w w0.heap.size w0.heap.size (.slice o l0 c0) (prT ns 0) []->w0.grownBy w none->Calls Tryz.prog 33 #[.pointer (some ⟨w0.heap.size,0,none⟩),.int .i64 0,.slice none 0 0] w fun e w'=>∃v,e=.returned v/\w'.ownsRow w0.heap.size 83 4 v (belT ns 0 0).length (vCs (belT ns 0 0))/\VF w0.heap.size w w'):=fun w h1 h2=>pBelow E (prT ns 0) [] 0 [] (.slice none 0 0) w F.root.1 (F.kdd 0 F.root.2) h1 h2 (World.ownsRow_nil _ _ _ _) (by simp)
 have CH:Hid (∀(out path:List UInt8) (v:Vt) w,Pn w B B (.slice o l0 c0) out path->v.ab<=path.length->v.ky.length<=1048576->out.length+(hdT out (pathN path v.ab v.ky) v.dbl).length<=70368744177664->Calls Tryz.prog 34 #[.pointer (some ⟨B,0,none⟩),.agg #[.int .i64 (v.t:Nat),.string ⟨v.ky.toArray⟩,.bool v.dbl,.int .i64 (v.ab:Nat)]] w fun e w'=>e=.returned (.tuple #[])/\Pn w' B B (.slice o l0 c0) (out++hdT out (pathN path v.ab v.ky) v.dbl) (pathN path v.ab v.ky)/\PF B w w'):=fun out path v w h1 h2 h3 h4=>pHeader B B (.slice o l0 c0) out path v.t v.ky v.dbl v.ab w h1 h2 h3 h4
 have CP:Hid (∀(out path:List UInt8) (t:Nat) w,t < ns.length->kdAt ns t=0->Pn w B B (.slice o l0 c0) out path->w0.grownBy w none->out.length+(prT ns t).length<=70368744177664->Calls Tryz.prog 32 #[.pointer (some ⟨B,0,none⟩),.int .i64 (t:Nat)] w fun e w'=>e=.returned (.tuple #[])/\Pn w' B B (.slice o l0 c0) (out++prT ns t) path/\PF B w w'):=fun out path t w h1 h2 h3 h4 h5=>by
  have:=pPairs E out path t w h1 (F.kdd t h2) (by rw [hB];exact h3) h4 h5
  rw [hB] at this
  exact this
 have CB:Hid (∀(out path:List UInt8) (t:Nat) (td:List Vt) (tv:Value) w,t < ns.length->kdAt ns t=0->Pn w B B (.slice o l0 c0) out path->w0.grownBy w none->w.ownsRow B 83 4 tv td.length (vCs td)->td.length<=900000->Calls Tryz.prog 33 #[.pointer (some ⟨B,0,none⟩),.int .i64 (t:Nat),tv] w fun e w'=>∃v,e=.returned v/\w'.ownsRow B 83 4 v (td++belT ns t path.length).length (vCs (td++belT ns t path.length))/\VF B w w'):=fun out path t td tv w h1 h2 h3 h4 h5 h6=>by
  have:=pBelow E out path t td tv w h1 (F.kdd t h2) (by rw [hB];exact h3) h4 (by rw [hB];exact h5) h6
  rw [hB] at this
  exact this
 have HUP:Hid (∀w w',w0.grownBy w none->Below B w w'->w0.grownBy w' none):=fun w w' h1 h2=>up_gb h1 (by rw [hB];exact h2)
 have HF:Hid (Ef ns own):=F
 have HFM:Hid (fmO ns ns.length (prT ns 0) [] (belT ns 0 0)=some R):=hfm
 have HG1:Hid (w0.grownBy w1 none):=hg1
 rw [hB] at CP0 CB0
 have HW1:Hid (w0.alloc (.cells #[.slice o l0 c0,.pointer none,.slice none 0 0,.slice none 0 0] 78)=w1):=hw1
 clear hfm hP1 hbp hg1 E F hRe hl0 hw1
 go_enter Tryz.func20,Tryz.ntmps20
 go_upto_region 2 with fail
 rw [HW1.out]
 go_wp2_with (first | (go_at_call 32;refine CP0.out.mono ?_;rintro e w2 ⟨rfl,hp2,hf2⟩) | (go_at_call 33;refine (CB0.out _ hp2 (HUP.out _ _ HG1.out hf2.bel)).mono ?_;rintro e w3 ⟨tv3,rfl,hr3,hv3⟩))
 have HP3:Hid (Pn w3 B B (.slice o l0 c0) (prT ns 0) []):=hp2.keep fun b cs t fz hb ht=>hv3.oth b cs t fz hb (by rcases ht with rfl | rfl <;> decide) (by rcases ht with rfl | rfl <;> decide)
 have HG3:Hid (w0.grownBy w3 none):=HUP.out _ _ (HUP.out _ _ HG1.out hf2.bel) hv3.bel
 have HR3:Hid (w3.ownsRow B 83 4 tv3 (belT ns 0 0).length (vCs (belT ns 0 0))):=hr3
 clear hp2 hf2 hr3 hv3
 go_loopg [4] (ns.length) (fun f v4 wr=>∃(out path:List UInt8) (V:List Nat) (td:List Vt),Pn wr B B (.slice o l0 c0) out path/\wr.ownsRow B 83 4 v4 td.length (vCs td)/\w0.grownBy wr none/\Iv ns path V td/\fmO ns f out path td=some R)
 case atStart=>exact ⟨_,_,[0],belT ns 0 0,HP3.out,HR3.out,HG3.out,Iv.start HF.out,HFM.out⟩
 case round =>
  obtain ⟨out,path,V,td,hp,hr,hg,hiv,hfm⟩:=hrel
  obtain ⟨f,rfl⟩:∃f,gk=f+1:=by
   cases gk with
   | zero=>cases hfm
   | succ f=>exact ⟨f,rfl⟩
  rcases snoc_cases td with rfl | ⟨td,v,rfl⟩
  ·obtain ⟨o4,c4,rfl⟩:=own_slice hr
   rw [fmO_nil] at hfm
   obtain rfl:out=R:=by injection hfm
   have CS:Hid (Calls Tryz.prog 35 #[.pointer (some ⟨B,1,none⟩)] wr fun e w'=>e=.returned (.string ⟨out.toArray⟩)/\Below B wr w'):=bStr B B _ out path wr hp hR
   have HG:Hid (w0.grownBy wr none):=hg
   clear hp hr hg hiv hfm
   go_wp2_with (first | (go_at_call 35;refine CS.out.mono ?_))
   rintro e w' ⟨rfl,hbl⟩
   have HB':Hid (w0.grownBy w' none):=HUP.out _ _ HG.out hbl
   clear hbl
   go_wp2
   go_ret
   exact ⟨rfl,HB'.out⟩
  ·rw [fmO_snoc] at hfm
   have hlen:=hiv.len
   rw [List.length_append,List.length_singleton] at hlen
   obtain ⟨htl,htk,hky⟩:=hiv.tab v (by simp)
   have hab:=hiv.ab v (by simp)
   have hst:=hiv.step HF.out
   have hl1:=fmO_len ns _ _ _ _ _ hfm
   rw [List.length_append,List.length_append] at hl1
   rw [List.length_append,List.length_singleton] at hr
   obtain ⟨g,cap,hv4,-,-⟩:=hr.form (by omega)
   subst hv4
   have hcells:=hr.cells (g:=g) rfl
   have e0:=hcells (td.length * 4) _ (by have:=vCs_at td v 0 (by omega);simpa [vC] using this)
   have e1:=hcells (td.length * 4+1) _ (by have:=vCs_at td v 1 (by omega);simpa [vC] using this)
   have e2:=hcells (td.length * 4+2) _ (by have:=vCs_at td v 2 (by omega);simpa [vC] using this)
   have e3:=hcells (td.length * 4+3) _ (by have:=vCs_at td v 3 (by omega);simpa [vC] using this)
   rw [zero_off] at e0 e1 e2 e3
   have hcut:=own_cutS hr td.length (by omega)
   rw [vCs_take] at hcut
   have hcapI:td.length+1<=cap:=by
    rcases hr.2 with ⟨h1,-⟩ | ⟨g',cap',cur,h1,-,-,h2,-⟩
    ·cases h1
    ·injection h1 with _ _ h3
     subst h3
     exact h2
   have HST:Hid (Iv ns (pathN path v.ab v.ky) (V++[v.t]) (td++belT ns v.t (pathN path v.ab v.ky).length)/\fmO ns f (out++hdT out (pathN path v.ab v.ky) v.dbl++prT ns v.t) (pathN path v.ab v.ky) (td++belT ns v.t (pathN path v.ab v.ky).length)=some R):=⟨hst,hfm⟩
   obtain ⟨m,hm⟩:∃m,td.length=m:=⟨_,rfl⟩
   rw [hm] at e0 e1 e2 e3 hcut hcapI hlen hr ⊢
   have hmb:m<=900000:=by omega
   have hm1:((m+1:Nat):Int) - 1=(m:Int):=by omega
   have hmI:(m:Int) < ((m+1:Nat):Int):=by omega
   have hmc:(m:Int)<=(cap:Int):=by omega
   have hm0:(0:Int)<=(m:Int):=by omega
   have hmp:(0:Int) < ((m+1:Nat):Int):=by omega
   obtain ⟨K,hK⟩:∃K:ByteArray,⟨v.ky.toArray⟩=K:=⟨_,rfl⟩
   rw [hK] at e1
   have hga:wr.grownBy (wr.alloc (.cells #[.int .i64 (v.t:Nat),.string K,.bool v.dbl,.int .i64 (v.ab:Nat)] 83)) none:=World.grownBy_alloc _ _ none
   have hbx:=heap_alloc_new wr (.cells #[.int .i64 (v.t:Nat),.string K,.bool v.dbl,.int .i64 (v.ab:Nat)] 83)
   obtain ⟨wa,hwa⟩:∃W,wr.alloc (.cells #[.int .i64 (v.t:Nat),.string K,.bool v.dbl,.int .i64 (v.ab:Nat)] 83)=W:=⟨_,rfl⟩
   obtain ⟨bx,hbxe⟩:∃b,wr.heap.size=b:=⟨_,rfl⟩
   rw [hwa] at hbx hga
   rw [hbxe] at hbx
   have HWA:Hid (wr.alloc (.cells #[.int .i64 (v.t:Nat),.string K,.bool v.dbl,.int .i64 (v.ab:Nat)] 83)=wa/\wr.heap.size=bx):=⟨hwa,hbxe⟩
   have HBX:Hid (wa.heap[bx]?=some (.cells #[.int .i64 (v.t:Nat),.string K,.bool v.dbl,.int .i64 (v.ab:Nat)] 83 (0,0))):=hbx
   have HRA:Hid (wa.ownsRow B 83 4 (.slice (some ⟨g,0,none⟩) m cap) td.length (vCs td)):=by
    show World.ownsRow _ _ _ _ _ _ _
    rw [hm]
    exact own_block hcut fun g cur _ hc=>hga.block g (blk_lt hc) (by simp)
   have HGA:Hid (w0.grownBy wa none):=gb_trans hg hga
   have CHv:Hid (Calls Tryz.prog 34 #[.pointer (some ⟨B,0,none⟩),.agg #[.int .i64 (v.t:Nat),.string K,.bool v.dbl,.int .i64 (v.ab:Nat)]] wa fun e w'=>e=.returned (.tuple #[])/\Pn w' B B (.slice o l0 c0) (out++hdT out (pathN path v.ab v.ky) v.dbl) (pathN path v.ab v.ky)/\PF B wa w'):=by
    rw [<-hK]
    exact CH.out out path v wa (hp.gb hga) hab hky (by omega)
   have CPv:Hid (∀w,Pn w B B (.slice o l0 c0) (out++hdT out (pathN path v.ab v.ky) v.dbl) (pathN path v.ab v.ky)->w0.grownBy w none->Calls Tryz.prog 32 #[.pointer (some ⟨B,0,none⟩),.int .i64 (v.t:Nat)] w fun e w'=>e=.returned (.tuple #[])/\Pn w' B B (.slice o l0 c0) (out++hdT out (pathN path v.ab v.ky) v.dbl++prT ns v.t) (pathN path v.ab v.ky)/\PF B w w'):=fun w h1 h2=>CP.out _ _ v.t w htl htk h1 h2 (by rw [List.length_append];omega)
   have CBv:Hid (∀w,Pn w B B (.slice o l0 c0) (out++hdT out (pathN path v.ab v.ky) v.dbl++prT ns v.t) (pathN path v.ab v.ky)->w0.grownBy w none->w.ownsRow B 83 4 (.slice (some ⟨g,0,none⟩) m cap) td.length (vCs td)->Calls Tryz.prog 33 #[.pointer (some ⟨B,0,none⟩),.int .i64 (v.t:Nat),.slice (some ⟨g,0,none⟩) m cap] w fun e w'=>∃u,e=.returned u/\w'.ownsRow B 83 4 u (td++belT ns v.t (pathN path v.ab v.ky).length).length (vCs (td++belT ns v.t (pathN path v.ab v.ky).length))/\VF B w w'):=fun w h1 h2 h3=>CB.out _ _ v.t td _ w htl htk h1 h2 h3 (by omega)
   have b0:wa.cell? ⟨bx,0,none⟩=some (.int .i64 (v.t:Nat)):=by rw [Lib.cell_of_heap hbx];rfl
   have b1:wa.cell? ⟨bx,1,none⟩=some (.string K):=by rw [Lib.cell_of_heap hbx];rfl
   have b2:wa.cell? ⟨bx,2,none⟩=some (.bool v.dbl):=by rw [Lib.cell_of_heap hbx];rfl
   have b3:wa.cell? ⟨bx,3,none⟩=some (.int .i64 (v.ab:Nat)):=by rw [Lib.cell_of_heap hbx];rfl
   obtain ⟨vt,hvt⟩:∃x,v.t=x:=⟨_,rfl⟩
   obtain ⟨va,hva⟩:∃x,v.ab=x:=⟨_,rfl⟩
   obtain ⟨vd,hvd⟩:∃x,v.dbl=x:=⟨_,rfl⟩
   obtain ⟨P',hP'⟩:∃x,pathN path v.ab v.ky=x:=⟨_,rfl⟩
   rw [hP'] at HST CHv CPv CBv
   rw [hvt] at HST CHv CPv CBv e0 b0 HWA HBX
   rw [hvd] at HST CHv CPv CBv e2 b2 HWA HBX
   rw [hva] at CHv e3 b3 HWA HBX
   obtain ⟨O1,hO1⟩:∃x,out++hdT out P' vd=x:=⟨_,rfl⟩
   rw [hO1] at HST CHv CPv CBv
   clear hr hcells hcut hst hfm hiv hK hga hbx hwa hbxe hp hg hvt hva hvd hP' hO1 hl1 htl htk hky hab hm
   go_upto_region 8 with fail
   try rw [HWA.out.1]
   try rw [HWA.out.2]
   clear e0 e1 e2 e3
   go_wp2_with (first | (go_at_call 34;refine CHv.out.mono ?_))
   rintro e wb ⟨rfl,hpb,hfb⟩
   have hbb:=(hfb.oth _ _ _ _ HBX.out (by decide) (by decide)).trans HBX.out
   have HBB:Hid (wb.heap[bx]?=some (.cells #[.int .i64 (vt:Nat),.string K,.bool vd,.int .i64 (va:Nat)] 83 (0,0))):=hbb
   have f0:wb.cell? ⟨bx,0,none⟩=some (.int .i64 (vt:Nat)):=by rw [Lib.cell_of_heap hbb];rfl
   have HPB:Hid (Pn wb B B (.slice o l0 c0) O1 P'):=hpb
   have HGB:Hid (w0.grownBy wb none):=HUP.out _ _ HGA.out hfb.bel
   have HRB:Hid (wb.ownsRow B 83 4 (.slice (some ⟨g,0,none⟩) m cap) td.length (vCs td)):=own_block HRA.out fun g cur _ hc=>hfb.oth _ _ _ _ hc (by decide) (by decide)
   clear hpb hfb hbb b0 b1 b2 b3
   go_wp2_with (first | (go_at_call 32;refine (CPv.out _ HPB.out HGB.out).mono ?_))
   rintro e wd ⟨rfl,hpd,hfd⟩
   have hbd:=(hfd.oth _ _ _ _ HBB.out (by decide) (by decide)).trans HBB.out
   have g0:wd.cell? ⟨bx,0,none⟩=some (.int .i64 (vt:Nat)):=by rw [Lib.cell_of_heap hbd];rfl
   have HPD:Hid (Pn wd B B (.slice o l0 c0) (O1++prT ns vt) P'):=hpd
   have HGD:Hid (w0.grownBy wd none):=HUP.out _ _ HGB.out hfd.bel
   have HRD:Hid (wd.ownsRow B 83 4 (.slice (some ⟨g,0,none⟩) m cap) td.length (vCs td)):=own_block HRB.out fun g cur _ hc=>hfd.oth _ _ _ _ hc (by decide) (by decide)
   clear hpd hfd hbd f0
   go_wp2_with (first | (go_at_call 33;refine (CBv.out _ HPD.out HGD.out HRD.out).mono ?_))
   rintro e we ⟨u,rfl,hre,hve⟩
   have HPE:Hid (Pn we B B (.slice o l0 c0) (O1++prT ns vt) P'):=HPD.out.keep fun b cs t fz hb ht=>hve.oth b cs t fz hb (by rcases ht with rfl | rfl <;> decide) (by rcases ht with rfl | rfl <;> decide)
   have HGE:Hid (w0.grownBy we none):=HUP.out _ _ HGD.out hve.bel
   have HRE:Hid (we.ownsRow B 83 4 u (td++belT ns vt P'.length).length (vCs (td++belT ns vt P'.length))):=hre
   clear hre hve g0
   go_wp2
   go_roundg f
   case measure=>omega
   case rel=>exact ⟨_,_,_,_,HPE.out,HRE.out,HGE.out,HST.out.1,HST.out.2⟩
end Go.Proofs.YtbgnflcebafjjaaGreatDoor
namespace Go.Proofs.YtbgnflcebafjjaaGreatDoor
open Go.RowKit Go.Joins
set_option linter.unusedVariables false
theorem nx_drop (l:List UInt8) (i k:Nat):nx l (i+k)=nx (l.drop i) k:=by unfold nx;rw [List.getElem?_drop]
def sq4 (c a b d:Int):Nat :=
 if c < 0 then 0
 else if c < 128 then 1
 else if c < 194\/244 < c then 0
 else if decide ((if c=224 then 160 else if c=240 then 144 else 128)<=a/\a<=(if c=237 then 159 else if c=244 then 143 else 191))=false then 0
 else if c < 224 then 2
 else if decide (128<=b/\b<=191)=false then 0
 else if c < 240 then 3
 else if decide (128<=d/\d<=191)=false then 0
 else 4
set_option maxRecDepth 20000 in
theorem seqN_sq (l:List UInt8) (i:Nat):seqN l i=sq4 (nx l i) (nx l (i+1)) (nx l (i+2)) (nx l (i+3)):=rfl
set_option maxRecDepth 20000 in
theorem sq4_eq {a b c d a' b' c' d':Int} (h1:a=a') (h2:b=b') (h3:c=c') (h4:d=d'):sq4 a b c d=sq4 a' b' c' d':=by subst h1 h2 h3 h4;rfl
theorem seqN_drop (l:List UInt8) (i:Nat):seqN l i=seqN (l.drop i) 0:=sq4_eq (nx_drop l i 0) (nx_drop l i 1) (nx_drop l i 2) (nx_drop l i 3)
set_option maxRecDepth 20000 in
theorem seqN_c (c:UInt8) (s:List UInt8):seqN (c :: s) 0=if (c.toNat:Int) < 128 then 1
 else if (c.toNat:Int) < 194\/244 < (c.toNat:Int) then 0
 else if decide ((if (c.toNat:Int)=224 then 160 else if (c.toNat:Int)=240 then 144 else 128)<=nx s 0/\nx s 0<=(if (c.toNat:Int)=237 then 159 else if (c.toNat:Int)=244 then 143 else 191))=false then 0
 else if (c.toNat:Int) < 224 then 2
 else if decide (128<=nx s 1/\nx s 1<=191)=false then 0
 else if (c.toNat:Int) < 240 then 3
 else if decide (128<=nx s 2/\nx s 2<=191)=false then 0
 else 4:=by
 have e:seqN (c :: s) 0=sq4 (c.toNat:Int) (nx s 0) (nx s 1) (nx s 2):=seqN_sq _ _
 rw [e,sq4,if_neg (by omega)]
set_option maxRecDepth 20000 in
theorem seqN_cut (s:List UInt8) (h:0 < seqN s 0):∃q r,s=q++r/\q.length=seqN s 0/\(∀r',seqN (q++r') 0=q.length)/\((∃c,q=[c]/\c.toNat < 128)\/∃c q',q=c :: q'/\128<=c.toNat/\∀b ∈ q,128<=b.toNat):=by
 match s,h with
 | [],h=>exact absurd h (by decide)
 | c :: s,h =>
  rw [seqN_c] at h ⊢
  by_cases h1:(c.toNat:Int) < 128
  ·exact ⟨[c],s,rfl,by rw [if_pos h1];rfl,fun r'=>by show seqN (c :: r') 0=1;rw [seqN_c,if_pos h1],Or.inl ⟨c,rfl,by omega⟩⟩
  ·rw [if_neg h1] at h ⊢
   by_cases h2:(c.toNat:Int) < 194\/244 < (c.toNat:Int)
   ·rw [if_pos h2] at h;exact absurd h (by decide)
   ·rw [if_neg h2] at h ⊢
    match s,h with
    | [],h =>
     rw [if_pos] at h
     ·exact absurd h (by decide)
     ·apply decide_eq_false
      intro hh
      have:nx [] 0=-1:=rfl
      rw [this] at hh
      have:=hh.1
      split at this
      ·omega
      ·split at this <;> omega
    | b :: s,h =>
     have e0:∀r,nx (b :: r) 0=(b.toNat:Int):=fun _=>rfl
     rw [e0] at h ⊢
     by_cases h3:decide ((if (c.toNat:Int)=224 then 160 else if (c.toNat:Int)=240 then 144 else 128)<=(b.toNat:Int)/\(b.toNat:Int)<=(if (c.toNat:Int)=237 then 159 else if (c.toNat:Int)=244 then 143 else 191))=false
     ·rw [if_pos h3] at h;exact absurd h (by decide)
     ·rw [if_neg h3] at h ⊢
      have hb:128<=b.toNat:=by
       have:=(of_decide_eq_true ((Bool.not_eq_false _).mp h3)).1
       split at this
       ·omega
       ·split at this <;> omega
      by_cases h4:(c.toNat:Int) < 224
      ·refine ⟨[c,b],s,rfl,by rw [if_pos h4];rfl,fun r'=>?_,Or.inr ⟨c,[b],rfl,by omega,?_⟩⟩
       ·show seqN (c :: (b :: r')) 0=2
        rw [seqN_c,if_neg h1,if_neg h2,e0,if_neg h3,if_pos h4]
       ·intro x hx
        simp only [List.mem_cons,List.not_mem_nil,or_false] at hx
        rcases hx with rfl | rfl <;> omega
      ·rw [if_neg h4] at h ⊢
       match s,h with
       | [],h =>
        rw [if_pos] at h
        ·exact absurd h (by decide)
        ·apply decide_eq_false
         intro hh
         have:nx [b] 1=-1:=rfl
         omega
       | d :: s,h =>
        have e1:∀r,nx (b :: d :: r) 1=(d.toNat:Int):=fun _=>rfl
        rw [e1] at h ⊢
        by_cases h5:decide (128<=(d.toNat:Int)/\(d.toNat:Int)<=191)=false
        ·rw [if_pos h5] at h;exact absurd h (by decide)
        ·rw [if_neg h5] at h ⊢
         have hd:128<=d.toNat:=by
          have:=(of_decide_eq_true ((Bool.not_eq_false _).mp h5)).1
          omega
         by_cases h6:(c.toNat:Int) < 240
         ·refine ⟨[c,b,d],s,rfl,by rw [if_pos h6];rfl,fun r'=>?_,Or.inr ⟨c,[b,d],rfl,by omega,?_⟩⟩
          ·show seqN (c :: (b :: d :: r')) 0=3
           rw [seqN_c,if_neg h1,if_neg h2,e0,if_neg h3,if_neg h4,e1,if_neg h5,if_pos h6]
          ·intro x hx
           simp only [List.mem_cons,List.not_mem_nil,or_false] at hx
           rcases hx with rfl | rfl | rfl <;> omega
         ·rw [if_neg h6] at h ⊢
          match s,h with
          | [],h =>
           rw [if_pos] at h
           ·exact absurd h (by decide)
           ·apply decide_eq_false
            intro hh
            have:nx [b,d] 2=-1:=rfl
            omega
          | x :: s,h =>
           have e2:∀r,nx (b :: d :: x :: r) 2=(x.toNat:Int):=fun _=>rfl
           rw [e2] at h ⊢
           by_cases h7:decide (128<=(x.toNat:Int)/\(x.toNat:Int)<=191)=false
           ·rw [if_pos h7] at h;exact absurd h (by decide)
           ·rw [if_neg h7] at h ⊢
            have hx':128<=x.toNat:=by
             have:=(of_decide_eq_true ((Bool.not_eq_false _).mp h7)).1
             omega
            refine ⟨[c,b,d,x],s,rfl,rfl,fun r'=>?_,Or.inr ⟨c,[b,d,x],rfl,by omega,?_⟩⟩
            ·show seqN (c :: (b :: d :: x :: r')) 0=4
             rw [seqN_c,if_neg h1,if_neg h2,e0,if_neg h3,if_neg h4,e1,if_neg h5,if_neg h6,e2,if_neg h7]
            ·intro y hy
             simp only [List.mem_cons,List.not_mem_nil,or_false] at hy
             rcases hy with rfl | rfl | rfl | rfl <;> omega
inductive Us:List UInt8->Prop
 | nil:Us []
 | cons (q r:List UInt8):0 < q.length->(∀r',seqN (q++r') 0=q.length)->((∃c,q=[c]/\c.toNat < 128)\/∃c q',q=c :: q'/\128<=c.toNat/\∀b ∈ q,128<=b.toNat)->Us r->Us (q++r)
theorem Us.app {a b:List UInt8} (ha:Us a) (hb:Us b):Us (a++b):=by
 induction ha with
 | nil=>exact hb
 | cons q r h1 h2 h3 _ ih=>rw [List.append_assoc];exact Us.cons q _ h1 h2 h3 ih
theorem us_seq (s:List UInt8) (h:0 < seqN s 0):Us (s.take (seqN s 0)):=by
 obtain ⟨q,r,h1,h2,h3,h4⟩:=seqN_cut s h
 rw [<-h2,h1,List.take_left' rfl]
 have:=Us.cons q [] (by omega) h3 h4 Us.nil
 simpa using this
theorem us_one (c:UInt8) (h:c.toNat < 128):Us [c]:=Us.cons [c] [] (by simp) (fun r'=>by show seqN (c :: r') 0=1;rw [seqN_c,if_pos (by omega)]) (Or.inl ⟨c,rfl,h⟩) Us.nil
theorem us_of (s:List UInt8) (h:seqN s 0=s.length) (h0:0 < s.length):Us s:=by
 have:=us_seq s (by omega)
 rw [h,List.take_length] at this
 exact this
theorem us_wrt (n:Nat) (h:n < 65536) (hs:¬ (55296<=n/\n<=57343)):Us (wrt n):=by
 unfold wrt
 have tn:∀m,m < 256->((UInt8.ofNat m).toNat:Int)=(m:Int):=fun m hm=>by
  rw [UInt8.toNat_ofNat_of_lt' (by simpa using hm)]
 split
 ·exact us_one _ (by rw [UInt8.toNat_ofNat_of_lt' (by show n < 256;omega)];assumption)
 ·split
  ·refine us_of _ ?_ (by simp)
   rw [seqN_c,tn _ (by omega),if_neg (by omega),if_neg (by omega),if_neg,if_pos (by omega)]
   ·rfl
   ·rw [decide_eq_false_iff_not,Classical.not_not]
    have e:nx [UInt8.ofNat (128+n % 64)] 0=((UInt8.ofNat (128+n % 64)).toNat:Int):=rfl
    rw [e,tn _ (by omega),if_neg (by omega),if_neg (by omega),if_neg (by omega),if_neg (by omega)]
    omega
  ·refine us_of _ ?_ (by simp)
   have e0:∀r,nx (UInt8.ofNat (128+n / 64 % 64) :: r) 0=((UInt8.ofNat (128+n / 64 % 64)).toNat:Int):=fun _=>rfl
   have e1:∀b,nx [b,UInt8.ofNat (128+n % 64)] 1=((UInt8.ofNat (128+n % 64)).toNat:Int):=fun _=>rfl
   rw [seqN_c,tn _ (by omega),if_neg (by omega),if_neg (by omega),if_neg,if_neg (by omega),if_neg,if_pos (by omega)]
   ·rfl
   ·rw [decide_eq_false_iff_not,Classical.not_not,e1,tn _ (by omega)]
    omega
   ·rw [decide_eq_false_iff_not,Classical.not_not,e0,tn _ (by omega)]
    split
    ·rw [if_neg (by omega)]
     rw [if_neg (by omega)]
     omega
    ·rw [if_neg (by omega)]
     split
     ·omega
     ·rw [if_neg (by omega)]
      omega
end Go.Proofs.YtbgnflcebafjjaaGreatDoor
namespace Go.Proofs.YtbgnflcebafjjaaGreatDoor
open Go.RowKit Go.Joins
set_option linter.unusedVariables false
theorem esc_us (l:List UInt8) (i:Nat) (b:List UInt8) (j:Nat) (h:esc l i=.ok (b,j)):Us b:=by
 unfold esc at h
 have one:∀c:UInt8,c.toNat < 128->∀m,(Except.ok ([c],m):Rs (List UInt8 × Nat))=.ok (b,j)->Us b:=fun c hc m hh=>by
  injection hh with hh
  injection hh with h1 h2
  rw [<-h1]
  exact us_one c hc
 split at h
 ·rename_i hu
  have hl:i+1 < l.length:=nx_lt (by omega)
  split at h
  ·cases h
  ·rename_i n m hf
   split at h
   ·cases h
   ·rename_i hs
    injection h with h
    injection h with h1 h2
    rw [<-h1]
    have:=(four_ok l 4 (i+2) 0 n m (by omega) hf).2.2
    exact us_wrt n (by omega) hs
 ·split at h
  ·exact one _ (by decide) _ h
  ·split at h
   ·exact one _ (by decide) _ h
   ·split at h
    ·exact one _ (by decide) _ h
    ·split at h
     ·exact one _ (by decide) _ h
     ·split at h
      ·exact one _ (by decide) _ h
      ·split at h
       ·exact one _ (by decide) _ h
       ·split at h
        ·exact one _ (by decide) _ h
        ·cases h
theorem str_us (l:List UInt8):∀(f i:Nat) (acc t:List UInt8) (j:Nat),Us acc->str l f i acc=.ok (t,j)->Us t
 | 0,i,acc,t,j,_,h=>by cases h
 | f+1,i,acc,t,j,ha,h=>by
  rw [str_step] at h
  split at h
  ·injection h with h
   injection h with h1 h2
   rw [<-h1];exact ha
  ·split at h
   ·split at h
    ·cases h
    ·rename_i b k he
     exact str_us l f k _ t j (ha.app (esc_us l i b k he)) h
   ·split at h
    ·cases h
    ·split at h
     ·cases h
     ·rename_i hs
      refine str_us l f _ _ t j (ha.app ?_) h
      have h0:seqN l i=seqN (l.drop i) 0:=seqN_drop l i
      unfold subT
      rw [h0]
      exact us_seq _ (by omega)
end Go.Proofs.YtbgnflcebafjjaaGreatDoor
namespace Go.Proofs.YtbgnflcebafjjaaGreatDoor
open Go.RowKit Go.Joins
set_option linter.unusedVariables false
inductive Ld (ns:List Tn):Nat->Nat->Prop
 | top (p:Nat):kdAt ns p=0->Ld ns p 0
 | kid (p q d:Nat):kdAt ns q=1->q ∈ ksAt ns p->Ld ns p d->Ld ns q (d+1)
structure Shp (pk:Int) (x:Tn):Prop where
 par:(pk=0/\Us x.ky/\0<=x.kd/\x.kd<=5)\/(pk=1/\x.ky=[]/\(x.kd=1\/x.kd=3\/x.kd=4\/x.kd=5))\/(pk=2/\x.ky=[]/\x.kd=0)
 txt:if x.kd=3 then Us x.tx else x.tx=[]
 num:if x.kd=4 then -1000000000000000000 < x.nu/\x.nu < 1000000000000000000 else if x.kd=5 then x.nu=0\/x.nu=1 else x.nu=0
theorem shp_tab {pk:Int} {k:List UInt8} {p:Nat} {z:Int} (h:(pk=0/\Us k/\(z=0\/z=2))\/(pk=2/\k=[]/\z=0)):Shp pk ⟨z,k,[],0,[],p⟩:=by
 have hz:z=0\/z=2:=by rcases h with ⟨-,-,h⟩ | ⟨-,-,h⟩;exact h;exact Or.inl h
 refine ⟨?_,?_,?_⟩
 ·rcases h with ⟨h1,h2,h3⟩ | ⟨h1,h2,h3⟩
  ·exact Or.inl ⟨h1,h2,by show 0<=z;omega,by show z<=5;omega⟩
  ·exact Or.inr (Or.inr ⟨h1,h2,h3⟩)
 ·show if z=3 then _ else _
  rw [if_neg (by omega)]
 ·show if z=4 then _ else _
  rw [if_neg (by omega),if_neg (by show ¬ z=5;omega)]
structure Okx (n:Nat) (ns:List Tn) (up:Nat) (x:Tn):Prop where
 ks:x.ks=[]
 ky:x.ky.length<=n
 tx:x.tx.length<=n
 nu:-1000000000000000000<=x.nu/\x.nu<=1000000000000000000
 free:kdAt ns up=0->kidO ns up x.ky=none
 two:kdAt ns up=2->x.kd=0
 shp:Shp (kdAt ns up) x
 dep:x.kd=1->∃d,d < 8/\Ld ns up d
inductive Gr (n:Nat):List Tn->List Tn->Nat->Prop
 | refl (ns:List Tn):Gr n ns ns 0
 | add (ns ns':List Tn) (m up:Nat) (x:Tn):Gr n ns ns' m->up < ns'.length->Okx n ns' up x->Gr n ns (addN ns' up x) (m+x.ky.length)
theorem Gr.trans {n:Nat} {a b:List Tn} {m:Nat} (h:Gr n a b m) {c:List Tn} {m':Nat} (h':Gr n b c m'):Gr n a c (m+m'):=by
 induction h' with
 | refl=>exact h
 | add ns' m up x h1 h2 h3 ih=>rw [<-Nat.add_assoc];exact Gr.add _ _ _ _ _ ih h2 h3
theorem Gr.one {n:Nat} {ns:List Tn} {up:Nat} {x:Tn} (hu:up < ns.length) (h:Okx n ns up x):Gr n ns (addN ns up x) x.ky.length:=by
 have:=Gr.add ns ns 0 up x (Gr.refl ns) hu h
 rwa [Nat.zero_add] at this
theorem Gr.len {n:Nat} {a b:List Tn} {m:Nat} (h:Gr n a b m):a.length<=b.length:=by
 induction h with
 | refl=>exact Nat.le_refl _
 | add ns' m up x h1 h2 h3 ih=>rw [addN_len];omega
theorem Gr.kd {n:Nat} {a b:List Tn} {m:Nat} (h:Gr n a b m) {q:Nat} (hq:q < a.length):kdAt b q=kdAt a q:=by
 induction h with
 | refl=>rfl
 | add ns' m up x h1 h2 h3 ih =>
  have:=h1.len
  rw [kdAt_addN _ _ _ h2,if_neg (by omega)]
  exact ih
theorem Ld.lt {ns:List Tn} {p d:Nat} (h:Ld ns p d):p < ns.length:=by
 induction h with
 | top p h=>exact kdAt_lt h (by decide)
 | kid p q d h1 h2 h3 _=>exact kdAt_lt h1 (by decide)
theorem Ld.addN {ns:List Tn} {p d up:Nat} {x:Tn} (hu:up < ns.length) (h:Ld ns p d):Ld (addN ns up x) p d:=by
 induction h with
 | top p h=>exact Ld.top p (by rw [kdAt_addN ns up x hu,if_neg (by have:=kdAt_lt h (by decide);omega)];exact h)
 | kid p q d h1 h2 h3 ih =>
  have hq:=kdAt_lt h1 (by decide)
  have hp:=h3.lt
  refine Ld.kid p q d (by rw [kdAt_addN ns up x hu,if_neg (by omega)];exact h1) ?_ ih
  rw [ksAt_addN ns up x hu,if_neg (by omega)]
  split
  ·rename_i e
   rw [<-e]
   simp [h2]
  ·exact h2
theorem Gr.ld {n:Nat} {a b:List Tn} {m:Nat} (h:Gr n a b m) {p d:Nat} (hl:Ld a p d):Ld b p d:=by
 induction h with
 | refl=>exact hl
 | add ns' m up x h1 h2 h3 ih=>exact ih.addN h2
structure Tv (n:Nat) (ns:List Tn) (S:Nat):Prop where
 lt:∀p q,q ∈ ksAt ns p->q < ns.length
 gt:∀p q,q ∈ ksAt ns p->p < q
 nod:∀p,(ksAt ns p).Nodup
 kdd:∀t,kdAt ns t=0->KD ns t
 two:∀t q,kdAt ns t=2->q ∈ ksAt ns t->kdAt ns q=0
 root:0 < ns.length/\kdAt ns 0=0
 txt:∀x ∈ ns,x.ky.length<=n/\x.tx.length<=n/\-1000000000000000000<=x.nu/\x.nu<=1000000000000000000
 sum:(ns.map fun x=>x.ky.length).sum<=S
 shp:∀p q,q ∈ ksAt ns p->∀x,ns[q]?=some x->Shp (kdAt ns p) x
 dep:∀p q,q ∈ ksAt ns p->kdAt ns q=1->∃d,d < 8/\Ld ns p d
 par:∀q,0 < q->q < ns.length->∃p,q ∈ ksAt ns p
 rt:∀x,ns[0]?=some x->x.ky=[]/\x.tx=[]/\x.nu=0
theorem kyAt_addN (ns:List Tn) (up:Nat) (n:Tn) (hu:up < ns.length) (p:Nat):kyAt (addN ns up n) p=if p=ns.length then n.ky else kyAt ns p:=by
 unfold kyAt
 rw [addN_at ns up n hu]
 by_cases h:p=ns.length
 ·simp only [if_pos h]
 ·simp only [if_neg h]
  by_cases h2:p=up
  ·subst h2
   simp only [if_true]
   rw [List.getElem?_eq_getElem hu]
  ·simp only [if_neg h2]
theorem addN_sum (ns:List Tn) (up:Nat) (x:Tn) (hu:up < ns.length):((addN ns up x).map fun y=>y.ky.length)=(ns.map fun y=>y.ky.length)++[x.ky.length]:=by
 apply List.ext_getElem?
 intro i
 rw [List.getElem?_map,addN_at ns up x hu]
 by_cases h:i=ns.length
 ·rw [if_pos h,List.getElem?_append_right (by simp [h]),h]
  simp
 ·rw [if_neg h]
  by_cases h2:i=up
  ·rw [if_pos h2,List.getElem?_append_left (by rw [List.length_map,h2];exact hu),List.getElem?_map,h2,List.getElem?_eq_getElem hu]
   rfl
  ·rw [if_neg h2]
   by_cases h3:i < ns.length
   ·rw [List.getElem?_append_left (by rw [List.length_map];exact h3),List.getElem?_map]
   ·rw [List.getElem?_eq_none (by omega),List.getElem?_append_right (by rw [List.length_map];omega)]
    rw [List.length_map,List.getElem?_eq_none (by simp;omega)]
    rfl
theorem Tv.add {n:Nat} {ns:List Tn} {S up:Nat} {x:Tn} (T:Tv n ns S) (hu:up < ns.length) (h:Okx n ns up x):Tv n (addN ns up x) (S+x.ky.length) where
 lt:=fun p q hq=>by
  rw [ksAt_addN ns up x hu,h.ks] at hq
  rw [addN_len]
  split at hq
  ·cases hq
  ·split at hq
   ·rw [List.mem_append,List.mem_singleton] at hq
    rcases hq with hq | rfl
    ·have:=T.lt _ _ hq;omega
    ·omega
   ·have:=T.lt _ _ hq;omega
 gt:=fun p q hq=>by
  rw [ksAt_addN ns up x hu,h.ks] at hq
  split at hq
  ·cases hq
  ·split at hq
   ·rename_i e
    rw [List.mem_append,List.mem_singleton] at hq
    rcases hq with hq | rfl
    ·rw [e];exact T.gt _ _ hq
    ·omega
   ·exact T.gt _ _ hq
 nod:=fun p=>by
  rw [ksAt_addN ns up x hu,h.ks]
  split
  ·exact List.nodup_nil
  ·split
   ·rw [List.nodup_append]
    refine ⟨T.nod up,by simp,fun a ha b hb hab=>?_⟩
    rw [List.mem_singleton] at hb
    subst hab hb
    have:=T.lt _ _ ha
    omega
   ·exact T.nod p
 kdd:=fun t ht=>by
  rw [kdAt_addN ns up x hu] at ht
  unfold KD
  rw [ksAt_addN ns up x hu,h.ks]
  split
  ·exact List.Pairwise.nil
  ·rename_i hne
   rw [if_neg hne] at ht
   have old:∀p,kdAt ns p=0->(ksAt ns p).Pairwise fun a b=>kyAt (addN ns up x) a ≠ kyAt (addN ns up x) b:=fun p hp=>by
    refine List.Pairwise.imp_of_mem ?_ (T.kdd p hp)
    intro a b ha hb hab
    have h1:=T.lt _ _ ha
    have h2:=T.lt _ _ hb
    rw [kyAt_addN ns up x hu,kyAt_addN ns up x hu,if_neg (by omega),if_neg (by omega)]
    exact hab
   split
   ·rename_i e
    rw [e] at ht
    rw [List.pairwise_append]
    refine ⟨old up ht,List.pairwise_singleton _ _,fun a ha b hb=>?_⟩
    rw [List.mem_singleton] at hb
    subst hb
    have h1:=T.lt _ _ ha
    rw [kyAt_addN ns up x hu,kyAt_addN ns up x hu,if_neg (by omega),if_pos rfl,kyAt_in h1]
    have hf:=h.free ht
    rw [kidO_eq,List.find?_eq_none] at hf
    have:=hf a ha
    unfold kyB at this
    rw [List.getElem?_eq_getElem h1] at this
    simpa using this
   ·exact old t ht
 two:=fun t q ht hq=>by
  rw [kdAt_addN ns up x hu] at ht
  rw [ksAt_addN ns up x hu,h.ks] at hq
  split at hq
  ·cases hq
  ·rename_i hne
   rw [if_neg hne] at ht
   rw [kdAt_addN ns up x hu]
   split at hq
   ·rename_i e
    rw [e] at ht
    rw [List.mem_append,List.mem_singleton] at hq
    rcases hq with hq | rfl
    ·have:=T.lt _ _ hq
     rw [if_neg (by omega)]
     exact T.two _ _ ht hq
    ·rw [if_pos rfl]
     exact h.two ht
   ·have:=T.lt _ _ hq
    rw [if_neg (by omega)]
    exact T.two _ _ ht hq
 root:=by
  rw [addN_len,kdAt_addN ns up x hu,if_neg (by have:=T.root.1;omega)]
  exact ⟨by omega,T.root.2⟩
 txt:=fun y hy=>by
  rw [List.mem_iff_getElem?] at hy
  obtain ⟨i,hi⟩:=hy
  rw [addN_at ns up x hu] at hi
  split at hi
  ·cases hi
   exact ⟨h.ky,h.tx,h.nu⟩
  ·split at hi
   ·cases hi
    exact T.txt ns[up] (List.getElem_mem hu)
   ·exact T.txt y (List.mem_of_getElem? hi)
 sum:=by
  rw [addN_sum ns up x hu,List.sum_append]
  have:=T.sum
  simp
  omega
 shp:=fun p q hq y hy=>by
  have old:∀p q y,q ∈ ksAt ns p->(addN ns up x)[q]?=some y->Shp (kdAt ns p) y:=fun p q y hq hy=>by
   have h1:=T.lt _ _ hq
   rw [addN_at ns up x hu,if_neg (by omega)] at hy
   split at hy
   ·rename_i e
    have h2:=T.shp p q hq ns[up] (by rw [e];exact List.getElem?_eq_getElem hu)
    cases hy
    exact ⟨h2.par,h2.txt,h2.num⟩
   ·exact T.shp p q hq y hy
  rw [ksAt_addN ns up x hu,h.ks] at hq
  rw [kdAt_addN ns up x hu]
  split at hq
  ·cases hq
  ·rename_i hne
   rw [if_neg hne]
   split at hq
   ·rename_i e
    rw [List.mem_append,List.mem_singleton] at hq
    rcases hq with hq | rfl
    ·rw [e];exact old up q y hq hy
    ·rw [addN_at ns up x hu,if_pos rfl] at hy
     cases hy
     rw [e]
     exact h.shp
   ·exact old p q y hq hy
 dep:=fun p q hq hk=>by
  rw [ksAt_addN ns up x hu,h.ks] at hq
  rw [kdAt_addN ns up x hu] at hk
  split at hq
  ·cases hq
  ·split at hq
   ·rename_i e
    rw [List.mem_append,List.mem_singleton] at hq
    rcases hq with hq | rfl
    ·rw [if_neg (by have:=T.lt _ _ hq;omega)] at hk
     obtain ⟨d,h1,h2⟩:=T.dep up q hq hk
     rw [e]
     exact ⟨d,h1,h2.addN hu⟩
    ·rw [if_pos rfl] at hk
     obtain ⟨d,h1,h2⟩:=h.dep hk
     rw [e]
     exact ⟨d,h1,h2.addN hu⟩
   ·rw [if_neg (by have:=T.lt _ _ hq;omega)] at hk
    obtain ⟨d,h1,h2⟩:=T.dep p q hq hk
    exact ⟨d,h1,h2.addN hu⟩
 par:=fun q h0 hq=>by
  rw [addN_len] at hq
  by_cases e:q=ns.length
  ·refine ⟨up,?_⟩
   rw [ksAt_addN ns up x hu,if_neg (by omega),if_pos rfl,e]
   simp
  ·obtain ⟨p,hp⟩:=T.par q h0 (by omega)
   refine ⟨p,?_⟩
   rw [ksAt_addN ns up x hu,if_neg (fun e2=>by rw [e2,ksAt_out ns _ (Nat.le_refl _)] at hp;cases hp)]
   split
   ·rename_i e2
    rw [<-e2]
    simp [hp]
   ·exact hp
 rt:=fun y hy=>by
  have h0:=T.root.1
  rw [addN_at ns up x hu,if_neg (by omega)] at hy
  split at hy
  ·rename_i e
   have h2:=T.rt ns[up] (by rw [e];exact List.getElem?_eq_getElem hu)
   cases hy
   exact h2
  ·exact T.rt y hy
theorem Gr.tv {n:Nat} {a b:List Tn} {m S:Nat} (h:Gr n a b m) (T:Tv n a S):Tv n b (S+m):=by
 induction h with
 | refl=>exact T
 | add ns' m up x h1 h2 h3 ih=>rw [<-Nat.add_assoc];exact ih.add h2 h3
theorem tv_start (n:Nat):Tv n [⟨0,[],[],0,[],0⟩] 0 where
 lt:=fun p q hq=>by
  cases p with
  | zero=>cases hq
  | succ p=>cases hq
 gt:=fun p q hq=>by
  cases p with
  | zero=>cases hq
  | succ p=>cases hq
 nod:=fun p=>by
  cases p with
  | zero=>exact List.nodup_nil
  | succ p=>exact List.nodup_nil
 kdd:=fun p _=>by
  cases p with
  | zero=>exact List.Pairwise.nil
  | succ p=>exact List.Pairwise.nil
 two:=fun p q _ hq=>by
  cases p with
  | zero=>cases hq
  | succ p=>cases hq
 root:=⟨by simp,rfl⟩
 txt:=fun x hx=>by
  rw [List.mem_singleton] at hx
  subst hx
  simp
 sum:=by simp
 shp:=fun p q hq=>by
  cases p with
  | zero=>cases hq
  | succ p=>cases hq
 dep:=fun p q hq=>by
  cases p with
  | zero=>cases hq
  | succ p=>cases hq
 par:=fun q h0 hq=>by
  simp at hq
  omega
 rt:=fun x hx=>by
  cases hx
  exact ⟨rfl,rfl,rfl⟩
end Go.Proofs.YtbgnflcebafjjaaGreatDoor
