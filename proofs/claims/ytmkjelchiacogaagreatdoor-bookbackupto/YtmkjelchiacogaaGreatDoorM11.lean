import Derived.Test.YtmkjelchiacogaaGreatDoorM01
import Derived.Test.YtmkjelchiacogaaGreatDoorM04
import Derived.Test.YtmkjelchiacogaaGreatDoorM08
import Derived.Test.YtmkjelchiacogaaGreatDoorM10
import Derived.BigQuiet
import Derived.Shelf.Strings.BuilderK
import Derived.Test.YtmkjelchiacogaaGreatDoorProg
import Derived.Test.YtmkjelchiacogaaGreatDoorM03
import Derived.Test.YtmkjelchiacogaaGreatDoorM02
import Derived.Test.YtmkjelchiacogaaGreatDoorM05
import Derived.Test.YtmkjelchiacogaaGreatDoorM06
import Derived.Shelf.Small.Wraps
import Derived.Shelf.Strconv.Itoa3
import Derived.Lib.LaidTab
import Derived.Deep.RegionHeld3
set_option linter.unusedVariables false
set_option linter.unusedSimpArgs false
set_option maxRecDepth 100000
set_option maxHeartbeats 6400000
open Go.Proofs.Tryz
namespace Go.Proofs.YtmkjelchiacogaaGreatDoor
open Go.RowKit Go.Maps Go.WideMaps Go.Joins Go.Shelf Go.Sort
theorem abo(l:List Nat):∀u∈l.map (fun q:Nat=>Value.int .i64 (q:Nat)),u.oneCell'=true:=by
 intro u hu;obtain⟨b,-,rfl⟩:=List.mem_map.1 hu;rfl
theorem abp(w:World)(c:Nat):(binOp .eql 88 (.slice none 0 c) (.slice none 0 0)).run prog w=.ok (.bool true) w:=by
 have h:∀d:Nat,(Op.equalIn (d+1) 88 (.slice none 0 c) (.slice none 0 0)).run prog w=.ok true w:=fun d=>by
  simp[Op.equalIn,run_underlying underlying88]
 simp only[binOp];simp[Op.equal,Op.maxDepth,h 9999]
theorem abq(w:World)(a:Addr)(n c:Nat):(binOp .eql 88 (.slice (some a) n c) (.slice none 0 0)).run prog w=.ok (.bool false) w:=by
 have h:∀d:Nat,(Op.equalIn (d+1) 88 (.slice (some a) n c) (.slice none 0 0)).run prog w=.ok false w:=fun d=>by
  simp[Op.equalIn,run_underlying underlying88]
 simp only[binOp];simp[Op.equal,Op.maxDepth,h 9999]
theorem abr(v:Value)(l:List Nat)(w:World)(h:NuS w v l)(hl:l.length<=1000000) :
  Calls prog 128 #[v] w fun e w'=>∃v',e=.returned v'/\w'.ownsRow w.heap.size 3 1 v' l.length (l.map fun q=>.int .i64 (q:Nat))/\w.grownBy w' none:=by
 obtain⟨o,c,rfl,hc⟩:=h;obtain⟨j0,hj0,hjj⟩:=Option.map_eq_some_iff.1 Qv;simp only[Prod.mk.injEq]at hjj;obtain⟨hy0,hy1,hyb⟩:=hjj
 cases o with
 | none =>
  have hl0:l=[]:=by
   cases l with
   | nil=>rfl
   | cons a r =>
    obtain⟨g,e,-⟩:=hc 0 (by simp)
    cases e
  subst hl0;clear hc;have hq:=abp w c;go_enter func128,ntmps128;go_wp2;refine bodyPost_ret (results_tmp (t:=2) rfl _ _ _) rfl ?_;exact⟨_,rfl,World.ownsRow_nil _ _ _ _,ai _ _⟩
 | some ad =>
  have hnews:∀j u,(l.map fun q:Nat=>Value.int .i64 (q:Nat))[j]?=some u->w.cell? (ad.add j)=some u:=fun j u hu=>by
   obtain⟨x,hx,rfl⟩:=List.getElem?_map ▸ hu |> Option.map_eq_some_iff.1
   obtain⟨hj,hx⟩:=List.getElem?_eq_some_iff.1 hx;obtain⟨g,e,hcell⟩:=hc j hj
   cases e
   rw[sD,hcell,hx]
  have hga:w.grownBy (w.alloc (.cells #[] 3)) none:=World.grownBy_alloc _ _ none;have abt:∀j u,(l.map fun q:Nat=>Value.int .i64 (q:Nat))[j]?=some u->(w.alloc (.cells #[] 3)).cell? (ad.add j)=some u:=fun j u hu=>hga.cell (hnews j u hu) (by simp)
  have hown0:(w.alloc (.cells #[] 3)).ownsRow w.heap.size 3 1 (.slice (some ⟨w.heap.size,0,none⟩) 0 0) 0 []:=⟨rfl,Or.inr ⟨w.heap.size,0,#[],rfl,Nat.le_refl _,heap_alloc_new w _,Nat.le_refl _,by unfold maxLen;omega,rfl,rfl⟩⟩;have hone:=abo l;have hnl:(l.map fun q:Nat=>Value.int .i64 (q:Nat)).length=l.length*1:=by simp
  obtain⟨m,hm⟩:=zN (l.length);have HM:Hd (l.length=m):=hm;rw[hm]at hnl hl ⊢;have hq:=abq w ad m c;clear hc hnews hm;go_enter func128,ntmps128;go_wp2_with (first|(at_builtin;refine wpList_append_own _ rfl _ _ 88 rfl w.heap.size 3 j0 (.int .i64 0) 1 8 underlying88 hj0 hy0 hy1 hyb rfl (by decide) _ 0 [] rfl hown0 ad m c (l.map fun q:Nat=>Value.int .i64 (q:Nat)) rfl hnl abt hone (by unfold maxLen;omega) (by omega) (by simp) ?_;intro v' w2 hown2 hg2 hnil2));refine bodyPost_ret (results_tmp (t:=2) rfl _ _ _) rfl ?_;refine⟨_,rfl,?_,?_⟩
  ·rw[Nat.zero_add,List.nil_append]at hown2;exact hown2
  ·exact JS (af (ai w none) hga) hg2 (fun b hb=>by cases hb;exact Nat.le_refl _)
theorem abu(W:World)(bx p N c n a b:Nat)(ka kb:ByteArray)(hbx:W.cell? ⟨bx,0,none⟩=some (.pointer (some ⟨p,0,none⟩)))(hp:W.cell? ⟨p,0,none⟩=some (.slice (some ⟨N,0,none⟩) n c))(ha:W.cell? ⟨N,a*6+1,none⟩=some (.string ka))(hb:W.cell? ⟨N,b*6+1,none⟩=some (.string kb))(han:a<n)(hbn:b<n)(hn:n<=1000000) :
  Calls prog 130 #[.int .i64 (a:Nat),.int .i64 (b:Nat),.pointer (some ⟨bx,0,none⟩)] W fun e w'=>e=.returned (.int .i64 (cb ka.data.toList kb.data.toList))/\∃q,w'=W.drewN q:=by
 have CC:Hd (∀w,Calls prog 131 #[.string ka,.string kb] w fun e w'=>e=.returned (.int .i64 (cb ka.data.toList kb.data.toList))/\w'=w):=fun w=>Any.strings_Compare Tryz.lays106 ka kb w
 obtain⟨z,hz⟩:=zN (cb ka.data.toList kb.data.toList);rw[hz]at CC ⊢;clear hz;have hai:(a:Int)<(n:Int):=by omega
 have hbi:(b:Int)<(n:Int):=by omega
 go_enter func130,ntmps130;go_wp2;go_quiet (first|(go_at_call 131;exact Calls.quiet_of_same (CC.o _)));go_wp2;go_ret;exact⟨rfl,_,rfl⟩
theorem abv(ve:Value)(E:List Nat)(base n bx:Nat)(w:World)(f:Nat->List UInt8)(hown:w.ownsRow base 3 1 ve E.length (E.map fun q=>.int .i64 (q:Nat)))(hlen:E.length<=1000000)(hE:∀q∈E,q<n+1)
  (hC:∀W:World,(∀a:Addr,ve.ownBlock≠some a.block->a.block<w.heap.size->W.cell? a=w.cell? a)->∀x y:Fin (n+1),Calls prog 130 #[.int .i64 (x.val:Nat),.int .i64 (y.val:Nat),.pointer (some ⟨bx,0,none⟩)] W fun e w'=>e=.returned (.int .i64 (cb (f x.val) (f y.val)))/\∃q,w'=W.drewN q) :
  Calls prog 129 #[ve,.func (.func 130) #[] #[.pointer (some ⟨bx,0,none⟩)]] w fun e w'=>e=.returned (.tuple #[])/\∃E':List Nat,E'.Perm E/\(E'.Pairwise fun a b=>cb (f a) (f b)<=0)/\w'.ownsRow base 3 1 ve E'.length (E'.map fun q=>.int .i64 (q:Nat))/\w.grownBy w' ve.ownBlock:=by
 obtain⟨D,hD⟩:∃D:Array (Fin (n+1)),D.toList.map (·.val)=E:=⟨(E.attach.map fun e=>(⟨e.1,hE e.1 e.2⟩:Fin (n+1))).toArray,by simp⟩;have hDs:D.size=E.length:=by rw[<-hD];simp
 have hown':=hown
 rcases hown.2 with⟨rfl,h0⟩|⟨g,cap,cur,rfl,hb,hg,hn,hm,hs,ht⟩
 ·refine(show Calls prog 129 #[.slice none 0 0,.func (.func 130) #[] #[.pointer (some ⟨bx,0,none⟩)]] w _ from AnyF.slices_SortFunc_none { Tryz.laysSort with } none 0 (.func (.func 130) #[] #[.pointer (some ⟨bx,0,none⟩)]) w).mono ?_;rintro e w' ⟨rfl,rfl⟩;have hE0:E=[]:=List.eq_nil_of_length_eq_zero h0;subst hE0;exact⟨rfl,[],List.Perm.refl _,List.Pairwise.nil,hown',⟨rfl,rfl,rfl,Nat.le_refl _,fun _ _ _=>rfl⟩⟩
 ·have hgl:g<w.heap.size:=aA hg;have hH:Holds (fun x:Fin (n+1)=>Value.int .i64 (x.val:Nat)) w g 0 D:=by
   intro j hj;refine⟨?_,Lib.frozen_of_heap hg _⟩;have hjE:j<E.length:=by omega
   have h1:=hown.cells (g:=g) rfl j (.int .i64 (E[j]:Nat)) (by rw[List.getElem?_map,List.getElem?_eq_getElem hjE];rfl);rw[sD]at h1;rw[Nat.zero_add,h1,getElem!_pos D j hj];have e:E[j]=D[j].val:=by
    subst hD;simp
   rw[e]
  have hcmp:CmpLays1 prog 130 #[.pointer (some ⟨bx,0,none⟩)] (fun x:Fin (n+1)=>Value.int .i64 (x.val:Nat)) (fun x y=>cb (f x.val) (f y.val)) g 0 D.size w:=by
   intro m os dk hdk x y;refine(hC _ (fun a h1 h2=>World.cell?_of_block (by
    show((w.heap.modify g _)++os)[a.block]?=_;rw[Array.getElem?_append_left (by simpa using h2),Array.getElem?_modify,if_neg (fun e=>h1 (by rw[<-e];rfl))])) x y).mono ?_
   rintro e w' ⟨rfl,q,rfl⟩;exact⟨rfl,q,#[],by rw[grow_empty]⟩
  have eg:∀args w,(callFunc 130 args).run prog w=.ok (.enter 130 args) w:=enters_of func130 (by kernel_rfl) rfl;rw[<-hDs];refine(show Calls prog 129 #[.slice (some ⟨g,0,none⟩) D.size cap,.func (.func 130) #[] #[.pointer (some ⟨bx,0,none⟩)]] w _ from Any.slices_SortFunc Tryz.laysSort (fun x:Fin (n+1)=>Value.int .i64 (x.val:Nat)) (fun x=>rfl) (fun x y=>cb (f x.val) (f y.val)) (Y7 fun x:Fin (n+1)=>f x.val) 130 #[.pointer (some ⟨bx,0,none⟩)] g 0 cap D w eg hcmp hH hgl (by omega)).mono ?_;rintro e w' ⟨rfl,d',m,os,hperm,hsort,hw'⟩;have hds:d'.size=D.size:=hperm.1;have hheap:w'.heap=(w.heap.modify g (onCells (putCells (fun x:Fin (n+1)=>Value.int .i64 (x.val:Nat)) 0 d')))++os:=by rw[hw'];rfl
  have hg':w'.heap[g]?=some (.cells (putCells (fun x:Fin (n+1)=>Value.int .i64 (x.val:Nat)) 0 d' cur) 3):=by
   rw[hheap,Array.getElem?_append_left (by simpa using hgl),Array.getElem?_modify,if_pos rfl,hg];rfl
  have hcs:D.size<=cur.size:=by rw[hs,hDs];omega
  refine⟨rfl,d'.toList.map (·.val),?_,?_,⟨?_,.inr ⟨g,cap,_,?_,hb,hg',?_,hm,?_,?_⟩⟩,?_⟩
  ·rw[<-hD];apply List.Perm.map;have:=hperm.2.2;rw[Array.extract_size]at this;rw[show d'.extract 0 D.size=d' by rw[<-hds,Array.extract_size]]at this;exact this
  ·rw[List.pairwise_iff_getElem];intro i j hi hj hij;simp only[List.length_map,Array.length_toList]at hi hj;have:=hsort i j (Nat.zero_le _) hij (by omega);rw[getElem!_pos d' j hj,getElem!_pos d' i hi]at this;have h3:¬cb (f d'[j].val) (f d'[i].val)<0:=of_decide_eq_false this;simp only[List.getElem_map,Array.getElem_toList];have:=xE (f d'[i].val) (f d'[j].val);omega
  ·simp
  ·simp[hds]
  ·simp[hds];omega
  ·simp[putCells,hs]
  ·rw[show(d'.toList.map (·.val)).length=D.size by simp[hds]];apply List.ext_getElem?;intro j
   by_cases hj:j<D.size
   ·rw[List.getElem?_take_of_lt (by omega),Array.getElem?_toList];rw[putCells,Array.getElem?_mapIdx,Array.getElem?_eq_getElem (show j<cur.size by omega)];rw[Option.map_some,if_pos ⟨Nat.zero_le _,by omega⟩,Nat.sub_zero,getElem!_pos d' j (by omega)];simp[hds,hj]
   ·rw[List.getElem?_eq_none (by simp;omega),List.getElem?_eq_none (by simp;omega)]
  ·refine⟨by rw[hw'];rfl,by rw[hw'];rfl,by rw[hw'];rfl,?_,?_⟩
   ·rw[hheap];simp
   ·intro k hk hne;have hkg:g≠k:=by
     intro h;subst h;exact hne rfl
    rw[hheap,Array.getElem?_append_left (by simpa using hk),Array.getElem?_modify,if_neg hkg]
open Go.RowKit Go.Maps Go.WideMaps Go.Joins
theorem own_base{w:World}{B B':Nat}{e:TypeId}{s:Nat}{v:Value}{n:Nat}{xs:List Value}(h:w.ownsRow B e s v n xs)(hB:B'<=B):w.ownsRow B' e s v n xs:=by
 refine⟨h.1,?_⟩
 rcases h.2 with h|⟨g,cap,cur,h1,h2,h3⟩
 ·exact Or.inl h
 ·exact Or.inr ⟨g,cap,cur,h1,Nat.le_trans hB h2,h3⟩
structure Nv(w:World)(NV:Value)(N c:Nat)(ns:List Tn):Prop where
 val:NV=.slice (some ⟨N,0,none⟩) ns.length c
 cel:∀i (hi:i<ns.length),∃k,w.cell? ⟨N,i*6,none⟩=some (.int .i64 ns[i].kd)/\w.cell? ⟨N,i*6+1,none⟩=some (.string ⟨ns[i].ky.toArray⟩)/\w.cell? ⟨N,i*6+2,none⟩=some (.string ⟨ns[i].tx.toArray⟩)/\w.cell? ⟨N,i*6+3,none⟩=some (.int .i64 ns[i].nu)/\w.cell? ⟨N,i*6+4,none⟩=some k/\w.cell? ⟨N,i*6+5,none⟩=some (.int .i64 (ns[i].pl:Nat))/\NuS w k ns[i].ks
theorem Nv.grow{w w':World}{NV:Value}{N c:Nat}{ns:List Tn}(h:Nv w NV N c ns)(hg:w.grownBy w' none):Nv w' NV N c ns:=by
 refine⟨h.val,fun i hi=>?_⟩;obtain⟨k,h0,h1,h2,h3,h4,h5,h6⟩:=h.cel i hi;exact⟨k,hg.cell h0 (by simp),hg.cell h1 (by simp),hg.cell h2 (by simp),hg.cell h3 (by simp),hg.cell h4 (by simp),hg.cell h5 (by simp),h6.grow hg⟩
theorem vW{ns:List Tn}{q:Nat}(h:q<ns.length):aW ns q=ns[q].ky:=by
 unfold aW;rw[List.getElem?_eq_getElem h]
theorem vX{ns:List Tn}{q:Nat}(h:q<ns.length):ax ns q=ns[q].ks:=by
 unfold ax;rw[List.getElem?_eq_getElem h]
theorem SS(p N c:Nat)(NV:Value)(ns:List Tn)(own:List Nat)(t:Nat)(w:World)(hp:w.cell? ⟨p,0,none⟩=some NV)(h:Nv w NV N c ns)(W:WF ns own)(ht:t<ns.length)(hk:KD ns t)(hn:ns.length<=900000) :
  Calls prog 86 #[.pointer (some ⟨p,0,none⟩),.int .i64 (t:Nat)] w fun e w'=>∃v,e=.returned v/\w'.ownsRow w.heap.size 3 1 v (dQ ns t).length ((dQ ns t).map fun q=>.int .i64 (q:Nat))/\w.grownBy w' none:=by
 obtain⟨m,hm⟩:∃m,ns.length=m+1:=⟨ns.length-1,by omega⟩;have hv:=h.val;subst hv;have hga:w.grownBy (w.alloc (.cells #[.pointer (some ⟨p,0,none⟩)] 158)) none:=World.grownBy_alloc _ _ none;have hbx:=heap_alloc_new w (.cells #[.pointer (some ⟨p,0,none⟩)] 158);obtain⟨k,-,-,-,-,k4,-,k6⟩:=h.cel t ht;have hks:=vX ht;have hlk:ns[t].ks.length<=1000000:=by have:=W.len t;rw[hks]at this;omega
 obtain⟨w1,hw1⟩:=zN (w.alloc (.cells #[.pointer (some ⟨p,0,none⟩)] 158));rw[hw1]at hga hbx;have b0:w1.cell? ⟨w.heap.size,0,none⟩=some (.pointer (some ⟨p,0,none⟩)):=by rw[ae hbx];rfl
 have p0:=hga.cell hp (by simp);have k4':=hga.cell k4 (by simp);have CC:Hd (Calls prog 128 #[k] w1 fun e w'=>∃v',e=.returned v'/\w'.ownsRow w1.heap.size 3 1 v' ns[t].ks.length (ns[t].ks.map fun q=>.int .i64 (q:Nat))/\w1.grownBy w' none):=abr k ns[t].ks w1 (k6.grow hga) hlk;have CS:Hd (∀(v':Value) w2,w1.grownBy w2 none->w2.ownsRow w1.heap.size 3 1 v' ns[t].ks.length (ns[t].ks.map fun q=>.int .i64 (q:Nat))->Calls prog 129 #[v',.func (.func 130) #[] #[.pointer (some ⟨w.heap.size,0,none⟩)]] w2 fun e w'=>e=.returned (.tuple #[])/\∃E':List Nat,E'.Perm ns[t].ks/\(E'.Pairwise fun a b=>cb (aW ns a) (aW ns b)<=0)/\w'.ownsRow w1.heap.size 3 1 v' E'.length (E'.map fun q=>.int .i64 (q:Nat))/\w2.grownBy w' v'.ownBlock):=fun v' w2 hg2 hown=>by
  refine abv v' ns[t].ks w1.heap.size m w.heap.size w2 (aW ns) hown hlk (fun q hq=>?_) fun W' hW x y=>?_
  ·have:=W.lt t q (by rw[hks];exact hq);omega
  ·have cell:∀(a:Addr) u,w1.cell? a=some u->W'.cell? a=some u:=fun a u hu=>by
    have hlt:=block_lt_of_cell hu;rw[hW a (fun e=>by have:=(dV hown e).1;omega) (Nat.lt_of_lt_of_le hlt hg2.size)];exact hg2.cell hu (by simp)
   have hx:x.val<ns.length:=by have:=x.isLt;omega
   have hy:y.val<ns.length:=by have:=y.isLt;omega
   obtain⟨_,-,x1,-⟩:=h.cel x.val hx;obtain⟨_,-,y1,-⟩:=h.cel y.val hy;have:=abu W' w.heap.size p N c ns.length x.val y.val ⟨ns[x.val].ky.toArray⟩ ⟨ns[y.val].ky.toArray⟩ (cell _ _ b0) (cell _ _ p0) (cell _ _ (hga.cell x1 (by simp))) (cell _ _ (hga.cell y1 (by simp))) hx hy (by omega);rw[vW hx,vW hy];simpa using this
 have HU:Hd (∀E:List Nat,E.Perm ns[t].ks->(E.Pairwise fun a b=>cb (aW ns a) (aW ns b)<=0)->E=dQ ns t):=fun E h1 h2=>Ff ns t hk E (by rw[hks];exact h1) h2
 have uo:Hd (w.grownBy w1 none):=hga;have lu:Hd (w.heap.size<=w1.heap.size):=hga.size;obtain⟨L,hL⟩:=zN (ns.length);obtain⟨bxn,hbn⟩:∃b,w.heap.size=b:=⟨_,rfl⟩;obtain⟨KS,hKS⟩:=zN (ns[t].ks);rw[hKS]at CC CS HU;rw[hL]at p0 ht;rw[hbn]at b0 CS lu ⊢;have hti:(t:Int)<(L:Int):=by omega
 have HW1:Hd (w.alloc (.cells #[.pointer (some ⟨p,0,none⟩)] 158)=w1):=hw1;have uB:Hd (w.heap.size=bxn):=hbn;clear h W hk hn hm hga hbx k4 k6 hks hlk hp hL hKS hw1 hbn;go_enter func86,ntmps86;go_upto_region 1 with fail
 rw[HW1.o,uB.o];go_wp2_with (go_at_call 128;refine CC.o.mono ?_);rintro e w2 ⟨v',rfl,hown2,hg2⟩;have dO:Hd (w2.ownsRow w1.heap.size 3 1 v' KS.length (KS.map fun q=>.int .i64 (q:Nat))):=hown2;have HG2:Hd (w1.grownBy w2 none):=hg2;clear hown2 hg2 b0 p0 k4';go_wp2_with (go_at_call 129;refine(CS.o v' _ HG2.o dO.o).mono ?_;rintro e w3 ⟨rfl,E',hp3,hs3,ho3,hg3⟩);refine bodyPost_ret (results_tmp (t:=4) rfl _ _ _) rfl ?_;have e:=HU.o E' hp3 hs3;subst e;refine⟨_,rfl,own_base ho3 lu.o,?_⟩;exact JS (af uo.o HG2.o) hg3 (fun b hb=>by
  have:=(dV dO.o hb).1;have:=lu.o;have:=uB.o;omega)
end Go.Proofs.YtmkjelchiacogaaGreatDoor
namespace Go.Proofs
open Go.Shelf
def Tryz.lays167_ren:Go.Shelf.Ren:=⟨fun|167=>89|240=>62|276=>102|n=>n,fun|22=>263|24=>169|25=>170|27=>66|28=>88|31=>41|32=>172|33=>118|35=>219|37=>69|40=>312|41=>127|42=>220|43=>218|46=>176|47=>175|48=>132|49=>351|51=>235|52=>234|53=>237|54=>236|55=>258|67=>125|69=>75|70=>68|71=>70|72=>71|73=>112|74=>49|75=>50|76=>72|77=>73|78=>161|79=>283|80=>77|81=>140|83=>74|84=>178|85=>318|86=>319|94=>165|100=>179|101=>56|102=>57|103=>171|104=>78|105=>284|106=>285|108=>328|111=>141|112=>221|114=>270|119=>313|126=>303|127=>126|128=>304|131=>59|135=>243|137=>314|138=>315|139=>316|143=>330|144=>331|145=>332|164=>143|165=>177|166=>279|167=>317|168=>320|169=>321|170=>322|171=>238|172=>239|173=>240|174=>241|175=>324|176=>325|182=>228|183=>229|188=>274|189=>275|190=>276|191=>277|192=>278|209=>326|210=>327|211=>271|212=>272|213=>273|214=>329|218=>264|219=>265|220=>266|222=>268|224=>300|225=>301|228=>297|229=>298|231=>311|232=>309|233=>310|238=>333|239=>334|240=>335|241=>336|242=>337|243=>339|244=>151|245=>340|246=>341|247=>342|248=>343|249=>344|n=>n,fun|1=>7|3=>10|4=>11|15=>12|16=>13|17=>6|18=>8|19=>9|n=>n⟩
theorem Tryz.lays167:Go.Proofs.Lays.n167 prog Tryz.lays167_ren:={
 mixed:=by kernel_rfl
 f167:=func89.trans (congrArg some (by kernel_rfl))
 f240:=func62.trans (congrArg some (by kernel_rfl))
 f276:=func102.trans (congrArg some (by kernel_rfl))
 t0:=underlying0
 a0:=isAgg0
 z0:=sizeOf0
 v0:=zeroValue0
 t4:=underlying4
 a4:=isAgg4
 z4:=sizeOf4
 v4:=zeroValue4
 t5:=underlying5
 a5:=isAgg5
 z5:=sizeOf5
 v5:=zeroValue5
 t9:=underlying9
 a9:=isAgg9
 z9:=sizeOf9
 v9:=zeroValue9
 t20:=underlying20
 a20:=isAgg20
 z20:=sizeOf20
 v20:=zeroValue20
 t37:=underlying69
 a37:=isAgg69
 z37:=sizeOf69
 v37:=zeroValue69
 t70:=underlying68
 a70:=isAgg68
 z70:=sizeOf68
 v70:=zeroValue68
 t72:=underlying71
 a72:=isAgg71
 z72:=sizeOf71
 v72:=zeroValue71
 t75:=underlying50
 a75:=isAgg50
 z75:=sizeOf50
 v75:=zeroValue50
 t164:=underlying143
 a164:=isAgg143
 z164:=sizeOf143
 v164:=zeroValue143 }
theorem Tryz.Builder_Extra_167:Builder.Extra prog Tryz.lays167_ren:={
 sizeBuilder:=by kernel_rfl
 liesBuilder:=by kernel_rfl
 t5:=underlying5
 a5:=isAgg5
 z5:=sizeOf5
 v5:=zeroValue5
 infoByte:=by kernel_rfl
 cellsByte:=by kernel_rfl
 sizeByte:=by kernel_rfl
 neB5:=by decide }
end Go.Proofs
namespace Go.Proofs.YtmkjelchiacogaaGreatDoor
open Go.RowKit Go.Maps Go.WideMaps Go.Joins
def lG:List UInt8:=[8,9,10,12,13,34,92]
def pU:List UInt8:=[98,116,110,102,114,34,92]
def hexS:List UInt8:=[48,49,50,51,52,53,54,55,56,57,65,66,67,68,69,70]
def qc(c:UInt8):List UInt8:=if 0<=Lib.indexByte lG c then[92,pU.getD (Lib.indexByte lG c).toNat 0] else if nG (c.toNat:Int)=true then[92,117,48,48,hexS.getD (c.toNat / 16) 0,hexS.getD (c.toNat % 16) 0] else[c]
def qt(s:List UInt8):List UInt8:=34 :: s.flatMap qc++[34]
theorem abw(B b:Nat)(acc:List UInt8)(c:UInt8)(w:World)(h:Bd w B b acc)(hl:acc.length<=1099511627776)(hB:B<=w.heap.size) :
  Calls prog 89 #[.pointer (some ⟨b,0,none⟩),.int .u8 (c.toNat:Int)] w fun e w'=>e=.returned .nilIface/\Bd w' B b (acc++[c])/\Below B w w':=by
 refine(Any.Builder_WriteByte_k Tryz.lays167 Tryz.Builder_Extra_167 B b (Lib.byteCells acc) (c.toNat:Int) w h (by rw[FK];omega) hB).mono ?_;rintro e w' ⟨rfl,h1,h2,h3⟩;refine⟨rfl,Or.inr ?_,h2⟩;rw[y7];exact h1
theorem wrap_u8(c:UInt8):wrap64 (c.toNat:Int)=(c.toNat:Int):=JA c.toNat (by have:=c.toNat_lt;omega)
theorem SV(m:Nat)(h:m<(⟨#[48,49,50,51,52,53,54,55,56,57,65,66,67,68,69,70]⟩:ByteArray).size):(⟨#[48,49,50,51,52,53,54,55,56,57,65,66,67,68,69,70]⟩:ByteArray)[m]'h=hexS.getD m 0:=by
 have key:∀k:Fin 16,(⟨#[48,49,50,51,52,53,54,55,56,57,65,66,67,68,69,70]⟩:ByteArray)[k.val]'(by have:=k.isLt;exact this)=hexS.getD k.val 0:=by decide
 exact key ⟨m,h⟩
theorem abx(m:Nat)(h:m<(⟨#[98,116,110,102,114,34,92]⟩:ByteArray).size):(⟨#[98,116,110,102,114,34,92]⟩:ByteArray)[m]'h=pU.getD m 0:=by
 have key:∀k:Fin 7,(⟨#[98,116,110,102,114,34,92]⟩:ByteArray)[k.val]'(by have:=k.isLt;exact this)=pU.getD k.val 0:=by decide
 exact key ⟨m,h⟩
theorem aby(c:UInt8):Lib.indexByte lG c<7:=by
 have key:∀n:Fin 256,Lib.indexByte lG (UInt8.ofNat n.val)<7:=by decide
 have:=key ⟨c.toNat,c.toNat_lt⟩;simpa using this
theorem abz(c:UInt8):1<=(qc c).length/\(qc c).length<=6:=by
 unfold qc;split
 ·simp
 ·split<;>simp
theorem KG:∀l:List UInt8,(l.flatMap qc).length<=6*l.length
 | []=>by simp
 | c :: r=>by
  rw[List.flatMap_cons,List.length_append,List.length_cons];have:=(abz c).2;have:=KG r;omega
theorem KH(s:List UInt8):2<=(qt s).length/\(qt s).length<=6*s.length+2:=by
 unfold qt;have:=KG s;simp only[List.cons_append,List.length_cons,List.length_append,List.length_nil];omega
theorem SX(s:ByteArray)(w:World)(hs:s.size<=1048576) :
  Calls prog 132 #[.string s] w fun e w'=>e=.returned (.string ⟨(qt s.data.toList).toArray⟩)/\w.grownBy w' none:=by
 have hl:s.data.toList.length=s.size:=by simp
 have hgA:w.grownBy (w.alloc (.cells #[.pointer none,.slice none 0 0] 71)) none:=World.grownBy_alloc _ _ none;have hnb:=heap_alloc_new w (.cells #[.pointer none,.slice none 0 0] 71);have HB0:Hd (Bd (w.alloc (.cells #[.pointer none,.slice none 0 0] 71)) w.heap.size w.heap.size []):=Or.inl ⟨Nat.le_refl _,.slice none 0 0,hnb,⟨rfl,Or.inl ⟨rfl,rfl⟩⟩,by simp[Value.ownBlock]⟩;have hsz1:(w.alloc (.cells #[.pointer none,.slice none 0 0] 71)).heap.size=w.heap.size+1:=World.size_alloc _ _;obtain⟨B,hB⟩:=zN (w.heap.size);have CW:Hd (∀(acc:List UInt8) (c:UInt8) w',Bd w' B B acc->acc.length<=1099511627776->B<=w'.heap.size->Calls prog 89 #[.pointer (some ⟨B,0,none⟩),.int .u8 (c.toNat:Int)] w' fun e w''=>e=.returned .nilIface/\Bd w'' B B (acc++[c])/\Below B w' w''):=fun acc c w' h1 h2 h3=>abw B B acc c w' h1 h2 h3
 have CS:Hd (∀(acc:List UInt8) w',Bd w' B B acc->acc.length<=1099511627776->B<=w'.heap.size->Calls prog 30 #[.pointer (some ⟨B,0,none⟩),.string ⟨#[92,117,48,48]⟩] w' fun e w''=>(∃k:Int,e=.returned (.tuple #[.int .i64 k,.nilIface]))/\Bd w'' B B (acc++[92,117,48,48])/\Below B w' w''):=fun acc w' h1 h2 h3=>Qm B B acc [92,117,48,48] w' h1 h2 (by decide) h3
 have CE:Hd (∀(acc:List UInt8) w',Bd w' B B acc->B<=w'.heap.size->Calls prog 34 #[.pointer (some ⟨B,0,none⟩)] w' fun e w''=>e=.returned (.string ⟨acc.toArray⟩)/\Below B w' w''):=fun acc w' h1 h2=>Qn B B acc w' h1 h2
 have CI:Hd (∀(c:UInt8) w',Calls prog 173 #[.string ⟨#[8,9,10,12,13,34,92]⟩,.int .u8 (c.toNat:Int)] w' fun e w''=>e=.returned (.int .i64 (Lib.indexByte lG c))/\w''=w'):=fun c w'=>by
  refine(show Calls prog 173 #[.string ⟨#[8,9,10,12,13,34,92]⟩,.int .u8 (c.toNat:Int)] w' _ from Any.strings_IndexByte Tryz.lays137 ⟨#[8,9,10,12,13,34,92]⟩ (c.toNat:Int) w').mono ?_;rintro e w'' ⟨rfl,h⟩;refine⟨?_,h⟩;have e1:((c.toNat:Int)).toNat.toUInt8=c:=by simp
  rw[e1];rfl
 have CT:Hd (∀(c:Int) w',Calls prog 170 #[.int .i64 c] w' fun e w''=>e=.returned (.bool (nG c))/\w''=w'):=P6;have iZ:Hd (Below B w (w.alloc (.cells #[.pointer none,.slice none 0 0] 71))):=by have:=uf hgA;rw[hB]at this;exact this
 have HL:Hd (s.data.toList.length=s.size):=hl;have dN:Hd (w.heap.size=B):=hB;have lu:Hd (B<=(w.alloc (.cells #[.pointer none,.slice none 0 0] 71)).heap.size):=by show _<=_;omega
 rw[hB]at HB0;have KJ:Hd (Calls prog 89 #[.pointer (some ⟨B,0,none⟩),.int .u8 34] (w.alloc (.cells #[.pointer none,.slice none 0 0] 71)) fun e w''=>e=.returned .nilIface/\Bd w'' B B [34]/\Below B (w.alloc (.cells #[.pointer none,.slice none 0 0] 71)) w''):=CW.o [] 34 _ HB0.o (by simp) lu.o;rw[<-hB]at KJ;clear hl hgA hnb hsz1 hB;go_enter func132,ntmps132;go_wp2_with (go_at_call 89;refine KJ.o.mono ?_);rintro e w1 ⟨rfl,hb1,hl1⟩;rw[dN.o]at hb1 hl1 ⊢;have HB1:Hd (Bd w1 B B [34]):=hb1;have qH:Hd (Below B w w1):=iZ.o.trans hl1;have eP:Hd (B<=w1.heap.size):=Nat.le_trans lu.o hl1.size;clear hb1 hl1 KJ;go_wp2;go_loopw [10] (fun v10 wr=>∃i:Nat,v10=.int .i64 (i:Nat)/\i<=s.size/\Bd wr B B (34 :: (s.data.toList.take i).flatMap qc)/\Below B w wr/\B<=wr.heap.size) (fun v10 _=>s.size-(intOf v10).toNat)
 case atStart=>exact⟨0,rfl,Nat.zero_le _,HB1.o,qH.o,eP.o⟩
 case round =>
  obtain⟨i,rfl,hi,hbd,hbl,hsz⟩:=hrel;have zS:Hd (Bd wr B B (34 :: (s.data.toList.take i).flatMap qc)):=hbd;have lU:Hd (Below B w wr):=hbl;have vY:Hd (B<=wr.heap.size):=hsz;have hacc:(34 :: (s.data.toList.take i).flatMap qc).length<=6*i+1:=by
   have:=KG (s.data.toList.take i);rw[List.length_take]at this;simp only[List.length_cons];omega
  clear hbd hbl hsz
  by_cases hlt:i<s.size
  ·have hI:(i:Int)<(s.size:Int):=by omega
   obtain⟨c,hc⟩:=zN (s[i]);have iG:Hd (34 :: (s.data.toList.take (i+1)).flatMap qc=(34 :: (s.data.toList.take i).flatMap qc)++qc c):=by
    show _=_;have hil:i<s.data.toList.length:=by rw[HL.o];exact hlt
    rw[List.take_succ_eq_append_getElem hil,List.flatMap_append,List.cons_append];congr 2;have e:s.data.toList[i]=c:=by rw[<-hc];rfl
    rw[e];simp
   obtain⟨acc,hac⟩:=zN (34 :: (s.data.toList.take i).flatMap qc);rw[hac]at iG zS hacc;have hal:acc.length<=8000000:=by omega
   have lN:Hd (Calls prog 173 #[.string ⟨#[8,9,10,12,13,34,92]⟩,.int .u8 (c.toNat:Int)] wr fun e w''=>e=.returned (.int .i64 (Lib.indexByte lG c))/\w''=wr):=CI.o c wr;have uC:Hd (qc c=if 0<=Lib.indexByte lG c then[92,pU.getD (Lib.indexByte lG c).toNat 0] else if nG (c.toNat:Int)=true then[92,117,48,48,hexS.getD (c.toNat / 16) 0,hexS.getD (c.toNat % 16) 0] else[c]):=rfl;obtain⟨x,hx⟩:=zN (Lib.indexByte lG c);rw[hx]at lN uC;clear hac
   by_cases hx0:0<=x
   ·have hx7:x<7:=by rw[<-hx];exact aby c
    rw[if_pos hx0]at uC;obtain⟨k,rfl⟩:∃k:Nat,x=(k:Int):=⟨x.toNat,by omega⟩;rw[Int.toNat_natCast]at uC;have SY:k<7:=by omega
    clear hx;go_wp2_with (first|(go_at_call 173;refine lN.o.mono ?_;rintro e w' ⟨rfl,rfl⟩)|(go_at_call 89;refine(CW.o acc 92 _ zS.o (by omega) vY.o).mono ?_));rintro e w2 ⟨rfl,hb2,hl2⟩;have HB2:Hd (Bd w2 B B (acc++[92])):=hb2;have HL2:Hd (Below B w w2):=lU.o.trans hl2;have HS2:Hd (B<=w2.heap.size):=Nat.le_trans vY.o hl2.size;have ha4:(acc++[92]).length<=9000000:=by simp;omega
    clear hb2 hl2;go_wp2_with (go_at_call 89;refine(CW.o (acc++[92]) _ _ HB2.o (by omega) HS2.o).mono ?_;rintro e w3 ⟨rfl,hb3,hl3⟩);rw[abx]at hb3;refine⟨⟨i+1,by go_num,by omega,?_,HL2.o.trans hl3,Nat.le_trans HS2.o hl3.size⟩,by simp[intOf];omega⟩;rw[iG.o,uC.o];simpa using hb3
   ·rw[if_neg hx0]at uC;have xY:Hd (∀w',Calls prog 170 #[.int .i64 (wrap64 (c.toNat:Int))] w' fun e w''=>e=.returned (.bool (nG (c.toNat:Int)))/\w''=w'):=fun w'=>by have:=CT.o (wrap64 (c.toNat:Int)) w';rw[wrap_u8 c]at this ⊢;exact this
    obtain⟨ct,hct⟩:=zN (nG (c.toNat:Int));rw[hct]at xY uC;clear hct hx
    cases ct with
    | false =>
     have HQ1:Hd (qc c=[c]):=uC.o;have mQ:Hd (Calls prog 89 #[.pointer (some ⟨B,0,none⟩),.int .u8 (c.toNat:Int)] wr fun e w''=>e=.returned .nilIface/\Bd w'' B B (acc++[c])/\Below B wr w''):=CW.o acc c wr zS.o (by omega) vY.o;go_wp2_with (first|(go_at_call 173;refine lN.o.mono ?_;rintro e w' ⟨rfl,rfl⟩)|(go_at_call 170;refine(xY.o _).mono ?_;rintro e w' ⟨rfl,rfl⟩)|(go_at_call 89;refine mQ.o.mono ?_;rintro e w2 ⟨rfl,hb2,hl2⟩));have HN:Hd (Bd w2 B B (34 :: (s.data.toList.take (i+1)).flatMap qc)):=by show Bd _ _ _ _;rw[iG.o,HQ1.o];exact hb2
     have jM:Hd (Below B w w2):=lU.o.trans hl2;have KL:Hd (B<=w2.heap.size):=Nat.le_trans vY.o hl2.size;go_roundw
     case rel=>exact⟨i+1,by go_num,by omega,HN.o,jM.o,KL.o⟩
     case measure=>simp[intOf];omega
    | true =>
     go_wp2_with (first|(go_at_call 173;refine lN.o.mono ?_;rintro e w' ⟨rfl,rfl⟩)|(go_at_call 170;refine(xY.o _).mono ?_;rintro e w' ⟨rfl,rfl⟩)|(go_at_call 30;refine(CS.o acc _ zS.o (by omega) vY.o).mono ?_));rintro e w2 ⟨⟨k2,rfl⟩,hb2,hl2⟩;have hcl:=c.toNat_lt;have HB2:Hd (Bd w2 B B (acc++[92,117,48,48])):=hb2;have HL2:Hd (Below B w w2):=lU.o.trans hl2;have HS2:Hd (B<=w2.heap.size):=Nat.le_trans vY.o hl2.size;have ha4:(acc++[92,117,48,48]).length<=9000000:=by simp;omega
     clear hb2 hl2;go_wp2_with (go_at_call 89;refine(CW.o (acc++[92,117,48,48]) _ _ HB2.o (by omega) HS2.o).mono ?_);rintro e w3 ⟨rfl,hb3,hl3⟩;rw[SV]at hb3;obtain⟨y1,hy1⟩:∃y,hexS.getD (c.toNat / 16) 0=y:=⟨_,rfl⟩;rw[hy1]at hb3 uC;have HB3:Hd (Bd w3 B B (acc++[92,117,48,48]++[y1])):=hb3;have oJ:Hd (Below B w w3):=HL2.o.trans hl3;have fQ:Hd (B<=w3.heap.size):=Nat.le_trans HS2.o hl3.size;have ha5:(acc++[92,117,48,48]++[y1]).length<=9000000:=by simp;omega
     clear hb3 hl3 hy1;go_wp2_with (go_at_call 89;refine(CW.o (acc++[92,117,48,48]++[y1]) _ _ HB3.o (by omega) fQ.o).mono ?_;rintro e w4 ⟨rfl,hb4,hl4⟩);rw[SV]at hb4;refine⟨⟨i+1,by go_num,by omega,?_,oJ.o.trans hl4,Nat.le_trans fQ.o hl4.size⟩,by simp[intOf];omega⟩;rw[iG.o,uC.o];simpa using hb4
  ·have hI:¬(i:Int)<(s.size:Int):=by omega
   have hie:i=s.size:=by omega
   have S9:Hd ((34 :: (s.data.toList.take i).flatMap qc)++[34]=qt s.data.toList):=by
    show _=_;rw[hie,<-HL.o,List.take_length];rfl
   obtain⟨acc,hac⟩:=zN (34 :: (s.data.toList.take i).flatMap qc);rw[hac]at S9 zS hacc;have hal:acc.length<=8000000:=by omega
   clear hac hie;go_wp2_with (go_at_call 89;refine(CW.o acc 34 _ zS.o (by omega) vY.o).mono ?_)
   first|rintro e w2 rfl hb2 hl2|rintro e w2 ⟨rfl,hb2,hl2⟩
   have HB2:Hd (Bd w2 B B (acc++[34])):=hb2;have HL2:Hd (Below B w w2):=lU.o.trans hl2;have HS2:Hd (B<=w2.heap.size):=Nat.le_trans vY.o hl2.size;clear hb2 hl2;go_wp2_with (go_at_call 34;refine(CE.o (acc++[34]) _ HB2.o HS2.o).mono ?_;rintro e w3 ⟨rfl,hl3⟩);go_ret;refine⟨by rw[S9.o];rfl,?_⟩;have hb:=HL2.o.trans hl3;rw[<-dN.o]at hb;exact⟨hb.os,hb.tape,hb.output,hb.size,fun k hk _=>hb.block k hk⟩
def kt(k:List UInt8):List UInt8:=if k=[] then qt k else if k.all (fun c=>aV (c.toNat:Int))=true then k else qt k
theorem GN(k:List UInt8):1<=(kt k).length/\(kt k).length<=6*k.length+2:=by
 unfold kt;have:=KH k;split
 ·omega
 ·rename_i h;have:=List.length_pos_iff.2 h;split<;>omega
theorem Tc(s:ByteArray)(w:World)(hs:s.size<=1048576) :
  Calls prog 87 #[.string s] w fun e w'=>e=.returned (.string ⟨(kt s.data.toList).toArray⟩)/\w.grownBy w' none:=by
 have hl:s.data.toList.length=s.size:=by simp
 have CQ:Hd (∀w',Calls prog 132 #[.string s] w' fun e w''=>e=.returned (.string ⟨(qt s.data.toList).toArray⟩)/\w'.grownBy w'' none):=fun w'=>SX s w' hs
 have CB:Hd (∀(c:Int) w',Calls prog 76 #[.int .i64 c] w' fun e w''=>e=.returned (.bool (aV c))/\w''=w'):=Ji;have HL:Hd (s.data.toList.length=s.size):=hl
 by_cases h0:s.size=0
 ·have hse:s=⟨#[]⟩:=by
   have:s.data.toList=[]:=List.length_eq_zero_iff.1 (by omega)
   cases s with
   | mk d=>simp at this;rw[this]
  subst hse;clear hl HL h0;go_enter func87,ntmps87;go_wp2_with (go_at_call 132;refine(CQ.o _).mono ?_;rintro e w1 ⟨rfl,hg1⟩);go_ret;exact⟨rfl,hg1⟩
 ·have hne:s.toList.isEmpty=false:=by
   rw[List.isEmpty_eq_false_iff,<-List.length_pos_iff,ByteArray.toList_eq,Array.length_toList];exact Nat.pos_of_ne_zero h0
  have oz:Hd (¬s.data.toList=[]):=fun e=>h0 (by rw[<-HL.o,e];rfl)
  clear hl h0;go_enter func87,ntmps87;go_wp2;go_loopw [10] (fun v10 wr=>∃i:Nat,v10=.int .i64 (i:Nat)/\i<=s.size/\wr=w/\∀c∈s.data.toList.take i,aV (c.toNat:Int)=true) (fun v10 _=>s.size-(intOf v10).toNat)
  case atStart=>exact⟨0,rfl,Nat.zero_le _,rfl,fun c hc=>absurd hc (by simp)⟩
  case round =>
   obtain⟨i,rfl,hi,rfl,hall⟩:=hrel;have vO:Hd (∀c∈s.data.toList.take i,aV (c.toNat:Int)=true):=hall;clear hall
   by_cases hlt:i<s.size
   ·have hI:(i:Int)<(s.size:Int):=by omega
    obtain⟨c,hc⟩:=zN (s[i]);have hil:i<s.data.toList.length:=by rw[HL.o];exact hlt
    have HCM:Hd (s.data.toList[i]=c):=by show _=c;rw[<-hc];rfl
    have fC:Hd (∀w',Calls prog 76 #[.int .i64 (wrap64 (c.toNat:Int))] w' fun e w''=>e=.returned (.bool (aV (c.toNat:Int)))/\w''=w'):=fun w'=>by have:=CB.o (wrap64 (c.toNat:Int)) w';rw[wrap_u8 c]at this ⊢;exact this
    obtain⟨bb,hbb⟩:=zN (aV (c.toNat:Int));have nO:Hd (aV (c.toNat:Int)=bb):=hbb;rw[hbb]at fC;clear hbb
    cases bb with
    | true =>
     have GR:Hd (∀c∈s.data.toList.take (i+1),aV (c.toNat:Int)=true):=by
      intro x hx;rw[List.take_succ_eq_append_getElem hil]at hx
      rcases List.mem_append.1 hx with hx|hx
      ·exact vO.o x hx
      ·rw[List.mem_singleton.1 hx,HCM.o];exact nO.o
     go_wp2_with (go_at_call 76;refine(fC.o _).mono ?_;rintro e w' ⟨rfl,rfl⟩);go_roundw
     case rel=>exact⟨i+1,by go_num,by omega,trivial,GR.o⟩
     case measure=>simp[intOf];omega
    | false =>
     have HK:Hd (kt s.data.toList=qt s.data.toList):=by
      show _=_;unfold kt;rw[if_neg oz.o,if_neg];intro h;have:=List.all_eq_true.1 h _ (List.getElem_mem hil);rw[HCM.o,nO.o]at this
      cases this
     go_wp2_with (first|(go_at_call 76;refine(fC.o _).mono ?_;rintro e w' ⟨rfl,rfl⟩)|(go_at_call 132;refine(CQ.o _).mono ?_;rintro e w1 ⟨rfl,hg1⟩));go_ret;exact⟨by rw[HK.o];rfl,hg1⟩
   ·have hI:¬(i:Int)<(s.size:Int):=by omega
    have HK:Hd (kt s.data.toList=s.data.toList):=by
     show _=_;unfold kt;rw[if_neg oz.o,if_pos];rw[List.all_eq_true];intro x hx;refine vO.o x ?_;rw[List.take_of_length_le (by rw[HL.o];omega)];exact hx
    go_wp2;go_ret;refine⟨?_,ai _ _⟩;rw[HK.o];have e:(⟨s.data.toList.toArray⟩:ByteArray)=s:=by cases s;simp
    rw[e];rfl
end Go.Proofs.YtmkjelchiacogaaGreatDoor
namespace Go.Proofs
open Go.Shelf
def Tryz.lays121_ren:Go.Shelf.Ren:=⟨fun|121=>134|214=>174|n=>n,fun|22=>263|24=>169|25=>170|27=>66|28=>88|31=>41|32=>172|33=>118|35=>219|37=>69|40=>312|41=>127|42=>220|43=>218|46=>176|47=>175|48=>132|49=>351|51=>235|52=>234|53=>237|54=>236|55=>258|67=>125|69=>75|70=>68|71=>70|72=>71|73=>112|74=>49|75=>50|76=>72|77=>73|78=>161|79=>283|80=>77|81=>140|83=>74|84=>178|85=>318|86=>319|94=>165|100=>179|101=>56|102=>57|103=>171|104=>78|105=>284|106=>285|108=>328|111=>141|112=>221|114=>270|119=>313|126=>303|127=>126|128=>304|131=>59|135=>243|137=>314|138=>315|139=>316|143=>330|144=>331|145=>332|164=>143|165=>177|166=>279|167=>317|168=>320|169=>321|170=>322|171=>238|172=>239|173=>240|174=>241|175=>324|176=>325|182=>228|183=>229|188=>274|189=>275|190=>276|191=>277|192=>278|209=>326|210=>327|211=>271|212=>272|213=>273|214=>329|218=>264|219=>265|220=>266|222=>268|224=>300|225=>301|228=>297|229=>298|231=>311|232=>309|233=>310|238=>333|239=>334|240=>335|241=>336|242=>337|243=>339|244=>151|245=>340|246=>341|247=>342|248=>343|249=>344|n=>n,fun|1=>7|3=>10|4=>11|15=>12|16=>13|17=>6|18=>8|19=>9|n=>n⟩
theorem Tryz.lays121:Go.Proofs.Lays.n121 prog Tryz.lays121_ren:={
 mixed:=by kernel_rfl
 f121:=func134.trans (congrArg some (by kernel_rfl))
 f214:=func174.trans (congrArg some (by kernel_rfl))
 t4:=underlying4
 a4:=isAgg4
 z4:=sizeOf4
 v4:=zeroValue4
 t9:=underlying9
 a9:=isAgg9
 z9:=sizeOf9
 v9:=zeroValue9 }
end Go.Proofs
namespace Go.Proofs
open Go.Shelf
def Tryz.lays171_ren:Go.Shelf.Ren:=⟨fun|129=>148|171=>31|243=>63|246=>103|283=>149|284=>150|285=>151|286=>152|317=>184|318=>185|319=>186|320=>187|337=>221|338=>222|n=>n,fun|22=>263|24=>169|25=>170|27=>66|28=>88|31=>41|32=>172|33=>118|35=>219|37=>69|40=>312|41=>127|42=>220|43=>218|46=>176|47=>175|48=>132|49=>351|51=>235|52=>234|53=>237|54=>236|55=>258|67=>125|69=>75|70=>68|71=>70|72=>71|73=>112|74=>49|75=>50|76=>72|77=>73|78=>161|79=>283|80=>77|81=>140|83=>74|84=>178|85=>318|86=>319|94=>165|100=>179|101=>56|102=>57|103=>171|104=>78|105=>284|106=>285|108=>328|111=>141|112=>221|114=>270|119=>313|126=>303|127=>126|128=>304|131=>59|135=>243|137=>314|138=>315|139=>316|143=>330|144=>331|145=>332|164=>143|165=>177|166=>279|167=>317|168=>320|169=>321|170=>322|171=>238|172=>239|173=>240|174=>241|175=>324|176=>325|182=>228|183=>229|188=>274|189=>275|190=>276|191=>277|192=>278|209=>326|210=>327|211=>271|212=>272|213=>273|214=>329|218=>264|219=>265|220=>266|222=>268|224=>300|225=>301|228=>297|229=>298|231=>311|232=>309|233=>310|238=>333|239=>334|240=>335|241=>336|242=>337|243=>339|244=>151|245=>340|246=>341|247=>342|248=>343|249=>344|n=>n,fun|1=>7|3=>10|4=>11|15=>12|16=>13|17=>6|18=>8|19=>9|n=>n⟩
theorem Tryz.lays171:Go.Proofs.LaysM.n171 prog Tryz.lays171_ren:={
 mixed:=by kernel_rfl
 f129:=func148.trans (congrArg some (by kernel_rfl))
 f171:=func31.trans (congrArg some (by kernel_rfl))
 f243:=func63.trans (congrArg some (by kernel_rfl))
 f246:=func103.trans (congrArg some (by kernel_rfl))
 f283:=func149.trans (congrArg some (by kernel_rfl))
 f284:=func150.trans (congrArg some (by kernel_rfl))
 f285:=func151.trans (congrArg some (by kernel_rfl))
 f286:=func152.trans (congrArg some (by kernel_rfl))
 f317:=func184.trans (congrArg some (by kernel_rfl))
 f318:=func185.trans (congrArg some (by kernel_rfl))
 f319:=func186.trans (congrArg some (by kernel_rfl))
 f320:=func187.trans (congrArg some (by kernel_rfl))
 f337:=func221.trans (congrArg some (by kernel_rfl))
 f338:=func222.trans (congrArg some (by kernel_rfl))
 t0:=underlying0
 a0:=isAgg0
 z0:=sizeOf0
 v0:=zeroValue0
 t2:=underlying2
 a2:=isAgg2
 z2:=sizeOf2
 v2:=zeroValue2
 t3:=underlying3
 a3:=isAgg3
 z3:=sizeOf3
 v3:=zeroValue3
 t4:=underlying4
 a4:=isAgg4
 z4:=sizeOf4
 v4:=zeroValue4
 t5:=underlying5
 a5:=isAgg5
 z5:=sizeOf5
 v5:=zeroValue5
 t9:=underlying9
 a9:=isAgg9
 z9:=sizeOf9
 v9:=zeroValue9
 t20:=underlying20
 a20:=isAgg20
 z20:=sizeOf20
 v20:=zeroValue20
 t37:=underlying69
 a37:=isAgg69
 z37:=sizeOf69
 v37:=zeroValue69
 t46:=underlying176
 a46:=isAgg176
 z46:=sizeOf176
 v46:=zeroValue176
 t51:=underlying235
 a51:=isAgg235
 z51:=sizeOf235
 v51:=zeroValue235
 t53:=underlying237
 a53:=isAgg237
 z53:=sizeOf237
 v53:=zeroValue237
 t171:=underlying238
 a171:=isAgg238
 z171:=sizeOf238
 v171:=zeroValue238
 t173:=underlying240
 a173:=isAgg240
 z173:=sizeOf240
 v173:=zeroValue240
 t212:=underlying272
 a212:=isAgg272
 z212:=sizeOf272
 v212:=zeroValue272
 t213:=underlying273
 a213:=isAgg273
 z213:=sizeOf273
 t232:=underlying309
 a232:=isAgg309
 z232:=sizeOf309
 v232:=zeroValue309
 t233:=underlying310
 a233:=isAgg310
 z233:=sizeOf310
 v233:=zeroValue310
 g17:=by kernel_rfl
 g18:=by kernel_rfl
 g19:=by kernel_rfl
 i0:=by kernel_rfl
 i2:=by kernel_rfl
 i3:=by kernel_rfl
 i4:=by kernel_rfl
 i5:=by kernel_rfl
 i9:=by kernel_rfl
 i20:=by kernel_rfl
 i37:=by kernel_rfl
 i46:=by kernel_rfl
 i51:=by kernel_rfl
 i53:=by kernel_rfl
 i171:=by kernel_rfl
 i173:=by kernel_rfl
 i212:=by kernel_rfl
 i232:=by kernel_rfl
 i233:=by kernel_rfl
 m17:=by kernel_rfl
 m18:=by kernel_rfl
 m19:=by kernel_rfl }
end Go.Proofs
namespace Go.Proofs.YtmkjelchiacogaaGreatDoor
open Go.RowKit Go.Joins
def cm:Bool->List (List UInt8)->List UInt8
 | _,[]=>[]
 | first,a :: r=>(if first=true then[] else[44,32])++a++cm false r
theorem Td:∀(first:Bool) (l:List (List UInt8)) (a:List UInt8),cm first (l++[a])=cm first l++((if first=true/\l=[] then[] else[44,32])++a)
 | first,[],a=>by
  show(if first=true then[] else[44,32])++a++cm false []=_;simp[cm]
 | first,b :: r,a=>by
  show(if first=true then[] else[44,32])++b++cm false (r++[a])=((if first=true then[] else[44,32])++b++cm false r)++_;rw[Td false r a];simp
def vT(ns:List Tn):Nat->Nat->List UInt8
 | 0,_=>[]
 | f+1,t=>match ns[t]? with
  | none=>[]
  | some x=>if x.kd=1 then 91 :: cm true (x.ks.map (vT ns f))++[93] else if x.kd=3 then qt x.tx else if x.kd=4 then Lib.itoa x.nu else if x.kd=5 then Lib.formatBool (decide (x.nu=1)) else[]
theorem Tf(ns:List Tn)(f t:Nat)(ht:t<ns.length):vT ns (f+1) t=if ns[t].kd=1 then 91 :: cm true (ns[t].ks.map (vT ns f))++[93] else if ns[t].kd=3 then qt ns[t].tx else if ns[t].kd=4 then Lib.itoa ns[t].nu else if ns[t].kd=5 then Lib.formatBool (decide (ns[t].nu=1)) else[]:=by
 show(match ns[t]? with|none=>[]|some x=>_)=_;rw[List.getElem?_eq_getElem ht]
theorem abA(b:Bool):Lib.formatBool b≠[]:=by cases b<;>decide
open Go.RowKit Go.Maps Go.WideMaps Go.Joins
def Tab(w:World):Prop:=Lib.TabIs prog w "internal/strconv.uint64pow10" .u64 Lib.pow10Tab
theorem KP{w w':World}(h:Tab w)(hg:w.grownBy w' none):Tab w':=by
 unfold Tab Lib.TabIs World.var? at h ⊢
 cases hgn:prog.globalNamed "internal/strconv.uint64pow10" with
 | none=>simp[hgn]at h
 | some g =>
  simp only[hgn,Option.bind_some]at h ⊢;have hlt:g<w.heap.size:=by
   rcases Nat.lt_or_ge g w.heap.size with h'|h'
   ·exact h'
   ·simp[Array.getElem?_eq_none h']at h
  rw[hg.block g hlt (by simp)];exact h
theorem abB(n:Int)(w:World)(h0:-9223372036854775808<=n)(h1:n<=9223372036854775807)(ht:Tab w) :
  Calls prog 31 #[.int .i64 n] w fun e w'=>e=.returned (.string ⟨(Lib.itoa n).toArray⟩)/\w.grownBy w' none:=by
 refine Calls.mono (Any.strconv_Itoa Tryz.lays171 n h0 h1 w ht) ?_;rintro e w' ⟨rfl,k,os,rfl⟩;refine⟨rfl,⟨rfl,rfl,rfl,by show w.heap.size<=(w.heap++os).size;simp,fun i hi _=>?_⟩⟩;show(w.heap++os)[i]?=w.heap[i]?;rw[Array.getElem?_append_left hi]
theorem abC(n:Int):Lib.itoa n≠[]:=by
 unfold Lib.itoa;split
 ·simp
 ·intro h;have:=congrArg List.length h;rw[Lib.decDigits_length]at this;simp only[List.length_nil]at this
  by_cases hu:n.toNat<10
  ·rw[Lib.nDigits_small hu]at this;cases this
  ·rw[Lib.nDigits_big hu]at this;cases this
structure Ev(w0:World)(NV:Value)(N c:Nat)(ns:List Tn)(own:List Nat):Prop where
 nv:Nv w0 NV N c ns
 wf:WF ns own
 gt:∀p q,q∈ax ns p->p<q
 len:ns.length<=900000
 txt:∀i (hi:i<ns.length),ns[i].ky.length<=1048576/\ns[i].tx.length<=1048576
 num:∀i (hi:i<ns.length),-9223372036854775808<=ns[i].nu/\ns[i].nu<=9223372036854775807
 tab:Tab w0
theorem C9{w0 w w':World}(h:w0.grownBy w none)(hb:Below w0.heap.size w w'):w0.grownBy w' none:=KE ((uf h).trans hb)
def KQ(w0:World)(p:Nat)(NV:Value)(ns:List Tn)(f:Nat):Prop:=∀(out path:List UInt8) (t:Nat) (ht:t<ns.length) (k:Value) (w:World),ns.length-t<=f->Pn w w0.heap.size p NV out path->w0.grownBy w none->NuS w0 k ns[t].ks->out.length+(vT ns f t).length<=70368744177664 →
 Calls prog 88 #[.pointer (some ⟨p,0,none⟩),.agg #[.int .i64 ns[t].kd,.string ⟨ns[t].ky.toArray⟩,.string ⟨ns[t].tx.toArray⟩,.int .i64 ns[t].nu,k,.int .i64 (ns[t].pl:Nat)]] w fun e w'=>e=.returned (.tuple #[])/\Pn w' w0.heap.size p NV (out++vT ns f t) path/\PF w0.heap.size w w'
def Ti(w0:World)(p:Nat)(NV:Value)(ns:List Tn)(f:Nat):Prop:=∀(out path:List UInt8) (l:List Nat) (k:Value) (w:World),(∀q∈l,q<ns.length/\ns.length-q<=f)->l.length<=1000000->Pn w w0.heap.size p NV out path->w0.grownBy w none->NuS w0 k l->out.length+(91 :: cm true (l.map (vT ns f))++[93]).length<=70368744177664 →
 Calls prog 133 #[.pointer (some ⟨p,0,none⟩),k] w fun e w'=>e=.returned (.tuple #[])/\Pn w' w0.heap.size p NV (out++(91 :: cm true (l.map (vT ns f))++[93])) path/\PF w0.heap.size w w'
theorem abD(first:Bool)(l:List (List UInt8))(i:Nat):(cm first (l.take i)).length<=(cm first l).length:=by
 induction l generalizing first i with
 | nil=>simp
 | cons a r ih =>
  cases i with
  | zero=>simp[cm]
  | succ i =>
   show((if first=true then[] else[44,32])++a++cm false (r.take i)).length<=((if first=true then[] else[44,32])++a++cm false r).length;have:=ih false i;simp only[List.length_append];omega
theorem abE{w0:World}{p N c:Nat}{NV:Value}{ns:List Tn}{own:List Nat}(E:Ev w0 NV N c ns own)(f:Nat)(C:KQ w0 p NV ns f):Ti w0 p NV ns f:=by
 intro out path l k w hl hll hP hg hk hsz;obtain⟨o,ck,rfl,hkc⟩:=hk;have hv:=E.nv.val;have Tj:Hd (∀w',w0.grownBy w' none->w'.cell? ⟨p,0,none⟩=some NV->w'.cell? ⟨p,0,none⟩=some (.slice (some ⟨N,0,none⟩) ns.length c)):=fun w' _ h=>by rw[<-hv];exact h
 obtain⟨B,hB⟩:=zN (w0.heap.size);have HB:Hd (w0.heap.size=B):=hB;have CB:Hd (∀(out:List UInt8) (ch:UInt8) w,Pn w B p NV out path->out.length+1<=70368744177664->Calls prog 89 #[.pointer (some ⟨p,1,none⟩),.int .u8 (ch.toNat:Int)] w fun e w'=>e=.returned .nilIface/\Pn w' B p NV (out++[ch]) path/\PF B w w'):=fun out ch w h hl=>Js B p NV out path ch w h hl
 have CS:Hd (∀(out:List UInt8) w,Pn w B p NV out path->out.length+2<=70368744177664->Calls prog 30 #[.pointer (some ⟨p,1,none⟩),.string ⟨#[44,32]⟩] w fun e w'=>(∃k:Int,e=.returned (.tuple #[.int .i64 k,.nilIface]))/\Pn w' B p NV (out++[44,32]) path/\PF B w w'):=fun out w h hl=>zk B p NV out path [44,32] w h (by simp) hl
 have CV:Hd (∀(out:List UInt8) (t:Nat) (ht:t<ns.length) (k:Value) (w:World),ns.length-t<=f->Pn w B p NV out path->w0.grownBy w none->NuS w0 k ns[t].ks->out.length+(vT ns f t).length<=70368744177664->Calls prog 88 #[.pointer (some ⟨p,0,none⟩),.agg #[.int .i64 ns[t].kd,.string ⟨ns[t].ky.toArray⟩,.string ⟨ns[t].tx.toArray⟩,.int .i64 ns[t].nu,k,.int .i64 (ns[t].pl:Nat)]] w fun e w'=>e=.returned (.tuple #[])/\Pn w' B p NV (out++vT ns f t) path/\PF B w w'):=fun out t ht k w h1 h2 h3 h4 h5=>by
  have:=C out path t ht k w h1 (by rw[hB];exact h2) h3 h4 h5;rw[hB]at this;exact this
 rw[hB]at hP ⊢;have HKC:Hd (∀i (hi:i<l.length),∃g,o=some ⟨g,0,none⟩/\w0.cell? ⟨g,i,none⟩=some (.int .i64 (l[i]:Nat))):=hkc;have HL:Hd (∀q∈l,q<ns.length/\ns.length-q<=f):=hl;have yz:Hd (Pn w B p NV out path):=hP;have iZ:Hd (w0.grownBy w none):=hg;have HE:Hd (Ev w0 NV N c ns own):=E;have lV:Hd (∀w w',w0.grownBy w none->Below B w w'->w0.grownBy w' none):=fun w w' h1 h2=>C9 h1 (by rw[hB];exact h2)
 have hcl:(91 :: cm true (l.map (vT ns f))++[93]).length=(cm true (l.map (vT ns f))).length+2:=by simp
 rw[hcl]at hsz;have hol:out.length+2<=70368744177664:=by omega
 obtain⟨n,hn⟩:=zN (l.length);have HN:Hd (l.length=n):=hn;rw[hn]at hll ⊢;have hEl:=E.len;obtain⟨L,hL⟩:=zN (ns.length);have jM:Hd (ns.length=L):=hL;clear hP hg hkc hl E hv hB hcl hn hL C;go_enter func133,ntmps133;go_wp2_with (go_at_call 89;refine(CB.o out 91 _ yz.o (by omega)).mono ?_)
 first|rintro e w1 rfl hp1 hf1|rintro e w1 ⟨rfl,hp1,hf1⟩
 have dI:Hd (Pn w1 B p NV (out++[91]) path):=hp1;have iM:Hd (PF B w w1):=hf1;have aB:Hd (w0.grownBy w1 none):=lV.o _ _ iZ.o hf1.bel;clear hp1 hf1;go_wp2;go_loopw [12] (fun v12 wr=>∃i:Nat,v12=.int .i64 (i:Nat)/\i<=n/\Pn wr B p NV (out++[91]++cm true ((l.map (vT ns f)).take i)) path/\PF B w wr/\w0.grownBy wr none) (fun v12 _=>n-(intOf v12).toNat)
 case atStart=>exact⟨0,rfl,Nat.zero_le _,by simpa [cm] using dI.o,iM.o,aB.o⟩
 case round =>
  obtain⟨i,rfl,hi,hpr,hfr,hgr⟩:=hrel;have kC:Hd (Pn wr B p NV (out++[91]++cm true ((l.map (vT ns f)).take i)) path):=hpr;have vZ:Hd (PF B w wr):=hfr;have kD:Hd (w0.grownBy wr none):=hgr;clear hpr hfr hgr
  by_cases hlt:i<n
  ·have hil:i<l.length:=by rw[HN.o];exact hlt
   have hI:(i:Int)<(n:Int):=by omega
   obtain⟨g,hgo,hgc⟩:=HKC.o i hil;subst hgo;have g1:=kD.o.cell hgc (by simp);obtain⟨q,hq⟩:=zN (l[i]);obtain⟨bz,Tm⟩:=HL.o q (by rw[<-hq];exact List.getElem_mem hil);rw[hq]at g1;have iG:Hd (cm true ((l.map (vT ns f)).take (i+1))=cm true ((l.map (vT ns f)).take i)++((if i=0 then[] else[44,32])++vT ns f q)):=by
    show _=_;have KT:i<(l.map (vT ns f)).length:=by simpa using hil
    rw[List.take_succ_eq_append_getElem KT,Td,List.getElem_map,hq];have e:(true=true/\(l.map (vT ns f)).take i=[])↔i=0:=by
     simp only[true_and,List.take_eq_nil_iff];constructor
     ·rintro(h|h)
      ·exact h
      ·rw[h]at KT;simp at KT
     ·exact Or.inl
    by_cases h0:i=0
    ·rw[if_pos (e.2 h0),if_pos h0]
    ·rw[if_neg (fun hh=>h0 (e.1 hh)),if_neg h0]
   have hle:=abD true (l.map (vT ns f)) (i+1);rw[iG.o]at hle;simp only[List.length_append]at hle;obtain⟨acc,hacc⟩:=zN (cm true ((l.map (vT ns f)).take i));rw[hacc]at iG kC hle;obtain⟨X,hX⟩:=zN (out++[91]++acc);have BH:X.length=out.length+1+acc.length:=by rw[<-hX];simp;omega
   rw[hX]at kC;obtain⟨k6,n0,n1,n2,n3,n4,n5,n6⟩:=HE.o.nv.cel q bz;have zT:Hd (∀w',w0.grownBy w' none->w'.cell? ⟨N,q*6,none⟩=some (.int .i64 ns[q].kd)/\w'.cell? ⟨N,q*6+1,none⟩=some (.string ⟨ns[q].ky.toArray⟩)/\w'.cell? ⟨N,q*6+2,none⟩=some (.string ⟨ns[q].tx.toArray⟩)/\w'.cell? ⟨N,q*6+3,none⟩=some (.int .i64 ns[q].nu)/\w'.cell? ⟨N,q*6+4,none⟩=some k6/\w'.cell? ⟨N,q*6+5,none⟩=some (.int .i64 (ns[q].pl:Nat))):=fun w' h=>⟨h.cell n0 (by simp),h.cell n1 (by simp),h.cell n2 (by simp),h.cell n3 (by simp),h.cell n4 (by simp),h.cell n5 (by simp)⟩
   have oG:Hd (∀(X:List UInt8) w,Pn w B p NV X path->w0.grownBy w none->X.length+(vT ns f q).length<=70368744177664->Calls prog 88 #[.pointer (some ⟨p,0,none⟩),.agg #[.int .i64 ns[q].kd,.string ⟨ns[q].ky.toArray⟩,.string ⟨ns[q].tx.toArray⟩,.int .i64 ns[q].nu,k6,.int .i64 (ns[q].pl:Nat)]] w fun e w'=>e=.returned (.tuple #[])/\Pn w' B p NV (X++vT ns f q) path/\PF B w w'):=fun X w h1 h2 h3=>CV.o X q bz k6 w Tm h1 h2 n6 h3
   obtain⟨VT,Dc⟩:∃V,vT ns f q=V:=⟨_,rfl⟩;rw[Dc]at oG iG hle;obtain⟨y,hy⟩:=zN (ns[q]);rw[hy]at zT oG;have Tq:(q:Int)<(L:Int):=by have:=jM.o;omega
   have HX:Hd (out++[91]++acc=X):=hX;clear hq hacc hX n0 n1 n2 n3 n4 n5 n6 Dc hy hgc Tm;have fin:Hd (∀w',Pn w' B p NV (X++(if i=0 then[] else[44,32])++VT) path->Pn w' B p NV (out++[91]++cm true ((l.map (vT ns f)).take (i+1))) path):=fun w' h=>by
    rw[iG.o];rw[<-HX.o]at h;simpa using h
   by_cases h0:i=0
   ·have hgt:¬(0:Int)<(i:Int):=by omega
    simp only[if_pos h0]at hle fin;have p0:=kC.o.base.2.2;have p0':=Tj.o _ kD.o p0;rw[jM.o]at p0';obtain⟨m0,m1,m2,m3,m4,m5⟩:=zT.o _ kD.o;clear p0 h0;go_wp2_with (go_at_call 88;refine(oG.o X _ kC.o kD.o (by simp at hle;omega)).mono ?_)
    first|rintro e w3 rfl hp3 hf3|rintro e w3 ⟨rfl,hp3,hf3⟩
    have oP:Hd (Pn w3 B p NV (out++[91]++cm true ((l.map (vT ns f)).take (i+1))) path):=fin.o w3 (by simpa using hp3);have iw:Hd (PF B w w3):=vZ.o.two hf3;have AY:Hd (w0.grownBy w3 none):=lV.o _ _ kD.o hf3.bel;clear hp3 hf3 m0 m1 m2 m3 m4 m5 p0';go_wp2;go_roundw
    case rel=>exact⟨i+1,by go_num,by omega,oP.o,iw.o,AY.o⟩
    case measure=>simp[intOf];omega
   ·have hgt:(0:Int)<(i:Int):=by omega
    simp only[if_neg h0]at hle fin;go_wp2_with (go_at_call 30;refine(CS.o X _ kC.o (by simp at hle;omega)).mono ?_);rintro e w2 ⟨⟨k2,rfl⟩,hp2,hf2⟩;have HP2:Hd (Pn w2 B p NV (X++[44,32]) path):=hp2;have HF2:Hd (PF B w w2):=vZ.o.two hf2;have HG2:Hd (w0.grownBy w2 none):=lV.o _ _ kD.o hf2.bel;have p0:=hp2.base.2.2;have p0':=Tj.o _ HG2.o p0;rw[jM.o]at p0';obtain⟨m0,m1,m2,m3,m4,m5⟩:=zT.o _ HG2.o;clear p0 hp2 hf2;go_wp2_with (go_at_call 88;refine(oG.o (X++[44,32]) _ HP2.o HG2.o (by simp at hle ⊢;omega)).mono ?_)
    first|rintro e w3 rfl hp3 hf3|rintro e w3 ⟨rfl,hp3,hf3⟩
    have oP:Hd (Pn w3 B p NV (out++[91]++cm true ((l.map (vT ns f)).take (i+1))) path):=fin.o w3 (by simpa using hp3);have iw:Hd (PF B w w3):=HF2.o.two hf3;have AY:Hd (w0.grownBy w3 none):=lV.o _ _ HG2.o hf3.bel;clear hp3 hf3 m0 m1 m2 m3 m4 m5 p0';go_wp2;go_roundw
    case rel=>exact⟨i+1,by go_num,by omega,oP.o,iw.o,AY.o⟩
    case measure=>simp[intOf];omega
  ·have hI:¬(i:Int)<(n:Int):=by omega
   have jb:Hd (Pn wr B p NV (out++[91]++cm true (l.map (vT ns f))) path):=by
    have:=kC.o;rw[List.take_of_length_le (by rw[List.length_map,HN.o];omega)]at this;exact this
   go_wp2_with (go_at_call 89;refine(CB.o (out++[91]++cm true (l.map (vT ns f))) 93 _ jb.o (by simp;omega)).mono ?_)
   first|rintro e w3 rfl hp3 hf3|rintro e w3 ⟨rfl,hp3,hf3⟩
   have oP:Hd (Pn w3 B p NV (out++(91 :: cm true (l.map (vT ns f))++[93])) path):=by show Pn _ _ _ _ _ _;simpa using hp3
   have iw:Hd (PF B w w3):=vZ.o.two hf3;clear hp3 hf3;go_wp2;refine bodyPost_end (results_none rfl _ _ _) rfl ?_;exact⟨rfl,oP.o,iw.o⟩
end Go.Proofs.YtmkjelchiacogaaGreatDoor
