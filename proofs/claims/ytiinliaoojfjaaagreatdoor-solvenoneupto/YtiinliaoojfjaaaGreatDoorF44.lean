import Derived.Test.YtiinliaoojfjaaaGreatDoorF42
set_option linter.all false
set_option maxRecDepth 100000
set_option maxHeartbeats 0
open Go.Proofs.Tryz
namespace Go.Proofs.YtiinliaoojfjaaaGreatDoor
open Go.RowKit
theorem F6{w:World}{B:Nat}{v:Value}{R:List Nat}(h:w.ownsRow B 3 1 v R.length (nI R)):∃o c,v=.slice o R.length c/\∀k (hk:k<R.length),∃g,o=some ⟨g,0,none⟩/\R.length<=c/\w.cell? ⟨g,k,none⟩=some (.int .i64 (R[k]:Int)):=by
 obtain⟨o,c,rfl⟩:=mY h;refine⟨o,c,rfl,fun k hk=>?_⟩;obtain⟨g,c',e,h1,h2⟩:=yg (v:=.slice o R.length c) h hk;injection e with e1 _ e2
 subst e1 e2;refine⟨g,rfl,h1,?_⟩;rw[h2,nI,List.getElem?_map,List.getElem?_eq_getElem hk];rfl
theorem F7(cs:List Nat):∀u∈nI cs,u.oneCell'=true:=by
 intro u hu;obtain⟨k,-,rfl⟩:=List.mem_map.1 hu;rfl
def Sx(w:World)(S:Nat)(nv lv ov:Value)(f:Int)(b:Bool):Prop:=w.heap[S]?=some (.cells #[nv,lv,ov,.int .i64 f,.bool b] 79 (0,0))
section
variable {w w':World} {S:Nat} {nv lv ov:Value} {f:Int} {b:Bool}
theorem Sx.grow(h:Sx w S nv lv ov f b)(hg:w.grownBy w' none):Sx w' S nv lv ov f b:=(hg.block S (aC h) (by simp)).trans h
theorem Sx.cells(h:Sx w S nv lv ov f b):w.cell? ⟨S,0,none⟩=some nv/\w.cell? ⟨S,1,none⟩=some lv/\w.cell? ⟨S,2,none⟩=some ov/\w.cell? ⟨S,3,none⟩=some (.int .i64 f)/\w.cell? ⟨S,4,none⟩=some (.bool b)/\∀o,w.frozen? ⟨S,o,none⟩=false :=
 ⟨by rw[ah h];rfl,by rw[ah h];rfl,by rw[ah h];rfl,by rw[ah h];rfl,by rw[ah h];rfl,fun o=>Lib.frozen_of_heap h o⟩
end
theorem OW(name:ByteArray):∀(L:List Re) (k:Nat),((bn name L k).map (·.k)).Nodup
 | [],k=>by simp[bn]
 | x :: r,k=>by
  unfold bn;split
  ·rw[List.map_cons,List.nodup_cons];refine⟨fun hm=>?_,OW name r (k+1)⟩;obtain⟨y,hy,e⟩:=List.mem_map.1 hm;have:=FI name r (k+1) y hy;simp only[]at e;omega
  ·exact OW name r (k+1)
def mf(z:Int)(l:List Nat)(i:Nat):List Nat:=(if 0<=z then[z.toNat] else[])++(l.take i).filter fun(k:Nat)=>decide (¬(k:Int)=z)
theorem ahz(z:Int)(l:List Nat)(i:Nat)(hi:i<l.length):mf z l (i+1)=if(l[i]:Int)=z then mf z l i else mf z l i++[l[i]]:=by
 unfold mf;rw[List.take_succ_eq_append_getElem hi,List.filter_append,<-List.append_assoc]
 by_cases h:(l[i]:Int)=z
 ·rw[if_pos h,List.filter_cons_of_neg (by simpa using h),List.filter_nil,List.append_nil]
 ·rw[if_neg h,List.filter_cons_of_pos (by simpa using h),List.filter_nil]
theorem ahA(z:Int)(l:List Nat)(i:Nat):(mf z l i).length<=l.length+1:=by
 unfold mf;have h1:=List.length_filter_le (fun k:Nat=>decide (¬(k:Int)=z)) (l.take i);have h2:(l.take i).length<=l.length:=by simp;omega
 rw[List.length_append];split
 ·rw[List.length_singleton];omega
 ·rw[List.length_nil];omega
theorem ahB{L:List Re}{O:List En}{name:ByteArray}{z:Int}{D:List It}(hz:jK O L name=z)(hp:D.Perm (bn name L 0)):mf z (D.map (·.k)) (D.map (·.k)).length=jw z (D.map (·.k)):=by
 have hn:(D.map (·.k)).Nodup:=(hp.map (·.k)).nodup_iff.2 (OW name L 0);have hm:0<=z->z.toNat∈D.map (·.k):=fun h0=>by
  unfold jK at hz;split at hz
  ·obtain⟨it,h3,h4⟩:=Xx (q:=z.toNat) L 0 (hz.trans (by omega));exact List.mem_map.2 ⟨it,hp.symm.subset h3,h4⟩
  ·omega
 generalize D.map (·.k)=l at hn hm;unfold mf jw;rw[List.take_length]
 by_cases h0:0<=z
 ·rw[if_pos h0,if_pos ⟨h0,hm h0⟩,List.Nodup.erase_eq_filter hn];simp only[List.singleton_append,List.cons.injEq,true_and];apply List.filter_congr;intro k _
  by_cases h:k=z.toNat
  ·subst h;simp[Int.toNat_of_nonneg h0]
  ·have:¬(k:Int)=z:=by omega
   simp[h,this]
 ·rw[if_neg h0,if_neg (fun h=>h0 h.1),List.nil_append,List.filter_eq_self];intro k _;have:¬(k:Int)=z:=by omega
  simp[this]
def ahC(L:List Re)(O:List En)(name:ByteArray)(w:World)(e:Ending)(w':World):Prop:=∃(v:Value) (cs:List Nat),e=.returned v/\w'.ownsRow w.heap.size 3 1 v cs.length (nI cs)/\Below w.heap.size w w'/\IsCand L O name cs/\cs.length<=L.length+1
theorem ahD(S:Nat)(lo oo:Option Addr)(lc oc:Nat)(nv:Value)(f:Int)(b:Bool)(L:List Re)(O:List En)(name:ByteArray)(w:World)(hs:Sx w S nv (.slice lo L.length lc) (.slice oo O.length oc) f b)(h:ReS w (.slice lo L.length lc) L)(ho:EnS w (.slice oo O.length oc) O)(hL:L.length<=1048576)(hV:∀x∈L,x.ve.size<2 ^ 62)(hO:O.length<=1048576)(hOV:∀x∈O,x.ve.size<2 ^ 62) :
  Calls prog 66 #[.pointer (some ⟨S,0,none⟩),.string name] w (ahC L O name w):=by
 have HS:=ae hs;have CE:=ae (agb oo oc O L name w ho hO);have CF:=ae (fun w' v (hg:w.grownBy w' none) (hv:v.size<2 ^ 62)=>agk (.slice lo L.length lc) L name v w' (h.grow hg) hL hV hv);have CO:=ae (fun w' (hg:w.grownBy w' none)=>agj (.slice lo L.length lc) L name w' (h.grow hg) hL hV);have HEO:=ae (fun w' (hg:w.grownBy w' none) i (hi:i<O.length)=>II (ho.grow hg) hi);have NY:=ae hOV;have HIT:Hd ((bn name L 0).length<=L.length):=ww name L 0;obtain⟨i0,hi0,hii⟩:=Option.map_eq_some_iff.1 FC;simp only[Prod.mk.injEq]at hii;obtain⟨hz0,hz1,hzb⟩:=hii;obtain⟨B,hB⟩:=zN (w.heap.size);have HB:=ae hB;obtain⟨-,c1,c2,-⟩:=hs.cells;clear hs h ho hV hOV hB;go_enter func66,ntmps66
 go_upto_if 17 with(first|(go_at_call 104;refine CE.o.mono ?_;rintro e w1 ⟨z1,rfl,hg1,hz1'⟩))
 have bg:=ae hg1
 go_cut [7] from 10 (fun v7 wx=>∃z:Int,v7=.int .i64 z/\jK O L name=z/\w.grownBy wx none)
 case first =>
  rcases hz1' with⟨rfl,hke⟩|⟨j,hj,rfl,hke⟩
  ·have Dh:=ae hke;clear hke c1 c2 hg1;go_wp2;go_meet;exact⟨-1,rfl,Dh.o,bg.o⟩
  ·obtain⟨a3,ho3,Aa,iI⟩:=HEO.o w1 hg1 j hj;obtain⟨-,v1,-⟩:=iI j hj;have hvs:=NY.o O[j] (List.getElem_mem _);obtain⟨ve,wJ⟩:=zN (O[j].ve);rw[wJ]at v1 hvs hke;have d1:=hg1.cell c1 (by simp);have d2:=hg1.cell c2 (by simp);have C3:=ae (CF.o w1.drew ve (ag hg1 ⟨rfl,rfl,rfl,Nat.le_refl _,fun _ _ _=>rfl⟩) hvs);obtain⟨fz,hfz⟩:=zN (fB name ve L 0);rw[hfz]at C3 hke;have Dh:=ae hke;have hjc:j<oc:=by omega
   subst ho3;clear iI hvs wJ hfz hke Aa hg1 c1 c2;go_wp2
   go_region_held3 (fun u=>u.cell? ⟨S,1,none⟩=some (.slice lo L.length lc)/\u.cell? ⟨S,2,none⟩=some (.slice (some a3) O.length oc)/\u.cell? ⟨(a3.add (j*4)).block,(a3.add (j*4)).off+1,none⟩=some (.string ve)) ((first|exact Oe (by assumption) (by assumption)|go_keep)) (first|(go_at_call 105;refine C3.o.mono ?_;rintro e w6 ⟨rfl,dP⟩))
   have jq:=ae (ag bg.o (dF dP));go_wp2;go_meet;exact⟨fz,rfl,Dh.o,jq.o⟩
 case rest =>
  obtain⟨z,rfl,hz,hgc⟩:=hcut;have HZ:=ae hz;have HGC:=ae hgc;have d1:=hgc.cell c1 (by simp);have ay:Hd (Below B w wc):=⟨hgc.os,hgc.tape,hgc.output,hgc.size,fun k hk=>hgc.block k (by rw[HB.o];exact hk) (by simp)⟩;have XO:=hgc.size;rw[HB.o]at XO;have tX:=ae c1;clear hz hgc c1 c2 hg1 hz1'
  go_upto_if 33 with fail
  go_cut [5] from 10 (fun v5 wx=>wx.ownsRow B 3 1 v5 (mf z [] 0).length (nI (mf z [] 0))/\Below B w wx)
  case first =>
   by_cases h0:0<=z
   ·obtain⟨q,rfl⟩:∃q:Nat,z=(q:Int):=⟨z.toNat,by omega⟩;have kY:Hd (mf (q:Int) [] 0=[q]):=by simp[mf];exact trivial
    clear d1;go_wp2_with (first|(at_builtin;refine wpList_append_lies _ rfl _ _ 31 rfl B 3 i0 (.int .i64 0) 1 8 underlying31 hi0 hz0 hz1 hzb rfl (by decide) (.slice none 0 0) 0 [] rfl (World.ownsRow_nil _ _ _ _) _ 1 1 [.int .i64 (q:Int)] rfl rfl (World.news_of_block (heap_alloc_new _ _)) (F7 [q]) (by decide) (by unfold maxLen;omega) (by omega) (by simp;omega) _ rfl ?_;intro g cap1 w3 hown3 hgrow iI hlt3));have HB3:Hd (Below B w w3):=(ay.o.alloc XO _).grown hgrow (by simp;omega) (fun q hq=>by cases hq);have jl:Hd (w3.ownsRow B 3 1 (.slice (some ⟨g,0,none⟩) 1 cap1) 1 (nI [q])):=hown3;clear hgrow hown3 iI hlt3;go_wp2;go_meet;rw[kY.o];exact⟨jl.o,HB3.o⟩
   ·have kY:Hd (mf z [] 0=[]):=by simp[mf,h0];exact trivial
    have h0':¬z ≥ 0:=h0;clear d1;go_wp2;go_meet;rw[kY.o];exact⟨World.ownsRow_nil _ _ _ _,ay.o⟩
  case rest =>
   obtain⟨hown,hb⟩:=hcut;have hgn:w.grownBy wc none:=gz (by rw[HB.o];exact hb);have d1:=hgn.cell tX.o (by simp);have C4:=ae (CO.o wc hgn);have HO:=ae hown;have oz:=ae hb;have hsz:=hb.size;rw[HB.o]at hsz;clear hown hb hgn;go_wp2_with (go_at_call 106;refine C4.o.mono ?_);rintro e w5 ⟨vd,D,rfl,hrow,hbD,hperm,hsort⟩;have HD:=ae (And.intro hperm hsort);have hDl:D.length<=L.length:=by rw[hperm.length_eq];exact HIT.o
   obtain⟨l,hl⟩:=zN (D.map (·.k));have HL:=ae hl;have hll:l.length=D.length:=by rw[<-hl,List.length_map]
   have hrl:w5.ownsRow wc.heap.size 3 1 vd l.length (nI l):=by
    have:nI l=D.map kC:=by rw[<-hl];simp[nI,kC]
    rw[this,hll];exact hrow
   have bP:∀q,u5.ownBlock=some q->vd.ownBlock=some q->False:=fun q h1 h2=>by
    have:=(HO.o.lt q h1).2;have:=(hrl.lt q h2).1;omega
   have hg5:wc.grownBy w5 none:=gz hbD;have jY:=ae (dV HO.o hg5);have OY:Hd (Below B w w5):=hbelow oz.o hsz hg5;have zo:=ae hrl;have HF5:=ae bP;obtain⟨od,cd,rfl,-⟩:=F6 hrl;have hs5:=Nat.le_trans hsz hbD.size;have bZ:=ae (fun i (hi:i<l.length)=>ahz z l i hi);have EQ:=ae (fun i=>ahA z l i);have sS:Hd (IsCand L O name (mf z l l.length)):=by
    show IsCand L O name _;rw[<-hl,ahB HZ.o hperm];exact⟨D,hperm,hsort,by rw[HZ.o]⟩
   obtain⟨base,hbase⟩:=zN (wc.heap.size);rw[hbase]at zo;clear hperm hsort hl hrow hbD hrl bP hg5 d1 hbase;go_wp2;go_loopw [5,9] (fun vm vi wr=>∃(i:Nat) (cs:List Nat),vi=.int .i64 i/\i<=l.length/\cs=mf z l i/\wr.ownsRow B 3 1 vm cs.length (nI cs)/\Below B w wr/\B<=wr.heap.size/\wr.ownsRow base 3 1 (.slice od l.length cd) l.length (nI l)/\∀q,vm.ownBlock=some q->(Value.slice od l.length cd).ownBlock=some q->False) (fun _ vi _=>l.length-(intOf vi).toNat)
   case atStart=>exact⟨0,_,rfl,Nat.zero_le _,rfl,jY.o,OY.o,hs5,zo.o,HF5.o⟩
   case round =>
    obtain⟨i,cs,rfl,hi,hcs,hown,hb,hBs,hrl,bP⟩:=hrel;have zB:=ae hcs;have HO:=ae hown;have pK:=ae hb;have nY:=ae hrl;have zn:=ae bP
    by_cases hlt:i<l.length
    ·obtain⟨od',cd',ed,lG⟩:=F6 hrl;injection ed with ed1 _ ed2
     subst ed1 ed2;obtain⟨g,hg0,hcd,hck⟩:=lG i hlt;subst hg0;have hst:=bZ.o i hlt;rw[<-hcs]at hst;have hcl:=EQ.o (i+1);obtain⟨k,hk⟩:=zN (l[i]);rw[hk]at hck hst;have aj1:i<cd:=by omega
     clear hcs hb hrl bP lG hk
     by_cases hkz:(k:Int)=z
     ·have hne:((k:Int) != z)=false:=by simp[hkz]
      rw[if_pos hkz]at hst;have HST:=ae hst;clear hkz hst hown;go_wp2;exact⟨⟨i+1,cs,by go_num,by omega,HST.o.symm,HO.o,pK.o,hBs,nY.o,zn.o⟩,by simp[intOf];omega⟩
     ·have hne:((k:Int) != z)=true:=by simp[hkz]
      rw[if_neg hkz]at hst;have HST:=ae hst;have ahE:cs.length+1<=1048578:=by
       rw[hst,List.length_append]at hcl;simp at hcl;omega
      clear hkz hst hcl;go_wp2_with (first|(at_builtin;refine wpList_append_lies _ rfl _ _ 31 rfl B 3 i0 (.int .i64 0) 1 8 underlying31 hi0 hz0 hz1 hzb rfl (by decide) _ _ _ rfl (hown.alloc _) _ 1 1 [.int .i64 (k:Int)] rfl rfl (World.news_of_block (heap_alloc_new _ _)) (F7 [k]) (by decide) (by unfold maxLen;omega) (by omega) (by simp;omega) _ rfl ?_;intro g3 cap1 w3 hown3 hgrow iI hlt3));have HB3:Hd (Below B w w3):=(pK.o.alloc hBs _).grown hgrow (by simp;omega) (fun q hq=>(hown.lt q hq).1);have jl:Hd (w3.ownsRow B 3 1 (.slice (some ⟨g3,0,none⟩) (cs++[k]).length cap1) (cs++[k]).length (nI (cs++[k]))):=by
       show World.ownsRow _ _ _ _ _ _ _;rw[nI,List.map_append,List.length_append];exact hown3
      have HR3:Hd (w3.ownsRow base 3 1 (.slice (some ⟨g,0,none⟩) l.length cd) l.length (nI l)):=(nY.o.alloc _).kept hgrow (Or.inr fun e=>zn.o g e.symm rfl);have HF3:Hd (∀q,(Value.slice (some ⟨g3,0,none⟩) (cs.length+1) cap1).ownBlock=some q->(Value.slice (some ⟨g,0,none⟩) l.length cd).ownBlock=some q->False):=fun q h1 h2=>by
       obtain rfl:g3=q:=Option.some.inj h1;have h3:g=g3:=Option.some.inj h2
       rcases iI with h4|h4
       ·exact zn.o g3 h4 h2
       ·have:=(nY.o.lt g rfl).2;simp at h4;omega
      have hs3:B<=w3.heap.size:=by
       have:=hgrow.size;simp at this;omega
      clear hgrow hown3 iI hlt3 hown hck;go_wp2;exact⟨⟨i+1,cs++[k],by go_num,by omega,HST.o.symm,by have:=jl.o;rw[List.length_append]at this ⊢;exact this,HB3.o,hs3,HR3.o,HF3.o⟩,by simp[intOf];omega⟩
    ·have HE:Hd (cs=mf z l l.length):=by
      show cs=_;rw[hcs,show i=l.length by omega]
     have AV:Hd (cs.length<=L.length+1):=by
      show cs.length<=_;rw[hcs];have:=EQ.o i;omega
     clear hcs hown hb hrl bP;go_wp2;go_ret;refine⟨_,cs,rfl,by rw[HB.o];exact HO.o,by rw[HB.o];exact pK.o,?_,AV.o⟩;rw[HE.o];exact sS.o
open Go.RowKit
theorem ahF:(prog.info? 56).map (fun i=>(i.zero,i.size,i.bytes))=some (some (.agg #[.string ⟨#[]⟩,.string ⟨#[]⟩]),2,32):=by kernel_rfl
theorem XP:∀L:List Nd,(L.flatMap iL).length=L.length*2
 | []=>rfl
 | x :: r=>by
  rw[List.flatMap_cons,List.length_append,XP r,List.length_cons];show 2+r.length*2=_;omega
theorem OZ{w:World}{o:Option Addr}{c:Nat}{L:List Nd}(h:NdS w (.slice o L.length c) L):Sl w o L.length 2 (L.flatMap iL):=by
 have hl:=XP L;refine⟨hl,fun e=>?_,fun ad e j u hu=>?_,fun u hu=>?_⟩
 ·rcases h with⟨-,h⟩|⟨a,cap,h,-⟩
  ·rw[h];rfl
  ·rw[e]at h;cases h
 ·have hj:=(List.getElem?_eq_some_iff.1 hu).1;rw[hl]at hj;have hi:j / 2<L.length:=by omega
  rcases h with⟨h,-⟩|⟨a,cap,h,-,h3⟩
  ·rw[e]at h;cases h
  ·rw[e]at h
   cases h
   obtain⟨e0,e1⟩:=h3 (j / 2) hi
   rcases Nat.mod_two_eq_zero_or_one j with hm|hm
   ·have hq:=AX L (j / 2) hi 0 (.string L[j / 2].n) rfl;have ej:j / 2*2+0=j:=by omega
    rw[ej,hu]at hq;rw[show j / 2*2=j by omega]at e0;rw[Option.some.inj hq];exact e0
   ·have hq:=AX L (j / 2) hi 1 (.string L[j / 2].r) rfl;have ej:j / 2*2+1=j:=by omega
    rw[ej,hu]at hq;rw[Option.some.inj hq];have ea:=qQ ad (j / 2*2) 1 (by omega);rw[ej]at ea;rw[ea];exact e1
 ·obtain⟨x,-,hx⟩:=List.mem_flatMap.1 hu;exact RU x u hx
theorem ahG{w:World}{base:Nat}{v:Value}{L:List Nd}(h:w.ownsRow base 56 2 v L.length (L.flatMap iL)):NdS w v L:=by
 rcases h.2 with⟨h1,h2⟩|⟨g,cap,cur,hv,hb,hc,h3,h4,h5,h6⟩
 ·exact Or.inl ⟨h1,List.length_eq_zero_iff.1 h2⟩
 ·refine Or.inr ⟨⟨g,0,none⟩,cap,hv,h3,fun i hi=>?_⟩;have h':=h;rw[hv]at h';have k0:=h'.cells (g:=g) rfl (i*2+0) _ (AX L i hi 0 _ rfl);have k1:=h'.cells (g:=g) rfl (i*2+1) _ (AX L i hi 1 _ rfl);refine⟨by simpa using k0,?_⟩;rw[qQ _ _ 1 (by omega)]at k1;simpa using k1
def nJ(N:List Nd)(L:List Re)(ch:List Nat):List Nd:=N++ch.flatMap (gm L)
theorem ahH(N:List Nd)(L:List Re)(ch:List Nat)(i:Nat)(hi:i<ch.length):nJ N L (ch.take (i+1))=nJ N L (ch.take i)++gm L ch[i]:=by
 unfold nJ;rw[List.take_succ_eq_append_getElem hi,List.flatMap_append,List.append_assoc];simp
theorem XQ(N:List Nd)(L:List Re)(hL:∀x∈L,x.nd.length<=64):∀ch:List Nat,(nJ N L ch).length<=N.length+64*ch.length
 | []=>by simp[nJ]
 | k :: r=>by
  have h1:=XQ N L hL r;have h2:(gm L k).length<=64:=by
   unfold gm;split
   ·rename_i x hx;exact hL x (List.mem_of_getElem? hx)
   ·simp
  simp only[nJ,List.flatMap_cons,List.length_append,List.length_cons]at h1 ⊢;omega
theorem ahI{N:List Nd}{L:List Re}{ch:List Nat}{c:Nat}(hone:(ch.map (aF L)).Nodup):dG N L ch c=true↔(∀y∈nJ N L ch++gm L c,y.n=aF L c->dE y.r (dY L c)=true)/\∀y∈gm L c,0<=eG L (ch.map fun(k:Nat)=>(k:Int)) y.n->dE y.r (dY L (eG L (ch.map fun(k:Nat)=>(k:Int)) y.n).toNat)=true:=by
 rw[rq];constructor
 ·rintro⟨f1,f2,f3,f4⟩;refine⟨fun y hy e=>?_,fun y hy h0=>?_⟩
  ·rcases List.mem_append.1 hy with hy|hy
   ·rcases List.mem_append.1 hy with hy|hy
    ·exact f1 y hy e
    ·obtain⟨j,hj,hy⟩:=List.mem_flatMap.1 hy;exact f3 j hj y hy e
   ·exact f2 y hy e
  ·rcases yC L (ch.map fun(k:Nat)=>(k:Int)) y.n with⟨z,hz,he,hn⟩|⟨he,-⟩
   ·obtain⟨j,hj,rfl⟩:=List.mem_map.1 hz;rw[he];exact f4 j hj y hy hn.symm
   ·omega
 ·rintro⟨g1,g2⟩;refine⟨fun y hy e=>g1 y (List.mem_append.2 (Or.inl (List.mem_append.2 (Or.inl hy)))) e,fun y hy e=>g1 y (List.mem_append.2 (Or.inr hy)) e,fun j hj y hy e=>g1 y (List.mem_append.2 (Or.inl (List.mem_append.2 (Or.inr (List.mem_flatMap.2 ⟨j,hj,hy⟩))))) e,fun j hj y hy e=>?_⟩
  rcases yC L (ch.map fun(k:Nat)=>(k:Int)) y.n with⟨z,hz,he,hn⟩|⟨-,hn⟩
  ·obtain⟨q,hq,rfl⟩:=List.mem_map.1 hz;have hqj:q=j:=by
    have hn':aF L q=aF L j:=by
     have h9:aF L ((q:Int)).toNat=y.n:=hn;rw[show((q:Int)).toNat=q by omega]at h9;rw[h9,e]
    obtain⟨a,ha,e1⟩:=List.getElem_of_mem hq;obtain⟨b,hb,e2⟩:=List.getElem_of_mem hj;rw[<-e1,<-e2]at hn' ⊢
    rcases Nat.lt_trichotomy a b with h|h|h
    ·exact absurd (by rw[List.getElem_map,List.getElem_map];exact hn') (List.pairwise_iff_getElem.1 hone a b (by simpa using ha) (by simpa using hb) h)
    ·subst h;rfl
    ·exact absurd (by rw[List.getElem_map,List.getElem_map];exact hn'.symm) (List.pairwise_iff_getElem.1 hone b a (by simpa using hb) (by simpa using ha) h)
   have:=g2 y hy (by rw[he];omega);rw[he]at this;rw[show((q:Int)).toNat=q by omega,hqj]at this;exact this
  ·exact absurd e.symm (by have:=hn (j:Int) (List.mem_map.2 ⟨j,hj,rfl⟩);simpa using this)
open Go.RowKit
theorem ahJ{w w':World}{a b c:Addr}{x y z:Value}{r:Option Nat}(hg:w.grownBy w' r)(h1:some a.block≠r)(h2:some b.block≠r)(h3:some c.block≠r)(h:w.cell? a=some x/\w.cell? b=some y/\w.cell? c=some z):w'.cell? a=some x/\w'.cell? b=some y/\w'.cell? c=some z :=
 ⟨hg.cell h.1 h1,hg.cell h.2.1 h2,hg.cell h.2.2 h3⟩
theorem ahK{w w':World}{a b c d:Addr}{x y z u:Value}(hg:w.grownBy w' none)(h:w.cell? a=some x/\w.cell? b=some y/\w.cell? c=some z/\w.cell? d=some u):w'.cell? a=some x/\w'.cell? b=some y/\w'.cell? c=some z/\w'.cell? d=some u :=
 ⟨hg.cell h.1 (by simp),hg.cell h.2.1 (by simp),hg.cell h.2.2.1 (by simp),hg.cell h.2.2.2 (by simp)⟩
theorem XR{w w':World}{a b:Addr}{x y:Value}(hg:w.grownBy w' none)(h:w.cell? a=some x/\w.cell? b=some y):w'.cell? a=some x/\w'.cell? b=some y :=
 ⟨hg.cell h.1 (by simp),hg.cell h.2 (by simp)⟩
theorem Jp{w:World}{v:Value}{L:List Nd}(h:NdS w v L):∃o c,v=.slice o L.length c:=by
 rcases h with⟨rfl,rfl⟩|⟨_,_,rfl,-⟩<;>exact⟨_,_,rfl⟩
theorem yD(w:World):w.grownBy w.drew none:=⟨rfl,rfl,rfl,Nat.le_refl _,fun _ _ _=>rfl⟩
theorem ahL(S:Nat)(no lo co:Option Addr)(nc lc cc:Nat)(ov:Value)(f:Int)(b:Bool)(N:List Nd)(L:List Re)(ch:List Nat)(c:Nat)(w:World)(hs:Sx w S (.slice no N.length nc) (.slice lo L.length lc) ov f b)(hn:NdS w (.slice no N.length nc) N)(h:ReS w (.slice lo L.length lc) L)(hc:IS w (.slice co ch.length cc) (ch.map fun(k:Nat)=>(k:Int)))(hN:N.length<=1040000)(hL:L.length<=64)(hLN:∀x∈L,x.nd.length<=64)(hlen:ch.length<=64)(hch:∀k∈ch,k<L.length)(hcL:c<L.length)(hone:(ch.map (aF L)).Nodup)(hrN:∀y∈N,okR y.r=true/\y.r.size<2 ^ 60)(hrL:∀x∈L,∀y∈x.nd,okR y.r=true/\y.r.size<2 ^ 60)(hV:∀x∈L,x.ve.size<2 ^ 60) :
  Calls prog 67 #[.pointer (some ⟨S,0,none⟩),.slice co ch.length cc,.int .i64 c] w fun e w'=>e=.returned (.bool (dG N L ch c))/\w.grownBy w' none:=by
 obtain⟨C,qF⟩:∃C:List Int,(ch.map fun(k:Nat)=>(k:Int))=C:=⟨_,rfl⟩;have Ac:C.length=ch.length:=by rw[<-qF,List.length_map]
 have hfd:=ahI (N:=N) (c:=c) hone;rw[qF]at hc hfd;have hin:∀z∈C,0<=z/\z<(L.length:Int):=fun z hz=>by
  rw[<-qF]at hz;obtain⟨k,hk,rfl⟩:=List.mem_map.1 hz;have:=hch k hk;omega
 have hcI:∀i (hi:i<ch.length) (hi':i<C.length),C[i]=((ch[i]:Nat):Int):=fun i hi hi'=>by
  subst qF;simp
 have gq:=ae (fun w' (hg:w.grownBy w' none) i (hi:i<L.length)=>lq (h.grow hg) hi);have uP:=ae (fun w' (hg:w.grownBy w' none) i (hi:i<C.length)=>rU (o:=co) (c:=cc) (C:=C) (by rw[Ac];exact hc.grow hg) hi);have O0:=ae hcI;have CC:Hd (∀n w',w.grownBy w' none->Calls prog 37 #[.slice lo L.length lc,.slice co ch.length cc,.string n] w' fun e w''=>e=.returned (.int .i64 (eG L C n))/\w'.grownBy w'' none):=fun n w' hg=>by
  have:=Jn lo co lc cc L C n w' (h.grow hg) (by rw[Ac];exact hc.grow hg) (by omega) (by omega) hin;rw[Ac]at this;exact this
 have F8:Hd (∀n,eG L C n=-1\/(0<=eG L C n/\eG L C n<(L.length:Int))):=fun n=>by
  rcases yC L C n with⟨z,hz,he,-⟩|⟨he,-⟩
  ·right;rw[he];exact hin z hz
  ·left;exact he
 have hA:∀y∈nJ N L ch++gm L c,okR y.r=true/\y.r.size<2 ^ 60:=fun y hy=>by
  have hL2:∀k,∀y∈gm L k,okR y.r=true/\y.r.size<2 ^ 60:=fun k y hy=>by
   unfold gm at hy;split at hy
   ·rename_i x hx;exact hrL x (List.mem_of_getElem? hx) y hy
   ·cases hy
  rcases List.mem_append.1 hy with hy|hy
  ·rcases List.mem_append.1 hy with hy|hy
   ·exact hrN y hy
   ·obtain⟨j,-,hy⟩:=List.mem_flatMap.1 hy;exact hL2 j y hy
  ·exact hL2 c y hy
 have CA:=ae (fun y (hy:y∈nJ N L ch++gm L c) x (hx:x∈L) w=>XC y.r x.ve w (hA y hy).2 (hV x hx) (hA y hy).1);have HAS:=ae (fun i (hi:i<ch.length)=>ahH N L ch i hi);have Jf:=ae (fun i=>XQ N L hLN (ch.take i));have Ad:=ae (fun i (hi:i<ch.length)=>hch _ (List.getElem_mem hi));have bW:=ae hLN;have F9:Hd (ch.take ch.length=ch):=List.take_length;have HT0:Hd (nJ N L (ch.take 0)=N):=by simp[nJ];exact trivial
 obtain⟨a2,ho2,hcp2,gu⟩:=lq h hcL;obtain⟨e0,e1,⟨sv,e2,e2'⟩,e3⟩:=gu c hcL;have Jq:=uO L c hcL;have O1:=mX L c hcL;have O3:=wM L c hcL;have hxl:=hLN L[c] (List.getElem_mem _);have XT:Hd (L[c]∈L):=List.getElem_mem _;obtain⟨x,hx⟩:=zN (L[c]);rw[hx]at e0 e1 e2' e3 Jq O1 O3 hxl XT;rw[Jq,O1,O3]at hfd;rw[Jq]at CA;have yh:=ae hfd;obtain⟨F,hF⟩:=zN (dG N L ch c);rw[hF]at yh ⊢;obtain⟨so,sc,rfl⟩:=Jp e2';obtain⟨X0,hX0⟩:=zN w.heap.size;obtain⟨W4,iO⟩:=zN (w.alloc (.cells #[.string x.nm,.string x.ve,.slice so x.nd.length sc,.string x.da] 51));have g4:w.grownBy W4 none:=by rw[<-iO];exact ak (ai w none) _
 have kX:Hd (W4.heap[X0]?=some (.cells #[.string x.nm,.string x.ve,.slice so x.nd.length sc,.string x.da] 51 (0,0))):=by rw[<-iO,<-hX0];exact heap_alloc_new w _
 obtain⟨B,hB⟩:=zN (W4.heap.size);have hBX:B=X0+1:=by rw[<-hB,<-iO,World.size_alloc,hX0]
 have HB:=ae hB;have eX:=ae g4;have bC:=ae (e2'.grow g4);have lm:=ae (OZ (hn.grow g4));have gp:Hd (∀{a:Addr} {v:Value},w.cell? a=some v->a.block<X0):=fun h=>by have:=qP h;omega
 obtain⟨i0,hi0,hii⟩:=Option.map_eq_some_iff.1 ahF;simp only[Prod.mk.injEq]at hii;obtain⟨hz0,hz1,hzb⟩:=hii;obtain⟨s0,s1,-⟩:=hs.cells;have pF:=ae s1;have s0':=g4.cell s0 (by simp);have hcc:c<lc:=by omega
 subst ho2;clear hs hn h hc hone hrN hrL hV hch qF hcI hin hA gu e2' Jq O1 O3 hx hfd hF hB hLN g4 hcp2;go_enter func67,ntmps67;go_wp2_with (first|(at_builtin;refine IL (base:=B) rfl _ _ 22 rfl i0 (.agg #[.string ⟨#[]⟩,.string ⟨#[]⟩]) 32 underlying22 hi0 hz0 hz1 hzb rfl (by decide) rfl no N.length nc (N.flatMap iL) rfl lm.o (by unfold maxLen;omega) (by omega) (by rw[HB.o];exact Nat.le_refl _) ?_;intro o1 c1 w1 hown1 hg1));have HB1:Hd (Below B W4 w1):=⟨hg1.os,hg1.tape,hg1.output,hg1.size,fun k hk=>hg1.block k (by rw[HB.o];exact hk) (by simp)⟩;have dB:=ae hown1;clear hown1 hg1 e0 e1 e2 e3 s0 s1 s0' iO;go_loopw [8,9] (fun vm vi wr=>∃(i:Nat) (A:List Nd),vi=.int .i64 i/\i<=ch.length/\A=nJ N L (ch.take i)/\wr.ownsRow B 56 2 vm A.length (A.flatMap iL)/\Below B W4 wr) (fun _ vi _=>ch.length-(intOf vi).toNat)
 case atStart=>exact⟨0,N,rfl,Nat.zero_le _,HT0.o.symm,dB.o,HB1.o⟩
 case round =>
  obtain⟨i,A,rfl,hi,hA,hown,hb⟩:=hrel;have HO:=ae hown;have pK:=ae hb;have hBs:B<=wr.heap.size:=by have:=hb.size;rw[HB.o]at this;exact this
  obtain⟨wo,hwo⟩:∃wo,wo=wr:=⟨_,rfl⟩;subst hwo;have hg4:W4.grownBy wo none:=gz (by rw[HB.o];exact hb);have hgw:w.grownBy wo none:=ag eX.o hg4;have bD:=ae hgw;have hAl:A.length<=1044096:=by
   have h1:=Jf.o i;rw[<-hA]at h1;have h2:(ch.take i).length<=64:=by rw[List.length_take];omega
   omega
  by_cases hlt:i<ch.length
  ·have uQ:i<C.length:=by omega
   obtain⟨a1,ho1,hcp1,iD⟩:=uP.o wo hgw i uQ;have f0:=iD i uQ;obtain⟨a1',XU,-,XV⟩:=uP.o w (ai _ _) i uQ;obtain rfl:a1=a1':=Option.some.inj (ho1.symm.trans XU);have fw:=gp.o (XV i uQ);rw[O0.o i hlt uQ]at f0;have bK:=Ad.o i hlt;have hst:=HAS.o i hlt;rw[<-hA]at hst;obtain⟨k,hk⟩:=zN (ch[i]);rw[hk]at f0 hst;replace bK:k<L.length:=by rw[<-hk];exact bK
   obtain⟨a3,ho3,Aa,iI⟩:=gq.o wo hgw k bK;obtain⟨a4,Jr,-,XW⟩:=gq.o w (ai _ _) k bK;obtain rfl:a2=a3:=Option.some.inj ho3;obtain rfl:a2=a4:=Option.some.inj Jr;have fv:(a2.add (k*4)).block<X0:=gp.o (XW k bK).1;obtain⟨-,-,⟨sv,q2,q2'⟩,-⟩:=iI k bK;rw[uO L k bK]at hst;have hyl:=bW.o L[k] (List.getElem_mem _);obtain⟨y,hy⟩:=zN (L[k]);rw[hy]at q2' hst hyl;obtain⟨so',sc',rfl⟩:=Jp q2';have ahM:=ae (OZ (q2'.grow (yD wo)));have s1:=hgw.cell pF.o (by simp);have lu:Hd (some S≠u8.ownBlock):=fun e=>by
    have h1:=(hown.lt _ e.symm).1;have h2:S<X0:=gp.o pF.o;omega
   have HF2:Hd (some (a1.add i).block≠u8.ownBlock):=fun e=>by
    have h1:=(hown.lt _ e.symm).1;omega
   have HF3:Hd (some (a2.add (k*4)).block≠u8.ownBlock):=fun e=>by
    have h1:=(hown.lt _ e.symm).1;omega
   have HST:=ae hst;have hic:i<cc:=by omega
   have hkc:k<lc:=by omega
   subst ho1;clear hA hb hg4 hgw iD XV iI XW XU ho3 Jr hk hy q2' hst hcp1 Aa fw fv;go_wp2
   go_region_held3 (fun u=>u.cell? ⟨S,1,none⟩=some (.slice (some a2) L.length lc)/\u.cell? (a1.add i)=some (.int .i64 (k:Int))/\u.cell? ⟨(a2.add (k*4)).block,(a2.add (k*4)).off+2,none⟩=some (.slice so' y.nd.length sc')) ((first|exact ahJ (by assumption) (by first|exact lu.o|simp) (by first|exact HF2.o|simp) (by first|exact HF3.o|simp) (by assumption)|go_keep)) (first|(refine aeL (base:=B) (by rfl) _ _ 22 (by rfl) i0 _ 32 underlying22 hi0 hz0 hz1 hzb (by rfl) (by decide) (by rfl) hown.drew so' y.nd.length sc' (y.nd.flatMap iL) (by rfl) ahM.o (by unfold maxLen;omega) (by omega) hBs ?_;intro o3 c3 w3 hown3 hg3))
   have HB3:Hd (Below B W4 w3):=Vr HO.o.drew pK.o.drew hg3 hBs;have jl:Hd (w3.ownsRow B 56 2 (.slice o3 (A++y.nd).length c3) (A++y.nd).length ((A++y.nd).flatMap iL)):=by
    show World.ownsRow _ _ _ _ _ _ _;rw[List.flatMap_append,List.length_append];exact hown3
   clear hown3 hg3 hown f0 s1 q2;go_wp2;exact⟨⟨i+1,A++y.nd,by go_num,by omega,HST.o.symm,by have:=jl.o;rw[List.length_append]at this ⊢;exact this,HB3.o⟩,by simp[intOf];omega⟩
  ·have FQ:Hd (A=nJ N L ch):=by
    show A=_;rw[hA,show i=ch.length by omega,F9.o]
   have HX:=ae ((pK.o.block X0 (by omega)).trans kX.o);obtain⟨x0,x1,x2,-⟩:=uM HX.o;have Js:=ae (OZ (bC.o.grow hg4));have xX:=ae (bC.o.grow hg4);clear hA hb hg4 hgw;go_wp2_with (first|(at_builtin;refine Vq (base:=B) rfl _ _ 22 rfl i0 _ 32 underlying22 hi0 hz0 hz1 hzb rfl (by decide) rfl hown so x.nd.length sc (x.nd.flatMap iL) rfl Js.o (by unfold maxLen;omega) (by omega) hBs ?_;intro o3 c3 w3 hown3 hg3));have HB3:Hd (Below B W4 w3):=Vr HO.o pK.o hg3 hBs;have hs3:=Nat.le_trans hBs hg3.size;obtain⟨D,hD⟩:=zN (A++x.nd);have hDl:A.length+x.nd.length=D.length:=by rw[<-hD,List.length_append]
   rw[<-List.flatMap_append,hD,hDl]at hown3;rw[hDl];have XX:Hd (∀y,y∈D↔y∈nJ N L ch++x.nd):=fun y=>by rw[<-hD,FQ.o]
   have jW:=ae (ahG hown3);have hG4:W4.grownBy w3 none:=gz (by rw[HB.o];exact HB3.o);have dD:=ae (ag eX.o hG4);have uk:=ae ((HB3.o.block X0 (by omega)).trans kX.o);have ahN:=ae (bC.o.grow hG4);have hDs:D.length<=1048576:=by omega
   clear hown hown3 hg3 x0 x1 x2 hD hG4;go_loopw [10] (fun vi wr=>∃i:Nat,vi=.int .i64 i/\i<=D.length/\(∀j (hj:j<D.length),j<i->D[j].n=x.nm->dE D[j].r x.ve=true)/\w3.grownBy wr none) (fun vi _=>D.length-(intOf vi).toNat)
   case atStart=>exact⟨0,rfl,Nat.zero_le _,fun j hj h=>absurd h (by omega),ai _ _⟩
   case round =>
    obtain⟨i,rfl,hi,hall,hg⟩:=hrel;have jH:=ae hall;have HG:=ae hg;have hX:=(hg.block X0 (aC uk.o) (by simp)).trans uk.o;obtain⟨x0,x1,x2,-⟩:=uM hX
    by_cases hlt:i<D.length
    ·obtain⟨a,ha,hcap,hat⟩:=Nr (jW.o.grow hg) hlt;obtain⟨e0,e1⟩:=hat i hlt;have hmem:=(XX.o _).1 (List.getElem_mem hlt);have yE:Hd ((D[i].n=x.nm->dE D[i].r x.ve=true)->∀j (hj:j<D.length),j<i+1->D[j].n=x.nm->dE D[j].r x.ve=true):=fun hh j hj hji=>by
      by_cases h:j=i
      ·subst h;exact hh
      ·exact jH.o j hj (by omega)
     have hca:=CA.o D[i] hmem x XT.o;obtain⟨y,hy⟩:=zN (D[i]);rw[hy]at e0 e1 hmem yE hca;have DD:=ae hca;have F5:=ae hmem;have hic:i<c3:=by omega
     have xI:=ae (And.intro e1 x1);subst ha;clear hall hg hX hat hmem hca hy e1 x1
     by_cases hxy:y.n=x.nm
     ·have q:=uA hxy;have gQ:=ae hxy;obtain⟨ad,had⟩:=zN (dE y.r x.ve);rw[had]at DD;have HAD:=ae had;clear hxy had;go_wp2;go_quiet (fail);go_wp2;obtain⟨W,hW⟩:=zN (wr.drewN nq);have hgW:wr.grownBy W none:=hW ▸ aH (ai wr none) nq;have wW:=ae (ag HG.o hgW);have e1:=hgW.cell xI.o.1 (by simp);have x1:=hgW.cell xI.o.2 (by simp);rw[hW];clear hW hgW e0 x0 q
      go_region_held3 (fun u=>u.cell? ⟨(a.add (i*2)).block,(a.add (i*2)).off+1,none⟩=some (.string y.r)/\u.cell? ⟨X0,1,none⟩=some (.string x.ve)) ((first|exact XR (by assumption) (by assumption)|go_keep)) (first|(go_at_call 69;refine(DD.o _).mono ?_;rintro e w6 ⟨rfl,dP⟩))
      have jq:=ae (ag wW.o (dF dP));clear dP e1 x1
      cases ad with
      | true =>
       have HS2:=ae (yE.o fun _=>HAD.o);go_wp2;exact⟨⟨i+1,by go_num,by omega,HS2.o,jq.o⟩,by simp[intOf];omega⟩
      | false =>
       have lM:Hd (F=false):=Bool.eq_false_iff.2 fun hF=>by
        have:=(yh.o.1 hF).1 y F5.o gQ.o;rw[HAD.o]at this
        cases this
       go_wp2;go_ret;refine⟨?_,ag dD.o jq.o⟩;rw[lM.o];rfl
     ·have q:=pz hxy;have HS2:=ae (yE.o fun e=>absurd e hxy);clear hxy;go_wp2;go_quiet (fail);go_wp2;exact⟨⟨i+1,by go_num,by omega,HS2.o,aH HG.o _⟩,by simp[intOf];omega⟩
    ·have ahO:Hd (∀y∈nJ N L ch++x.nd,y.n=x.nm->dE y.r x.ve=true):=fun y hy=>by
      obtain⟨j,hj,rfl⟩:=List.getElem_of_mem ((XX.o y).2 hy);exact hall j hj (by omega)
     have O4:=ae (ag dD.o hg);have BO:=ae hX;have HN4:=ae (ahN.o.grow hg);obtain⟨wt,hwt⟩:∃wt,wt=wr:=⟨_,rfl⟩;subst hwt;clear hall hg hX x0 x1 HG jH;go_wp2;clear x2;go_loopw [12] (fun vi wr=>∃i:Nat,vi=.int .i64 i/\i<=x.nd.length/\(∀j (hj:j<x.nd.length),j<i->0<=eG L C x.nd[j].n->dE x.nd[j].r (dY L (eG L C x.nd[j].n).toNat)=true)/\wt.grownBy wr none) (fun vi _=>x.nd.length-(intOf vi).toNat)
     case atStart=>exact⟨0,rfl,Nat.zero_le _,fun j hj h=>absurd h (by omega),ai _ _⟩
     case round =>
      obtain⟨i,rfl,hi,hall,hg⟩:=hrel;have jH:=ae hall;have HG:=ae hg;have hgw:=ag O4.o hg;have wW:=ae hgw;have hX:=(hg.block X0 (aC BO.o) (by simp)).trans BO.o;obtain⟨-,-,x2,-⟩:=uM hX
      by_cases hlt:i<x.nd.length
      ·obtain⟨a,ha,hcap,hat⟩:=Nr (HN4.o.grow hg) hlt;obtain⟨e0,e1⟩:=hat i hlt;have s1:=hgw.cell pF.o (by simp);have hmem:x.nd[i]∈nJ N L ch++x.nd:=List.mem_append.2 (Or.inr (List.getElem_mem hlt));have hca:=CA.o x.nd[i] hmem;have F5:Hd (x.nd[i]∈x.nd):=List.getElem_mem hlt;have yE:Hd ((0<=eG L C x.nd[i].n->dE x.nd[i].r (dY L (eG L C x.nd[i].n).toNat)=true)->∀j (hj:j<x.nd.length),j<i+1->0<=eG L C x.nd[j].n->dE x.nd[j].r (dY L (eG L C x.nd[j].n).toNat)=true):=fun hh j hj hji=>by
        by_cases h:j=i
        ·subst h;exact hh
        ·exact jH.o j hj (by omega)
       obtain⟨y,hy⟩:=zN (x.nd[i]);rw[hy]at e0 e1 hca F5 yE;have hc1:=CC.o y.n wr.drew (ag hgw (yD wr));have hch:=F8.o y.n;have O5:=fun hF=>(yh.o.1 hF).2 y F5.o
       obtain⟨z,hz⟩:=zN (eG L C y.n);rw[hz]at hc1 hch yE O5;have HF2:=ae O5;have C1:=ae hc1;have DD:=ae hca;have HE:=ae (And.intro e1 (And.intro x2 s1));have hic:i<sc:=by omega
       subst ha;clear hall hg hgw hX hat hmem hca hy hc1 hz O5 e1 hcap;go_wp2
       go_region_held3 (fun u=>u.cell? ⟨S,1,none⟩=some (.slice (some a2) L.length lc)/\u.cell? ⟨X0,2,none⟩=some (.slice (some a) x.nd.length sc)/\u.cell? (a.add (i*2))=some (.string y.n)) ((first|exact Oe (by assumption) (by assumption)|go_keep)) (first|(go_at_call 37;refine C1.o.mono ?_;rintro e w2 ⟨rfl,hg2⟩))
       have hgu:=dF hg2;have HG2:=ae (ag HG.o hgu);have ahP:=ae (ag wW.o hgu);have e1:=hgu.cell HE.o.1 (by simp);have y2:=hgu.cell HE.o.2.1 (by simp);have t1:=hgu.cell HE.o.2.2 (by simp);clear hgu hg2 e0 x2 s1
       by_cases hz0:z<0
       ·have hnz:¬z ≥ 0:=by omega
        have HS2:=ae (yE.o fun h=>absurd h (by omega));clear hz0 hch e1 y2 t1;go_wp2;exact⟨⟨i+1,by go_num,by omega,HS2.o,HG2.o⟩,by simp[intOf];omega⟩
       ·obtain⟨k,rfl⟩:∃k:Nat,z=(k:Int):=⟨z.toNat,by omega⟩;have hkl:k<L.length:=by omega
        obtain⟨a3,ho3,Aa,iI⟩:=gq.o w2 ahP.o k hkl;obtain rfl:a2=a3:=Option.some.inj ho3;obtain⟨-,g1,-⟩:=iI k hkl;have hca:=DD.o L[k] (List.getElem_mem hkl);have nK:Hd (dY L ((k:Int)).toNat=L[k].ve):=by
         have e1:((k:Int)).toNat=k:=by omega
         show _=_;rw[e1];exact wM L k hkl
        obtain⟨t,ht⟩:=zN (L[k]);rw[ht]at g1 hca nK;obtain⟨ad,had⟩:=zN (dE y.r t.ve);rw[had]at hca;have HAD:=ae had;have O6:=ae hca;have hkc:k<lc:=by omega
        have hnz:(k:Int) ≥ 0:=by omega
        clear iI Aa ht hca hch hz0 had ho3;go_wp2
        go_region_held3 (fun u=>u.cell? ⟨X0,2,none⟩=some (.slice (some a) x.nd.length sc)/\u.cell? ⟨(a.add (i*2)).block,(a.add (i*2)).off+1,none⟩=some (.string y.r)/\u.cell? ⟨S,1,none⟩=some (.slice (some a2) L.length lc)/\u.cell? ⟨(a2.add (k*4)).block,(a2.add (k*4)).off+1,none⟩=some (.string t.ve)) ((first|exact ahK (by assumption) (by assumption)|go_keep)) (first|(go_at_call 69;refine(O6.o _).mono ?_;rintro e w6 ⟨rfl,dP⟩))
        have jq:=ae (ag HG2.o (dF dP));clear dP e1 y2 t1 g1 hnz
        cases ad with
        | true =>
         have HS2:=ae (yE.o fun _=>by rw[nK.o];exact HAD.o);go_wp2;exact⟨⟨i+1,by go_num,by omega,HS2.o,jq.o⟩,by simp[intOf];omega⟩
        | false =>
         have lM:Hd (F=false):=Bool.eq_false_iff.2 fun hF=>by
          have:=HF2.o hF (by omega);rw[nK.o,HAD.o]at this
          cases this
         go_wp2;go_ret;refine⟨?_,ag O4.o jq.o⟩;rw[lM.o];rfl
      ·have rJ:Hd (F=true):=yh.o.2 ⟨ahO.o,fun y hy=>by
        obtain⟨j,hj,rfl⟩:=List.getElem_of_mem hy;exact hall j hj (by omega)⟩
       clear hall hg hgw hX;go_wp2;go_ret;refine⟨?_,wW.o⟩;rw[rJ.o];rfl
open Go.RowKit Go.Joins
def Nb(S:Nat)(o:Option Addr):Prop:=∀a,o=some a->¬a.block=S
theorem XY(a:Addr)(j:Nat):(a.add j).block=a.block:=by unfold Addr.add;split<;>simp
theorem ahQ{w w':World}{S:Nat}{o:Option Addr}{n c:Nat}{R:List ByteArray}(h:TxS w (.slice o n c) R)(hg:w.grownBy w' (some S))(hS:Nb S o):TxS w' (.slice o n c) R:=by
 rcases h with h|⟨a,cap,h1,h2,h3⟩
 ·exact Or.inl h
 ·refine Or.inr ⟨a,cap,h1,h2,fun j hj=>hg.cell (h3 j hj) ?_⟩;injection h1 with h1 _ _
  rw[XY];exact fun e=>hS a h1 (Option.some.inj e)
theorem XZ{w w':World}{S:Nat}{o:Option Addr}{n c:Nat}{R:List Int}(h:IS w (.slice o n c) R)(hg:w.grownBy w' (some S))(hS:Nb S o):IS w' (.slice o n c) R:=by
 rcases h with h|⟨a,cap,h1,h2,h3⟩
 ·exact Or.inl h
 ·refine Or.inr ⟨a,cap,h1,h2,fun j hj=>hg.cell (h3 j hj) ?_⟩;injection h1 with h1 _ _
  rw[XY];exact fun e=>hS a h1 (Option.some.inj e)
theorem O7{w:World}{B S:Nat}{e:TypeId}{o:Option Addr}{n c:Nat}{xs:List Value}{m:Nat}(h:w.ownsRow B e 1 (.slice o m c) n xs)(hS:S<B):Nb S o:=fun a ha=>by
 subst ha
 rcases h.2 with⟨e,-⟩|⟨g,cap,cur,e,h1,-⟩
 ·cases e
 ·injection e with e _ _
  have:=Option.some.inj e;subst this;simp;omega
theorem O8{w:World}{B:Nat}{v:Value}{R:List ByteArray}(h:w.ownsRow B 9 1 v R.length (R.map Value.string)):TxS w v R:=by
 rcases h.2 with⟨h1,h2⟩|⟨g,cap,cur,hv,hb,hc,h3,h4,h5,h6⟩
 ·exact Or.inl ⟨h1,List.length_eq_zero_iff.1 h2⟩
 ·refine Or.inr ⟨⟨g,0,none⟩,cap,hv,h3,fun j hj=>?_⟩;obtain⟨g',c',e,-,hx⟩:=yg h hj;rw[hv]at e
  cases e
  rw[uo,hx,List.getElem?_map,List.getElem?_eq_getElem hj];rfl
theorem wX{w:World}{B:Nat}{v:Value}{R:List Nat}(h:w.ownsRow B 3 1 v R.length (nI R)):IS w v (R.map fun(k:Nat)=>(k:Int)):=by
 rcases h.2 with⟨h1,h2⟩|⟨g,cap,cur,hv,hb,hc,h3,h4,h5,h6⟩
 ·exact Or.inl ⟨h1,by rw[List.length_eq_zero_iff.1 h2];rfl⟩
 ·refine Or.inr ⟨⟨g,0,none⟩,cap,by rw[List.length_map];exact hv,by rw[List.length_map];exact h3,fun j hj=>?_⟩;have hj':j<R.length:=by simpa using hj
  obtain⟨g',c',e,-,hx⟩:=yg h hj';rw[hv]at e
  cases e
  rw[uo,hx,nI,List.getElem?_map,List.getElem?_eq_getElem hj',List.getElem_map];rfl
theorem ahR{w:World}{o:Option Addr}{c:Nat}{R:List Nat}(h:IS w (.slice o R.length c) (R.map fun(k:Nat)=>(k:Int))):Sl w o R.length 1 (nI R):=by
 refine⟨by simp[nI],fun e=>?_,fun ad e j u hu=>?_,F7 R⟩
 ·rcases h with⟨-,h⟩|⟨a,cap,h,-⟩
  ·have:=congrArg List.length h;simpa using this
  ·rw[e]at h;cases h
 ·obtain⟨hj,rfl⟩:=List.getElem?_eq_some_iff.1 hu;have hj':j<R.length:=by simpa [nI] using hj
  rcases h with⟨h,-⟩|⟨a,cap,h,-,h3⟩
  ·rw[e]at h;cases h
  ·rw[e]at h;injection h with h _ _
   obtain rfl:=Option.some.inj h;have:=h3 j (by simpa using hj');rw[this];simp[nI]
def X4(R:Fd)(f:Int)(S:Nat)(nv lv ov:Value)(vo:Value)(bo:Bool)(w w':World):Prop :=
 w.grownBy w' (some S)/\∃F:Int,F<=f/\((R=.dry/\bo=false/\Sx w' S nv lv ov F true)\/(R=.no F.toNat/\bo=false/\Sx w' S nv lv ov F false)\/∃(ch':List Nat) (o:Option Addr) (c:Nat),R=.yes ch'/\bo=true/\vo=.slice o ch'.length c/\IS w' (.slice o ch'.length c) (ch'.map fun(k:Nat)=>(k:Int))/\Sx w' S nv lv ov F false)
def O9(R:Fd)(f:Int)(S:Nat)(nv lv ov:Value)(w:World)(e:Ending)(w':World):Prop:=∃vo bo,e=.returned (.tuple #[vo,.bool bo])/\Hd (X4 R f S nv lv ov vo bo w w')
section
variable {w w':World} {S:Nat} {nv lv ov:Value} {f:Int} {b:Bool}
theorem Sx.fuel(h:Sx w S nv lv ov f b)(g:Int):Sx (w.setCell ⟨S,3,none⟩ (.int .i64 g)) S nv lv ov g b:=block_setCell h _
theorem Sx.outS(h:Sx w S nv lv ov f b):Sx (w.setCell ⟨S,4,none⟩ (.bool true)) S nv lv ov f true:=block_setCell h _
end
theorem ahS{R:Fd}{f:Int}{S:Nat}{nv lv ov vo:Value}{bo:Bool}{w w':World}{a b:Addr}{x y:Value}(h:X4 R f S nv lv ov vo bo w w')(ha:¬a.block=S)(hb:¬b.block=S)(hc:w.cell? ⟨S,1,none⟩=some lv/\w.cell? a=some x/\w.cell? b=some y):w'.cell? ⟨S,1,none⟩=some lv/\w'.cell? a=some x/\w'.cell? b=some y:=by
 obtain⟨hg,F,-,h⟩:=h;refine⟨?_,hg.cell hc.2.1 (fun e=>ha (Option.some.inj e)),hg.cell hc.2.2 (fun e=>hb (Option.some.inj e))⟩
 rcases h with⟨-,-,h⟩|⟨-,-,h⟩|⟨-,-,-,-,-,-,-,h⟩<;>exact h.cells.2.1
open Go.RowKit
theorem ahT{L:List Re}{ch cs:List Nat}{S:List ByteArray}(hn:(ch.map (aF L)).Nodup)(hp:S.Perm (ch.map (aF L)))(hm:cs.map (aF L)=S)(hin:∀k∈cs,k∈ch):cs.Perm ch:=by
 have hcn:(cs.map (aF L)).Nodup:=by rw[hm];exact hp.nodup_iff.2 hn
 rw[List.perm_ext_iff_of_nodup (XA hcn) (XA hn)];refine fun k=>⟨hin k,fun hk=>?_⟩
 have h1:aF L k∈cs.map (aF L):=by rw[hm];exact hp.symm.subset (List.mem_map.2 ⟨k,hk,rfl⟩)
 obtain⟨q,hq,e⟩:=List.mem_map.1 h1;rw[<-Xz hn (hin q hq) hk e];exact hq
def ahU(L:List Re)(ch:List Nat)(w:World)(e:Ending)(w':World):Prop:=∃(o:Option Addr) (c:Nat) (C:List Nat),e=.returned (.slice o C.length c)/\w.grownBy w' none/\w'.ownsRow w.heap.size 3 1 (.slice o C.length c) C.length (nI C)/\C.Perm ch/\C.Pairwise fun a b=>cT (aF L a) (aF L b)<=0
theorem ahV(lo co:Option Addr)(lc cc:Nat)(L:List Re)(ch:List Nat)(w:World)(h:ReS w (.slice lo L.length lc) L)(hc:IS w (.slice co ch.length cc) (ch.map fun(k:Nat)=>(k:Int)))(hL:L.length<=64)(hlen:ch.length<=64)(hch:∀k∈ch,k<L.length)(hone:(ch.map (aF L)).Nodup) :
  Calls prog 34 #[.slice lo L.length lc,.slice co ch.length cc] w (ahU L ch w):=by
 obtain⟨C,qF⟩:∃C:List Int,(ch.map fun(k:Nat)=>(k:Int))=C:=⟨_,rfl⟩;have Ac:C.length=ch.length:=by rw[<-qF,List.length_map]
 rw[qF]at hc;have hin:∀z∈C,0<=z/\z<(L.length:Int):=fun z hz=>by
  rw[<-qF]at hz;obtain⟨k,hk,rfl⟩:=List.mem_map.1 hz;have:=hch k hk;omega
 have hcI:∀i (hi:i<ch.length) (hi':i<C.length),C[i]=((ch[i]:Nat):Int):=fun i hi hi'=>by
  subst qF;simp
 have gq:=ae (fun w' (hg:w.grownBy w' none) i (hi:i<L.length)=>lq (h.grow hg) hi);have uP:=ae (fun w' (hg:w.grownBy w' none) i (hi:i<C.length)=>rU (o:=co) (c:=cc) (C:=C) (by rw[Ac];exact hc.grow hg) hi);have O0:=ae hcI;have CC:Hd (∀n∈ch.map (aF L),∀w',w.grownBy w' none->Calls prog 37 #[.slice lo L.length lc,.slice co ch.length cc,.string n] w' fun e w''=>∃k:Nat,e=.returned (.int .i64 (k:Int))/\w'.grownBy w'' none/\k∈ch/\aF L k=n):=fun n hn w' hg=>by
  have h1:=Jn lo co lc cc L C n w' (h.grow hg) (by rw[Ac];exact hc.grow hg) (by omega) (by omega) hin;rw[Ac]at h1;refine h1.mono ?_;rintro e w'' ⟨rfl,hg'⟩
  rcases yC L C n with⟨z,hz,he,hnm⟩|⟨-,hno⟩
  ·rw[<-qF]at hz;obtain⟨k,hk,rfl⟩:=List.mem_map.1 hz;rw[he];exact⟨k,rfl,hg',hk,by simpa using hnm⟩
  ·obtain⟨k,hk,e⟩:=List.mem_map.1 hn;exact absurd (by simpa using e) (hno (k:Int) (by rw[<-qF];exact List.mem_map.2 ⟨k,hk,rfl⟩))
 have Ad:=ae (fun i (hi:i<ch.length)=>hch _ (List.getElem_mem hi));have HST:Hd (∀i (hi:i<ch.length),(ch.take (i+1)).map (aF L)=(ch.take i).map (aF L)++[aF L ch[i]]):=fun i hi=>by
  show _=_;rw[List.take_succ_eq_append_getElem hi,List.map_append];rfl
 have oP:Hd (∀i,((ch.take i).map (aF L)).length<=64):=fun i=>by
  show _<=_;rw[List.length_map,List.length_take];omega
 have CS:=ae (fun v (M:List ByteArray) w' (h:TxS w' v M) (hM:M.length<=64)=>agr v M w' h (by omega));have HPF:=ae (fun cs S (hp:S.Perm (ch.map (aF L))) (hm:cs.map (aF L)=S) (hin:∀k∈cs,k∈ch)=>ahT hone hp hm hin);obtain⟨i0,hi0,hii⟩:=Option.map_eq_some_iff.1 FC;simp only[Prod.mk.injEq]at hii;obtain⟨hz0,hz1,hzb⟩:=hii;obtain⟨j0,hj0,hjj⟩:=Option.map_eq_some_iff.1 H7;simp only[Prod.mk.injEq]at hjj;obtain⟨hy0,hy1,hyb⟩:=hjj;obtain⟨B,hB⟩:=zN (w.heap.size);have HB:=ae hB;clear h hc hch hone hin hcI qF hB;go_enter func34,ntmps34;go_wp2;go_loopw [5,6] (fun vm vi wr=>∃(i:Nat) (R:List ByteArray),vi=.int .i64 i/\i<=ch.length/\R=(ch.take i).map (aF L)/\wr.ownsRow B 9 1 vm R.length (R.map Value.string)/\Below B w wr) (fun _ vi _=>ch.length-(intOf vi).toNat)
 case atStart=>exact⟨0,[],rfl,Nat.zero_le _,rfl,World.ownsRow_nil _ _ _ _,Below.refl _ _⟩
 case round =>
  obtain⟨i,R,rfl,hi,hRe,hown,hb⟩:=hrel;have pK:=ae hb;have hBw:=hb.size;rw[HB.o]at hBw;have hRl:=oP.o i;rw[<-hRe]at hRl;have hgw:w.grownBy wr none:=gz (by rw[HB.o];exact hb);obtain⟨wo,hwo⟩:∃wo,wo=wr:=⟨_,rfl⟩;subst hwo
  by_cases hlt:i<ch.length
  ·have uQ:i<C.length:=by omega
   obtain⟨a1,ho1,hcp1,iD⟩:=uP.o wo hgw i uQ;have f0:=iD i uQ;rw[O0.o i hlt uQ]at f0;have bK:=Ad.o i hlt;have hst:=HST.o i hlt;rw[<-hRe]at hst;obtain⟨k,hk⟩:=zN (ch[i]);rw[hk]at f0 hst;replace bK:k<L.length:=by rw[<-hk];exact bK
   obtain⟨a2,ho2,hcp2,gu⟩:=gq.o wo hgw k bK;obtain⟨q0,-⟩:=gu k bK;rw[mX L k bK]at hst;obtain⟨x,hx⟩:=zN (L[k].nm);rw[hx]at q0 hst;have HS2:=ae hst;have hic:i<cc:=by omega
   have hkc:k<lc:=by omega
   subst ho1 ho2;clear hRe hb hgw iD gu hk hx hst hcp1 hcp2;go_wp2_with (first|(at_builtin;refine wpList_append_lies _ rfl _ _ 67 rfl B 9 j0 (.string ⟨#[]⟩) 1 16 underlying67 hj0 hy0 hy1 hyb rfl (by decide) _ _ _ rfl (hown.alloc _) _ 1 1 [.string x] rfl rfl (World.news_of_block (heap_alloc_new _ _)) (EW [x]) (by decide) (by unfold maxLen;omega) (by omega) (by simp;omega) _ rfl ?_;intro g cap1 w3 hown3 hgrow iI hlt3));have HB3:Hd (Below B w w3):=(pK.o.alloc (by omega) _).grown hgrow (by simp;omega) (fun q hq=>(hown.lt q hq).1);have jl:Hd (w3.ownsRow B 9 1 (.slice (some ⟨g,0,none⟩) (R++[x]).length cap1) (R++[x]).length ((R++[x]).map Value.string)):=by
    show World.ownsRow _ _ _ _ _ _ _;rw[List.map_append,List.length_append];exact hown3
   clear hgrow hown3 iI hlt3 hown f0 q0;go_wp2;exact⟨⟨i+1,R++[x],by go_num,by omega,HS2.o.symm,by have:=jl.o;rw[List.length_append]at this ⊢;exact this,HB3.o⟩,by simp[intOf];omega⟩
  ·have X5:R=ch.map (aF L):=by rw[hRe,show i=ch.length by omega,List.take_length]
   have C1:=ae (CS.o u5 R wo (O8 hown) hRl);have bD:=ae hgw;clear hRe hb hgw hown;go_wp2_with (go_at_call 68;refine C1.o.mono ?_);rintro e w2 ⟨vs,S,rfl,hor,hp,hris,hbs⟩;have hg2:wo.grownBy w2 none:=gz hbs;have HG2:=ae (ag bD.o hg2);have HP:Hd (S.Perm (ch.map (aF L))):=by rw[<-X5];exact hp
   have HRI:=ae hris;have hSl:S.length<=64:=by rw[hp.length_eq];exact hRl
   obtain⟨os,ccs,rfl,lG⟩:=Jo hor;have HSC:=ae lG;have Ae:Hd (∀k (hk:k<S.length),S[k]∈ch.map (aF L)):=fun k hk=>HP.o.subset (List.getElem_mem _)
   have hB2:B<=w2.heap.size:=by have:=hg2.size;omega
   clear hor hp hris hbs lG hg2 X5;go_wp2;obtain⟨B2,hB2'⟩:=zN w2.heap.size;rw[hB2']at hB2;have HB2:=ae hB2';clear hB2';go_loopw [7,8] (fun vm vi wr=>∃(i:Nat) (cs:List Nat),vi=.int .i64 i/\i<=S.length/\cs.length=i/\cs.map (aF L)=S.take i/\(∀k∈cs,k∈ch)/\wr.ownsRow B2 3 1 vm cs.length (nI cs)/\Below B2 w2 wr) (fun _ vi _=>S.length-(intOf vi).toNat)
   case atStart=>exact⟨0,[],rfl,Nat.zero_le _,rfl,rfl,fun k hk=>(by cases hk),World.ownsRow_nil _ _ _ _,Below.refl _ _⟩
   case round =>
    obtain⟨i,cs,rfl,hi,hcl,hcm,hci,hown,hb⟩:=hrel;have pK:=ae hb;have hBw:=hb.size;rw[HB2.o]at hBw;have hgw:w2.grownBy wr none:=gz (by rw[HB2.o];exact hb);have wW:=ae (ag HG2.o hgw);have zB:=ae (And.intro hcm hci);have ahW:=ae hcl;have ahE:cs.length<=64:=by omega
    clear hcl;have HO:=ae hown;obtain⟨wo,hwo⟩:∃wo,wo=wr:=⟨_,rfl⟩;subst hwo
    by_cases hlt:i<S.length
    ·obtain⟨g,hg0,hcap,hck⟩:=HSC.o i hlt;have f0:=hgw.cell hck (by simp);have hn:=Ae.o i hlt;have iU:Hd (S.take (i+1)=S.take i++[S[i]]):=List.take_succ_eq_append_getElem hlt;obtain⟨x,hx⟩:=zN (S[i]);rw[hx]at f0 hn iU;have C2:=ae (CC.o x hn wo wW.o);have hic:i<ccs:=by omega
     subst hg0;clear hcm hci hown hb hgw hck hn hx;go_wp2_with (go_at_call 37;refine C2.o.mono ?_);rintro e w3 ⟨k,rfl,hg3,hkc,hkn⟩;have hown:=dV HO.o hg3;have HB3:Hd (Below B2 w2 w3):=hbelow pK.o hBw hg3;have hs3:=Nat.le_trans hBw hg3.size;have bC:Hd ((cs++[k]).map (aF L)=S.take (i+1)/\∀q∈cs++[k],q∈ch):=by
      refine⟨by rw[List.map_append,zB.o.1,iU.o,<-hkn];rfl,fun q hq=>?_⟩
      rcases List.mem_append.1 hq with hq|hq
      ·exact zB.o.2 q hq
      ·rw[List.mem_singleton.1 hq];exact hkc
     clear hg3 hkc hkn f0;go_wp2_with (first|(at_builtin;refine wpList_append_lies _ rfl _ _ 31 rfl B2 3 i0 (.int .i64 0) 1 8 underlying31 hi0 hz0 hz1 hzb rfl (by decide) _ _ _ rfl (hown.alloc _) _ 1 1 [.int .i64 (k:Int)] rfl rfl (World.news_of_block (heap_alloc_new _ _)) (F7 [k]) (by decide) (by unfold maxLen;omega) (by omega) (by simp;omega) _ rfl ?_;intro g4 cap4 w4 hown4 hgrow4 Jt hlt4));have HB4:Hd (Below B2 w2 w4):=(HB3.o.alloc hs3 _).grown hgrow4 (by simp;omega) (fun q hq=>(hown.lt q hq).1);have Ih:Hd (w4.ownsRow B2 3 1 (.slice (some ⟨g4,0,none⟩) (cs++[k]).length cap4) (cs++[k]).length (nI (cs++[k]))):=by
      show World.ownsRow _ _ _ _ _ _ _;rw[nI,List.map_append,List.length_append];exact hown4
     clear hgrow4 hown4 Jt hlt4 hown;go_wp2;exact⟨⟨i+1,cs++[k],by go_num,by omega,by have:=ahW.o;rw[List.length_append,List.length_singleton];omega,bC.o.1,bC.o.2,by have:=Ih.o;rw[List.length_append]at this ⊢;exact this,HB4.o⟩,by simp[intOf];omega⟩
    ·have hcS:cs.map (aF L)=S:=by rw[hcm,show i=S.length by omega,List.take_length]
     have HPM:=ae (HPF.o cs S HP.o hcS hci);have MV:Hd (cs.Pairwise fun a b=>cT (aF L a) (aF L b)<=0):=by
      have:=HRI.o;unfold sV at this;rw[<-hcS,List.pairwise_map]at this;exact this
     obtain⟨oo,co',rfl⟩:=mY hown;have HOE:Hd (wo.ownsRow w.heap.size 3 1 (.slice oo cs.length co') cs.length (nI cs)):=by
      rw[HB.o];refine⟨hown.1,?_⟩
      rcases hown.2 with h|⟨g,cap,cur,h1,h2,h3⟩
      ·exact Or.inl h
      ·exact Or.inr ⟨g,cap,cur,h1,Nat.le_trans hB2 h2,h3⟩
     clear hcm hci hown hb hgw hcS;go_wp2;go_ret;exact⟨oo,co',cs,rfl,wW.o,HOE.o,HPM.o,MV.o⟩
end Go.Proofs.YtiinliaoojfjaaaGreatDoor
