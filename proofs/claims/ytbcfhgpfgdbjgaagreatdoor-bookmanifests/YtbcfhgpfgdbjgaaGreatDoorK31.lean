import Derived.Test.YtbcfhgpfgdbjgaaGreatDoorK27
import Derived.Test.YtbcfhgpfgdbjgaaGreatDoorK29
set_option linter.all false
set_option maxRecDepth 100000
set_option maxHeartbeats 0
open Go.Proofs.Tryz
namespace Go.Proofs.YtbcfhgpfgdbjgaaGreatDoor
open Go.RowKit Go.Maps Go.WideMaps Go.Joins
variable{z:Int}{ns:List Tn}{xs:List Value}{B N T Z b c g k n q s:Nat}{X t:TypeId}{a v x y:Value}{w w' w0 w1:World}
def Kt(t:TypeId)(w w':World):Prop:=∀(b:Nat) (cs:Array Value) (fz:Nat × Nat),w.heap[b]?=some (.cells cs t fz)->w'.heap[b]?=w.heap[b]?
theorem gI(hg:w.grownBy w' none):Kt t w w':=fun b cs fz hb=>hg.block b (aG hb) (by simp)
theorem aai{c:Array Value}{fz:Nat × Nat}(hg:w.grownBy w' (some g))(hX:w.heap[g]?=some (.cells c X fz))(hne:¬t=X):Kt t w w':=fun b cs fz' hb=>hg.block b (aG hb) (by
 simp only[ne_eq,Option.some.injEq];exact aZ hb hX hne)
theorem aaj(hr:w.ownsRow B X s v n xs)(hg:w.grownBy w' v.ownBlock)(hne:¬t=X):Kt t w w':=fun b cs fz hb=>hg.block b (aG hb) (fun e=>by
 obtain⟨-,cur,hc⟩:=dO hr e.symm;exact aZ hb hc hne rfl)
theorem oH{o:Nat}{c:Array Value}{fz:Nat × Nat}(v:Value)(hX:w.heap[g]?=some (.cells c X fz))(hne:¬t=X):Kt t w (w.setCell ⟨g,o,none⟩ v):=aai (fO w g o v) hX hne
theorem Kt.two{a b c:World}(h:Kt t a b)(h':Kt t b c):Kt t a c:=fun x cs fz hx=>(h' x cs fz ((h x cs fz hx).trans hx)).trans (h x cs fz hx)
theorem Kt.blk(h:Kt t w w'){cs:Array Value}{fz:Nat × Nat}(hb:w.heap[b]?=some (.cells cs t fz)):w'.heap[b]?=some (.cells cs t fz):=(h b cs fz hb).trans hb
theorem Kt.row(h:Kt t w w')(hr:w.ownsRow B t s v n xs):w'.ownsRow B t s v n xs:=bY hr fun g cur _ hc=>h g cur _ hc
theorem qC{u u':World}(h:w.grownBy u none)(hg:u.grownBy u' (some b))(hb:w.heap.size<=b):w.grownBy u' none :=
 ⟨hg.os.trans h.os,hg.tape.trans h.tape,hg.output.trans h.output,Nat.le_trans h.size hg.size,fun k hk _=>(hg.block k (Nat.lt_of_lt_of_le hk h.size) (by simp;omega)).trans (h.block k hk (by simp))⟩
theorem aak(w:World)(o:Obj):w.grownBy (w.drew.alloc o) none:=by
 have:=World.grownBy_alloc w.drew o none;exact⟨this.os,this.tape,this.output,this.size,this.block⟩
def fC(x:Tn)(k:Value):Array Value:=#[.int .i64 x.kd,.string ⟨x.ky.toArray⟩,.string ⟨x.tx.toArray⟩,.int .i64 x.nu,k,.int .i64 (x.pl:Nat)]
structure Nz(w0:World)(N c:Nat)(kv:Nat->Value)(ns:List Tn):Prop where
 cel:∀i (hi:i<ns.length),w0.cell? ⟨N,i*6,none⟩=some (.int .i64 ns[i].kd)/\w0.cell? ⟨N,i*6+1,none⟩=some (.string ⟨ns[i].ky.toArray⟩)/\w0.cell? ⟨N,i*6+2,none⟩=some (.string ⟨ns[i].tx.toArray⟩)/\w0.cell? ⟨N,i*6+3,none⟩=some (.int .i64 ns[i].nu)/\w0.cell? ⟨N,i*6+4,none⟩=some (kv i)/\w0.cell? ⟨N,i*6+5,none⟩=some (.int .i64 (ns[i].pl:Nat))
 kid:∀i (hi:i<ns.length),NuS w0 (kv i) ns[i].ks
 num:∀i (hi:i<ns.length),ns[i].ks.length<=1000000
 len:ns.length<=1000000
 tv:∃S,Tv 100000 ns S
 cap:ns.length<=c
theorem ajM{now M:Nat}{ks:Nat->Value}{f:Nat->List UInt8->Option (Nat × Bool)}(h:TrD w B T ns now N c M xs ks n f)(l:List UInt8)(hl:lJ l=.ok ns):Nz w N c ks ns:=by
 obtain⟨tv,own,wf,hn⟩:=Rl l ns hl;refine⟨fun i hi=>?_,fun i hi=>NuS.of (h.kid i hi),fun i hi=>QY hl i hi,by omega,⟨_,tv⟩,?_⟩
 ·obtain⟨h0,h1,h2,h3,h4,h5,-⟩:=h.node i hi;exact⟨h0,h1,h2,h3,h4,h5⟩
 ·rcases h.row.2 with⟨e1,_⟩|⟨g,cap,cu,e1,hb,hgg,hn',hm,hs,ht⟩
  ·cases e1
  ·cases e1;exact hn'
theorem Nz.rng{kv:Nat->Value}(h:Nz w0 N c kv ns)(i:Nat)(hi:i<ns.length):∀q∈ns[i].ks,q<ns.length:=fun q hq=>by
 obtain⟨S,T⟩:=h.tv;exact T.lt i q (by unfold aA;rw[List.getElem?_eq_getElem hi];exact hq)
def qE(B:Nat):Option Bool->Value
 |none=>.nilFunc
 |some true=>.func (.func 21) #[] #[.pointer (some ⟨B+2,0,none⟩),.pointer (some ⟨B,0,none⟩),.pointer (some ⟨B+4,0,none⟩)]
 |some false=>.func (.func 33) #[] #[.pointer (some ⟨B+3,0,none⟩)]
structure Mm(w0:World)(T B Lb:Nat)(nv:Value)(n:Nat)(lk:Nat->Option Bool)(m:Mn)(w:World)(vn:Value):Prop where
 gb:w0.grownBy w none
 tre:w.heap[T]?=some (.cells #[nv,.slice (some ⟨Lb,0,none⟩) n n] 81 (0,0))
 man:w.heap[B+2]?=some (.cells #[.string m.nm,.string m.ve,vn] 24 (0,0))
 rz:w.heap[B+1]?=some (.cells #[.string ⟨#[]⟩,.string ⟨#[]⟩,.slice none 0 0] 24 (0,0))
 bt:w.heap[B]?=some (.cells #[.pointer (some ⟨T,0,none⟩)] 56 (0,0))
 bm:w.heap[B+3]?=some (.cells #[.pointer (some ⟨B+2,0,none⟩)] 61 (0,0))
 bn:w.heap[B+4]?=some (.cells #[qE B (some false)] 59 (0,0))
 lok:∃cs:Array Value,w.heap[Lb]?=some (.cells cs 59 (0,0))/\cs.size=n/\∀q (hq:q<cs.size),cs[q]=qE B (lk q)
 row:w.ownsRow w0.heap.size 35 2 vn m.nd.length (m.nd.flatMap kF)
 bL:w0.heap.size<=Lb
 hL:Lb<B
section
variable {w0:World} {T B Lb n:Nat} {nv:Value} {lk:Nat->Option Bool} {m m':Mn} {w w':World} {vn vn':Value}
theorem Mm.next(h:Mm w0 T B Lb nv n lk m w vn)(hg:w0.grownBy w' none)(k:∀t,¬t=35->¬t=24->Kt t w w')(hm:w'.heap[B+2]?=some (.cells #[.string m'.nm,.string m'.ve,vn'] 24 (0,0)))(hr:w'.ownsRow w0.heap.size 35 2 vn' m'.nd.length (m'.nd.flatMap kF))(hz:w'.heap[B+1]?=w.heap[B+1]?):Mm w0 T B Lb nv n lk m' w' vn':=by
 obtain⟨cs,h1,h2,h3⟩:=h.lok;have kl:=k 59 (by decide) (by decide);exact⟨hg,(k _ (by decide) (by decide)).blk h.tre,hm,hz.trans h.rz,(k _ (by decide) (by decide)).blk h.bt,(k _ (by decide) (by decide)).blk h.bm,kl.blk h.bn,⟨cs,kl.blk h1,h2,h3⟩,hr,h.bL,h.hL⟩
theorem Mm.grow(h:Mm w0 T B Lb nv n lk m w vn)(hg:w.grownBy w' none):Mm w0 T B Lb nv n lk m w' vn:=h.next (ak h.gb hg) (fun _ _ _=>gI hg) ((gI hg).blk h.man) ((gI hg).row h.row) (gI hg _ _ _ h.rz)
theorem Mm.lB(h:Mm w0 T B Lb nv n lk m w vn):w0.heap.size<=B+2:=by have:=h.bL;have:=h.hL;omega
theorem Mm.put(h:Mm w0 T B Lb nv n lk m w vn)(o:Nat)(v:Value)(hcs:(#[.string m.nm,.string m.ve,vn]:Array Value).setIfInBounds o v=#[.string m'.nm,.string m'.ve,vn])(hnd:m'.nd=m.nd):Mm w0 T B Lb nv n lk m' (w.setCell ⟨B+2,o,none⟩ v) vn:=by
 refine h.next (qC h.gb (fO w _ o v) h.lB) (fun t _ ht=>oH v h.man ht) ?_ ?_ ((fO w _ o v).block _ (aG h.rz) (by simp))
 ·have:=block_setCell (i:=o) h.man v
  rwa [hcs]at this
 ·rw[hnd];exact(oH v h.man (by decide)).row h.row
theorem Mm.push(h:Mm w0 T B Lb nv n lk m w vn){w3:World}{v':Value}{x:Nd}{o:Obj}(hk:m.nd.length=k)(hown:w3.ownsRow w0.heap.size 35 2 v' (k+1) (m.nd.flatMap kF++[.string x.n,.string x.r]))(hgrow:(w.drew.alloc o).grownBy w3 vn.ownBlock):Mm w0 T B Lb nv n lk ⟨m.nm,m.ve,m.nd++[x]⟩ (w3.setCell ⟨B+2,2,none⟩ v') v':=by
 have hd:=aak w o;have hr:=(gI hd).row h.row;have k3:∀t,¬t=35->Kt t w w3:=fun t ht=>(gI hd).two (aaj hr hgrow ht)
 have uK:=(k3 _ (by decide)).blk h.man;have hg3:w0.grownBy w3 none:=by
  have h3:=ak h.gb hd
  cases hb:vn.ownBlock with
  |none=>rw[hb]at hgrow;exact ak h3 hgrow
  |some b=>rw[hb]at hgrow;exact qC h3 hgrow (dO h.row hb).1
 refine h.next (qC hg3 (fO w3 _ 2 v') h.lB) (fun t h1 h2=>(k3 t h1).two (oH v' uK h2)) (block_setCell (i:=2) uK v') ?_ (((fO w3 _ 2 v').block _ (aG ((k3 _ (by decide)).blk h.rz)) (by simp)).trans (k3 _ (by decide) _ _ _ h.rz));have:=(oH (o:=2) v' uK (by decide)).row hown;simp only[List.length_append,List.length_cons,List.length_nil,List.flatMap_append,List.flatMap_cons,List.flatMap_nil,List.append_nil,hk];exact this
theorem Mm.look(h:Mm w0 T B Lb nv n lk m w vn)(q:Nat)(hq:q<n)(b:Bool):Mm w0 T B Lb nv n (fun p=>if p=q then some b else lk p) m (w.setCell ⟨Lb,q,none⟩ (qE B (some b))) vn:=by
 obtain⟨cs,h1,h2,h3⟩:=h.lok;have hL:=h.hL;have k:∀t,¬t=59->Kt t w (w.setCell ⟨Lb,q,none⟩ (qE B (some b))):=fun t ht=>oH _ h1 ht
 refine⟨qC h.gb (fO w Lb q _) h.bL,(k _ (by decide)).blk h.tre,(k _ (by decide)).blk h.man,(k _ (by decide)).blk h.rz,(k _ (by decide)).blk h.bt,(k _ (by decide)).blk h.bm,((fO w Lb q _).block _ (aG h.bn) (by simp;omega)).trans h.bn,⟨cs.setIfInBounds q (qE B (some b)),block_setCell h1 _,by simpa using h2,fun p hp=>?_⟩,(k _ (by decide)).row h.row,h.bL,h.hL⟩;have hp':p<cs.size:=by simpa using hp
 show _=qE B (if p=q then some b else lk p)
 by_cases e:p=q
 ·subst e;rw[if_pos rfl,Array.getElem_setIfInBounds_self]
 ·rw[if_neg e,Array.getElem_setIfInBounds_ne hp' (fun h=>e h.symm)];exact h3 p hp'
theorem Mm.lcell(h:Mm w0 T B Lb nv n lk m w vn)(hq:q<n):w.cell? ⟨Lb,q,none⟩=some (qE B (lk q))/\w.frozen? ⟨Lb,q,none⟩=false:=by
 obtain⟨cs,h1,h2,h3⟩:=h.lok;refine⟨?_,Lib.frozen_of_heap h1 q⟩;rw[aj h1,<-h3 q (by omega)];exact Array.getElem?_eq_getElem (by omega)
theorem Mm.tcell(h:Mm w0 T B Lb nv n lk m w vn):w.cell? ⟨T,0,none⟩=some nv/\w.cell? ⟨T,1,none⟩=some (.slice (some ⟨Lb,0,none⟩) n n)/\w.cell? ⟨B,0,none⟩=some (.pointer (some ⟨T,0,none⟩))/\w.cell? ⟨B+3,0,none⟩=some (.pointer (some ⟨B+2,0,none⟩))/\w.cell? ⟨B+4,0,none⟩=some (qE B (some false)) :=
 ⟨by rw[aj h.tre];rfl,by rw[aj h.tre];rfl,by rw[aj h.bt];rfl,by rw[aj h.bm];rfl,by rw[aj h.bn];rfl⟩
theorem Mm.mcell(h:Mm w0 T B Lb nv n lk m w vn):w.cell? ⟨B+2,0,none⟩=some (.string m.nm)/\w.cell? ⟨B+2,1,none⟩=some (.string m.ve)/\w.cell? ⟨B+2,2,none⟩=some vn/\w.frozen? ⟨B+2,2,none⟩=false :=
 ⟨by rw[aj h.man];rfl,by rw[aj h.man];rfl,by rw[aj h.man];rfl,Lib.frozen_of_heap h.man 2⟩
def tV(lk:Nat->Option Bool)(ks:List Nat)(b:Bool):Nat->Option Bool:=fun p=>if p∈ks then some b else lk p
theorem ajN(lk:Nat->Option Bool)(ks:List Nat)(b:Bool)(i:Nat)(hi:i<ks.length):tV lk (ks.take (i+1)) b=fun p=>if p=ks[i] then some b else tV lk (ks.take i) b p:=by
 unfold tV;funext p;rw[List.take_succ_eq_append_getElem hi];simp only[List.mem_append,List.mem_singleton]
 by_cases h1:p=ks[i]
 ·rw[if_pos (Or.inr h1),if_pos h1]
 ·by_cases h2:p∈ks.take i
  ·rw[if_pos (Or.inl h2),if_neg h1,if_pos h2]
  ·rw[if_neg (by rintro(h|h);exact h2 h;exact h1 h),if_neg h1,if_neg h2]
theorem keep_any(h:Mm w0 T B Lb nv n lk m w vn)(x:Tn)(k:Value)(hk:NuS w0 k x.ks)(hr:∀q∈x.ks,q<n)(hl:x.ks.length<=1000000)(F:Nat)(cp:Array Value)(b:Bool)(hv:qE B (some b)=.func (.func F) #[] cp) :
  Calls prog 19 #[.pointer (some ⟨T,0,none⟩),.agg (fC x k),.func (.func F) #[] cp] w fun e w'=>e=.returned (.tuple #[])/\Mm w0 T B Lb nv n (tV lk x.ks b) m w' vn:=by
 obtain⟨o,c,rfl,HK⟩:=hk;have HKh:=ae HK;have HR:=ae hr;have HV:=ae hv;have HD:=ae h;obtain⟨l,hm⟩:=zN x.ks.length;have HM:=ae hm;unfold fC;rw[hm]at hl ⊢;have hst:=fun(w:World) a m=>run_store prog w a (.func (.func F) #[] cp) m rfl
 clear HK hr hv h hm;go_enter func19,ntmps19;go_wp2;obtain⟨W,hW⟩:=zN (w.alloc (.cells #[.int .i64 x.kd,.string ⟨x.ky.toArray⟩,.string ⟨x.tx.toArray⟩,.int .i64 x.nu,.slice o l c,.int .i64 (x.pl:Nat)] 63));have HW:=ae (hW ▸ aH (ax w none) _)
 try rw[hW]
 clear hW;go_loopw [11] (fun vi wr=>∃i:Nat,vi=.int .i64 (i:Nat)/\i<=l/\Mm w0 T B Lb nv n (tV lk (x.ks.take i) b) m wr vn) (fun vi _=>l-(intOf vi).toNat)
 case atStart=>
  refine⟨0,rfl,by omega,?_⟩;have:tV lk (x.ks.take 0) b=lk:=by unfold tV;simp
  rw[this];exact HD.o.grow HW.o
 case round=>
  obtain⟨i,rfl,hi,hd⟩:=hrel;have rF:=ae hd;obtain⟨-,c1,-⟩:=hd.tcell
  by_cases hlt:i<l
  ·have hin:i<x.ks.length:=by rw[HM.o];exact hlt
   obtain⟨g,rfl,hc0⟩:=HKh.o i hin;have hc:=hd.gb.cell hc0 (by simp);have jH:=HR.o _ (List.getElem_mem hin);obtain⟨hlc,hfz⟩:=hd.lcell jH;have HL:Hd (Mm w0 T B Lb nv n (tV lk (x.ks.take (i+1)) b) m (wr.setCell ⟨Lb,x.ks[i],none⟩ (.func (.func F) #[] cp)) vn):=by
    rw[ajN lk x.ks b i hin,<-HV.o];exact hd.look _ jH b
   obtain⟨q,hq⟩:=zN (x.ks[i]);rw[hq]at hc hlc hfz HL jH;have hqi:((q:Int)<0)=False:=by simp
   clear hd hq;go_wp2;exact⟨⟨i+1,by go_num,by omega,HL.o⟩,by simp[intOf];omega⟩
  ·have him:i=l:=by omega
   have HF:Hd (Mm w0 T B Lb nv n (tV lk x.ks b) m wr vn):=by
    have:=rF.o;rw[him,<-HM.o,List.take_length]at this;exact this
   clear hd;go_wp2;exact bodyPost_end (results_none rfl _ _ _) rfl ⟨rfl,HF.o⟩
end
theorem ajO:(prog.info? 59).map (fun i=>(i.zero,i.size,i.bytes))=some (some .nilFunc,1,8):=by kernel_rfl
theorem ajP(n:Nat)(hn:n<=1048576)(W:World):(Instr.makeSlice 79 (.int .i64 (n:Int)) (.int .i64 (n:Int))).run prog W=.ok (.slice (some ⟨W.heap.size,0,none⟩) n n) (W.alloc (.cells (Array.replicate n .nilFunc) 59)):=by
 obtain⟨i0,hi0,hii⟩:=Option.map_eq_some_iff.1 ajO;simp only[Prod.mk.injEq]at hii;obtain⟨hz0,hz1,hzb⟩:=hii;have:=run_make W 79 59 i0 .nilFunc underlying79 hi0 hz0 .i64 .i64 (n:Int) (n:Int) (by omega) (Int.le_refl _) (by rw[hzb];omega) (by omega);rw[this,hz1];have e:((n:Int)).toNat=n:=by omega
 rw[e,Nat.mul_one];have e2:madeCells (Value.nilFunc).cells n=Array.replicate n .nilFunc:=by
  show madeCells #[Value.nilFunc] n=_;unfold madeCells;apply Array.ext';simp;apply List.ext_getElem?;intro i;simp
  by_cases h:i<n
  ·simp[h,Nat.mod_one]
  ·simp[h]
 rw[e2]
theorem ajQ(N c n:Nat)(w:World)(hn:n<=1048576) :
  Calls prog 17 #[.slice (some ⟨N,0,none⟩) n c] w fun e w'=>e=.returned (.pointer (some ⟨w.heap.size+1,0,none⟩))/\w'=(w.alloc (.cells (Array.replicate n .nilFunc) 59)).alloc (.cells #[.slice (some ⟨N,0,none⟩) n c,.slice (some ⟨w.heap.size,0,none⟩) n n] 81):=by
 have hmk:=ajP n hn w;go_enter func17,ntmps17;go_wp2;go_ret;exact⟨rfl,rfl⟩
def yY(x:Tn)(is:ByteArray->Bool)(a:Addr)(w:World)(e:Ending)(w':World):Prop:=e=.returned (.int .i64 (takeD x is))/\(¬takeD x is=0->w.grownBy w' none)/\(takeD x is=0->∃w1,w.grownBy w1 none/\w'=w1.setCell a (.string (dB x)))
theorem ajR{x:Tn}{is:ByteArray->Bool}{a:Addr}(h3:x.kd=3)(hi:is (dB x)=true)(hg:w.grownBy w1 none):yY x is a w (.returned (.int .i64 0)) (w1.setCell a (.string (dB x))):=by
 have:takeD x is=0:=by unfold takeD;rw[if_neg (by simpa using h3),if_pos hi]
 unfold yY;rw[this];exact⟨rfl,fun h=>absurd rfl h,fun _=>⟨w1,hg,rfl⟩⟩
theorem aal{x:Tn}{is:ByteArray->Bool}{a:Addr}(hz:¬z=0)(h:takeD x is=z)(hg:w.grownBy w1 none):yY x is a w (.returned (.int .i64 z)) w1:=by
 unfold yY;rw[h];exact⟨rfl,fun _=>hg,fun h=>absurd h hz⟩
theorem aam(x:Tn)(o:Option Addr)(m c F g k:Nat)(is:ByteArray->Bool)(w:World)(eF:∀args w,(callFunc F args).run prog w=.ok (.enter F args) w)(CF:∀w',Calls prog F #[.string (dB x)] w' fun e w''=>e=.returned (.bool (is (dB x)))/\w'.grownBy w'' none)(cs:Array Value)(t:TypeId)(hgb:w.heap[g]?=some (.cells cs t (0,0)))(v0:Value)(hk:cs[k]?=some v0) :
  Calls prog 22 #[.agg (fC x (.slice o m c)),.func (.func F) #[] #[],.pointer (some ⟨g,k,none⟩)] w (yY x is ⟨g,k,none⟩ w):=by
 obtain⟨ok,hok⟩:=zN (is (dB x));obtain⟨tB,LP⟩:∃t:ByteArray,dB x=t:=⟨_,rfl⟩;obtain⟨kd,hkd⟩:=zN x.kd;obtain⟨ky,hky⟩:=zN x.ky;obtain⟨nu,hnu⟩:=zN x.nu;obtain⟨pl,hpl⟩:=zN x.pl;have H3:Hd (∀w1,w.grownBy w1 none->(¬kd=3->yY x is ⟨g,k,none⟩ w (.returned (.int .i64 7)) w1)/\(kd=3->ok=false->yY x is ⟨g,k,none⟩ w (.returned (.int .i64 2)) w1)/\(kd=3->ok=true->yY x is ⟨g,k,none⟩ w (.returned (.int .i64 0)) (w1.setCell ⟨g,k,none⟩ (.string tB)))):=fun w1 hg=>by
  subst LP hkd;refine⟨fun h3=>aal (by decide) (by unfold takeD;rw[if_pos h3]) hg,fun h3 hb=>aal (by decide) ?_ hg,fun h3 hb=>ajR h3 (hok.trans hb) hg⟩;unfold takeD;rw[if_neg (by simpa using h3),if_neg (by rw[hok,hb];decide)]
 rw[hok,LP]at CF;unfold fC;rw[show(⟨x.tx.toArray⟩:ByteArray)=tB from LP,hkd,hky,hnu,hpl];have CFh:=ae CF;obtain⟨W,hW⟩:=zN (w.alloc (.cells #[.int .i64 kd,.string ⟨ky.toArray⟩,.string tB,.int .i64 nu,.slice o m c,.int .i64 (pl:Nat)] 63));have HG:=ae (hW ▸ aH (ax w none) _);have hB:W.heap[w.heap.size]?=some (.cells #[.int .i64 kd,.string ⟨ky.toArray⟩,.string tB,.int .i64 nu,.slice o m c,.int .i64 (pl:Nat)] 63 (0,0)):=by rw[<-hW];exact heap_alloc_new _ _
 have c0:W.cell? ⟨w.heap.size,0,none⟩=some (.int .i64 kd):=by rw[aj hB];rfl
 have c2:W.cell? ⟨w.heap.size,2,none⟩=some (.string tB):=by rw[aj hB];rfl
 have aW:=ae ((gI HG.o).blk hgb);clear hB CF LP hgb hok hkd hky hnu hpl
 by_cases h3:kd=3
 ·subst h3;go_enter func22,ntmps22;go_wp2_with (first|(refine(CFh.o _).mono ?_));rintro e w2 rfl hg2;have c22:=hg2.cell c2 (by simp);have RX:=(gI hg2).blk aW.o;have hc2:w2.cell? ⟨g,k,none⟩=some v0:=by rw[aj RX];exact hk
  have hf2:=Lib.frozen_of_heap RX k;have HT:=ae (H3.o w2 (ak HG.o hg2)).2;clear RX hg2
  cases ok with
  |true=>
   go_wp2;go_ret;exact HT.o.2 (by first|rfl|trivial) (by first|rfl|trivial)
  |false=>
   go_wp2;go_ret;exact HT.o.1 (by first|rfl|trivial) (by first|rfl|trivial)
 ·have hb:(kd != 3)=true:=by simpa using h3
  have HT:=ae ((H3.o W HG.o).1 h3);go_enter func22,ntmps22;go_wp2;go_ret;exact HT.o
theorem ajS{kv:Nat->Value}(N c:Nat)(lv:Value)(hn:ns.length=n)(ht:w.heap[T]?=some (.cells #[.slice (some ⟨N,0,none⟩) n c,lv] 81 (0,0)))(hg:w0.grownBy w none)(H:Nz w0 N c kv ns)(x:Tn)(hx:ns[0]?=some x) :
  Calls prog 20 #[.pointer (some ⟨T,0,none⟩)] w fun e w'=>e=.returned (.agg (fC x (kv 0)))/\w.grownBy w' none:=by
 obtain⟨hp,hx0⟩:=List.getElem?_eq_some_iff.1 hx;obtain⟨c0,c1,c2,c3,c4,c5⟩:=H.cel 0 hp;obtain⟨o4,m4,hk4,-⟩:=H.kid 0 hp;rw[hx0]at c0 c1 c2 c3 c5 hk4;rw[hk4]at c4 ⊢;obtain⟨kd,ky,tx,nu,ks,pl⟩:=x;unfold fC;simp only[]at c0 c1 c2 c3 c4 c5 ⊢;have t0:w.cell? ⟨T,0,none⟩=some (.slice (some ⟨N,0,none⟩) n c):=by rw[aj ht];rfl
 rw[hn]at hp;have HW:Hd (w.grownBy (w.alloc (.cells #[.int .i64 0,.string ⟨#[]⟩,.string ⟨#[]⟩,.int .i64 0,.slice none 0 0,.int .i64 0] 63)) none):=aH (ax w none) _;have fH:=ak hg HW.o;have d0:=fH.cell c0 (by simp);have d1:=fH.cell c1 (by simp);have d2:=fH.cell c2 (by simp);have d3:=fH.cell c3 (by simp);have d4:=fH.cell c4 (by simp);have d5:=fH.cell c5 (by simp);have tW:=HW.o.cell t0 (by simp);clear c0 c1 c2 c3 c4 c5 H hx hx0 hk4 hn fH t0 ht hg;have hlt:(0:Int)<(n:Int):=by omega
 go_enter func20,ntmps20;go_wp2;refine bodyPost_ret (results_cell_row rfl _ _ w.heap.size 63 #[.int .i64 kd,.string ⟨ky.toArray⟩,.string ⟨tx.toArray⟩,.int .i64 nu,.slice o4 ks.length m4,.int .i64 (pl:Nat)] (0,0) _ rfl ?_ underlying63 rfl (by kernel_rfl)) rfl ⟨rfl,aH (ax w none) _⟩;exact heap_alloc_new _ _
theorem pz{b c z:Value}(h:w.heap[Z]?=some (.cells #[a,b,c] t (0,0))):(((w.setCell ⟨Z,0,none⟩ x).setCell ⟨Z,1,none⟩ y).setCell ⟨Z,2,none⟩ z).heap[Z]?=some (.cells #[x,y,z] t (0,0)):=block_setCell (i:=2) (block_setCell (i:=1) (block_setCell (i:=0) h x) y) z
theorem rG(h:w0.grownBy w none)(hZ:w0.heap.size<=Z)(x y z:Value):w0.grownBy (((w.setCell ⟨Z,0,none⟩ x).setCell ⟨Z,1,none⟩ y).setCell ⟨Z,2,none⟩ z) none:=qC (qC (qC h (fO w Z 0 x) hZ) (fO _ Z 1 y) hZ) (fO _ Z 2 z) hZ
theorem LQ{u:TypeId}{c d z:Value}(hne:¬u=t)(h:w.heap[Z]?=some (.cells #[a,c,d] t (0,0)))(hr:w.ownsRow b u s v n xs):(((w.setCell ⟨Z,0,none⟩ x).setCell ⟨Z,1,none⟩ y).setCell ⟨Z,2,none⟩ z).ownsRow b u s v n xs :=
 have h1:=block_setCell (i:=0) h x;have h2:=block_setCell (i:=1) h1 y
 (oH z h2 hne).row ((oH y h1 hne).row ((oH x h hne).row hr))
def rM:Rs Mn->Mn
 | .ok m=>m
 | .error _=>⟨⟨#[]⟩,⟨#[]⟩,[]⟩
def rZ:Rs Mn->Int
 | .ok _=>0
 | .error c=>c.1
def rP:Rs Mn->Nat
 | .ok _=>0
 | .error c=>c.2
def Hr(t:TypeId)(w:World)(r:Rs Mn)(e:Ending)(w':World):Prop :=
 ∃v,e=.returned (.tuple #[.agg #[.string (rM r).nm,.string (rM r).ve,v],.int .i64 (rZ r),.int .i64 (rP r:Nat)])/\w.grownBy w' none/\w'.ownsRow w.heap.size t 2 v (rM r).nd.length ((rM r).nd.flatMap kF)
theorem AA{r:Rs Mn}{p:Nat}(h:r=.error (z,p))(hg:w.grownBy w' none):Hr t w r (.returned (.tuple #[.agg #[.string ⟨#[]⟩,.string ⟨#[]⟩,.slice none 0 0],.int .i64 z,.int .i64 (p:Nat)])) w':=by
 subst h;exact⟨_,rfl,hg,World.ownsRow_nil _ _ _ _⟩
theorem LU{B':Nat}(hB:B'<=B)(h:w.ownsRow B X k v n xs):w.ownsRow B' X k v n xs:=⟨h.1,h.2.imp id fun⟨g,cap,cu,e1,hb,r⟩=>⟨g,cap,cu,e1,by omega,r⟩⟩
open Go.RowKit Go.Maps Go.WideMaps Go.Joins
theorem egN:∀args w,(callFunc 23 args).run prog w=.ok (.enter 23 args) w:=enters_of func23 (by kernel_rfl) rfl
theorem egV:∀args w,(callFunc 24 args).run prog w=.ok (.enter 24 args) w:=enters_of func24 (by kernel_rfl) rfl
theorem egR:∀args w,(callFunc 34 args).run prog w=.ok (.enter 34 args) w:=enters_of func34 (by kernel_rfl) rfl
def lH(is:ByteArray->Bool)(F:Nat):Prop:=∀(s:ByteArray) (w:World),s.size<2 ^ 60->Calls prog F #[.string s] w fun e w'=>e=.returned (.bool (is s))/\w.grownBy w' none
def yZ(w0:World)(T B Lb:Nat)(nv:Value)(n:Nat)(lk:Nat->Option Bool)(m:Mn)(z:Int)(w:World)(e:Ending)(w':World):Prop :=
 e=.returned (.int .i64 z)/\(z=0->∃vn,Mm w0 T B Lb nv n lk m w' vn)/\(¬z=0->w.grownBy w' none)
theorem ajT{ky k:List UInt8}{KY:ByteArray}(h:(⟨ky.toArray⟩:ByteArray)=KY):(ky=k->(KY.toList == k)=true)/\(¬ky=k->(KY.toList == k)=false):=by
 subst h;have e:(⟨ky.toArray⟩:ByteArray).toList=ky:=by rw[ByteArray.toList_eq]
 rw[e];exact⟨fun h=>by rw[h];simp,fun h=>by simpa using h⟩
section
variable {w0:World} {T B Lb n:Nat} {nv:Value} {lk lk':Nat->Option Bool} {m m':Mn} {w w':World} {vn:Value}
theorem aan(h:Mm w0 T B Lb nv n lk m w vn)(x:Tn)(o:Option Addr)(l c F k:Nat)(is:ByteArray->Bool)(eF:∀args w,(callFunc F args).run prog w=.ok (.enter F args) w)(CF:lH is F)(htx:x.tx.length<=100000)(v0:Value)(hk:(#[.string m.nm,.string m.ve,vn]:Array Value)[k]?=some v0)(hcs:(#[.string m.nm,.string m.ve,vn]:Array Value).setIfInBounds k (.string (dB x))=#[.string m'.nm,.string m'.ve,vn])(hnd:m'.nd=m.nd)(u:World)(hu:u.grownBy w none) :
  Calls prog 22 #[.agg (fC x (.slice o l c)),.func (.func F) #[] #[],.pointer (some ⟨B+2,k,none⟩)] w fun e w'=>e=.returned (.int .i64 (takeD x is))/\Hd (yZ w0 T B Lb nv n lk m' (takeD x is) u e w'):=by
 have hs:(dB x).size<2 ^ 60:=by
  show x.tx.toArray.size < _;rw[List.size_toArray];omega
 refine(aam x o l c F (B+2) k is w eF (fun w'=>CF _ w' hs) _ _ h.man v0 hk).mono fun e w' hh=>⟨hh.1,hh.1,fun hz=>?_,fun hz=>ak hu (hh.2.1 hz)⟩
 obtain⟨w1,hg,rfl⟩:=hh.2.2 hz;exact⟨vn,(h.grow hg).put k _ hcs hnd⟩
theorem ajU(CV:lH okV 24)(h:Mm w0 T B Lb nv n lk m w vn)(x:Tn)(k:Value)(hk:NuS w0 k x.ks)(hr:∀q∈x.ks,q<n)(hl:x.ks.length<=1000000)(htx:x.tx.length<=100000)(h1:x.ky=ig->m'=⟨dB x,m.ve,m.nd⟩/\lk'=lk)(h2:x.ky=iG->m'=⟨m.nm,dB x,m.nd⟩/\lk'=lk)(h3:x.ky=jE->x.kd=0->m'=m/\lk'=tV lk x.ks false) :
  Calls prog 21 #[.agg (fC x k),.pointer (some ⟨B+2,0,none⟩),.pointer (some ⟨B,0,none⟩),.pointer (some ⟨B+4,0,none⟩)] w (yZ w0 T B Lb nv n lk' m' (nI x) w):=by
 have HKS:=ae hk;obtain⟨o,c,rfl,-⟩:=hk;obtain⟨bx,hbx⟩:=zN (w.heap.size);obtain⟨W,hW⟩:=zN (w.alloc (.cells (fC x (.slice o x.ks.length c)) 63));have HG:=ae (hW ▸ aH (ax w none) _);have HD:=ae (h.grow HG.o);have hB:W.heap[bx]?=some (.cells (fC x (.slice o x.ks.length c)) 63 (0,0)):=by rw[<-hW,<-hbx];exact heap_alloc_new _ _
 have nD:x.ky=ig->Calls prog 22 #[.agg (fC x (.slice o x.ks.length c)),.func (.func 23) #[] #[],.pointer (some ⟨B+2,0,none⟩)] W fun e w'=>e=.returned (.int .i64 (takeD x nameB))/\Hd (yZ w0 T B Lb nv n lk' m' (takeD x nameB) w e w'):=fun hy=>by
  obtain⟨rfl,rfl⟩:=h1 hy;exact aan (m':=⟨dB x,m.ve,m.nd⟩) HD.o x o _ c _ 0 nameB egN (fun s w hs=>(name_any s w (by omega)).mono fun e w' hh=>⟨hh.1,hh.2 ▸ ax _ none⟩) htx _ rfl rfl rfl w HG.o
 have kM:x.ky=iG->Calls prog 22 #[.agg (fC x (.slice o x.ks.length c)),.func (.func 24) #[] #[],.pointer (some ⟨B+2,1,none⟩)] W fun e w'=>e=.returned (.int .i64 (takeD x okV))/\Hd (yZ w0 T B Lb nv n lk' m' (takeD x okV) w e w'):=fun hy=>by
  obtain⟨rfl,rfl⟩:=h2 hy;exact aan (m':=⟨m.nm,dB x,m.nd⟩) HD.o x o _ c _ 1 okV egV CV htx _ rfl rfl rfl w HG.o
 have lU:x.ky=jE->x.kd=0->Calls prog 19 #[.pointer (some ⟨T,0,none⟩),.agg (fC x (.slice o x.ks.length c)),.func (.func 33) #[] #[.pointer (some ⟨B+3,0,none⟩)]] W fun e w'=>e=.returned (.tuple #[])/\Hd (yZ w0 T B Lb nv n lk' m' 0 w (.returned (.int .i64 0)) w'):=fun hy hd=>by
  obtain⟨rfl,rfl⟩:=h3 hy hd;exact(keep_any HD.o x _ HKS.o hr hl _ _ false rfl).mono fun e w' hh=>⟨hh.1,rfl,fun _=>⟨vn,hh.2⟩,fun h=>absurd rfl h⟩
 obtain⟨Z,hZ⟩:=zN (nI x);have HZ:=ae hZ;rw[hZ];obtain⟨-,-,cb,-,cn⟩:=HD.o.tcell;unfold fC at nD kM lU hB hW ⊢;obtain⟨kd,hkd⟩:=zN x.kd;obtain⟨KY,kS⟩:∃t:ByteArray,⟨x.ky.toArray⟩=t:=⟨_,rfl⟩;obtain⟨TX,iQ⟩:∃t:ByteArray,⟨x.tx.toArray⟩=t:=⟨_,rfl⟩;obtain⟨nu,hnu⟩:=zN x.nu;obtain⟨pl,hpl⟩:=zN x.pl;obtain⟨l,hll⟩:=zN x.ks.length;rw[hkd,kS,iQ,hnu,hpl,hll]at nD kM lU hB hW ⊢;have HY:=ae kS;have yL:=ae hkd;have c0:W.cell? ⟨bx,0,none⟩=some (.int .i64 kd):=by rw[aj hB];rfl
 have c1:W.cell? ⟨bx,1,none⟩=some (.string KY):=by rw[aj hB];rfl
 have c2:W.cell? ⟨bx,2,none⟩=some (.string TX):=by rw[aj hB];rfl
 have c3:W.cell? ⟨bx,3,none⟩=some (.int .i64 nu):=by rw[aj hB];rfl
 have c4:W.cell? ⟨bx,4,none⟩=some (.slice o l c):=by rw[aj hB];rfl
 have c5:W.cell? ⟨bx,5,none⟩=some (.int .i64 (pl:Nat)):=by rw[aj hB];rfl
 have HW:Hd (w.alloc (.cells #[.int .i64 kd,.string KY,.string TX,.int .i64 nu,.slice o l c,.int .i64 (pl:Nat)] 63)=W/\w.heap.size=bx):=⟨hW,hbx⟩;have hyk:=fun k=>ajT (k:=k) kS
 clear h hr hB hW hbx kS iQ hnu hpl hll hkd h1 h2 h3 htx hl HKS CV hZ;have H7:Hd (¬x.ky=ig->¬x.ky=iG->¬(x.ky=jE/\x.kd=0)->yZ w0 T B Lb nv n lk' m' Z w (.returned (.int .i64 7)) W):=fun g1 g2 g3=>by
  have:Z=7:=by rw[<-HZ.o];unfold nI;rw[if_neg g1,if_neg g2,if_neg g3]
  rw[this];exact⟨rfl,fun h=>absurd h (by decide),fun _=>HG.o⟩
 have b0:((kd == 0)=true/\x.kd=0)\/((kd == 0)=false/\¬x.kd=0):=by
  rw[yL.o]
  by_cases e:kd=0
  ·exact Or.inl ⟨by simpa using e,e⟩
  ·exact Or.inr ⟨by simpa using e,e⟩
 by_cases e1:x.ky=ig
 ·have hb1:(KY.toList == [110,97,109,101])=true:=(hyk ig).1 e1;have hZ1:takeD x nameB=Z:=by rw[<-HZ.o];unfold nI;rw[if_pos e1]
  have CG:=ae (nD e1);rw[hZ1]at CG;clear e1 nD kM lU hyk hZ1 H7 b0;go_enter func21,ntmps21;go_upto_region 1 with fail
  try rw[HW.o.1]
  try rw[HW.o.2]
  go_wp2_with (go_at_call 22;refine CG.o.mono ?_);rintro e w2 ⟨rfl,h2⟩;go_wp2;go_ret;exact h2.o
 ·have hb1:(KY.toList == [110,97,109,101])=false:=(hyk ig).2 e1
  by_cases e2:x.ky=iG
  ·have hb2:(KY.toList == [118,101,114,115,105,111,110])=true:=(hyk iG).1 e2;have hZ1:takeD x okV=Z:=by rw[<-HZ.o];unfold nI;rw[if_neg e1,if_pos e2]
   have CG:=ae (kM e2);rw[hZ1]at CG;clear e1 e2 nD kM lU hyk hZ1 H7 b0;go_enter func21,ntmps21;go_upto_region 1 with fail
   try rw[HW.o.1]
   try rw[HW.o.2]
   go_wp2_with (go_at_call 22;refine CG.o.mono ?_);rintro e w2 ⟨rfl,h2⟩;go_wp2;go_ret;exact h2.o
  ·have hb2:(KY.toList == [118,101,114,115,105,111,110])=false:=(hyk iG).2 e2
   by_cases e3:x.ky=jE
   ·have hb3:(KY.toList == [110,101,101,100,115])=true:=(hyk jE).1 e3
    rcases b0 with⟨b0,e4⟩|⟨b0,e4⟩
    ·have hZ1:Z=0:=by rw[<-HZ.o];unfold nI;rw[if_neg e1,if_neg e2,if_pos ⟨e3,e4⟩]
     have CG:=ae (lU e3 (yL.o.symm.trans e4));subst hZ1;unfold qE at cn;clear e1 e2 e3 e4 nD kM lU hyk H7;go_enter func21,ntmps21;go_upto_region 1 with fail
     try rw[HW.o.1]
     try rw[HW.o.2]
     go_wp2_with (go_at_call 19;refine CG.o.mono ?_);rintro e w2 rfl h2;go_wp2;go_ret;exact h2.o
    ·have HH:=ae (H7.o e1 e2 fun h=>e4 h.2);clear e1 e2 e3 e4 nD kM lU hyk H7;go_enter func21,ntmps21;go_upto_region 1 with fail
     try rw[HW.o.1]
     try rw[HW.o.2]
     go_wp2;go_ret;exact HH.o
   ·have hb3:(KY.toList == [110,101,101,100,115])=false:=(hyk jE).2 e3;have HH:=ae (H7.o e1 e2 fun h=>e3 h.1);clear e1 e2 e3 nD kM lU hyk H7 b0;go_enter func21,ntmps21;go_upto_region 1 with fail
    try rw[HW.o.1]
    try rw[HW.o.2]
    go_wp2;go_ret;exact HH.o
end
open Go.RowKit Go.Maps Go.WideMaps Go.Joins
section
variable {w0:World} {T B Lb n:Nat} {nv:Value} {lk lk':Nat->Option Bool} {m m':Mn} {w w':World} {vn:Value}
theorem ajV(CR:lH okR 34)(h:Mm w0 T B Lb nv n lk m w vn)(x:Tn)(k:Value)(hk:NuS w0 k x.ks)(htx:x.tx.length<=100000/\x.ky.length<=100000)(h20:m.nd.length<=20) :
  Calls prog 33 #[.agg (fC x k),.pointer (some ⟨B+3,0,none⟩)] w (yZ w0 T B Lb nv n lk ⟨m.nm,m.ve,m.nd++[⟨jg x,dB x⟩]⟩ (oG m.nd.length x) w):=by
 obtain⟨o,c,rfl,-⟩:=hk;obtain⟨bx,hbx⟩:=zN (w.heap.size);obtain⟨W,hW⟩:=zN ((w.alloc (.cells (fC x (.slice o x.ks.length c)) 63)).alloc (.cells #[.string (jg x),.string ⟨#[]⟩] 35));have HG:=ae (hW ▸ aH (aH (ax w none) _) _);have HD:=ae (h.grow HG.o);have hB:W.heap[bx]?=some (.cells (fC x (.slice o x.ks.length c)) 63 (0,0)):=by rw[<-hW,<-hbx,Lib.alloc_old _ _ _ (by simp)];exact heap_alloc_new _ _
 have hN:W.heap[bx+1]?=some (.cells #[.string (jg x),.string ⟨#[]⟩] 35 (0,0)):=by
  have:=heap_alloc_new (w.alloc (.cells (fC x (.slice o x.ks.length c)) 63)) (.cells #[.string (jg x),.string ⟨#[]⟩] 35);rw[World.size_alloc,hbx,hW]at this;exact this
 have hs:(dB x).size<2 ^ 60:=by show x.tx.toArray.size < _;rw[List.size_toArray];omega
 have hs2:(jg x).size<2 ^ 60:=by show x.ky.toArray.size < _;rw[List.size_toArray];omega
 have CT:Hd (Calls prog 22 #[.agg (fC x (.slice o x.ks.length c)),.func (.func 34) #[] #[],.pointer (some ⟨bx+1,1,none⟩)] W fun e w'=>e=.returned (.int .i64 (takeD x okR))/\Hd ((¬takeD x okR=0->W.grownBy w' none)/\(takeD x okR=0->w.grownBy w' none/\w'.heap[bx+1]?=some (.cells #[.string (jg x),.string (dB x)] 35 (0,0))/\Mm w0 T B Lb nv n lk m w' vn))):=(aam x o _ c _ (bx+1) 1 okR W egR (fun w'=>CR _ w' hs) _ _ hN _ rfl).mono fun e w' hh=>⟨hh.1,hh.2.1,fun hz=>by
  obtain⟨w1,hg,rfl⟩:=hh.2.2 hz;have hN1:=(gI hg).blk hN;have hD1:=HD.o.grow hg;have hb:some (bx+1)≠vn.ownBlock:=fun e=>by
   obtain⟨cc,hcc⟩:=(dO h.row e.symm).2;have:=aG hcc;omega
  have hl:w.heap.size<=bx+1:=by omega
  refine⟨qC (ak HG.o hg) (fO w1 _ 1 _) hl,block_setCell (i:=1) hN1 _,hD1.next (qC hD1.gb (fO w1 _ 1 _) (Nat.le_trans h.gb.size hl)) (fun t ht _=>oH _ hN1 ht) ((oH _ hN1 (by decide)).blk hD1.man) ?_ (oH _ hN1 (by decide) _ _ _ hD1.rz)⟩;exact bY hD1.row fun g cur hgo hc=>(fO w1 (bx+1) 1 _).block g (aG hc) (fun e=>hb (by rw[<-e];exact hgo.symm))⟩
 obtain⟨Z,hZ⟩:=zN (oG m.nd.length x);have CN:Hd (∀w',Calls prog 23 #[.string (jg x)] w' fun e w''=>e=.returned (.bool (nameB (jg x)))/\w'=w''):=fun w'=>(name_any _ w' (by omega)).mono fun e w'' hh=>⟨hh.1,hh.2.symm⟩
 have HZ:Hd ((¬takeD x okR=0->Z=takeD x okR)/\(takeD x okR=0->(nameB (jg x)=false->Z=2)/\(nameB (jg x)=true->m.nd.length=20->Z=4)/\(nameB (jg x)=true->¬m.nd.length=20->Z=0))):=by
  rw[<-hZ]
  by_cases g1:x.kd=3
  ·have t1:oG m.nd.length x=if nameB (jg x)=true/\okR (dB x)=true then(if 20<=m.nd.length then 4 else 0) else 2:=by unfold oG;rw[if_neg (by simpa using g1)]
   have t0:takeD x okR=if okR (dB x)=true then 0 else 2:=by unfold takeD;rw[if_neg (by simpa using g1)]
   rw[t1,t0]
   by_cases g2:okR (dB x)=true
   ·rw[if_pos g2];refine⟨fun h=>absurd rfl h,fun _=>⟨fun h=>?_,fun h h2=>?_,fun h h2=>?_⟩⟩
    ·rw[if_neg (fun e=>by rw[h]at e;cases e.1)]
    ·rw[if_pos ⟨h,g2⟩,if_pos (by omega)]
    ·rw[if_pos ⟨h,g2⟩,if_neg (by omega)]
   ·rw[if_neg g2,if_neg (fun e=>g2 e.2)];exact⟨fun _=>rfl,fun h=>(by cases h)⟩
  ·have t1:oG m.nd.length x=7:=by unfold oG;rw[if_pos g1]
   have t0:takeD x okR=7:=by unfold takeD;rw[if_pos g1]
   rw[t1,t0];exact⟨fun _=>rfl,fun h=>(by cases h)⟩
 rw[hZ];obtain⟨z0,hz0⟩:=zN (takeD x okR);rw[hz0]at CT HZ;obtain⟨bN,hbN⟩:=zN (nameB (jg x));rw[hbN]at CN HZ;unfold fC at CT hB hW ⊢;obtain⟨KY,kS⟩:∃t:ByteArray,jg x=t:=⟨_,rfl⟩;obtain⟨TX,iQ⟩:∃t:ByteArray,dB x=t:=⟨_,rfl⟩;rw[show(⟨x.ky.toArray⟩:ByteArray)=KY from kS,show(⟨x.tx.toArray⟩:ByteArray)=TX from iQ]at CT hB hW ⊢;rw[kS]at CT hN hW CN ⊢;rw[iQ]at CT ⊢;obtain⟨kd,hkd⟩:=zN x.kd;obtain⟨nu,hnu⟩:=zN x.nu;obtain⟨pl,hpl⟩:=zN x.pl;obtain⟨l,hll⟩:=zN x.ks.length;rw[hkd,hnu,hpl,hll]at CT hB hW ⊢;have c0:W.cell? ⟨bx,0,none⟩=some (.int .i64 kd):=by rw[aj hB];rfl
 have c1:W.cell? ⟨bx,1,none⟩=some (.string KY):=by rw[aj hB];rfl
 have c2:W.cell? ⟨bx,2,none⟩=some (.string TX):=by rw[aj hB];rfl
 have c3:W.cell? ⟨bx,3,none⟩=some (.int .i64 nu):=by rw[aj hB];rfl
 have c4:W.cell? ⟨bx,4,none⟩=some (.slice o l c):=by rw[aj hB];rfl
 have c5:W.cell? ⟨bx,5,none⟩=some (.int .i64 (pl:Nat)):=by rw[aj hB];rfl
 have HW:Hd ((w.alloc (.cells #[.int .i64 kd,.string KY,.string TX,.int .i64 nu,.slice o l c,.int .i64 (pl:Nat)] 63)).alloc (.cells #[.string KY,.string ⟨#[]⟩] 35)=W/\w.heap.size=bx):=⟨hW,hbx⟩;obtain⟨L,hL⟩:=zN (m.nd.length);rw[hL]at HZ h20;have HL:=ae hL;clear h hB hN hW hbx kS iQ hnu hpl hll hkd htx CR hZ hs hs2 hz0 hbN hL;go_enter func33,ntmps33;go_upto_region 2 with fail
 rw[HW.o.1,HW.o.2];go_wp2_with (go_at_call 22;refine CT.o.mono ?_);rintro e w2 ⟨rfl,h2⟩;clear CT c0 c1 c2 c3 c4 c5 HW HD
 by_cases hz:z0=0
 ·obtain⟨hg2,hn2,hD2⟩:=h2.o.2 hz;have HZ2:=ae (HZ.o.2 hz);obtain⟨o2,c2,rfl⟩:=nV hD2.row;rw[HL.o]at hD2;have n0:w2.cell? ⟨bx+1,0,none⟩=some (.string KY):=by rw[aj hn2];rfl
  have n1:w2.cell? ⟨bx+1,1,none⟩=some (.string TX):=by rw[aj hn2];rfl
  obtain⟨-,-,-,t3,-⟩:=hD2.tcell;obtain⟨-,-,m2,-⟩:=hD2.mcell;have HD2:=ae hD2;have HG2:=ae hg2;subst hz;clear h2 HG hg2 hD2 HZ;go_wp2_with (go_at_call 23;refine(CN.o _).mono ?_);rintro e w3 ⟨rfl,rfl⟩
  cases bN with
  |false=>
   have HH:Hd (Z=2):=HZ2.o.1 rfl;clear HZ2;go_wp2;go_ret;rw[HH.o];exact⟨rfl,fun h=>absurd h (by decide),fun _=>HG2.o⟩
  |true=>
   by_cases h5:L=20
   ·have HH:Hd (Z=4):=HZ2.o.2.1 rfl h5;have hb:((L:Int) == 20)=true:=by rw[h5];rfl
    clear HZ2 h5;go_wp2;go_ret;rw[HH.o];exact⟨rfl,fun h=>absurd h (by decide),fun _=>HG2.o⟩
   ·have HH:Hd (Z=0):=HZ2.o.2.2 rfl h5;have hb:((L:Int) == 20)=false:=by simpa using(show ¬(L:Int)=20 by omega)
    have hL5:L<20:=by omega
    clear HZ2 h5 h20;obtain⟨i0,hi0,hii⟩:=Option.map_eq_some_iff.1 aei;simp only[Prod.mk.injEq]at hii;obtain⟨hz0,hz1,hzb⟩:=hii;have hrow:=HD2.o.row;rw[HL.o]at hrow;obtain⟨ys,hys⟩:=zN (m.nd.flatMap kF);have pG:=ae hys;rw[hys]at hrow;have hone:∀u∈([.string KY,.string TX]:List Value),u.oneCell'=true:=by simp[Value.oneCell']
    obtain⟨K,hK⟩:=zN (w2.heap.size);have hB0:w0.heap.size<=K:=by rw[<-hK];exact HD2.o.gb.size
    have fB:Hd ((w2.drew.alloc (.cells #[.string KY,.string TX] 35)).heap[K]?=some (.cells #[.string KY,.string TX] 35 (0,0))):=by
     have:=heap_alloc_new w2.drew (.cells #[.string KY,.string TX] 35);rw[show w2.drew.heap.size=K from hK]at this;exact this
    have far:∀{b:Nat} {cs:Array Value} {X:TypeId} {fz:Nat × Nat},w2.heap[b]?=some (.cells cs X fz)->¬X=35->some b≠(Value.slice o2 L c2).ownBlock:=fun hb hX e=>by
     obtain⟨cc,hcc⟩:=(dO hrow e.symm).2;exact aZ hb hcc hX rfl
    have y7:=ae (far HD2.o.man (by decide));have lC:=ae (far HD2.o.bm (by decide));have Ht:=ae HD2.o.man;have t3A:(w2.alloc (.cells #[.string KY,.string TX] 35)).cell? ⟨B+3,0,none⟩=some (.pointer (some ⟨B+2,0,none⟩)):=(World.grownBy_alloc w2 _ none).cell t3 (by simp);have m2A:(w2.alloc (.cells #[.string KY,.string TX] 35)).cell? ⟨B+2,2,none⟩=some (.slice o2 L c2):=(World.grownBy_alloc w2 _ none).cell m2 (by simp);clear hys far hn2;go_upto_region 9 with fail
    go_cut [] from 25 (fun wx=>∃v',Mm w0 T B Lb nv n lk ⟨m.nm,m.ve,m.nd++[⟨KY,TX⟩]⟩ wx v')
    case first=>
     go_region_law (refine step_append_lies _ (by rfl) _ _ _ (by rfl) w0.heap.size 35 i0 _ 2 32 underlying22 hi0 hz0 hz1 hzb (by rfl) (by decide) (.slice o2 L c2) L ys (by rfl) (hrow.drew.alloc _) ⟨K,0,none⟩ 1 1 [.string KY,.string TX] (by rfl) (by rfl) (World.news_of_block fB.o) hone (by omega) (by unfold maxLen;omega) (by omega) (by simp;omega) _ rfl ?_;intro g cap w3 hown3 hgrow hat hlt3;have hc3:w3.cell? ⟨B+2,2,none⟩=some (.slice o2 L c2):=rY m2 hgrow y7.o;have uB:w3.frozen? ⟨B+2,2,none⟩=false:=xW Ht.o hgrow y7.o;have alb:w3.cell? ⟨B+3,0,none⟩=some (.pointer (some ⟨B+2,0,none⟩)):=rY t3 hgrow lC.o)
     all_goals (
      go_wp2_with fail;go_meet;exact⟨_,HD2.o.push (x:=⟨KY,TX⟩) HL.o (by rw[pG.o];exact hown3) hgrow⟩)
    case rest=>
     obtain⟨v',hd⟩:=hcut;have HDD:=ae hd;clear hd HD2 hrow fB y7 lC Ht t3 m2 t3A m2A n0 n1;go_wp2;go_ret;rw[HH.o];exact⟨rfl,fun _=>⟨v',HDD.o⟩,fun h=>absurd rfl h⟩
 ·have hzb:(z0 != 0)=true:=by simpa using hz
  have HH:=ae (HZ.o.1 hz);have aJ:=ae (ak HG.o (h2.o.1 hz));have HZ0:=ae hz;clear h2 HG HZ hz;go_wp2;go_ret;rw[HH.o];exact⟨rfl,fun h=>absurd h HZ0.o,fun _=>aJ.o⟩
end
open Go.RowKit Go.Maps Go.WideMaps Go.Joins
theorem eg1:∀args w,(callFunc 21 args).run prog w=.ok (.enter 21 args) w:=enters_of func21 (by kernel_rfl) rfl
theorem eg2:∀args w,(callFunc 33 args).run prog w=.ok (.enter 33 args) w:=enters_of func33 (by kernel_rfl) rfl
theorem ajW(W:World):(binOp .eql 59 .nilFunc .nilFunc).run prog W=.ok (.bool true) W:=by kernel_rfl
theorem ajX(F:Nat)(cp:Array Value)(W:World):(binOp .eql 59 (.func (.func F) #[] cp) .nilFunc).run prog W=.ok (.bool false) W:=by kernel_rfl
theorem ajY{S:Nat}(T:Tv n ns S){x:Tn}(hx:ns[q]?=some x)(h:(mQ ns q).nd.length<=20)(hz:mN ns q x=0):(mQ ns (q+1)).nd.length<=20:=by
 by_cases hq:q∈nK ns
 ·rw[Rn T hq hx];unfold mN at hz;rw[if_neg (yU T hq),if_pos hq]at hz;unfold oG at hz;have e:(mQ ns q).nd.length=(lo q (nK ns)).length:=by unfold mQ;simp
  simp only[List.length_append,List.length_cons,List.length_nil];rw[e];split at hz
  ·cases hz
  ·split at hz
   ·split at hz
    ·cases hz
    ·omega
   ·cases hz
 ·have:(mQ ns (q+1)).nd=(mQ ns q).nd:=by unfold mQ;simp only[];rw[Lj hq]
  rw[this];exact h
section
variable {w0:World} {T B Lb n:Nat} {nv:Value} {kv:Nat->Value} {ns:List Tn} {w w':World} {vn:Value}
theorem ajZ(CV:lH okV 24)(CR:lH okR 34){i:Nat}(hn:ns.length=n)(h:Mm w0 T B Lb nv n (fQ ns i) (mQ ns i) w vn)(H:Nz w0 N c kv ns)(hi:i<ns.length)(h20:(mQ ns i).nd.length<=20):(fQ ns i i=none/\mN ns i ns[i]=0/\fQ ns (i+1)=fQ ns i/\mQ ns (i+1)=mQ ns i)\/∃F cp,qE B (fQ ns i i)=.func (.func F) #[] cp/\(∀args w,(callFunc F args).run prog w=.ok (.enter F args) w)/\∀w',w.grownBy w' none->Calls prog F (#[.agg (fC ns[i] (kv i))]++cp) w' (yZ w0 T B Lb nv n (fQ ns (i+1)) (mQ ns (i+1)) (mN ns i ns[i]) w'):=by
 obtain⟨S,V⟩:=H.tv;have hx:=List.getElem?_eq_getElem hi;obtain⟨hy,hd,hks,-⟩:=tJ hx;have htx:=V.txt _ (List.getElem_mem hi)
 by_cases h0:i∈aA ns 0
 ·refine Or.inr ⟨_,_,by rw[aiW h0];rfl,eg1,fun w' hg=>?_⟩;have hm:mN ns i ns[i]=nI ns[i]:=by unfold mN;rw[if_pos h0]
  rw[hm];refine ajU CV (h.grow hg) ns[i] (kv i) (H.kid i hi) (by rw[<-hn];exact H.rng i hi) (H.num i hi) htx.2.1 (fun hk=>?_) (fun hk=>?_) (fun hk hk0=>?_)
  ·exact⟨Z5 V h0 hx hk,Ro fun e=>absurd (hk.symm.trans (hy.symm.trans e.2.1)) (by decide)⟩
  ·exact⟨Z7 V h0 hx hk,Ro fun e=>absurd (hk.symm.trans (hy.symm.trans e.2.1)) (by decide)⟩
  ·refine⟨G6 V hx (fun e=>yU V e h0) fun _=>by rw[hk];decide,?_⟩;rw[aiZ V h0 (hy.trans hk) (hd.trans hk0),hks];rfl
 ·have hs:fQ ns (i+1)=fQ ns i:=Ro fun e=>h0 e.1
  by_cases h1:i∈nK ns
  ·refine Or.inr ⟨_,_,by rw[aiX V h1];rfl,eg2,fun w' hg=>?_⟩;have hm:mN ns i ns[i]=oG (mQ ns i).nd.length ns[i]:=by unfold mN mQ;rw[if_neg h0,if_pos h1];simp
   rw[hm,hs,Rn V h1 hx];exact ajV CR (h.grow hg) ns[i] (kv i) (H.kid i hi) ⟨htx.2.1,htx.1⟩ h20
  ·exact Or.inl ⟨aiY h0 h1 i,by unfold mN;rw[if_neg h0,if_neg h1],hs,G6 V hx h1 fun e=>absurd e h0⟩
def CkP(w0:World)(T B Lb:Nat)(nv:Value)(n:Nat)(ns:List Tn)(r:Rs Unit)(e:Ending)(w':World):Prop :=
 (r=.ok ()->e=.returned (.tuple #[.int .i64 0,.int .i64 0])/\∃vn,Mm w0 T B Lb nv n (fQ ns n) (mQ ns n) w' vn)/\(∀c,r=.error c->e=.returned (.tuple #[.int .i64 c.1,.int .i64 (c.2:Nat)])/\¬c.1=0/\∃lk m vn,Mm w0 T B Lb nv n lk m w' vn)
theorem check_any(CV:lH okV 24)(CR:lH okR 34)(N c:Nat)(hn:ns.length=n)(h:Mm w0 T B Lb (.slice (some ⟨N,0,none⟩) n c) n (fQ ns 0) (mQ ns 0) w vn)(H:Nz w0 N c kv ns) :
  Calls prog 25 #[.pointer (some ⟨T,0,none⟩)] w (CkP w0 T B Lb (.slice (some ⟨N,0,none⟩) n c) n ns (mC ns n)):=by
 have HN:Hd (ns.length=n/\ns.length<=1000000):=⟨hn,H.len⟩;have HH:=ae H;obtain⟨R,hR⟩:=zN (mC ns n);rw[hR];have HR:=ae hR;have HD:=ae h;obtain⟨t0,-,-,-,-⟩:=HD.o.tcell;have hc:n<=c:=by rw[<-hn];exact H.cap
 have HC:Hd (lH okV 24/\lH okR 34):=⟨CV,CR⟩;clear h H hR hn CV CR;go_enter func25,ntmps25;go_wp2;go_loopw [12] (fun vi wr=>∃(i:Nat) (vn:Value),vi=.int .i64 (i:Nat)/\i<=n/\Mm w0 T B Lb (.slice (some ⟨N,0,none⟩) n c) n (fQ ns i) (mQ ns i) wr vn/\(mQ ns i).nd.length<=20/\mC ns (n-i)=R) (fun vi _=>n-(intOf vi).toNat)
 case atStart=>exact⟨0,vn,rfl,by omega,HD.o,by rw[Rq];exact Nat.zero_le _,HR.o⟩
 case round=>
  obtain⟨i,vn,rfl,hi,hd,h20,hch⟩:=hrel;have rF:=ae hd;have H20:=ae h20;have RY:=ae hch;clear HD HR t0 hd h20 hch;have hn6:n<=1000000:=by have:=HN.o;omega
  by_cases hlt:i<n
  ·have hin:i<ns.length:=by rw[HN.o.1];exact hlt
   obtain⟨c0,c1,c2,c3,c4,c5⟩:=HH.o.cel i hin;obtain⟨o4,m4,hk4,-⟩:=HH.o.kid i hin;obtain⟨hlc,-⟩:=rF.o.lcell hlt;have hlk:=ajZ HC.o.1 HC.o.2 HN.o.1 rF.o HH.o hin H20.o;obtain⟨S,V⟩:=HH.o.tv;have LW:=ajY V (List.getElem?_eq_getElem hin) H20.o;have hstp:=Lm hin;obtain⟨x,hx⟩:=zN (ns[i]);rw[hx]at c0 c1 c2 c3 c5 hk4 hlk hstp LW;rw[hk4]at c4 hlk;rw[HN.o.1,RY.o]at hstp;have hG:=rF.o.gb;have e0:=hG.cell c0 (by simp);have e1:=hG.cell c1 (by simp);have e2:=hG.cell c2 (by simp);have e3:=hG.cell c3 (by simp);have e4:=hG.cell c4 (by simp);have e5:=hG.cell c5 (by simp);obtain⟨-,t1,-,-,-⟩:=rF.o.tcell;obtain⟨z,hz⟩:=zN (mN ns i x);rw[hz]at hstp hlk LW;unfold fC at hlk;obtain⟨kd,ky,tx,nu,ks,pl⟩:=x;simp only[]at e0 e1 e2 e3 e4 e5 hlk hstp;obtain⟨bx,hbx⟩:=zN (wr.heap.size);obtain⟨W,hW⟩:=zN (wr.alloc (.cells #[.int .i64 kd,.string ⟨ky.toArray⟩,.string ⟨tx.toArray⟩,.int .i64 nu,.slice o4 ks.length m4,.int .i64 (pl:Nat)] 63))
   have dR:=ae (hW ▸ aH (ax wr none) _);have t1W:=dR.o.cell t1 (by simp);have RZ:=dR.o.cell hlc (by simp);have HST:=ae hstp;have ed:=ae LW;clear c0 c1 c2 c3 c4 c5 hk4 hG hx V hstp hz LW
   rcases hlk with⟨hl,rfl,hl1,hl2⟩|⟨F,cp,hv,eF,CF⟩
   ·rw[hl]at hlc RZ;have HE:Hd (Mm w0 T B Lb (.slice (some ⟨N,0,none⟩) n c) n (fQ ns (i+1)) (mQ ns (i+1)) W vn/\(mQ ns (i+1)).nd.length<=20/\mC ns (n-(i+1))=R):=by
     refine⟨by rw[hl1,hl2];exact rF.o.grow dR.o,ed.o rfl,?_⟩;have:=HST.o;rw[if_pos rfl]at this;exact this.symm
    unfold qE at hlc RZ;have FO:=ajW;clear hl hl1 hl2;go_wp2;exact⟨⟨i+1,vn,by go_num,by omega,HE.o.1,HE.o.2.1,HE.o.2.2⟩,by simp[intOf];omega⟩
   ·rw[hv]at hlc RZ;have hB:W.heap[bx]?=some (.cells #[.int .i64 kd,.string ⟨ky.toArray⟩,.string ⟨tx.toArray⟩,.int .i64 nu,.slice o4 ks.length m4,.int .i64 (pl:Nat)] 63 (0,0)):=by rw[<-hW,<-hbx];exact heap_alloc_new _ _
    have FO:=ajX F cp;have nH:Hd (wr.grownBy W.drew none):=az dR.o 1;have b0:W.cell? ⟨bx,0,none⟩=some (.int .i64 kd):=by rw[aj hB];rfl
    have b1:W.cell? ⟨bx,1,none⟩=some (.string ⟨ky.toArray⟩):=by rw[aj hB];rfl
    have b2:W.cell? ⟨bx,2,none⟩=some (.string ⟨tx.toArray⟩):=by rw[aj hB];rfl
    have b3:W.cell? ⟨bx,3,none⟩=some (.int .i64 nu):=by rw[aj hB];rfl
    have b4:W.cell? ⟨bx,4,none⟩=some (.slice o4 ks.length m4):=by rw[aj hB];rfl
    have b5:W.cell? ⟨bx,5,none⟩=some (.int .i64 (pl:Nat)):=by rw[aj hB];rfl
    have HEF:=ae eF;have uG:Hd (W.drew.cell? ⟨bx,5,none⟩=some (.int .i64 (pl:Nat))):=(az (ax W none) 1).cell b5 (by simp)
    by_cases hz:z=0
    ·have HE:Hd ((mQ ns (i+1)).nd.length<=20/\mC ns (n-(i+1))=R):=by
      refine⟨ed.o hz,?_⟩;have:=HST.o;rw[if_pos hz]at this;exact this.symm
     have CG:Hd (Calls prog F (#[.agg #[.int .i64 kd,.string ⟨ky.toArray⟩,.string ⟨tx.toArray⟩,.int .i64 nu,.slice o4 ks.length m4,.int .i64 (pl:Nat)]]++cp) W.drew fun e' w'=>e'=.returned (.int .i64 0)/\Hd (∃vn,Mm w0 T B Lb (.slice (some ⟨N,0,none⟩) n c) n (fQ ns (i+1)) (mQ ns (i+1)) w' vn)):=(CF _ nH.o).mono fun e' w' hh=>⟨by rw[hh.1,hz],hh.2.1 hz⟩
     clear hB CF uG hz hv HST ed;go_wp2;go_region_with (first|(refine CG.o.mono ?_;rintro e' w7 ⟨rfl,hq7⟩));go_wp2
     all_goals obtain⟨vn7,hD7⟩:=hq7.o
     all_goals exact⟨⟨i+1,vn7,by go_num,by omega,hD7,HE.o.1,HE.o.2⟩,by simp[intOf];omega⟩
    ·have HY:Hd (R=.error (z,pl)):=by have:=HST.o;rw[if_neg hz]at this;exact this
     have CG:Hd (Calls prog F (#[.agg #[.int .i64 kd,.string ⟨ky.toArray⟩,.string ⟨tx.toArray⟩,.int .i64 nu,.slice o4 ks.length m4,.int .i64 (pl:Nat)]]++cp) W.drew fun e' w'=>e'=.returned (.int .i64 z)/\Hd (¬z=0/\Mm w0 T B Lb (.slice (some ⟨N,0,none⟩) n c) n (fQ ns i) (mQ ns i) w' vn)/\w'.cell? ⟨bx,5,none⟩=some (.int .i64 (pl:Nat))):=(CF _ nH.o).mono fun e' w' hh=>by
      have a3:=hh.2.2 hz;exact⟨hh.1,⟨hz,rF.o.grow (ak nH.o a3)⟩,a3.cell uG.o (by simp)⟩
     have hzb:(z != 0)=true:=by simpa using hz
     clear hB CF uG hz hv HST ed RY;go_wp2;go_region_with (first|(refine CG.o.mono ?_;rintro e' w7 ⟨rfl,hq7,hc7⟩));go_wp2
     all_goals (
      go_quiet (fail);go_wp2;refine bodyPost_ret (results_tmp2 (t:=2) (u:=3) rfl _ _ _) rfl ?_;rw[HY.o];exact⟨fun e=>(by cases e),fun c e=>(by cases e;exact⟨rfl,hq7.o.1,_,_,_,hq7.o.2.grow (az (ax _ _) nq)⟩)⟩)
  ·have him:i=n:=by omega
   have HF:Hd (R=.ok ()):=by
    have:=RY.o;rw[him,Nat.sub_self]at this;exact this.symm
   have HE:Hd (Mm w0 T B Lb (.slice (some ⟨N,0,none⟩) n c) n (fQ ns n) (mQ ns n) wr vn):=by have:=rF.o;rw[him]at this;exact this
   clear him;go_wp2;refine bodyPost_ret (results_tmp2 (t:=2) (u:=3) rfl _ _ _) rfl ?_;rw[HF.o];exact⟨fun _=>⟨rfl,_,HE.o⟩,fun c e=>(by cases e)⟩
end
open Go.RowKit Go.Maps Go.WideMaps Go.Joins
def MkM(b:Nat)(w:World)(r:Rs Mn)(e:Ending)(w':World):Prop :=
 w.grownBy w' none/\∃(A C:ByteArray) (o:Option Addr) (l k:Nat) (z p:Int),e=.returned (.tuple #[.agg #[.string A,.string C,.slice o l k],.int .i64 z,.int .i64 p])/\(∀m,r=.ok m->A=m.nm/\C=m.ve/\z=0/\p=0/\w'.ownsRow b 35 2 (.slice o l k) m.nd.length (m.nd.flatMap kF))/\∀c,r=.error c->z=c.1/\p=(c.2:Nat)/\¬c.1=0
theorem aj0(M:Nat)(w:World):Calls prog 18 #[.pointer (some ⟨M,0,none⟩)] w fun e w'=>e=.returned (.func (.func 33) #[] #[.pointer (some ⟨w.heap.size,0,none⟩)])/\w'=w.alloc (.cells #[.pointer (some ⟨M,0,none⟩)] 61):=by
 go_enter func18,ntmps18;go_wp2;go_ret;exact⟨rfl,rfl⟩
theorem aj1(X:ByteArray):(X=⟨#[]⟩/\(X.toList == [])=true/\X.toList.isEmpty=true)\/(¬X=⟨#[]⟩/\(X.toList == [])=false/\X.toList.isEmpty=false):=by
 by_cases h:X=⟨#[]⟩
 ·have:X.toList=[]:=by rw[h,ByteArray.toList_eq]
  exact Or.inl ⟨h,by rw[this];rfl,by rw[this];rfl⟩
 ·have h2:¬X.toList=[]:=fun e=>h (by
   rw[ByteArray.toList_eq]at e
   cases X with|mk d=>cases d with|mk l=>simpa using e)
  exact Or.inr ⟨h,by simpa using h2,by simpa using h2⟩
theorem aj2(CV:lH okV 24)(CR:lH okR 34)(N c T Lb n:Nat)(kv:Nat->Value)(ns:List Tn)(w0 w:World)(hn:ns.length=n)(H:Nz w0 N c kv ns)(hg:w0.grownBy w none)(hT:w.heap[T]?=some (.cells #[.slice (some ⟨N,0,none⟩) n c,.slice (some ⟨Lb,0,none⟩) n n] 81 (0,0)))(hL:w.heap[Lb]?=some (.cells (Array.replicate n .nilFunc) 59 (0,0)))(bL:w0.heap.size<=Lb) :
  Calls prog 9 #[.pointer (some ⟨T,0,none⟩)] w (MkM w0.heap.size w0 (qw ns)):=by
 obtain⟨S,V⟩:=H.tv;obtain⟨B,hB⟩:=zN (w.heap.size);obtain⟨W,hW⟩:=zN (((((w.alloc (.cells #[.pointer (some ⟨T,0,none⟩)] 56)).alloc (.cells #[.string ⟨#[]⟩,.string ⟨#[]⟩,.slice none 0 0] 24)).alloc (.cells #[.string ⟨#[]⟩,.string ⟨#[]⟩,.slice none 0 0] 24)).alloc (.cells #[.pointer (some ⟨B+2,0,none⟩)] 61)).alloc (.cells #[.func (.func 33) #[] #[.pointer (some ⟨B+3,0,none⟩)]] 59));have fH:w.grownBy W none:=hW ▸ aH (aH (aH (aH (aH (ax w none) _) _) _) _) _;have hd:Mm w0 T B Lb (.slice (some ⟨N,0,none⟩) n c) n (fun _=>none) ⟨⟨#[]⟩,⟨#[]⟩,[]⟩ W (.slice none 0 0):=by
  have hLB:=aG hL;have bk:∀k (hk:k<5),W.heap[B+k]?=([.cells #[.pointer (some ⟨T,0,none⟩)] 56,.cells #[.string ⟨#[]⟩,.string ⟨#[]⟩,.slice none 0 0] 24,.cells #[.string ⟨#[]⟩,.string ⟨#[]⟩,.slice none 0 0] 24,.cells #[.pointer (some ⟨B+2,0,none⟩)] 61,.cells #[.func (.func 33) #[] #[.pointer (some ⟨B+3,0,none⟩)]] 59]:List Obj)[k]?:=fun k hk=>by
   rw[<-hW];show(((((w.heap.push _).push _).push _).push _).push _)[B+k]?=_;simp only[Array.getElem?_push,Array.size_push,hB]
   match k,hk with
   | 0,_|1,_|2,_|3,_|4,_=>(repeat' split)<;>first|omega|rfl
  exact⟨ak hg fH,(gI fH).blk hT,bk 2 (by decide),bk 1 (by decide),bk 0 (by decide),bk 3 (by decide),bk 4 (by decide),⟨_,(gI fH).blk hL,by simp,fun q hq=>by simp[qE]⟩,World.ownsRow_nil _ _ _ _,bL,by omega⟩
 have hp:=V.root.1;obtain⟨x,hx⟩:∃x,ns[0]?=some x:=⟨_,List.getElem?_eq_getElem hp⟩;obtain⟨hp2,hx0⟩:=List.getElem?_eq_some_iff.1 hx;have hks:=(tJ hx).2.2.1;obtain⟨o4,m4,hk4,-⟩:=H.kid 0 hp;have Si:=H.kid 0 hp;have LY:=H.rng 0 hp;have hnum:=H.num 0 hp;rw[hx0]at hk4 Si LY hnum;rw[hn]at LY;have nH:Hd (W.grownBy W.drew none):=az (ax W none) 1;have cB:W.cell? ⟨B,0,none⟩=some (.pointer (some ⟨T,0,none⟩)):=hd.tcell.2.2.1;have Sj:Hd (Calls prog 20 #[.pointer (some ⟨T,0,none⟩)] W.drew fun e w'=>e=.returned (.agg (fC x (.slice o4 x.ks.length m4)))/\W.drew.grownBy w' none/\w'.cell? ⟨B,0,none⟩=some (.pointer (some ⟨T,0,none⟩))):=by
  have:=ajS N c _ hn (hd.grow nH.o).tre (hd.grow nH.o).gb H x hx;rw[hk4]at this;exact this.mono fun e w' hh=>⟨hh.1,hh.2,(ak nH.o hh.2).cell cB (by simp)⟩
 have CK:Hd (∀w2,W.drew.grownBy w2 none->Calls prog 19 #[.pointer (some ⟨T,0,none⟩),.agg (fC x (.slice o4 x.ks.length m4)),.func (.func 21) #[] #[.pointer (some ⟨B+2,0,none⟩),.pointer (some ⟨B,0,none⟩),.pointer (some ⟨B+4,0,none⟩)]] w2 fun e w3=>e=.returned (.tuple #[])/\Hd (Mm w0 T B Lb (.slice (some ⟨N,0,none⟩) n c) n (fQ ns 0) (mQ ns 0) w3 (.slice none 0 0))/\w3.cell? ⟨B,0,none⟩=some (.pointer (some ⟨T,0,none⟩))):=fun w2 hg2=>by
  refine(keep_any (hd.grow (ak nH.o hg2)) x (.slice o4 x.ks.length m4) (hk4 ▸ Si) LY hnum _ _ true rfl).mono fun e w3 hh=>?_
  have:tV (fun _=>none) x.ks true=fQ ns 0:=by rw[ai0,hks];rfl
  rw[this,<-Rq (ns:=ns)]at hh;exact⟨hh.1,hh.2,hh.2.tcell.2.2.1⟩
 unfold fC at Sj CK;have CC:Hd (∀w3,Hd (Mm w0 T B Lb (.slice (some ⟨N,0,none⟩) n c) n (fQ ns 0) (mQ ns 0) w3 (.slice none 0 0))->Calls prog 25 #[.pointer (some ⟨T,0,none⟩)] w3 fun e w4=>∃(z p:Int) (lk:Nat->Option Bool) (m:Mn) (vn:Value),e=.returned (.tuple #[.int .i64 z,.int .i64 p])/\Hd (Mm w0 T B Lb (.slice (some ⟨N,0,none⟩) n c) n lk m w4 vn/\(∀c,mC ns n=.error c->z=c.1/\p=(c.2:Nat)/\¬c.1=0)/\(mC ns n=.ok ()->z=0/\p=0/\m=mQ ns n))):=fun w3 hh=>(check_any CV CR N c hn hh.o H).mono fun e w4 h4=>by
  cases hm:mC ns n with
  |error c0=>
   obtain⟨e1,hz,lk,m,vn,hD⟩:=h4.2 c0 hm;exact⟨_,_,lk,m,vn,e1,hD,fun c e=>(by cases e;exact⟨rfl,rfl,hz⟩),fun e=>(by cases e)⟩
  |ok u=>
   obtain⟨e1,vn,hD⟩:=h4.1 hm;exact⟨_,_,_,_,vn,e1,hD,fun c e=>(by cases e),fun _=>⟨rfl,rfl,rfl⟩⟩
 have HR:Hd ((∀c,mC ns n=.error c->qw ns=.error c)/\(mC ns n=.ok ()->((mQ ns n).nm=⟨#[]⟩\/(mQ ns n).ve=⟨#[]⟩->qw ns=.error (6,0))/\(¬(mQ ns n).nm=⟨#[]⟩->¬(mQ ns n).ve=⟨#[]⟩->qw ns=.ok (mQ ns n)))):=by
  subst hn;refine⟨fun c hc=>by unfold qw;rw[hc];rfl,fun hc=>?_⟩;have he:=aiV V hc;have hm:qw ns=xm ns:=by unfold qw;rw[hc];rfl
  rw[hm];unfold xm;refine⟨fun h=>?_,fun h1 h2=>?_⟩
  ·rw[if_neg];rintro⟨g1,g2⟩
   rcases h with h|h
   ·exact he.1.1 h g1
   ·exact he.2.1 h g2
  ·rw[if_pos ⟨Classical.byContradiction fun g=>h1 (he.1.2 g),Classical.byContradiction fun g=>h2 (he.2.2 g)⟩]
 obtain⟨R,hR⟩:=zN (qw ns);rw[hR]at HR ⊢;obtain⟨C,hC⟩:=zN (mC ns n);rw[hC]at HR CC;have HW:Hd (((((w.alloc (.cells #[.pointer (some ⟨T,0,none⟩)] 56)).alloc (.cells #[.string ⟨#[]⟩,.string ⟨#[]⟩,.slice none 0 0] 24)).alloc (.cells #[.string ⟨#[]⟩,.string ⟨#[]⟩,.slice none 0 0] 24)).alloc (.cells #[.pointer (some ⟨B+2,0,none⟩)] 61)).alloc (.cells #[.func (.func 33) #[] #[.pointer (some ⟨B+3,0,none⟩)]] 59)=W/\w.heap.size=B):=⟨hW,hB⟩;have HB1:Hd (w0.heap.size<=B+1):=by have:=hg.size;show _<=_;omega
 clear hW fH hd hx hx0 hp2 hks hk4 Si LY hnum hR H hg hT hL bL CV CR V hp hC hn;go_enter func9,ntmps9;have hst:=fun(w:World) a m=>run_store prog w a (.func (.func 33) #[] #[.pointer (some ⟨B+1+1+1,0,none⟩)]) m rfl
 go_upto_region 3 with(first|(go_at_call 18;refine(aj0 _ _).mono ?_;rintro e w' ⟨rfl,rfl⟩))
 simp only[Nat.add_assoc,Nat.reduceAdd];rw[HW.o.1];clear hst
 go_region_held3 (fun u=>u.cell? ⟨B,0,none⟩=some (.pointer (some ⟨T,0,none⟩))) ((first|assumption|exact nH.o.cell (by assumption) (by simp)|go_keep)) (first|(go_at_call 20;refine Sj.o.mono ?_;rintro e2 w2 ⟨rfl,hg2,aj3⟩)|(go_at_call 19;refine(CK.o _ (by assumption)).mono ?_;rintro e3 w3 ⟨rfl,hall,hcl⟩))
 all_goals
  clear Sj CK cB aj3 hcl hg2;have hcB:w3.cell? ⟨B,0,none⟩=some (.pointer (some ⟨T,0,none⟩)):=hall.o.tcell.2.2.1;go_wp2_with (go_at_call 25;refine(CC.o _ hall).mono ?_);rintro e4 w4 ⟨z4,p4,lk4,m4,vn4,rfl,h4⟩;obtain⟨o2,c2,hvn⟩:=nV h4.o.1.row;obtain⟨g0,g1,g2,-⟩:=h4.o.1.mcell;have HZ:=ae h4.o.1.rz;have z0:w4.cell? ⟨B+1,0,none⟩=some (.string ⟨#[]⟩):=by rw[aj HZ.o];rfl
  have z1:w4.cell? ⟨B+1,1,none⟩=some (.string ⟨#[]⟩):=by rw[aj HZ.o];rfl
  have z2:w4.cell? ⟨B+1,2,none⟩=some (.slice none 0 0):=by rw[aj HZ.o];rfl
  have zf:=fun k=>Lib.frozen_of_heap HZ.o k
  have dn:=ae h4.o.1.gb;have HRW:=ae h4.o.1.row;obtain⟨ml,hml⟩:=zN (m4.nd.length);obtain⟨A,hA⟩:=zN (m4.nm);obtain⟨D,hD⟩:=zN m4.ve;subst hvn;rw[hml]at g2;rw[hA]at g0;rw[hD]at g1;have HA:Hd (m4.nm=A/\m4.ve=D/\m4.nd.length=ml):=⟨hA,hD,hml⟩
  rcases C with c0|u
  ·obtain⟨rfl,rfl,hz⟩:=h4.o.2.1 c0 rfl;have HY:=ae (HR.o.1 c0 rfl);have HZ4:=ae hz;have hzb:(c0.1 != 0)=true:=by simpa using hz
   clear hcB hall CC h4 hz HR hA hD hml;go_wp2;refine bodyPost_ret (jS (p:=2) (u:=3) (r:=4) rfl _ _ (B+1) _ #[.string A,.string D,.slice o2 ml c2] (0,0) _ rfl (pz HZ.o) underlying24 rfl (by kernel_rfl)) rfl ?_;exact⟨rG dn.o HB1.o _ _ _,A,D,_,_,_,_,_,rfl,fun m e=>absurd (HY.o.symm.trans e) (by simp),fun c e=>by cases HY.o.symm.trans e;exact⟨rfl,rfl,HZ4.o⟩⟩
  ·obtain⟨rfl,rfl,hm⟩:=h4.o.2.2 rfl;have HY:=ae (HR.o.2 rfl);clear hcB hall CC h4 HR hA hD hml;have emp:=aj1;have HM:=ae hm;clear hm;have key:∀Z:Int,Hd ((Z=6/\(A=⟨#[]⟩\/D=⟨#[]⟩))\/(Z=0/\¬A=⟨#[]⟩/\¬D=⟨#[]⟩))->MkM w0.heap.size w0 R (.returned (.tuple #[.agg #[.string A,.string D,.slice o2 ml c2],.int .i64 Z,.int .i64 0])) (((w4.setCell ⟨B+1,0,none⟩ (.string A)).setCell ⟨B+1,1,none⟩ (.string D)).setCell ⟨B+1,2,none⟩ (.slice o2 ml c2)):=fun Z hZ=>by
    obtain⟨h1,h2,h3⟩:=HA.o;rw[<-h1,<-h2]at hZ;rw[<-h3]at *;rw[HM.o]at h1 h2 hZ;subst h1 h2;have hrow:=LQ (x:=.string (mQ ns n).nm) (y:=.string (mQ ns n).ve) (z:=.slice o2 m4.nd.length c2) (by decide) HZ.o HRW.o;refine⟨rG dn.o HB1.o _ _ _,_,_,_,_,_,_,_,rfl,fun m e=>?_,fun c e=>?_⟩
    ·rcases hZ.o with⟨g1,g2⟩|⟨g1,g2,g3⟩
     ·cases (HY.o.1 g2).symm.trans e
     ·cases (HY.o.2 g2 g3).symm.trans e
      refine⟨rfl,rfl,g1,rfl,?_⟩;rw[<-HM.o];rw[HM.o]at hrow ⊢;exact hrow
    ·rcases hZ.o with⟨g1,g2⟩|⟨g1,g2,g3⟩
     ·cases (HY.o.1 g2).symm.trans e
      exact⟨g1,rfl,by decide⟩
     ·cases (HY.o.2 g2 g3).symm.trans e
   have HK:=ae key;clear key HY HA HRW
   rcases emp A with⟨hA,a1,a2⟩|⟨hA,a1,a2⟩
   ·have HF:=ae (HK.o 6 (Or.inl ⟨rfl,Or.inl hA⟩));clear hA emp HK;go_wp2;exact bodyPost_ret (jS (p:=2) (u:=3) (r:=4) rfl _ _ (B+1) _ #[.string A,.string D,.slice o2 ml c2] (0,0) _ rfl (pz HZ.o) underlying24 rfl (by kernel_rfl)) rfl HF.o
   ·rcases emp D with⟨hD,b1,b2⟩|⟨hD,b1,b2⟩
    ·have HF:=ae (HK.o 6 (Or.inl ⟨rfl,Or.inr hD⟩));clear hA hD emp HK;go_wp2;exact bodyPost_ret (jS (p:=2) (u:=3) (r:=4) rfl _ _ (B+1) _ #[.string A,.string D,.slice o2 ml c2] (0,0) _ rfl (pz HZ.o) underlying24 rfl (by kernel_rfl)) rfl HF.o
    ·have HF:=ae (HK.o 0 (Or.inr ⟨rfl,hA,hD⟩));clear hA hD emp HK;go_wp2;exact bodyPost_ret (jS (p:=2) (u:=3) (r:=4) rfl _ _ (B+1) _ #[.string A,.string D,.slice o2 ml c2] (0,0) _ rfl (pz HZ.o) underlying24 rfl (by kernel_rfl)) rfl HF.o
open Go.RowKit Go.Maps Go.WideMaps Go.Joins
theorem egM:∀args w,(callFunc 9 args).run prog w=.ok (.enter 9 args) w:=enters_of func9 (by kernel_rfl) rfl
theorem aj6(CV:lH okV 24)(CR:lH okR 34)(s:ByteArray)(E:Int->TypeId × Value)(b:Int->Addr)(w:World)(G:Gl w w.heap.size E)(S:Sn w E b)(hmx:s.size<2 ^ 62) :
  Calls prog 8 #[.string s,.func (.func 9) #[] #[]] w (Hr 35 w (tH s.data.toList)):=by
 obtain⟨A,hA⟩:=zN (w.heap.size);obtain⟨W,hW⟩:=zN ((w.alloc (.cells #[.string ⟨#[]⟩,.string ⟨#[]⟩,.slice none 0 0] 24)).alloc (.cells #[.string ⟨#[]⟩,.string ⟨#[]⟩,.slice none 0 0] 24));have fH:w.grownBy W none:=hW ▸ aH (aH (ax w none) _) _;have hb0:W.heap[A]?=some (.cells #[.string ⟨#[]⟩,.string ⟨#[]⟩,.slice none 0 0] 24 (0,0)):=by rw[<-hW,<-hA,Lib.alloc_old _ _ _ (by simp)];exact heap_alloc_new _ _
 have hb1:W.heap[A+1]?=some (.cells #[.string ⟨#[]⟩,.string ⟨#[]⟩,.slice none 0 0] 24 (0,0)):=by rw[<-hW,<-hA];exact heap_alloc2_new _ _ _
 have C0:=aja s E b W ((G.bel (y8 fH)).up fH.size) (S.grow fH) hmx;obtain⟨R,hR⟩:=zN (tH s.data.toList);rw[hR];unfold tH at hR;have HW:Hd ((w.alloc (.cells #[.string ⟨#[]⟩,.string ⟨#[]⟩,.slice none 0 0] 24)).alloc (.cells #[.string ⟨#[]⟩,.string ⟨#[]⟩,.slice none 0 0] 24)=W/\w.heap.size=A):=⟨hW,hA⟩;have bl:Hd (∀w',W.grownBy w' none->w.grownBy w' none/\w'.heap[A]?=some (.cells #[.string ⟨#[]⟩,.string ⟨#[]⟩,.slice none 0 0] 24 (0,0))/\w'.heap[A+1]?=some (.cells #[.string ⟨#[]⟩,.string ⟨#[]⟩,.slice none 0 0] 24 (0,0))):=fun w' hg=>⟨ak fH hg,(gI hg).blk hb0,(gI hg).blk hb1⟩
 have HA:Hd (w.heap.size<=A):=Nat.le_of_eq hA;clear hb0 hb1 fH hW hA G S
 cases hns:lJ s.data.toList with
 |error c0=>
  obtain⟨z,p⟩:=c0;have hz:¬z=0:=by have:=Q4 _ _ _ hns;omega
  have HY:Hd (R=.error (z,p)):=by show _=_;rw[<-hR,hns];rfl
  have hzb:(z != 0)=true:=by simpa using hz
  have CP:Hd (Calls prog 16 #[.string s] W fun e w2=>e=.returned (.tuple #[.slice none 0 0,.int .i64 z,.int .i64 (p:Nat)])/\Hd (W.grownBy w2 none)):=C0.mono fun e w2 hh=>⟨hh.2.1 z p hns,hh.2.2⟩
  clear hns C0 hR hz CV CR;go_enter func8,ntmps8;go_upto_region 2 with fail
  try rw[HW.o.1]
  try rw[HW.o.2]
  go_wp2_with (go_at_call 16;refine CP.o.mono ?_);rintro e w2 ⟨rfl,hP⟩;obtain⟨hg2,h0,h1⟩:=bl.o _ hP.o;have a0:w2.cell? ⟨A,0,none⟩=some (.string ⟨#[]⟩):=by rw[aj h0];rfl
  have a1:w2.cell? ⟨A,1,none⟩=some (.string ⟨#[]⟩):=by rw[aj h0];rfl
  have a2:w2.cell? ⟨A,2,none⟩=some (.slice none 0 0):=by rw[aj h0];rfl
  have af:=fun k=>Lib.frozen_of_heap h0 k
  have b0:w2.cell? ⟨A+1,0,none⟩=some (.string ⟨#[]⟩):=by rw[aj h1];rfl
  have b1:w2.cell? ⟨A+1,1,none⟩=some (.string ⟨#[]⟩):=by rw[aj h1];rfl
  have b2:w2.cell? ⟨A+1,2,none⟩=some (.slice none 0 0):=by rw[aj h1];rfl
  have H0:=ae h0;have HG2:=ae hg2;clear h0 h1 hP hg2;go_wp2;exact bodyPost_ret (jS (p:=4) (u:=5) (r:=6) rfl _ _ A _ _ (0,0) _ rfl (pz H0.o) underlying24 rfl (by kernel_rfl)) rfl (AA HY.o (rG HG2.o HA.o _ _ _))
 |ok ns=>
  have uI:Hd (qw ns=R):=by show _=_;rw[<-hR,hns];rfl
  obtain⟨n,hn⟩:=zN (ns.length);have CP:Hd (Calls prog 16 #[.string s] W fun e w2=>∃N c,e=.returned (.tuple #[.slice (some ⟨N,0,none⟩) n c,.int .i64 0,.int .i64 0])/\Hd (W.grownBy w2 none/\∃kv,Nz w2 N c kv ns)):=C0.mono fun e w2 hh=>by
   obtain⟨N,c,M,T,xs,ks,now,m,f,he,hD⟩:=hh.1 ns hns;rw[hn]at he;exact⟨N,c,he,hh.2.2,ks,ajM hD _ hns⟩
  have HC:Hd (lH okV 24/\lH okR 34):=⟨CV,CR⟩;have HN:=ae hn;clear hns C0 hR CV CR hn;go_enter func8,ntmps8;go_upto_region 2 with fail
  try rw[HW.o.1]
  try rw[HW.o.2]
  go_wp2_with (go_at_call 16;refine CP.o.mono ?_);rintro e w2 ⟨N,c,rfl,hP⟩;obtain⟨L,hL⟩:=zN (w2.heap.size);have CN:Hd (Calls prog 17 #[.slice (some ⟨N,0,none⟩) n c] w2 fun e w3=>e=.returned (.pointer (some ⟨L+1,0,none⟩))/\Hd (w2.grownBy w3 none/\w3.heap[L+1]?=some (.cells #[.slice (some ⟨N,0,none⟩) n c,.slice (some ⟨L,0,none⟩) n n] 81 (0,0))/\w3.heap[L]?=some (.cells (Array.replicate n .nilFunc) 59 (0,0)))):=by
   obtain⟨-,kv,H⟩:=hP.o;refine(ajQ N c n w2 (by have:=H.len;have:=HN.o;omega)).mono fun e w3 hh=>?_
   subst hL;refine⟨hh.1,?_⟩;rw[hh.2];exact⟨aH (aH (ax _ _) _) _,heap_alloc2_new _ _ _,by rw[Lib.alloc_old _ _ _ (by simp)];exact heap_alloc_new _ _⟩
  have CM:Hd (∀w3,Hd (w2.grownBy w3 none/\w3.heap[L+1]?=some (.cells #[.slice (some ⟨N,0,none⟩) n c,.slice (some ⟨L,0,none⟩) n n] 81 (0,0))/\w3.heap[L]?=some (.cells (Array.replicate n .nilFunc) 59 (0,0)))->Calls prog 9 #[.pointer (some ⟨L+1,0,none⟩)] w3 fun e w4=>∃(X Y:ByteArray) (o:Option Addr) (l k:Nat) (z p:Int),e=.returned (.tuple #[.agg #[.string X,.string Y,.slice o l k],.int .i64 z,.int .i64 p])/\Hd (W.grownBy w4 none/\(∀m,R=.ok m->X=m.nm/\Y=m.ve/\z=0/\p=0/\w4.ownsRow w.heap.size 35 2 (.slice o l k) m.nd.length (m.nd.flatMap kF))/\∀c,R=.error c->z=c.1/\p=(c.2:Nat)/\¬c.1=0)):=fun w3 h3=>by
   obtain⟨hg,kv,H⟩:=hP.o;have hs:w.heap.size<=w2.heap.size:=(bl.o _ hg).1.size;refine(aj2 HC.o.1 HC.o.2 N c (L+1) L n kv ns w2 w3 HN.o H h3.o.1 h3.o.2.1 h3.o.2.2 (Nat.le_of_eq hL)).mono fun e w4 hh=>?_
   rw[uI.o]at hh;obtain⟨h1,X,Y,o,l,k,z,p,h2,h3,h4⟩:=hh;refine⟨X,Y,o,l,k,z,p,h2,ak hg h1,fun m e=>?_,h4⟩;obtain⟨e1,e2,e3,e4,e5⟩:=h3 m e;exact⟨e1,e2,e3,e4,LU hs e5⟩
  have hEM:=egM;have HL:=ae hL;clear hL CP hP;go_wp2_with (first|(go_at_call 17;refine CN.o.mono ?_;rintro e w3 ⟨rfl,h3⟩)|(refine(CM.o _ (by assumption)).mono ?_));rintro e w4 ⟨X,Y,o,l,k,z,p,rfl,h4⟩;obtain⟨hg4,h5,h6⟩:=h4.o;obtain⟨F,hF⟩:=zN (w4.heap.size);obtain⟨U,hU⟩:=zN (w4.alloc (.cells #[.string X,.string Y,.slice o l k] 24));have Sl:w4.grownBy U none:=hU ▸ aH (ax w4 none) _;have hm:U.heap[F]?=some (.cells #[.string X,.string Y,.slice o l k] 24 (0,0)):=by rw[<-hU,<-hF];exact heap_alloc_new _ _
  have m0:U.cell? ⟨F,0,none⟩=some (.string X):=by rw[aj hm];rfl
  have m1:U.cell? ⟨F,1,none⟩=some (.string Y):=by rw[aj hm];rfl
  have m2:U.cell? ⟨F,2,none⟩=some (.slice o l k):=by rw[aj hm];rfl
  obtain⟨hg2,h0,h1⟩:=bl.o _ (ak hg4 Sl);have a0:U.cell? ⟨A,0,none⟩=some (.string ⟨#[]⟩):=by rw[aj h0];rfl
  have a1:U.cell? ⟨A,1,none⟩=some (.string ⟨#[]⟩):=by rw[aj h0];rfl
  have a2:U.cell? ⟨A,2,none⟩=some (.slice none 0 0):=by rw[aj h0];rfl
  have af:=fun k=>Lib.frozen_of_heap h0 k
  have b0:U.cell? ⟨A+1,0,none⟩=some (.string ⟨#[]⟩):=by rw[aj h1];rfl
  have b1:U.cell? ⟨A+1,1,none⟩=some (.string ⟨#[]⟩):=by rw[aj h1];rfl
  have b2:U.cell? ⟨A+1,2,none⟩=some (.slice none 0 0):=by rw[aj h1];rfl
  have H0:=ae h0;have HG2:=ae hg2;have FM:=ae Sl;have H5:=ae h5;have H6:=ae h6;have HU:Hd (w4.alloc (.cells #[.string X,.string Y,.slice o l k] 24)=U/\w4.heap.size=F):=⟨hU,hF⟩;clear h0 h1 hg2 Sl h5 h6 hm hU hF h4 hg4 CM CN;go_upto_region 6 with fail
  try rw[HU.o.1]
  try rw[HU.o.2]
  rcases R with c0|m
  ·obtain⟨rfl,rfl,hz⟩:=H6.o c0 rfl;have hzb:(c0.1 != 0)=true:=by simpa using hz
   clear H5 H6 hz;go_wp2;exact bodyPost_ret (jS (p:=4) (u:=5) (r:=6) rfl _ _ A _ _ (0,0) _ rfl (pz H0.o) underlying24 rfl (by kernel_rfl)) rfl (AA rfl (rG HG2.o HA.o _ _ _))
  ·obtain⟨rfl,rfl,rfl,rfl,hr⟩:=H5.o m rfl;have HRW:=ae hr;clear H5 H6 hr;go_wp2;exact bodyPost_ret (jS (p:=4) (u:=5) (r:=6) rfl _ _ A _ _ (0,0) _ rfl (pz H0.o) underlying24 rfl (by kernel_rfl)) rfl ⟨_,rfl,rG HG2.o HA.o _ _ _,LQ (by decide) H0.o ((gI FM.o).row HRW.o)⟩
theorem aao(CV:lH okV 24)(CR:lH okR 34)(s:ByteArray)(E:Int->TypeId × Value)(b:Int->Addr)(w:World)(G:Gl w w.heap.size E)(S:Sn w E b)(hmx:s.size<2 ^ 62) :
  Calls prog 4 #[.string s] w (Hr 35 w (tH s.data.toList)):=by
 obtain⟨R,hR⟩:=zN (tH s.data.toList);obtain⟨A,hA⟩:=zN (w.heap.size);obtain⟨W,hW⟩:=zN (w.alloc (.cells #[.string ⟨#[]⟩,.string ⟨#[]⟩,.slice none 0 0] 24));have fH:w.grownBy W none:=hW ▸ aH (ax w none) _;have hb0:W.heap[A]?=some (.cells #[.string ⟨#[]⟩,.string ⟨#[]⟩,.slice none 0 0] 24 (0,0)):=by rw[<-hW,<-hA];exact heap_alloc_new _ _
 have C0:=aj6 CV CR s E b W ((G.bel (y8 fH)).up fH.size) (S.grow fH) hmx;rw[hR]at C0 ⊢;obtain⟨X,hX⟩:=zN ((rM R).nm);obtain⟨Y,hY⟩:=zN ((rM R).ve);obtain⟨z,hz⟩:=zN (rZ R);obtain⟨p,hp⟩:=zN (rP R);obtain⟨l,hl⟩:=zN ((rM R).nd.length);have CG:Hd (Calls prog 8 #[.string s,.func (.func 9) #[] #[]] W fun e w'=>∃o k,e=.returned (.tuple #[.agg #[.string X,.string Y,.slice o l k],.int .i64 z,.int .i64 (p:Nat)])/\Hd (w.grownBy w' none/\w'.heap[A]?=some (.cells #[.string ⟨#[]⟩,.string ⟨#[]⟩,.slice none 0 0] 24 (0,0))/\w'.ownsRow w.heap.size 35 2 (.slice o l k) l ((rM R).nd.flatMap kF))):=C0.mono fun e w' hh=>by
  obtain⟨v,h1,h2,h3⟩:=hh;rw[hX,hY,hz,hp]at h1;rw[hl]at h3;obtain⟨o,k,rfl⟩:=nV h3;exact⟨o,k,h1,ak fH h2,(gI h2).blk hb0,LU fH.size h3⟩
 have HP:Hd (∀o k w',w.grownBy w' none->w'.ownsRow w.heap.size 35 2 (.slice o l k) l ((rM R).nd.flatMap kF)->Hr 35 w R (.returned (.tuple #[.agg #[.string X,.string Y,.slice o l k],.int .i64 z,.int .i64 (p:Nat)])) w'):=fun o k w' h1 h2=>by
  subst hX hY hz hp hl;exact⟨_,rfl,h1,h2⟩
 have HW:Hd (w.alloc (.cells #[.string ⟨#[]⟩,.string ⟨#[]⟩,.slice none 0 0] 24)=W/\w.heap.size=A/\w.heap.size<=A):=⟨hW,hA,Nat.le_of_eq hA⟩;clear hX hY hz hp hl hR hW hA fH hb0 C0 G S CV CR;go_enter func4,ntmps4;go_upto_region 1 with fail
 try rw[HW.o.1]
 try rw[HW.o.2.1]
 go_wp2_with (go_at_call 8;refine CG.o.mono ?_);rintro e w2 ⟨o,k,rfl,h2⟩;obtain⟨hg,h0,hr⟩:=h2.o;have a0:w2.cell? ⟨A,0,none⟩=some (.string ⟨#[]⟩):=by rw[aj h0];rfl
 have a1:w2.cell? ⟨A,1,none⟩=some (.string ⟨#[]⟩):=by rw[aj h0];rfl
 have a2:w2.cell? ⟨A,2,none⟩=some (.slice none 0 0):=by rw[aj h0];rfl
 have af:=fun k=>Lib.frozen_of_heap h0 k
 have H0:=ae h0;have HF:=ae (HP.o o k _ (rG hg HW.o.2.2 (.string X) (.string Y) (.slice o l k)) (LQ (by decide) h0 hr));clear h0 h2 hg hr HP;go_wp2;exact bodyPost_ret (jS (p:=2) (u:=3) (r:=4) rfl _ _ A _ _ (0,0) _ rfl (pz H0.o) underlying24 rfl (by kernel_rfl)) rfl HF.o
end Go.Proofs.YtbcfhgpfgdbjgaaGreatDoor
