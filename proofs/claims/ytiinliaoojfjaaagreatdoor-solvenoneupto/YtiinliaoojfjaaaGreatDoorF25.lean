import Derived.Test.YtiinliaoojfjaaaGreatDoorF16
import Derived.Laws.EntriesVeiled
set_option linter.all false
set_option maxRecDepth 100000
set_option maxHeartbeats 0
open Go.Proofs.Tryz
namespace Go.Proofs.YtiinliaoojfjaaaGreatDoor
open Go.RowKit Go.Maps Go.Joins
section
variable {B S M R0 p q k:Nat} {pv nv cm rv cv:Value} {f:Int} {A D A1 D1 A2 D2:Nat} {w wx wx':World} {ch:List Nat}
theorem aeB{w:World}{a b:Nat}{x y:Array Value}{t u:TypeId}(h:w.heap[a]?=some (.cells x t (0,0)))(h':w.heap[b]?=some (.cells y u (0,0)))(e:¬t=u):¬a=b:=by
 rintro rfl;rw[h]at h';injection h' with h'
 injection h' with _ h'
 exact e h'
theorem row_ne{w:World}{a:Nat}{x:Array Value}{t u:TypeId}{v:Value}{n:Nat}{xs:List Value}(h:w.heap[a]?=some (.cells x t (0,0)))(h':w.ownsRow B u 1 v n xs)(e:¬t=u){b:Nat}(hb:v.ownBlock=some b):¬b=a:=by
 rcases h'.2 with⟨e1,-⟩|⟨g',c',cur,e1,-,h2,-⟩
 ·rw[e1]at hb;cases hb
 ·rw[e1]at hb;obtain rfl:g'=b:=Option.some.inj hb;exact fun h3=>aeB h h2 e h3.symm
theorem sN{w:World}{u:TypeId}{v:Value}{n:Nat}{xs:List Value}(h':w.ownsRow B u 1 v n xs){b:Nat}(hb:v.ownBlock=some b):B<=b/\b<w.heap.size:=by
 rcases h'.2 with⟨e1,-⟩|⟨g',c',cur,e1,h1,h2,-⟩
 ·rw[e1]at hb;cases hb
 ·rw[e1]at hb;obtain rfl:g'=b:=Option.some.inj hb;exact⟨h1,(aC h2)⟩
theorem Cs.st(h:Cs B S M R0 p q k pv nv cm rv f A D A1 D1 cv w ch wx)(hSR:S<R0)(hp:R0+1<=p)(hq:R0+1<=q)(f2:Fx (fun b=>b=S) wx wx')(s:∀cv',Sb wx S pv nv cm rv (.map (some M)) cv' f A1 D1->Sb wx' S pv nv cm rv (.map (some M)) cv' f A2 D2):Cs B S M R0 p q k pv nv cm rv f A D A2 D2 cv w ch wx':=by
 obtain⟨g,cap,y1,y2,y3,y4,y5,y6,y7,y8⟩:=h;exact⟨g,cap,s _ y1,jm y2 f2 (fun b hb=>row_ne y1 y2 (by decide) hb),y3.trans (f2.mono fun b hb=>Or.inl hb),f2.cell y4 (by omega),f2.cell y5 (by omega),f2.cell y6 (by omega),Nat.le_trans y7 f2.size,y8⟩
end
def Xb(B S M b:Nat):Prop:=b=S\/b=M\/B<=b
def Xr(S M:Nat)(rv cv:Value)(b:Nat):Prop:=b=S\/b=M\/rv.ownBlock=some b\/cv.ownBlock=some b
def Na(B S M k:Nat)(pv nv cm rv cv:Value)(f:Int)(A D A' D':Nat)(row row':List ByteArray)(ch:List Nat)(w:World)(e:Ending)(w':World):Prop:=∃(b0 b1 b2 b3 bs bl g cc:Nat) (rv':Value),e=.returned (.func (.func 99) #[] #[.pointer (some ⟨b0,0,none⟩),.pointer (some ⟨b1,0,none⟩),.pointer (some ⟨b2,0,none⟩),.pointer (some ⟨b3,0,none⟩)]) ∧
 (w'.cell? ⟨b0,0,none⟩=some (.func (.func 96) #[] #[.pointer (some ⟨bs,0,none⟩),.pointer (some ⟨bl,0,none⟩)])/\w'.cell? ⟨b1,0,none⟩=some (.pointer (some ⟨S,0,none⟩))/\w'.cell? ⟨b2,0,none⟩=some (.int .u64 (A:Int))/\w'.cell? ⟨b3,0,none⟩=some (.int .u64 (D:Int))/\w'.cell? ⟨bs,0,none⟩=some (.pointer (some ⟨S,0,none⟩))/\w'.cell? ⟨bl,0,none⟩=some (.int .i64 (row.length:Int))) ∧
 (∀b,b=b0\/b=b1\/b=b2\/b=b3\/b=bs\/b=bl->w.heap.size<=b/\rv'.ownBlock≠some b/\g≠b) ∧
 Sb w' S pv nv cm rv' (.map (some M)) (.slice (some ⟨g,0,none⟩) (ch.length+1) cc) f A' D'/\w'.ownsRow B 9 1 rv' row'.length (row'.map .string)/\w'.ownsRow B 3 1 (.slice (some ⟨g,0,none⟩) (ch.length+1) cc) (ch.length+1) ((ch++[k]).map fun(j:Nat)=>Value.int .i64 (j:Int))/\InR w' M row'/\Fx (Xr S M rv cv) w w'/\(∀g',rv'.ownBlock=some g'->rv.ownBlock=some g'\/w.heap.size<=g')/\(cv.ownBlock=some g\/w.heap.size<=g)
def Nc(B S M:Nat)(pv nv cm rv cv:Value)(f:Int)(A D:Nat)(row row':List ByteArray)(bs bl:Nat)(rv':Value)(w w':World):Prop:=(w.heap.size<=bs/\w.heap.size<=bl/\w'.cell? ⟨bs,0,none⟩=some (.pointer (some ⟨S,0,none⟩))/\w'.cell? ⟨bl,0,none⟩=some (.int .i64 (row.length:Int))/\rv'.ownBlock≠some bs/\rv'.ownBlock≠some bl)/\Sb w' S pv nv cm rv' (.map (some M)) cv f A D/\w'.ownsRow B 9 1 rv' row'.length (row'.map .string)/\InR w' M row'/\Fx (Lx S M rv) w w'/\(∀g,rv'.ownBlock=some g->rv.ownBlock=some g\/w.heap.size<=g)
theorem Vg{w:World}{B t u n m:Nat}{v v':Value}{xs ys:List Value}(h:w.ownsRow B t 1 v n xs)(h':w.ownsRow B u 1 v' m ys)(e:¬t=u){b:Nat}(hb:v.ownBlock=some b):¬v'.ownBlock=some b:=by
 rcases h.2 with⟨e1,-⟩|⟨g',c',cur,e1,-,h2,-⟩
 ·rw[e1]at hb;cases hb
 ·rw[e1]at hb;obtain rfl:g'=b:=Option.some.inj hb;exact fun h3=>row_ne h2 h' e h3 rfl
theorem Nh{w:World}{B M u n:Nat}{row:List ByteArray}{v:Value}{xs:List Value}(h:InR w M row)(h':w.ownsRow B u 1 v n xs):¬v.ownBlock=some M:=by
 intro hb
 rcases h'.2 with⟨e1,-⟩|⟨g',c',cur,e1,-,h2,-⟩
 ·rw[e1]at hb;cases hb
 ·rw[e1]at hb;obtain rfl:g'=M:=Option.some.inj hb;obtain⟨D',⟨es,cl,h1,-⟩,-⟩:=h;rw[h1]at h2
  cases h2
theorem aeC{B S M R0 p q k b0 bs bl:Nat}{pv nv cm rv cv rv':Value}{f:Int}{A D A' D':Nat}{row row':List ByteArray}{ch:List Nat}{w wc wz w5 w':World}{g cap:Nat}(hw:w.heap.size=R0)(hr:w.ownsRow B 9 1 rv row.length (row.map .string))(hin:InR w M row)(hcv:w.ownsRow B 3 1 cv ch.length (ch.map fun(j:Nat)=>Value.int .i64 (j:Int)))(hS:S<R0)
  (hp:R0+1<=p/\p<R0+3) (hq:R0+1<=q/\q<R0+3)
  (y1:Sb wc S pv nv cm rv (.map (some M)) (.slice (some ⟨g,0,none⟩) (ch.length+1) cap) f A' D') (hr':wc.ownsRow B 9 1 rv row.length (row.map .string)) (hin':InR wc M row) (y2:wc.ownsRow B 3 1 (.slice (some ⟨g,0,none⟩) (ch.length+1) cap) (ch.length+1) ((ch++[k]).map fun(j:Nat)=>Value.int .i64 (j:Int))) (y3:Fx (fun b=>b=S\/cv.ownBlock=some b) w wc) (y4:wc.cell? ⟨R0,0,none⟩=some (.pointer (some ⟨S,0,none⟩))) (y5:wc.cell? ⟨p,0,none⟩=some (.int .u64 (A:Int))) (y6:wc.cell? ⟨q,0,none⟩=some (.int .u64 (D:Int))) (y7:R0+3<=wc.heap.size) (y8:cv.ownBlock=some g\/R0+3<=g)
  (fz:Fx (fun _=>False) wc wz) (l:Nc B S M pv nv cm rv (.slice (some ⟨g,0,none⟩) (ch.length+1) cap) f A' D' row row' bs bl rv' wz w5)
  (fw:Fx (fun b=>b=b0) w5 w') (hb0:w'.cell? ⟨b0,0,none⟩=some (.func (.func 96) #[] #[.pointer (some ⟨bs,0,none⟩),.pointer (some ⟨bl,0,none⟩)])) (h0:(wc.heap.size<=b0/\b0<wz.heap.size)\/b0=w5.heap.size) :
  Na B S M k pv nv cm rv cv f A D A' D' row row' ch w (.returned (.func (.func 99) #[] #[.pointer (some ⟨b0,0,none⟩),.pointer (some ⟨R0,0,none⟩),.pointer (some ⟨p,0,none⟩),.pointer (some ⟨q,0,none⟩)])) w':=by
 obtain⟨⟨l1,l2,l3,l4,l5,l6⟩,m1,m2,m3,m4,m5⟩:=l;have s1:=fz.size;have s2:=m4.size;have hM:M<R0:=by
  obtain⟨D',hD',-⟩:=hin;have:=hD'.lt;omega
 have hbs:bs<w5.heap.size:=qP l3;have hbl:bl<w5.heap.size:=qP l4;have hgl:=(sN (b:=g) y2 rfl).2;have hrl:=fun b (hb:rv.ownBlock=some b)=>hw ▸ (sN hr hb).2
 have hcl:=fun b (hb:cv.ownBlock=some b)=>hw ▸ (sN hcv hb).2
 have hgR:=y8.imp (hcl g) id;have hrr:∀b,rv'.ownBlock=some b->b<R0\/(wz.heap.size<=b/\b<w5.heap.size):=fun b hb=>(m5 b hb).imp (hrl b) (fun h=>⟨h,(sN m2 hb).2⟩)
 have kL:∀b,R0<=b->b<wz.heap.size->¬Lx S M rv b:=fun b h1 h2=>by
  rintro(rfl|rfl|h)
  ·omega
  ·omega
  ·have:=hrl b h;omega
 have c3:∀{b:Nat} {v:Value},R0<=b->b<R0+3->wc.cell? ⟨b,0,none⟩=some v->w'.cell? ⟨b,0,none⟩=some v:=fun {b v} h1 h2 hv=>fw.cell (m4.cell (fz.cell hv (fun h=>h)) (kL b h1 (by omega))) (by omega)
 have fgM:¬Lx S M rv g:=by
  rintro(h|h|h)
  ·exact row_ne y1 y2 (by decide) rfl h
  ·exact Nh hin' y2 (congrArg some h)
  ·exact Vg hr' y2 (by decide) h rfl
 have aeD:¬g=b0:=by omega
 have Vh:∀b,rv'.ownBlock=some b->¬b=b0:=fun b hb=>by have:=hrr b hb;omega
 refine⟨b0,R0,p,q,bs,bl,g,cap,rv',rfl,⟨hb0,c3 (Nat.le_refl _) (by omega) y4,c3 (by omega) (by omega) y5,c3 (by omega) (by omega) y6,fw.cell l3 (by omega),fw.cell l4 (by omega)⟩,?_,m1.fx fw (by omega),jm m2 fw Vh,?_,m3.fx fw (by omega),?_,fun g' hg'=>(m5 g' hg').imp id (fun h=>by omega),y8.imp id (fun h=>by omega)⟩
 ·rintro b hb;refine⟨by omega,fun e=>?_,by omega⟩
  rcases hb with rfl|rfl|rfl|rfl|rfl|rfl
  ·exact Vh _ e rfl
  ·have:=hrr _ e;omega
  ·have:=hrr _ e;omega
  ·have:=hrr _ e;omega
  ·exact l5 e
  ·exact l6 e
 ·exact jm (jm (jm y2 fz (fun _ _ h=>h)) m4 (fun b hb=>by obtain rfl:g=b:=Option.some.inj hb;exact fgM)) fw (fun b hb=>by obtain rfl:g=b:=Option.some.inj hb;exact aeD)
 ·refine⟨(fw.os.trans (m4.os.trans fz.os)).trans y3.os,(fw.tape.trans (m4.tape.trans fz.tape)).trans y3.tape,(fw.output.trans (m4.output.trans fz.output)).trans y3.output,?_,fun b hb hn=>?_⟩
  ·have:=fw.size;have:=y3.size;omega
  ·have:=y3.size;rw[fw.block b (by omega) (by omega),m4.block b (by omega) (fun h=>hn (h.elim Or.inl fun h=>h.elim (fun e=>Or.inr (Or.inl e)) fun e=>Or.inr (Or.inr (Or.inl e)))),fz.block b (by omega) (fun h=>h),y3.block b hb (fun h=>hn (h.elim Or.inl fun e=>Or.inr (Or.inr (Or.inr e))))]
theorem aeE(B S M k ng nl ncc ncp:Nat)(po co:Option Addr)(na:Addr)(pc cc:Nat)(cm rv:Value)(f:Int)(A D:Nat)(P:List Pl)(row ns:List ByteArray)(ch:List Nat)(w:World)(h:Sb w S (.slice po P.length pc) (.slice (some na) nl ncp) cm rv (.map (some M)) (.slice co ch.length cc) f A D)
  (hro:∀w',Fx (Xb B S M) w w'->PlS w' (.slice po P.length pc) P/\w'.cell? (na.add k)=some (.slice (some ⟨ng,0,none⟩) ns.length ncc)/\∀i (hi:i<ns.length),w'.cell? ⟨ng,i,none⟩=some (.string ns[i])) (uC:¬Xb B S M ng) (hkn:k<nl) (hnl:nl<=ncp) (hncc:ns.length<=ncc) (hk:k<P.length) (hP:P.length<=64) (hA:A<18446744073709551616) (hD:D<18446744073709551616) (hb:P[k].bar<18446744073709551616) (hr:w.ownsRow B 9 1 rv row.length (row.map .string)) (hin:InR w M row) (hSM:¬S=M) (hc:w.ownsRow B 3 1 (.slice co ch.length cc) ch.length (ch.map fun(j:Nat)=>Value.int .i64 (j:Int))) (hcl:ch.length<=64) (hB:B<=w.heap.size) (hz:∀x∈ns,x.size<=maxLen) (hR:row.length+ns.length<=1048576) :
  Calls prog 60 #[.pointer (some ⟨S,0,none⟩),.int .i64 k] w (Na B S M k (.slice po P.length pc) (.slice (some na) nl ncp) cm rv (.slice co ch.length cc) f A D (A ||| 2 ^ k) (D ||| P[k].bar) row (aU row ns) ch w):=by
 obtain⟨⟨c0,c1,-⟩,⟨c4,c5,c6⟩,c7,c8⟩:=h.cells;have z6:=h.fz 6;have z7:=h.fz 7;have z8:=h.fz 8;obtain⟨R0,hR0⟩:=zN w.heap.size;have HR0:=ae hR0;obtain⟨W1,hW1⟩:=zN (w.alloc (.cells #[.pointer (some ⟨S,0,none⟩)] 72));have hg1:w.grownBy W1 none:=by rw[<-hW1];exact ak (ai w none) _
 have hs1:W1.heap.size=R0+1:=by rw[<-hW1,World.size_alloc,hR0]
 have hb1:W1.heap[R0]?=some (.cells #[.pointer (some ⟨S,0,none⟩)] 72 (0,0)):=by rw[<-hW1,<-hR0];exact heap_alloc_new w _
 have b0:W1.cell? ⟨R0,0,none⟩=some (.pointer (some ⟨S,0,none⟩)):=by rw[ah hb1];rfl
 have d7:=hg1.cell c7 (by simp);have d8:=hg1.cell c8 (by simp);have HS:=ae h;obtain⟨b,hb'⟩:=zN (P[k].bar);rw[hb']at hb ⊢;have lV:=ae hb';have BQ:=ae hro;have HNG:=ae uC;have HRW:=ae (And.intro hr (And.intro hin hz));have BR:Hd (∀wx,Fx (fun b=>b=S\/(Value.slice co ch.length cc).ownBlock=some b) w wx->Fx (Xb B S M) w wx):=fun wx hx=>hx.mono fun b hb=>hb.elim Or.inl (fun e=>Or.inr (Or.inr (sN hc e).1))
 have hSR:S<R0:=by rw[<-hR0];exact(aC h)
 have TB:=ae (TJ W1 hs1 (.int .u64 (A:Int)) (.int .u64 (D:Int)) 114);have TC:=ae (TJ W1 hs1 (.int .u64 (D:Int)) (.int .u64 (A:Int)) 114);clear h hro uC hr hin hz hb';go_enter func60,ntmps60;go_wp2
 go_cut [5,6] from 8 (fun v5 v6 wx=>∃p q,v5=.pointer (some ⟨p,0,none⟩)/\v6=.pointer (some ⟨q,0,none⟩)/\¬p=q/\R0+1<=p/\R0+1<=q/\wx.cell? ⟨p,0,none⟩=some (.int .u64 (A:Int))/\wx.cell? ⟨q,0,none⟩=some (.int .u64 (D:Int))/\W1.grownBy wx none/\R0+3<=wx.heap.size/\p<R0+3/\q<R0+3)
 case first =>
  go_region_held3 (fun u=>u.cell? ⟨R0,0,none⟩=some (.pointer (some ⟨S,0,none⟩))/\u.cell? ⟨S,7,none⟩=some (.int .u64 (A:Int))/\u.cell? ⟨S,8,none⟩=some (.int .u64 (D:Int))) ((first|assumption|go_keep)) (fail)
  all_goals (go_wp2_with fail;go_meet;first|exact⟨R0+1,R0+1+1,rfl,rfl,by omega,by omega,by omega,TB.o.1,TB.o.2.1,oW TB.o.2.2.1,Nat.le_of_eq TB.o.2.2.2.symm,by omega,by omega⟩|exact⟨R0+1+1,R0+1,rfl,rfl,by omega,by omega,by omega,TC.o.2.1,TC.o.1,oW TC.o.2.2.1,Nat.le_of_eq TC.o.2.2.2.symm,by omega,by omega⟩)
 case rest =>
  obtain⟨p,q,rfl,rfl,hpq,hp1,hq1,m1,m2,hgc,hsc,hp3,hq3⟩:=hcut;have hgw:=ag hg1 hgc;have x0:=hgc.cell b0 (by simp);have x6:=hgw.cell c6 (by simp);obtain⟨i0,hi0,hii⟩:=Option.map_eq_some_iff.1 Ie;simp only[Prod.mk.injEq]at hii;obtain⟨hz0,hz1,hzb⟩:=hii;have hfc:Fx (fun _=>False) w wc:=(Fx.refl _ w).gb hgw (fun b e=>by cases e);have hrow:=jm hc hfc (fun _ _ h=>h);have xR:=ae (HS.o.fx hfc (fun h=>h));have bD:=ae hgw;have HGC:=ae hgc;have HM:=ae (And.intro m1 m2);have bP:∀b,(Value.slice co ch.length cc).ownBlock=some b->¬b=S/\b<R0:=fun b hb=>by
   rcases hc.2 with⟨e,-⟩|⟨g',c',cur,e,-,h2,-⟩
   ·rw[e]at hb;cases hb
   ·rw[e]at hb;obtain rfl:g'=b:=Option.some.inj hb;refine⟨fun e=>?_,by rw[<-HR0.o];exact(aC h2)⟩;have h3:w.heap[S]?=_:=HS.o;rw[e,h3]at h2;injection h2 with h2
    injection h2 with _ h2
    exact absurd h2 (by decide)
  have Bo:Hd (some S≠(Value.slice co ch.length cc).ownBlock):=fun e=>(bP S e.symm).1 rfl
  have zn:Hd (some R0≠(Value.slice co ch.length cc).ownBlock):=fun e=>by have:=(bP R0 e.symm).2;omega
  have jS:=ae bP;obtain⟨K,hK⟩:=zN (wc.heap.size);have Lt:Hd ((wc.drew.alloc (.cells #[.int .i64 (k:Int)] 3)).heap[K]?=some (.cells #[.int .i64 (k:Int)] 3 (0,0))):=by
   have:=heap_alloc_new wc.drew (.cells #[.int .i64 (k:Int)] 3);rw[show wc.drew.heap.size=K from hK]at this;exact this
  have hBK:B<=K:=by omega
  have hone:∀u∈([.int .i64 (k:Int)]:List Value),u.oneCell'=true:=by simp[Value.oneCell']
  have f6A:=(World.grownBy_alloc wc (.cells #[.int .i64 (k:Int)] 3) none).cell x6 (by simp);have f0A:=(World.grownBy_alloc wc (.cells #[.int .i64 (k:Int)] 3) none).cell x0 (by simp);obtain⟨ys,hys⟩:∃ys:List Value,(ch.map fun(j:Nat)=>Value.int .i64 (j:Int))=ys:=⟨_,rfl⟩;have Lu:=ae hys;rw[hys]at hrow;clear hys bP hfc m1 m2 hgc hgw c0 c1 c4 c5 c6 c7 c8 d7 d8;go_wp2
  go_cut [] from 8 (Cs B S M R0 p q k (.slice po P.length pc) (.slice (some na) nl ncp) cm rv f A D A D (.slice co ch.length cc) w ch)
  case first =>
   go_region_law (refine step_append_lies _ (by rfl) _ _ _ (by rfl) B 3 i0 _ 1 8 underlying31 hi0 hz0 hz1 hzb (by rfl) (by decide) (.slice co ch.length cc) ch.length ys (by rfl) (hrow.drew.alloc _) ⟨K,0,none⟩ 1 1 [.int .i64 (k:Int)] (by rfl) (by rfl) (World.news_of_block Lt.o) hone (by omega) (by unfold maxLen;omega) (by omega) (by simp;omega) _ rfl ?_;intro g cap w3 hown3 hgrow hat hlt3;have hc3:=hgrow.cell f6A Bo.o;have hc0:=hgrow.cell f0A zn.o;have acI:=Lib.frozen_of_heap ((hgrow.block S (Nat.lt_of_lt_of_le (aC xR.o) (World.grownBy_alloc wc (.cells #[.int .i64 (k:Int)] 3) none).size) Bo.o).trans (((World.grownBy_alloc wc (.cells #[.int .i64 (k:Int)] 3) none).block S (aC xR.o) (by simp)).trans xR.o)) 6)
   all_goals (go_wp2_with fail;go_meet;exact acJ HR0.o xR.o bD.o x0 HM.o.1 HM.o.2 hp1 hq1 hsc hSR jS.o (by rw[Lu.o];exact hown3) hgrow hat)
  case rest =>
   have HC:=ae hcut;obtain⟨g,cap,y1,y2,y3,y4,y5,y6,y7,y8⟩:=hcut;obtain⟨-,-,c7,c8⟩:=y1.cells;have z7':=y1.fz 7;have CO:=ae (fun w=>KE k (by omega) w);have hor:=bits_or_u64_nat A (2 ^ k) hA (rG (by omega));obtain⟨E2,hE2⟩:∃X:Int,((2 ^ k:Nat):Int)=X:=⟨_,rfl⟩;obtain⟨A2,hA2⟩:∃X:Int,((A ||| 2 ^ k:Nat):Int)=X:=⟨_,rfl⟩;rw[hE2]at CO hor;rw[hA2]at hor;have HA2:=ae hA2;clear y1 y2 y3 y5 y6 y7 y8 hE2 hA2 x0 x6 f6A f0A hrow;go_wp2
   go_cut [] from 8 (Cs B S M R0 p q k (.slice po P.length pc) (.slice (some na) nl ncp) cm rv f A D (A ||| 2 ^ k) D (.slice co ch.length cc) w ch)
   case first =>
    go_region_with (first|(go_at_call 98;refine(CO.o _).mono ?_;rintro e w' ⟨rfl,rfl⟩))
    all_goals (go_wp2_with fail;go_meet;rw[<-HA2.o];exact HC.o.st hSR hp1 hq1 ((Fx.refl (fun b=>b=S) _).set (Or.inl rfl) _ _).drew (fun _ s=>s.setA _))
   case rest =>
    have HC:=ae hcut;obtain⟨g,cap,y1,y2,y3,y4,y5,y6,y7,y8⟩:=hcut;obtain⟨⟨c0,-⟩,-,c7,c8⟩:=y1.cells;have z8':=y1.fz 8;obtain⟨a,rfl,hcap,hat⟩:=Tv (BQ.o _ (BR.o _ y3)).1 hk;obtain⟨e0,e1,-⟩:=hat k hk;rw[lV.o]at e1;have hor2:=bits_or_u64_nat D b hD hb;obtain⟨D2,hD2⟩:∃X:Int,((D ||| b:Nat):Int)=X:=⟨_,rfl⟩;rw[hD2]at hor2;have HD2:=ae hD2;have hkc:k<pc:=by omega
    clear y1 y2 y3 y5 y6 y7 y8 hD2 hat;go_wp2
    go_cut [] from 8 (Cs B S M R0 p q k (.slice (some a) P.length pc) (.slice (some na) nl ncp) cm rv f A D (A ||| 2 ^ k) (D ||| b) (.slice co ch.length cc) w ch)
    case first =>
     go_region_law (fail)
     all_goals (go_wp2_with fail;go_meet;rw[<-HD2.o];exact HC.o.st hSR hp1 hq1 ((Fx.refl (fun b=>b=S) _).set (Or.inl rfl) _ _).drew (fun _ s=>s.setD _))
    case rest =>
     obtain⟨g,cap,y1,y2,y3,y4,y5,y6,y7,y8⟩:=hcut;obtain⟨⟨-,c1,-⟩,-⟩:=y1.cells;obtain⟨hr,hin,hz⟩:=HRW.o;have FB:=BR.o _ y3;obtain⟨-,n0,n1⟩:=BQ.o _ FB;have EL:¬Lx S M rv ng:=fun hh=>HNG.o (hh.elim Or.inl fun hh=>hh.elim (fun e=>Or.inr (Or.inl e)) fun e=>Or.inr (Or.inr (sN hr e).1))
     have hr':=jm hr y3 (fun g' hg' hh=>hh.elim (row_ne HS.o hr (by decide) hg') (Vg hr hc (by decide) hg'));have hin':=hin.fx y3 (fun hh=>hh.elim (fun e=>hSM e.symm) (Nh hin hc));have CL:Hd (∀wz,Fx (fun _=>False) wc wz->Calls prog 57 #[.pointer (some ⟨S,0,none⟩),.slice (some ⟨ng,0,none⟩) ns.length ncc] wz fun e w'=>∃bs bl rv',e=.returned (.func (.func 96) #[] #[.pointer (some ⟨bs,0,none⟩),.pointer (some ⟨bl,0,none⟩)])/\Hd (Nc B S M (.slice (some a) P.length pc) (.slice (some na) nl ncp) cm rv (.slice (some ⟨g,0,none⟩) (ch.length+1) cap) f (A ||| 2 ^ k) (D ||| b) row (aU row ns) bs bl rv' wz w')):=fun wz hx =>
      TF B S M ng ncc _ _ cm rv _ f _ _ row ns wz (y1.fx hx (fun h=>h)) (jm hr' hx (fun _ _ h=>h)) (hin'.fx hx (fun h=>h)) hSM (Nat.le_trans hB (Nat.le_trans y3.size hx.size)) (fun i hi=>hx.cell (n1 i hi) (fun h=>h)) EL hncc hz hR
     obtain⟨K,hK⟩:=zN (wc.heap.size);have hmf:∀(fn:Fn) (first cap:Array Value) (w:World),(Instr.makeFunc fn first cap).run prog w=.ok (.func fn first cap) w:=fun _ _ _ _=>rfl
     have ajX:k<ncp:=by omega
     have HE:=ae (fun(wz w5 w':World) (bs bl b0:Nat) (rv':Value)=>aeC (B:=B) (M:=M) (k:=k) (b0:=b0) (bs:=bs) (bl:=bl) (rv':=rv') (wz:=wz) (w5:=w5) (w':=w') (row':=aU row ns) HR0.o hr hin hc hSR ⟨hp1,hp3⟩ ⟨hq1,hq3⟩ y1 hr' hin' y2 y3 y4 y5 y6 y7 y8);have hxa:Fx (fun _=>False) wc wc.drew:=(Fx.refl _ wc).drew;have hxb:Fx (fun _=>False) wc (wc.drew.alloc (.cells #[.nilFunc] 1)):=hxa.gb (ak (ai _ none) _) (fun b e=>by cases e);have n0B:=(World.grownBy_alloc wc (.cells #[.nilFunc] 1) none).cell n0 (by simp);have c1B:=(World.grownBy_alloc wc (.cells #[.nilFunc] 1) none).cell c1 (by simp);have y4B:=(World.grownBy_alloc wc (.cells #[.nilFunc] 1) none).cell y4 (by simp);have jU:=ae hxa;have HXB:=ae hxb;have HKB:Hd (∀bs bl rv' w5,Nc B S M (.slice (some a) P.length pc) (.slice (some na) nl ncp) cm rv (.slice (some ⟨g,0,none⟩) (ch.length+1) cap) f (A ||| 2 ^ k) (D ||| b) row (aU row ns) bs bl rv' (wc.drew.alloc (.cells #[.nilFunc] 1)) w5->w5.heap[K]?=some (.cells #[.nilFunc] 1 (0,0))):=fun bs bl rv' w5 hl=>by
      have h1:=heap_alloc_new wc.drew (.cells #[.nilFunc] 1);rw[show wc.drew.heap.size=K from hK]at h1;obtain⟨-,-,-,-,m4,-⟩:=hl;refine(m4.block K (aC h1) ?_).trans h1;have lT:M<w.heap.size:=by
       obtain⟨D',hD',-⟩:=hin;exact hD'.lt
      have:=y3.size;rintro(h|h|h)
      ·omega
      ·omega
      ·have:=(sN hr h).2;omega
     clear y1 y2 y3 y5 y6 y7 y8 hr hin hz FB n1 EL c0 c7 c8 hr' hin' hxa hxb;go_wp2;go_region_with (first|(go_at_call 57;refine(CL.o _ (by first|exact jU.o|exact HXB.o)).mono ?_;rintro e w5 ⟨bs,bl,rv',rfl,hl⟩;first|(have hkb:=HKB.o _ _ _ _ hl.o;have ajY:w5.cell? ⟨K,0,none⟩=some .nilFunc:=(by rw[ah hkb];rfl);have hkf:=Lib.frozen_of_heap hkb 0)|(have hnb:=heap_alloc_new w5 (.cells #[.nilFunc] 1);have hna:(w5.alloc (.cells #[.nilFunc] 1)).cell? ⟨w5.heap.size,0,none⟩=some .nilFunc:=(by rw[ah hnb];rfl);have hnf:=Lib.frozen_of_heap hnb 0)))
     all_goals (go_wp2;go_ret;first|exact HE.o wc.drew w5 _ bs bl w5.heap.size rv' jU.o hl.o ((Fx.refl _ w5).gb (ak (ai w5 none) _) (fun b e=>by cases e)) (by rw[ah (heap_alloc_new w5 _)];rfl) (Or.inr rfl)|exact HE.o (wc.drew.alloc (.cells #[.nilFunc] 1)) w5 _ bs bl K rv' HXB.o hl.o ((Fx.refl (fun b=>b=K) w5).set (Or.inl rfl) _ _) (by rw[ah (block_setCell hkb _)];rfl) (Or.inl ⟨Nat.le_of_eq hK,by rw[World.size_alloc];exact Nat.lt_succ_of_le (Nat.le_of_eq hK.symm)⟩))
open Go.RowKit Go.Maps Go.Joins
structure Dy(B S M:Nat)(pv nv cm:Value)(row:List ByteArray)(ch:List Nat)(A D:Nat)(rv cv:Value)(f:Int)(w:World):Prop where
 sb:Sb w S pv nv cm rv (.map (some M)) cv f A D
 f0:0<=f
 f1:f<9223372036854775808
 rr:w.ownsRow B 9 1 rv row.length (row.map .string)
 cc:w.ownsRow B 3 1 cv ch.length (ch.map fun(j:Nat)=>Value.int .i64 (j:Int))
 ir:InR w M row
structure Ro(n:Nat)(P:List Pl)(NS:Nat->List ByteArray)(CD:ByteArray->Nat->Prop)(B S M nb Mc:Nat)(pv:Value)(w:World):Prop where
 pl:PlS w pv P
 nm:∀k,k<n->∃ng ncc,w.cell? ⟨nb,k,none⟩=some (.slice (some ⟨ng,0,none⟩) (NS k).length ncc)/\(NS k).length<=ncc/\¬Xb B S M ng/\∀i (hi:i<(NS k).length),w.cell? ⟨ng,i,none⟩=some (.string (NS k)[i])
 cd:∃q D,w.ownsMap prog 9 jo Mc q D/\∀x,∃v cs,jo v=some (D.atKey (kT x) vT,[])/\(∀w',Fx (Xb B S M) w w'->IS w' v cs)/\cs.length<=64/\∀c∈cs,∃k:Nat,c=(k:Int)/\k<n/\CD x k
section
variable {B S M:Nat} {pv nv cm rv cv rv' cv':Value} {row:List ByteArray} {ch:List Nat} {A D:Nat} {f:Int} {w w' w'':World}
theorem Dy.fx(h:Dy B S M pv nv cm row ch A D rv cv f w){X:Nat->Prop}(hf:Fx X w w')(hS:¬X S)(hM:¬X M)(hr:∀g,rv.ownBlock=some g->¬X g)(hc:∀g,cv.ownBlock=some g->¬X g):Dy B S M pv nv cm row ch A D rv cv f w':=⟨h.sb.fx hf hS,h.f0,h.f1,jm h.rr hf hr,jm h.cc hf hc,h.ir.fx hf hM⟩
theorem Dy.grow(h:Dy B S M pv nv cm row ch A D rv cv f w)(hg:w.grownBy w' none):Dy B S M pv nv cm row ch A D rv cv f w':=h.fx ((Fx.refl (fun _=>False) w).gb hg (fun b e=>by cases e)) (fun h=>h) (fun h=>h) (fun _ _ h=>h) (fun _ _ h=>h)
theorem Dy.burn(h:Dy B S M pv nv cm row ch A D rv cv f w)(hf:0<f)(hSM:¬S=M):Dy B S M pv nv cm row ch A D rv cv (f-1) (w.setCell ⟨S,3,none⟩ (.int .i64 (f-1))):=by
 have f2:Fx (fun b=>b=S) w (w.setCell ⟨S,3,none⟩ (.int .i64 (f-1))):=(Fx.refl (fun b=>b=S) w).set (Or.inl rfl) _ _;have h1:=h.f1;exact⟨h.sb.setF _,by omega,by omega,jm h.rr f2 (fun g hg=>row_ne h.sb h.rr (by decide) hg),jm h.cc f2 (fun g hg=>row_ne h.sb h.cc (by decide) hg),h.ir.fx f2 (fun e=>hSM e.symm)⟩
theorem Dy.lt(h:Dy B S M pv nv cm row ch A D rv cv f w):S<w.heap.size/\M<w.heap.size:=by
 refine⟨(aC h.sb),?_⟩;obtain⟨D',hD',-⟩:=h.ir;exact hD'.lt
def FD(S M:Nat)(rv cv rv' cv':Value)(w w':World):Prop:=Fx (Xr S M rv cv) w w'/\(∀g,rv'.ownBlock=some g->rv.ownBlock=some g\/w.heap.size<=g)/\∀g,cv'.ownBlock=some g->cv.ownBlock=some g\/w.heap.size<=g
theorem FD.refl(S M:Nat)(rv cv:Value)(w:World):FD S M rv cv rv cv w w:=⟨Fx.refl _ w,fun _ h=>Or.inl h,fun _ h=>Or.inl h⟩
theorem FD.fx(h:FD S M rv cv rv' cv' w w')(hf:Fx (Xr S M rv' cv') w' w''):Fx (Xr S M rv cv) w w'':=by
 obtain⟨h1,h2,h3⟩:=h;refine⟨hf.os.trans h1.os,hf.tape.trans h1.tape,hf.output.trans h1.output,Nat.le_trans h1.size hf.size,fun b hb hn=>(hf.block b (Nat.lt_of_lt_of_le hb h1.size) ?_).trans (h1.block b hb hn)⟩;rintro(h|h|h|h)
 ·exact hn (Or.inl h)
 ·exact hn (Or.inr (Or.inl h))
 ·rcases h2 b h with h|h
  ·exact hn (Or.inr (Or.inr (Or.inl h)))
  ·omega
 ·rcases h3 b h with h|h
  ·exact hn (Or.inr (Or.inr (Or.inr h)))
  ·omega
theorem FD.trans{rv'' cv'':Value}(h:FD S M rv cv rv' cv' w w')(h':FD S M rv' cv' rv'' cv'' w' w''):FD S M rv cv rv'' cv'' w w'':=by
 have hs:=h.1.size;refine⟨h.fx h'.1,fun g hg=>?_,fun g hg=>?_⟩
 ·rcases h'.2.1 g hg with e|e
  ·exact h.2.1 g e
  ·exact Or.inr (by omega)
 ·rcases h'.2.2 g hg with e|e
  ·exact h.2.2 g e
  ·exact Or.inr (by omega)
theorem FD.sm(h:FD S M rv cv rv' cv' w w'){rv'' cv'':Value}(hf:Fx (fun b=>b=S\/b=M) w' w'')(hr:rv''.ownBlock=rv'.ownBlock)(hc:cv''.ownBlock=cv'.ownBlock):FD S M rv cv rv'' cv'' w w'' :=
 h.trans ⟨hf.mono (fun b hb=>hb.elim Or.inl fun e=>Or.inr (Or.inl e)),fun g hg=>Or.inl (hr ▸ hg),fun g hg=>Or.inl (hc ▸ hg)⟩
theorem FD.gb(h:FD S M rv cv rv' cv' w w')(hg:w'.grownBy w'' none):FD S M rv cv rv' cv' w w'':=h.sm ((Fx.refl _ w').gb hg (fun b e=>by cases e)) rfl rfl
theorem FD.xb(h:FD S M rv cv rv' cv' w w')(hy:Dy B S M pv nv cm row ch A D rv cv f w):Fx (Xb B S M) w w':=h.1.mono fun b hb=>by
 rcases hb with h|h|h|h
 ·exact Or.inl h
 ·exact Or.inr (Or.inl h)
 ·exact Or.inr (Or.inr (sN hy.rr h).1)
 ·exact Or.inr (Or.inr (sN hy.cc h).1)
theorem yg{w:World}{B n:Nat}{e:TypeId}{v:Value}{xs:List Value}(h:w.ownsRow B e 1 v n xs){i:Nat}(hi:i<n):∃g c,v=.slice (some ⟨g,0,none⟩) n c/\n<=c/\w.cell? ⟨g,i,none⟩=xs[i]?:=by
 rcases h.2 with⟨rfl,hn0⟩|⟨g,c,cur,rfl,hgB,hgb,hnc,hcm,hcs,hct⟩
 ·omega
 ·refine⟨g,c,rfl,hnc,?_⟩;rw[ah hgb,<-hct,List.getElem?_take,if_pos (by omega),Array.getElem?_toList]
theorem Dy.back{row':List ByteArray}{k:Nat}{A' D':Nat}{rv4 rv5:Value}{co:Option Addr}{cc:Nat}{w4 w5:World}(h:Dy B S M pv nv cm row' (ch++[k]) A' D' rv4 (.slice co (ch.length+1) cc) f w4)(hSM:¬S=M)(hp:row'.take row.length=row)(k1:Sb w5 S pv nv cm rv5 (.map (some M)) (.slice co ch.length cc) f A D)(k2:w5.ownsRow B 9 1 rv5 row.length ((row'.take row.length).map .string))(k3:InR w5 M (row'.take row.length))(k4:Fx (fun b=>b=S\/b=M) w4 w5):Dy B S M pv nv cm row ch A D rv5 (.slice co ch.length cc) f w5:=by
 rw[hp]at k2 k3;have hc:=h.cc;rw[List.length_append]at hc;obtain⟨g,c,e,h1,-⟩:=yg hc (i:=0) (by simp)
 cases e
 refine⟨k1,h.f0,h.f1,k2,?_,k3⟩;have h2:=TD (jm hc k4 (fun b hb hh=>hh.elim (row_ne h.sb hc (by decide) hb) (fun e=>Nh h.ir hc (e ▸ hb)))) (m:=ch.length) (by simp)
 rwa [List.map_append,List.take_left' (by simp)]at h2
def Vj(I:List ByteArray->List Nat->Nat->Nat->Prop)(B S M:Nat)(pv nv cm:Value)(row:List ByteArray)(ch:List Nat)(A D:Nat)(rv cv:Value)(w:World)(e:Ending)(w':World):Prop :=
 (e=EK/\Fx (Xr S M rv cv) w w')\/(e=.returned (.bool true)/\Fx (Xr S M rv cv) w w'/\∃row' ch' A' D' rv' cv' f',Dy B S M pv nv cm row' ch' A' D' rv' cv' f' w'/\I row' ch' A' D'/\ch'.length=row'.length)\/(e=.returned (.bool false)/\∃rv' cv' f',Dy B S M pv nv cm row ch A D rv' cv' f' w'/\FD S M rv cv rv' cv' w w')
theorem FD.post{I:List ByteArray->List Nat->Nat->Nat->Prop}{rv0 cv0:Value}{w0:World}{row0:List ByteArray}{ch0:List Nat}{A0 D0:Nat}{e:Ending}(h:FD S M rv0 cv0 rv cv w0 w)(hp:Vj I B S M pv nv cm row ch A D rv cv w e w'):(∃v,e=.returned v/\¬v=.bool true)\/Vj I B S M pv nv cm row0 ch0 A0 D0 rv0 cv0 w0 e w':=by
 rcases hp with⟨rfl,h1⟩|⟨rfl,h1,h2⟩|⟨rfl,-⟩
 ·exact Or.inr (Or.inl ⟨rfl,h.fx h1⟩)
 ·exact Or.inr (Or.inr (Or.inl ⟨rfl,h.fx h1,h2⟩))
 ·exact Or.inl ⟨_,rfl,by simp⟩
end
theorem Fx.dn(X:Nat->Prop)(w:World)(q:Nat):Fx X w (w.drewN q):=⟨rfl,rfl,rfl,Nat.le_refl _,fun _ _ _=>rfl⟩
theorem Vk(w:World):(zeroValue 31).run prog w=.ok (.slice none 0 0) w:=by kernel_rfl
open Go.RowKit Go.Maps Go.Joins
inductive Fd where
 | dry
 | no (f:Nat)
 | yes (ch:List Nat)
def eu(go:Nat->Nat->Fd)(ft:Nat->Bool):List Nat->Nat->Fd
 | [],f=>.no f
 | _ :: _,0=>.dry
 | k :: r,f+1=>if ft k=true then(match go k f with | .no f'=>eu go ft r f'|x=>x) else eu go ft r f
def dC(C:ByteArray->List Nat)(ft:List Nat->Nat->Bool)(ns:Nat->List ByteArray):Nat->List ByteArray->List Nat->Nat->Fd
 | 0,_,_,_=>.dry
 | d+1,row,ch,f=>if ch.length=row.length then .yes ch else eu (fun k f=>dC C ft ns d (aU row (ns k)) (ch++[k]) f) (ft ch) (C (row.getD ch.length ⟨#[]⟩)) f
structure Nj(n:Nat)(P:List Pl)(NS:Nat->List ByteArray)(C:ByteArray->List Nat)(B S M nb Mc:Nat)(pv:Value)(w:World):Prop where
 pl:PlS w pv P
 nm:∀k,k<n->∃ng ncc,w.cell? ⟨nb,k,none⟩=some (.slice (some ⟨ng,0,none⟩) (NS k).length ncc)/\(NS k).length<=ncc/\¬Xb B S M ng/\∀i (hi:i<(NS k).length),w.cell? ⟨ng,i,none⟩=some (.string (NS k)[i])
 cd:∃q D,w.ownsMap prog 9 jo Mc q D/\∀x,∃v,jo v=some (D.atKey (kT x) vT,[])/\(∀w',Fx (Xb B S M) w w'->IS w' v ((C x).map fun(k:Nat)=>(k:Int)))/\(C x).length<=64/\∀k∈C x,k<n
structure Vl(n:Nat)(P:List Pl)(NS:Nat->List ByteArray)(C:ByteArray->List Nat)(ft:List Nat->Nat->Bool)(I:List ByteArray->List Nat->Nat->Nat->Prop):Prop where
 few:∀{row ch A D},I row ch A D->ch.length<=n
 le:∀{row ch A D},I row ch A D->ch.length<=row.length
 nod:∀{row ch A D},I row ch A D->row.Nodup
 len:∀{row ch A D},I row ch A D->row.length<=1048000
 sz:∀{row ch A D},I row ch A D->∀x∈row,x.size<=maxLen
 a:∀{row ch A D},I row ch A D->A<18446744073709551616
 d:∀{row ch A D},I row ch A D->D<18446744073709551616
 nsl:∀k,k<n->(NS k).length<=64
 nsz:∀k,k<n->∀x∈NS k,x.size<=maxLen
 bar:∀k (hk:k<P.length),P[k].bar<18446744073709551616
 fit:∀{row ch A D},I row ch A D->∀k (hk:k<P.length),(!(D ||| P[k].bar).testBit k && decide (P[k].bar &&& A=0))=ft ch k
 step:∀{row ch A D},I row ch A D->∀x k (hk:k<P.length),row[ch.length]?=some x->k∈C x->ft ch k=true->I (aU row (NS k)) (ch++[k]) (A ||| 2 ^ k) (D ||| P[k].bar)
def Vm(R:Fd)(I:List ByteArray->List Nat->Nat->Nat->Prop)(B S M:Nat)(pv nv cm:Value)(row:List ByteArray)(ch:List Nat)(A D:Nat)(rv cv:Value)(w:World)(e:Ending)(w':World):Prop :=
 (R=.dry/\e=EK/\Fx (Xr S M rv cv) w w')\/(∃ch',R=.yes ch'/\e=.returned (.bool true)/\Fx (Xr S M rv cv) w w'/\∃row' A' D' rv' cv' f',Dy B S M pv nv cm row' ch' A' D' rv' cv' f' w'/\I row' ch' A' D'/\ch'.length=row'.length)\/(∃f',R=.no f'/\e=.returned (.bool false)/\∃rv' cv',Dy B S M pv nv cm row ch A D rv' cv' (f':Int) w'/\FD S M rv cv rv' cv' w w')
theorem aeF(n:Nat)(P:List Pl)(NS:Nat->List ByteArray)(C:ByteArray->List Nat)(ft:List Nat->Nat->Bool)(I:List ByteArray->List Nat->Nat->Nat->Prop)(V:Vl n P NS C ft I)(B S M nb ncp Mc:Nat)(po:Option Addr)(pc:Nat)(hP:P.length=n)(hn:n<=64)(hSM:¬S=M)(hnb:¬Xb B S M nb)(hncp:n<=ncp)(w0:World)(hB0:B<=w0.heap.size)(hro:∀w',Fx (Xb B S M) w0 w'->Nj n P NS C B S M nb Mc (.slice po P.length pc) w') :
  ∀(d:Nat) (row:List ByteArray) (ch:List Nat) (A D:Nat) (rv cv:Value) (f:Int) (w:World),n+1-ch.length=d->I row ch A D->Dy B S M (.slice po P.length pc) (.slice (some ⟨nb,0,none⟩) n ncp) (.map (some Mc)) row ch A D rv cv f w->Fx (Xb B S M) w0 w →
   Calls prog 29 #[.pointer (some ⟨S,0,none⟩)] w (Vm (dC C ft NS d row ch f.toNat) I B S M (.slice po P.length pc) (.slice (some ⟨nb,0,none⟩) n ncp) (.map (some Mc)) row ch A D rv cv w):=by
 intro d
 induction d using Nat.strongRecOn with
 | ind d ih =>
 intro row ch A D rv cv f w hd hI hy hf0;obtain⟨d',rfl⟩:∃d',d=d'+1:=⟨d-1,by have:=V.few hI;omega⟩;have IH:=ae ih;have HY:=ae hy;have HI:=ae hI;have HV:=ae V;have BQ:=ae hro;have Vo:=ae hf0;have HD:=ae hd;have hch:=V.few hI;have hrow:=V.len hI;have hle:=V.le hI;obtain⟨ro,rc,rfl⟩:=mY hy.rr;obtain⟨co,cc,rfl⟩:=mY hy.cc;obtain⟨⟨-,-,c2,-⟩,⟨c4,-,c6⟩,-⟩:=hy.sb.cells
 by_cases hl:ch.length=row.length
 ·have HL:=ae hl;have HR1:Hd (dC C ft NS (d'+1) row ch f.toNat=.yes ch):=by
   show dC C ft NS (d'+1) row ch f.toNat=.yes ch;rw[dC,if_pos hl]
  obtain⟨R,hR⟩:=zN (dC C ft NS (d'+1) row ch f.toNat);rw[hR]at HR1 ⊢;clear hR;have hl2:((ch.length:Int) == (row.length:Int))=true:=by simp[hl]
  clear hl ih hy hI V hro hf0 hd hle;go_enter func29,ntmps29;go_wp2;go_quiet (fail);go_wp2;go_ret;exact Or.inr (Or.inl ⟨ch,HR1.o,rfl,Fx.dn _ w _,row,A,D,_,_,f,HY.o.fx (Fx.dn (fun _=>False) w _) (fun h=>h) (fun h=>h) (fun _ _ h=>h) (fun _ _ h=>h),HI.o,HL.o⟩)
 ·have hlt0:ch.length<row.length:=by omega
  have hl2:((ch.length:Int) == (row.length:Int))=false:=by simp;omega
  obtain⟨gr,rc',er,hrc,hcx⟩:=yg hy.rr hlt0
  cases er
  rw[List.getElem?_map,List.getElem?_eq_getElem hlt0,Option.map_some]at hcx;have HX:Hd (row[ch.length]?=some row[ch.length]):=List.getElem?_eq_getElem hlt0;have aA:Hd (eu (fun k f=>dC C ft NS d' (aU row (NS k)) (ch++[k]) f) (ft ch) (C row[ch.length]) f.toNat=dC C ft NS (d'+1) row ch f.toNat):=by
   show _=dC C ft NS (d'+1) row ch f.toNat;rw[dC,if_neg hl,List.getD_eq_getElem?_getD,List.getElem?_eq_getElem hlt0];rfl
  obtain⟨R,hR⟩:=zN (dC C ft NS (d'+1) row ch f.toNat);obtain⟨go,hgo⟩:∃go:Nat->Nat->Fd,(fun k f=>dC C ft NS d' (aU row (NS k)) (ch++[k]) f)=go:=⟨_,rfl⟩;have Fq:Hd (∀k f,go k f=dC C ft NS d' (aU row (NS k)) (ch++[k]) f):=fun k f=>by rw[<-hgo]
  rw[hR,hgo]at aA;rw[hR];clear hR hgo;have hkey:=Ia (V.sz hI row[ch.length] (List.getElem_mem _));obtain⟨x,hx⟩:=zN (row[ch.length]);rw[hx]at hcx HX hkey aA;obtain⟨q,Dm,hown,hcd⟩:=(hro w hf0).cd;obtain⟨v,hv,his,hcl,hcs⟩:=hcd x;obtain⟨cx,Nk⟩:=zN (C x);have HCX:=ae Nk;rw[Nk]at his hcl hcs aA;obtain⟨cs,IJ⟩:∃cs:List Int,(cx.map fun(k:Nat)=>(k:Int))=cs:=⟨_,rfl⟩;have hlen:cs.length=cx.length:=by rw[<-IJ];simp
  have aeG:=ae IJ;rw[IJ]at his;have HIS:=ae his;have zB:=ae hcs;obtain⟨vo,vc,rfl⟩:=H6 (his w (Fx.refl _ w));have Nl:Hd (∀W:World,W.heap=w.heap->(Instr.lookup 123 (.map (some Mc)) (.string x) false).run prog W=.ok (.slice vo cs.length vc) W):=fun W hW=>by
   obtain⟨es,cl,h1,r⟩:=hown;obtain⟨v',ps,hrun,hv'⟩:=World.ownsMap.lookup (w:=W) ⟨es,cl,by rw[hW];exact h1,r⟩ keyS underlying123 (Vk _) (show jo (.slice none 0 0)=some (vT,[]) from rfl) hkey;rw[TK hv' hv]at hrun;exact hrun
  clear hl ih hy hI V hro hf0 hd hle hown hcd hv his hcs hx hkey Nk IJ;go_enter func29,ntmps29;go_wp2;go_quiet (fail);go_wp2;obtain⟨W,hW⟩:=zN (w.drewN nq);have BU:Fx (fun _=>False) w W:=hW ▸ Fx.dn _ w nq;have hrun:∀q,(Instr.lookup 123 (.map (some Mc)) (.string x) false).run prog (W.drewN q)=.ok (.slice vo cs.length vc) (W.drewN q):=fun q=>Nl.o _ (by rw[<-hW];rfl)
  replace c2:=BU.cell c2 (fun h=>h);replace c4:=BU.cell c4 (fun h=>h);replace c6:=BU.cell c6 (fun h=>h);replace hcx:=BU.cell hcx (fun h=>h);rw[hW];clear hW;go_quiet (fail);go_wp2;have HWW:=ae BU;clear hrun c2 c4 c6 hcx BU;go_loopw [34] (fun vi wr=>∃(i:Nat) (rv' cv':Value) (f':Int),vi=.int .i64 i/\i<=cs.length/\eu go (ft ch) (cx.drop i) f'.toNat=R/\Dy B S M (.slice po P.length pc) (.slice (some ⟨nb,0,none⟩) n ncp) (.map (some Mc)) row ch A D rv' cv' f' wr/\FD S M (.slice (some ⟨gr,0,none⟩) row.length rc) (.slice co ch.length cc) rv' cv' w wr) (fun vi _=>cs.length-(intOf vi).toNat)
  case atStart =>
   have hx:Fx (fun _=>False) w (W.drewN nq):=HWW.o.trans (Fx.dn _ W _);exact⟨0,_,_,f,rfl,Nat.zero_le _,aA.o,HY.o.fx hx (fun h=>h) (fun h=>h) (fun _ _ h=>h) (fun _ _ h=>h),hx.mono (fun b h=>h.elim),fun g h=>Or.inl h,fun g h=>Or.inl h⟩
  case round =>
   obtain⟨i,rv',cv',f',rfl,hi,hrr,hy,hfd⟩:=hrel;obtain⟨wo,hwo⟩:∃wo,wo=wr:=⟨_,rfl⟩;subst hwo;have HYR:=ae hy;have yh:=ae hfd;have hxb:=hfd.xb HY.o
   by_cases hlt:i<cs.length
   ·obtain⟨a,rfl,hvc,hat⟩:=rU (HIS.o wo hxb) hlt;have e0:=hat i hlt;have hix:i<cx.length:=by omega
    have hk1:cs[i]=(cx[i]:Int):=by
     have:∀(l:List Int) (h:i<l.length),(cx.map fun(k:Nat)=>(k:Int))=l->l[i]=(cx[i]:Int):=fun l h e=>by subst e;simp
     exact this cs hlt aeG.o
    have hk2:=zB.o cx[i] (List.getElem_mem _);have IK:Hd (cx[i]∈C x):=by rw[HCX.o];exact List.getElem_mem hix
    rw[List.drop_eq_getElem_cons hix]at hrr;rw[hk1]at e0;obtain⟨k,hk⟩:=zN (cx[i]);rw[hk]at hk2 IK hrr e0;have HRR:=ae hrr;have BV:k<P.length:=by omega
    have Ll:i<vc:=by omega
    have CB:Hd (Calls prog 58 #[.pointer (some ⟨S,0,none⟩)] wo fun e w'=>(f'=0/\e=EK/\w'=wo)\/(0<f'/\e=.returned (.tuple #[])/\w'=wo.setCell ⟨S,3,none⟩ (.int .i64 (f'-1)))):=acA S _ _ _ _ _ _ f' A D wo hy.sb hy.f0 hy.f1;clear hat hk1 hy hfd hxb hk hrr;go_wp2_with (go_at_call 58;refine CB.o.mono ?_);rintro e w1 (⟨h0,rfl,rfl⟩|⟨h0,rfl,rfl⟩)
    ·have HZ:Hd (R=.dry):=by
      show R=.dry;rw[<-HRR.o,h0];rfl
     exact⟨rfl,Or.inl ⟨HZ.o,rfl,yh.o.1⟩⟩
    ·have HR2:Hd ((if ft ch k=true then(match go k (f'-1).toNat with | .no f''=>eu go (ft ch) (cx.drop (i+1)) f''|z=>z) else eu go (ft ch) (cx.drop (i+1)) (f'-1).toNat)=R):=by
      show _=R;rw[<-HRR.o,show f'.toNat=(f'-1).toNat+1 by omega];rfl
     have Np:=ae (HYR.o.burn h0 hSM);have lu:=ae (yh.o.sm (rv'':=rv') (cv'':=cv') ((Fx.refl (fun b=>b=S\/b=M) wo).set (Or.inl (Or.inl rfl)) 3 (.int .i64 (f'-1))) rfl rfl);obtain⟨w1,hw1⟩:=zN (wo.setCell ⟨S,3,none⟩ (.int .i64 (f'-1)));rw[hw1]at Np lu ⊢;have hfit:=HV.o.fit HI.o k BV;obtain⟨q,hq⟩:=zN (ft ch k);rw[hq]at hfit HR2;have HQ:=ae hq;have CF:Hd (Calls prog 59 #[.pointer (some ⟨S,0,none⟩),.int .i64 k] w1 fun e w'=>e=.returned (.bool q)/\w1.grownBy w' none):=by
      have:=fits_any S k po pc _ _ _ _ _ _ A D P w1 Np.o.sb (BQ.o w1 (Vo.o.trans (lu.o.xb HY.o))).pl BV (by omega) (HV.o.a HI.o) (HV.o.d HI.o) (HV.o.bar k BV);rw[hfit]at this;exact this
     clear hw1 hq e0 CB h0 hfit;go_wp2_with (go_at_call 59;refine CF.o.mono ?_);rintro e w2 ⟨rfl,hg2⟩;have mW:=ae (Np.o.grow hg2);have HF2:=ae (lu.o.gb hg2);clear hg2
     cases q with
     | false =>
      go_wp2;exact⟨⟨i+1,rv',cv',f'-1,by go_num,by omega,by have:=HR2.o;rw[if_neg (by simp)]at this;exact this,mW.o,HF2.o⟩,by simp[intOf];omega⟩
     | true =>
      obtain⟨co',cc',rfl⟩:=mY mW.o.cc;have hx2:=Vo.o.trans (HF2.o.xb HY.o);have zh:=ae hx2;obtain⟨ng,ncc,n1,n2,n3,n4⟩:=(BQ.o w2 hx2).nm k hk2;have hnl:=HV.o.nsl k hk2;have CH:Hd (Calls prog 60 #[.pointer (some ⟨S,0,none⟩),.int .i64 k] w2 (Na B S M k (.slice po P.length pc) (.slice (some ⟨nb,0,none⟩) n ncp) (.map (some Mc)) rv' (.slice co' ch.length cc') (f'-1) A D (A ||| 2 ^ k) (D ||| P[k].bar) row (aU row (NS k)) ch w2)):=aeE B S M k ng n ncc ncp po co' ⟨nb,0,none⟩ pc cc' _ rv' (f'-1) A D P row (NS k) ch w2 mW.o.sb (fun w' hf=>⟨(BQ.o w' (hx2.trans hf)).pl,by rw[uo];exact hf.cell n1 hnb,fun i hi=>hf.cell (n4 i hi) n3⟩) n3 hk2 hncp n2 BV (by omega) (HV.o.a HI.o) (HV.o.d HI.o) (HV.o.bar k BV) mW.o.rr mW.o.ir hSM mW.o.cc (by omega) (Nat.le_trans hB0 hx2.size) (HV.o.nsz k hk2) (by omega);have HI3:=ae (HV.o.step HI.o x k BV HX.o IK.o HQ.o)
      clear n1 n2 n3 n4 hx2;go_wp2_with (go_at_call 60;refine CH.o.mono ?_);rintro e w3 ⟨b0,b1,b2,b3,bs,bl,g,cc3,rv3,rfl,hcell,hbx,k1,k2,k3,k4,k5,k6,k7⟩;have hy3:Dy B S M (.slice po P.length pc) (.slice (some ⟨nb,0,none⟩) n ncp) (.map (some Mc)) (aU row (NS k)) (ch++[k]) (A ||| 2 ^ k) (D ||| P[k].bar) rv3 (.slice (some ⟨g,0,none⟩) (ch.length+1) cc3) (f'-1) w3:=⟨k1,mW.o.f0,mW.o.f1,k2,by rw[List.length_append];exact k3,k4⟩;have Nq:FD S M rv' (.slice co' ch.length cc') rv3 (.slice (some ⟨g,0,none⟩) (ch.length+1) cc3) w2 w3:=⟨k5,k6,fun g' e=>by cases e;exact k7⟩;have HF3:=ae (HF2.o.trans Nq);have BX:=ae hcell;have kX:Hd (∀b,b=b0\/b=b1\/b=b2\/b=b3\/b=bs\/b=bl->¬b=S/\¬b=M/\¬Xr S M rv3 (.slice (some ⟨g,0,none⟩) (ch.length+1) cc3) b):=fun b hb=>by
       obtain⟨q1,q2,q3⟩:=hbx b hb;obtain⟨q4,q5⟩:=mW.o.lt;refine⟨by omega,by omega,?_⟩;rintro(h|h|h|h)
       ·omega
       ·omega
       ·exact q2 h
       ·exact q3 (Option.some.inj h)
      have C3:Hd (Calls prog 29 #[.pointer (some ⟨S,0,none⟩)] w3 (Vm (go k (f'-1).toNat) I B S M (.slice po P.length pc) (.slice (some ⟨nb,0,none⟩) n ncp) (.map (some Mc)) (aU row (NS k)) (ch++[k]) (A ||| 2 ^ k) (D ||| P[k].bar) rv3 (.slice (some ⟨g,0,none⟩) (ch.length+1) cc3) w3)):=by
       rw[Fq.o];exact IH.o d' (by omega) _ _ _ _ _ _ _ w3 (by have h9:=HD.o;rw[List.length_append,List.length_singleton];omega) HI3.o hy3 (zh.o.trans (Nq.xb mW.o))
      clear k1 k2 k3 k4 k5 k6 k7 hcell hbx Nq hy3 CH;go_wp2_with (go_at_call 29;refine C3.o.mono ?_);rintro e w4 (⟨hr,rfl,h1⟩|⟨ch',hr,rfl,h1,row',A',D',rv4,cv4,f4,h2,h3,h4⟩|⟨fn,hr,rfl,rv4,cv4,h2,h3⟩)
      ·have HZ:Hd (R=.dry):=by
        show R=.dry;have:=HR2.o;rw[if_pos (by trivial),hr]at this;exact this.symm
       exact⟨rfl,Or.inl ⟨HZ.o,rfl,HF3.o.fx h1⟩⟩
      ·have HZ:Hd (R=.yes ch'):=by
        show R=.yes ch';have:=HR2.o;rw[if_pos (by trivial),hr]at this;exact this.symm
       have HE:=ae (And.intro (HF3.o.fx h1) (And.intro h2 (And.intro h3 h4)));clear h1 h2 h3 h4 hr;go_wp2;go_ret;exact Or.inr (Or.inl ⟨ch',HZ.o,rfl,HE.o.1,row',A',D',rv4,cv4,f4,HE.o.2⟩)
      ·have HZ:Hd (eu go (ft ch) (cx.drop (i+1)) ((fn:Int)).toNat=R):=by
        show _=R;have:=HR2.o;rw[if_pos (by trivial),hr]at this;exact this
       clear hr;obtain⟨co4,cc4,e4⟩:=mY h2.cc;rw[List.length_append,List.length_singleton]at e4;subst e4;obtain⟨m1,m2,m3,m4,m5,m6⟩:=BX.o;obtain⟨t',ht'⟩:=H8 (NS k) row;have hpre:(aU row (NS k)).take row.length=row:=by rw[ht',List.take_left' rfl]
       have hcap:ch.length+1<=cc4:=by
        have:=h2.cc;rw[List.length_append,List.length_singleton]at this;obtain⟨_,_,e,h5,-⟩:=yg this (i:=0) (by omega)
        cases e
        exact h5
       have CT:Hd (Calls prog 99 #[.pointer (some ⟨b0,0,none⟩),.pointer (some ⟨b1,0,none⟩),.pointer (some ⟨b2,0,none⟩),.pointer (some ⟨b3,0,none⟩)] w4 fun e w'=>e=.returned (.tuple #[])/\∃rv',Dy B S M (.slice po P.length pc) (.slice (some ⟨nb,0,none⟩) n ncp) (.map (some Mc)) row ch A D rv' (.slice co4 ch.length cc4) (fn:Int) w'/\FD S M (.slice (some ⟨gr,0,none⟩) row.length rc) (.slice co ch.length cc) rv' (.slice co4 ch.length cc4) w w'):=by
        refine(acQ B S M b0 b1 b2 b3 bs bl row.length ch.length _ _ _ rv4 co4 cc4 (fn:Int) _ _ A D (aU row (NS k)) ch w4 h2.sb h2.rr h2.ir (HV.o.nod HI3.o) (by rw[ht',List.length_append];omega) (HV.o.sz HI3.o) (by have:=HV.o.len HI3.o;omega) hcap (by omega) (h3.1.cell m1 (kX.o b0 (by simp)).2.2) (h3.1.cell m2 (kX.o b1 (by simp)).2.2) (h3.1.cell m3 (kX.o b2 (by simp)).2.2) (h3.1.cell m4 (kX.o b3 (by simp)).2.2) (h3.1.cell m5 (kX.o bs (by simp)).2.2) (h3.1.cell m6 (kX.o bl (by simp)).2.2) (fun b hb=>⟨(kX.o b hb).1,(kX.o b hb).2.1⟩) hSM).mono ?_;rintro e w5 ⟨rfl,rv5,q1,q2,q3,q4,q5⟩;exact⟨rfl,rv5,h2.back hSM hpre q1 q2 q3 q4,(HF3.o.trans h3).sm q4 q5 (by cases co4<;>rfl)⟩
       clear h2 h3 m1 m2 m3 m4 m5 m6 hpre hcap ht';go_wp2_with (go_at_call 99;refine CT.o.mono ?_);rintro e w5 ⟨rfl,rv5,q1,q2⟩;have HE:=ae (And.intro q1 q2);clear q1 q2;go_wp2;exact⟨⟨i+1,rv5,_,(fn:Int),by go_num,by omega,HZ.o,HE.o.1,HE.o.2⟩,by simp[intOf];omega⟩
   ·have HZ:Hd (R=.no f'.toNat):=by
     show R=_;rw[<-hrr,List.drop_eq_nil_of_le (by omega)];rfl
    have HYE:Hd (Dy B S M (.slice po P.length pc) (.slice (some ⟨nb,0,none⟩) n ncp) (.map (some Mc)) row ch A D rv' cv' (f'.toNat:Int) wo):=by
     rw[show((f'.toNat:Nat):Int)=f' by have:=hy.f0;omega];exact hy
    clear hy hfd hxb hrr;go_wp2;go_ret;exact Or.inr (Or.inr ⟨f'.toNat,HZ.o,rfl,rv',cv',HYE.o,yh.o⟩)
end Go.Proofs.YtiinliaoojfjaaaGreatDoor
