import Derived.Test.YtbcfhgpfgdbjgaaGreatDoorK36
import Derived.Test.YtbcfhgpfgdbjgaaGreatDoorK35
set_option linter.all false
set_option maxRecDepth 100000
set_option maxHeartbeats 0
open Go.Proofs.Tryz
namespace Go.Proofs.YtbcfhgpfgdbjgaaGreatDoor
open Go.RowKit Go.Maps Go.WideMaps Go.Joins
theorem aaB(s:ByteArray):(s.toList != s.toList)=false:=by simp
theorem akW(v v':Value)(K:List Nd)(w:World)(h:NdS w v K)(h':NdS w v' K)(hK:K.length<=1048576) :
  Calls prog 6 #[v,v'] w fun e w'=>e=.returned (.bool true)/\w.grownBy w' none:=by
 have H1:Hd (NdS w v K):=h;have H2:Hd (NdS w v' K):=h';obtain⟨o,c,rfl⟩:=WH h;obtain⟨o',c',rfl⟩:=WH h';have hnn:((K.length:Int) != (K.length:Int))=false:=by simp
 clear h h';go_enter func6,ntmps6;go_wp2;go_loopw [5] (fun vi wr=>∃i:Nat,vi=.int .i64 i/\i<=K.length/\w.grownBy wr none) (fun vi _=>K.length-(intOf vi).toNat)
 case atStart=>exact⟨0,rfl,Nat.zero_le _,ax _ _⟩
 case round=>
  obtain⟨i,rfl,hi,hg⟩:=hrel;have HG:Hd (w.grownBy wr none):=hg
  by_cases hlt:i<K.length
  ·obtain⟨a,cap,e1,e2,e3⟩:∃a cap,(Value.slice o K.length c)=.slice (some a) K.length cap/\K.length<=cap/\∀j (h:j<K.length),NdAt wr (a.add (j*2)) K[j]:=by
    rcases H1.o.grow hg with⟨h1,h2⟩|h
    ·rw[h2]at hlt;simp at hlt
    ·exact h
   obtain⟨b,cbp,f1,f2,f3⟩:∃a cap,(Value.slice o' K.length c')=.slice (some a) K.length cap/\K.length<=cap/\∀j (h:j<K.length),NdAt wr (a.add (j*2)) K[j]:=by
    rcases H2.o.grow hg with⟨h1,h2⟩|h
    ·rw[h2]at hlt;simp at hlt
    ·exact h
   cases e1
   cases f1
   obtain⟨g1,g2⟩:=e3 i hlt;obtain⟨g3,g4⟩:=f3 i hlt;obtain⟨z1,hz1⟩:=zN (K[i].n);obtain⟨z2,hz2⟩:=zN (K[i].r);rw[hz1]at g1 g3;rw[hz2]at g2 g4;have q1:=aaB z1;have q2:=aaB z2;clear e3 f3 hz1 hz2 hg;go_wp2;go_quiet (fail);go_wp2;go_roundw
   case rel=>exact⟨i+1,by go_num,by omega,az HG.o _⟩
   case measure=>simp[intOf];omega
  ·clear hg;have hil:i=K.length:=by omega
   go_wp2;go_ret;exact⟨rfl,HG.o⟩
theorem L9{t:TypeId}{w:World}{base:Nat}{v:Value}{L:List Nd}(h:w.ownsRow base t 2 v L.length (L.flatMap kF)):NdS w v L:=by
 rcases h.2 with⟨h1,h2⟩|⟨g,cap,cur,hv,hb,hc,h3,h4,h5,h6⟩
 ·exact Or.inl ⟨h1,List.length_eq_zero_iff.1 h2⟩
 ·refine Or.inr ⟨⟨g,0,none⟩,cap,hv,h3,fun i hi=>?_⟩;have h':=h;rw[hv]at h';have k0:=h'.cells (g:=g) rfl (i*2+0) _ (WI L i hi 0 _ rfl);have k1:=h'.cells (g:=g) rfl (i*2+1) _ (WI L i hi 1 _ rfl);refine⟨?_,?_⟩
  ·simpa using k0
  ·rw[aeh _ _ 1 (by omega)]at k1;simpa using k1
structure LwM(w:World)(b3 b6 l:Nat)(X Y:ByteArray)(o1 o2:Option Addr)(c1 c2:Nat)(nd:List Nd)(wr:World):Prop where
 gb:w.grownBy wr none
 m3:wr.heap[b3]?=some (.cells #[.string X,.string Y,.slice o1 l c1] 24 (0,0))
 m6:wr.heap[b6]?=some (.cells #[.string X,.string Y,.slice o2 l c2] 30 (0,0))
 rw:wr.ownsRow w.heap.size 51 2 (.slice o2 l c2) l (nd.flatMap kF)
 rg:0<l->∃g cur,o1=some ⟨g,0,none⟩/\w.heap.size<=g/\wr.heap[g]?=some (.cells cur 35 (0,0))/\l*2<=cur.size
section
variable {w wr wr':World} {b3 b6 l:Nat} {X Y:ByteArray} {o1 o2:Option Addr} {c1 c2:Nat} {nd:List Nd}
theorem LwM.grow(h:LwM w b3 b6 l X Y o1 o2 c1 c2 nd wr)(hg:wr.grownBy wr' none):LwM w b3 b6 l X Y o1 o2 c1 c2 nd wr' :=
 ⟨ak h.gb hg,(gI hg).blk h.m3,(gI hg).blk h.m6,(gI hg).row h.rw,fun hl=>by
  obtain⟨g,cur,h1,h2,h3,h4⟩:=h.rg hl;exact⟨g,cur,h1,h2,(gI hg).blk h3,h4⟩⟩
theorem LwM.set(h:LwM w b3 b6 l X Y o1 o2 c1 c2 nd wr)(hl:0<l)(g k:Nat)(ho:o1=some ⟨g,0,none⟩)(v:Value):LwM w b3 b6 l X Y o1 o2 c1 c2 nd (wr.setCell ⟨g,k,none⟩ v):=by
 obtain⟨g',cur,h1,h2,h3,h4⟩:=h.rg hl;have e:g'=g:=by rw[ho]at h1;cases h1;rfl
 subst e;exact⟨qC h.gb (fO wr _ k v) h2,(oH v h3 (by decide)).blk h.m3,(oH v h3 (by decide)).blk h.m6,(oH v h3 (by decide)).row h.rw,fun _=>⟨g',_,h1,h2,block_setCell h3 v,by simpa using h4⟩⟩
end
theorem akX(l:List UInt8):(rM (tH l)).nd.length<=1000000:=by
 unfold tH
 cases hns:lJ l with
 |error c=>exact Nat.zero_le _
 |ok ns=>
  show(rM (qw ns)).nd.length<=_;unfold qw
  cases mC ns ns.length with
  |error c=>exact Nat.zero_le _
  |ok u=>
   show(rM (xm ns)).nd.length<=_;unfold xm;split
   ·show((lo ns.length (nK ns)).map (Lh ns)).length<=_;rw[List.length_map];have h4:(lo ns.length (nK ns)).length<=(nK ns).length:=by unfold lo;exact List.length_filter_le _ _
    have h5:(nK ns).length<=1000000:=by
     unfold nK;split
     ·rename_i y hy;split
      ·have hyl:=(Rl l ns hns).1.lt _ _ (xn hy).1;have:=QY hns y hyl;unfold aA;rw[List.getElem?_eq_getElem hyl];exact this
      ·exact Nat.zero_le _
     ·exact Nat.zero_le _
    omega
   ·exact Nat.zero_le _
theorem aaE(s:ByteArray)(E:Int->TypeId × Value)(b:Int->Addr)(w:World)(G:Gl w w.heap.size E)(S:Sn w E b)(h0:0<w.heap.size)(hmx:s.size<2 ^ 62) :
  Calls prog 3 #[.string s] w fun e w'=>e=.returned (.bool true)/\w.grownBy w' none:=by
 have PV:lH okV 24:=fun s w hs=>akG s w (by omega)
 have PR:lH okR 34:=fun s w hs=>akI s w hs
 have DV:xy okV 44:=fun s w hs=>akH s w (by omega)
 have DR:xy okR 30:=fun s w hs=>akJ s w hs
 obtain⟨R,hR⟩:=zN (tH s.data.toList);obtain⟨X,hX⟩:=zN ((rM R).nm);obtain⟨Y,hY⟩:=zN ((rM R).ve);obtain⟨z,hz⟩:=zN (rZ R);obtain⟨p,hp⟩:=zN (rP R);obtain⟨nd,hnd⟩:=zN ((rM R).nd);obtain⟨l,hl⟩:=zN nd.length;have CP:Hd (∀w',w.grownBy w' none->Calls prog 4 #[.string s] w' fun e w''=>∃o c,e=.returned (.tuple #[.agg #[.string X,.string Y,.slice o l c],.int .i64 z,.int .i64 (p:Nat)])/\Hd (w'.grownBy w'' none/\w''.ownsRow w'.heap.size 35 2 (.slice o l c) l (nd.flatMap kF))):=fun w' hg=>(aao PV PR s E b w' ((G.bel (y8 hg)).up hg.size) (S.grow hg) hmx).mono fun e w'' hh=>by
  rw[hR]at hh;obtain⟨v,h1,h2,h3⟩:=hh;rw[hX,hY,hz,hp]at h1;rw[hnd,hl]at h3;obtain⟨o,c,rfl⟩:=nV h3;exact⟨o,c,h1,h2,h3⟩
 have CT:Hd (∀w',w.grownBy w' none->Calls prog 4 #[.string ⟨#[110,97,109,101,32,61,32,34,97,34,10,118,101,114,115,105,111,110,32,61,32,34,49,46,48,46,48,34,10,91,110,101,101,100,115,93,10,98,32,61,32,34,49,34,10,99,32,61,32,34,50,34,10]⟩] w' fun e w''=>∃v1 v2 v3,e=.returned (.tuple #[v1,v2,v3])/\Hd (w'.grownBy w'' none)):=fun w' hg=>(aao PV PR _ E b w' ((G.bel (y8 hg)).up hg.size) (S.grow hg) (by decide)).mono fun e w'' hh=>by
  obtain⟨v,h1,h2,-⟩:=hh;exact⟨_,_,_,h1,h2⟩
 have CD:Hd (∀w',w.grownBy w' none->Calls prog 5 #[.string s] w' fun e w''=>∃o c,e=.returned (.tuple #[.agg #[.string X,.string Y,.slice o l c],.int .i64 z,.int .i64 (p:Nat)])/\Hd (w'.grownBy w'' none/\w''.ownsRow w'.heap.size 51 2 (.slice o l c) l (nd.flatMap kF))):=fun w' hg=>(akV DV DR s w' (Nat.lt_of_lt_of_le h0 hg.size) hmx).mono fun e w'' hh=>by
  rw[hR]at hh;obtain⟨v,h1,h2,h3⟩:=hh;rw[hX,hY,hz,hp]at h1;rw[hnd,hl]at h3;obtain⟨o,c,rfl⟩:=nV h3;exact⟨o,c,h1,h2,h3⟩
 have hl6:l<=1000000:=by rw[<-hl,<-hnd,<-hR];exact akX _
 have CS:Hd (∀v v' w',NdS w' v nd->NdS w' v' nd->Calls prog 6 #[v,v'] w' fun e w''=>e=.returned (.bool true)/\Hd (w'.grownBy w'' none)):=fun v v' w' h1 h2=>akW v v' nd w' h1 h2 (by omega)
 have CM:Hd (∀n w,Calls prog 7 #[.int .i64 n] w fun e w'=>e=.returned (.int .i64 n)/\Hd (w.grownBy w' none)):=fun n w=>ahh n w
 have jv:=ae hl;clear hR hX hY hz hp hnd hl G S PV PR DV DR h0 hmx;have iT:Hd (w.grownBy w none):=ax _ _;go_enter func3,ntmps3;go_upto_region 2 with(first|(go_at_call 4;refine(CP.o _ iT.o).mono ?_;rintro e w1 ⟨o1,c1,rfl,h1⟩))
 obtain⟨b3,hb3⟩:=zN w1.heap.size;obtain⟨U1,yP⟩:=zN (w1.alloc (.cells #[.string X,.string Y,.slice o1 l c1] 24))
 try rw[yP]
 try rw[hb3]
 have hg1:w1.grownBy U1 none:=yP ▸ aH (ax w1 none) _;have uK:U1.heap[b3]?=some (.cells #[.string X,.string Y,.slice o1 l c1] 24 (0,0)):=by rw[<-yP,<-hb3];exact heap_alloc_new _ _
 have H1:Hd (w.grownBy U1 none/\U1.heap[b3]?=some (.cells #[.string X,.string Y,.slice o1 l c1] 24 (0,0))/\U1.ownsRow w.heap.size 35 2 (.slice o1 l c1) l (nd.flatMap kF)):=⟨ak h1.o.1 hg1,uK,(gI hg1).row h1.o.2⟩;clear yP hb3 hg1 uK h1;go_upto_region 3 with(first|(go_at_call 4;refine(CT.o _ H1.o.1).mono ?_;rintro e w2 ⟨v1,v2,v3,rfl,h2⟩))
 go_upto_region 4 with(first|(go_at_call 5;refine(CD.o _ (ak H1.o.1 h2.o)).mono ?_;rintro e w3 ⟨o2,c2,rfl,h3⟩))
 obtain⟨b6,hb6⟩:=zN w3.heap.size;obtain⟨U3,Ah⟩:=zN (w3.alloc (.cells #[.string X,.string Y,.slice o2 l c2] 30))
 try rw[Ah]
 try rw[hb6]
 have hg3:w3.grownBy U3 none:=Ah ▸ aH (ax w3 none) _;have hm6:U3.heap[b6]?=some (.cells #[.string X,.string Y,.slice o2 l c2] 30 (0,0)):=by rw[<-Ah,<-hb6];exact heap_alloc_new _ _
 have Mc:=ak (ak h2.o h3.o.1) hg3;have r1:=(gI Mc).row H1.o.2.2;have oC:Hd (LwM w b3 b6 l X Y o1 o2 c1 c2 nd U3):=⟨ak H1.o.1 Mc,(gI Mc).blk H1.o.2.1,hm6,LU (ak H1.o.1 h2.o).size ((gI hg3).row h3.o.2),fun hl0=>by
  rcases r1.2 with⟨e1,e2⟩|⟨g,cap,cur,hv,hb,hc,q3,q4,q5,q6⟩
  ·omega
  ·cases hv
   exact⟨g,cur,rfl,hb,hc,by omega⟩⟩
 have C1:Hd (Calls prog 6 #[.slice o1 l c1,.slice o2 l c2] U3 fun e w''=>e=.returned (.bool true)/\Hd (U3.grownBy w'' none)):=CS.o _ _ _ (L9 (by rw[jv.o];exact r1)) (L9 (by rw[jv.o];exact oC.o.rw));have mc:∀wr,LwM w b3 b6 l X Y o1 o2 c1 c2 nd wr->wr.cell? ⟨b3,0,none⟩=some (.string X)/\wr.cell? ⟨b3,1,none⟩=some (.string Y)/\wr.cell? ⟨b3,2,none⟩=some (.slice o1 l c1)/\wr.cell? ⟨b6,0,none⟩=some (.string X)/\wr.cell? ⟨b6,1,none⟩=some (.string Y)/\wr.cell? ⟨b6,2,none⟩=some (.slice o2 l c2):=fun wr h=>⟨by rw[aj h.m3];rfl,by rw[aj h.m3];rfl,by rw[aj h.m3];rfl,by rw[aj h.m6];rfl,by rw[aj h.m6];rfl,by rw[aj h.m6];rfl⟩
 have vJ:=ae mc;obtain⟨a0,a1,a2,a3,a4,a5⟩:=mc _ oC.o;clear Ah hb6 hg3 hm6 Mc r1 h2 h3 H1 CT CD mc;go_upto_region 5 with(first|(go_at_call 6;refine C1.o.mono ?_;rintro e w4 ⟨rfl,h4⟩))
 have Dk:=ae (oC.o.grow h4.o);clear oC h4 C1 a0 a1 a2 a3 a4 a5;go_wp2;go_loopw [10] (fun v10 wr=>∃i:Nat,v10=.int .i64 (i:Nat)/\i<=l/\LwM w b3 b6 l X Y o1 o2 c1 c2 nd wr) (fun v10 _=>l-(intOf v10).toNat)
 case atStart=>exact⟨0,rfl,Nat.zero_le _,Dk.o⟩
 case round=>
  obtain⟨i,rfl,hi,hls⟩:=hrel;have oC:=ae hls;obtain⟨a0,a1,a2,a3,a4,a5⟩:=vJ.o _ hls;clear hls Dk
  by_cases hlt:i<l
  ·obtain⟨g,cur,rfl,hg,hc,hsz⟩:=oC.o.rg (by omega);obtain⟨u0,d0⟩:∃v,wr.cell? ⟨g,i*2,none⟩=some v:=⟨cur[i*2]'(by omega),by rw[aj hc];exact Array.getElem?_eq_getElem (by omega)⟩;obtain⟨u1,d1⟩:∃v,wr.cell? ⟨g,i*2+1,none⟩=some v:=⟨cur[i*2+1]'(by omega),by rw[aj hc];exact Array.getElem?_eq_getElem (by omega)⟩;have df:=fun k=>Lib.frozen_of_heap hc k
   have HN:=ae ((oC.o.set (by omega) g (i*2) rfl (.string ⟨#[63]⟩)).set (by omega) g (i*2+1) rfl (.string ⟨#[]⟩));clear hc hsz hg;go_wp2;exact⟨⟨i+1,by go_num,by omega,HN.o⟩,by simp[intOf];omega⟩
  ·go_upto_region 10 with(first|(go_at_call 4;refine(CP.o _ oC.o.gb).mono ?_;rintro e w5 ⟨o5,c5,rfl,h5⟩))
   obtain⟨b9,SS⟩:=zN w5.heap.size;obtain⟨U5,Md⟩:=zN (w5.alloc (.cells #[.string X,.string Y,.slice o5 l c5] 24))
   try rw[Md]
   try rw[SS]
   have hg5:w5.grownBy U5 none:=Md ▸ aH (ax w5 none) _;have hm9:U5.heap[b9]?=some (.cells #[.string X,.string Y,.slice o5 l c5] 24 (0,0)):=by rw[<-Md,<-SS];exact heap_alloc_new _ _
   have sQ:=ae (oC.o.grow (ak h5.o.1 hg5));have C5:Hd (Calls prog 6 #[.slice o5 l c5,.slice o2 l c2] U5 fun e w''=>e=.returned (.bool true)/\Hd (U5.grownBy w'' none)):=CS.o _ _ _ (L9 (by rw[jv.o];exact(gI hg5).row h5.o.2)) (L9 (by rw[jv.o];exact sQ.o.rw));have k2:U5.cell? ⟨b9,2,none⟩=some (.slice o5 l c5):=by rw[aj hm9];rfl
   clear a0 a1 a2 a3 a4 a5 oC hm9 hg5 Md SS h5;obtain⟨a0,a1,a2,a3,a4,a5⟩:=vJ.o _ sQ.o;go_upto_region 11 with(first|(go_at_call 6;refine C5.o.mono ?_;rintro e w6 ⟨rfl,h6⟩))
   have yA:=ae (sQ.o.grow h6.o);clear a0 a1 a2 a3 a4 a5 sQ C5 k2 h6;obtain⟨a0,a1,a2,a3,a4,a5⟩:=vJ.o _ yA.o;have qx:(X.toList == X.toList)=true:=by simp
   have qy:(Y.toList == Y.toList)=true:=by simp
   have qz:(z == z)=true:=by simp
   have qp:((p:Int) == (p:Int))=true:=by simp
   go_wp2_with (go_at_call 7;refine(CM.o z _).mono ?_;rintro e w7 ⟨rfl,h7⟩);go_ret;exact⟨rfl,ak yA.o.gb h7.o⟩
end Go.Proofs.YtbcfhgpfgdbjgaaGreatDoor
