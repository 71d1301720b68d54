import Derived.Test.YtmkjelchiacogaaGreatDoorM29
import Derived.Shelf.Strings.Builder1
import Derived.Test.YtmkjelchiacogaaGreatDoorM03
import Derived.Test.YtmkjelchiacogaaGreatDoorM11
import Derived.Shelf.Strings.BuilderK
import Derived.Test.YtmkjelchiacogaaGreatDoorM21
import Derived.Test.YtmkjelchiacogaaGreatDoorM15
import Derived.Test.YtmkjelchiacogaaGreatDoorM23
import Derived.Test.YtmkjelchiacogaaGreatDoorM14
set_option linter.unusedVariables false
set_option linter.unusedSimpArgs false
set_option maxRecDepth 100000
set_option maxHeartbeats 6400000
open Go.Proofs.Tryz
namespace Go.Proofs.YtmkjelchiacogaaGreatDoor
open Go.RowKit Go.Shelf Go.Sort
theorem agh{α β:Type}(f:α->β){A B:List β}(h:A.Perm B):∀Z:List α,Z.map f=B->∃Z':List α,Z'.map f=A/\Z'.Perm Z:=by
 induction h with
 | nil=>intro Z hZ;exact⟨Z,hZ,List.Perm.refl _⟩
 | cons x _ ih =>
  intro Z hZ
  match Z,hZ with
  | z :: Z,hZ =>
   rw[List.map_cons]at hZ;injection hZ with h1 h2
   obtain⟨Z',h3,h4⟩:=ih Z h2;exact⟨z :: Z',by rw[List.map_cons,h1,h3],h4.cons z⟩
 | swap x y l =>
  intro Z hZ
  match Z,hZ with
  | z1 :: z2 :: Z,hZ =>
   rw[List.map_cons,List.map_cons]at hZ;injection hZ with h1 h2
   injection h2 with h2 h3
   exact⟨z2 :: z1 :: Z,by rw[List.map_cons,List.map_cons,h1,h2,h3],List.Perm.swap _ _ _⟩
 | trans _ _ ih1 ih2 =>
  intro Z hZ;obtain⟨Z2,h3,h4⟩:=ih2 Z hZ;obtain⟨Z1,h5,h6⟩:=ih1 Z2 h3;exact⟨Z1,h5,h6.trans h4⟩
theorem agi{w:World}{E E':List Ec}{L:List En}(hl:E.length=L.length)(hi:∀i (h1:i<E.length) (h2:i<L.length),EcIs w E[i] L[i])(hp:E'.Perm E):∃M:List En,M.Perm L/\M.length=E'.length/\∀i (h1:i<E'.length) (h2:i<M.length),EcIs w E'[i] M[i]:=by
 obtain⟨Z,hZ1,hZ2⟩:=agh Prod.fst hp (E.zip L) (List.map_fst_zip (by omega));have hz:∀z∈Z,EcIs w z.1 z.2:=fun z hz=>by
  obtain⟨i,hi2,rfl⟩:=List.getElem_of_mem (hZ2.subset hz);rw[List.getElem_zip];rw[List.length_zip]at hi2;exact hi i (by omega) (by omega)
 refine⟨Z.map Prod.snd,?_,by rw[<-hZ1];simp,fun i h1 h2=>?_⟩
 ·have:=hZ2.map Prod.snd;rw[List.map_snd_zip (by omega)]at this;exact this
 ·have hiZ:i<Z.length:=by simpa using h2
  have e1:E'[i]=Z[i].1:=by simp only[<-hZ1,List.getElem_map]
  rw[e1,List.getElem_map];exact hz _ (List.getElem_mem _)
theorem agj{w:World}{base:Nat}{o:Option Addr}{c:Nat}{E:List Ec}(h:w.ownsRow base 44 4 (.slice o E.length c) E.length (E.flatMap dn)):EcS w (.slice o E.length c) E:=by
 rcases h.2 with⟨h1,h2⟩|⟨g,cap,cur,hv,hb,hc,h3,h4,h5,h6⟩
 ·exact Or.inl ⟨h1,List.length_eq_zero_iff.1 h2⟩
 ·refine Or.inr ⟨⟨g,0,none⟩,cap,hv,h3,fun i hi=>?_⟩;have h':=h;rw[hv]at h';have key:∀k u,0<k->(dn E[i])[k]?=some u->w.cell? ⟨((⟨g,0,none⟩:Addr).add (i*4)).block,((⟨g,0,none⟩:Addr).add (i*4)).off+k,none⟩=some u:=fun k u hk hu=>by
   have:=h'.cells (g:=g) rfl (i*4+k) u (OU E i hi k u hu);rw[Hz _ _ k hk]at this;exact this
  have k0:=h'.cells (g:=g) rfl (i*4+0) _ (OU E i hi 0 _ rfl);exact⟨by simpa using k0,key 1 _ (by omega) rfl,key 2 _ (by omega) rfl,key 3 _ (by omega) rfl⟩
def Bld(B:Nat)(l:List UInt8)(w:World):Prop:=Lib.IsBuilderF 71 5 B B (Lib.byteCells l) w
theorem Bld.alloc{B:Nat}{l:List UInt8}{w:World}(h:Bld B l w)(o:Obj):Bld B l (w.alloc o):=Lib.IsBuilderF.alloc h o
theorem Bld.grow{B:Nat}{l:List UInt8}{w w':World}(h:Bld B l w)(hg:w.grownBy w' none):Bld B l w':=by
 have key:∀p,Lib.BuilderAtF 71 5 B B p (Lib.byteCells l) w->Lib.BuilderAtF 71 5 B B p (Lib.byteCells l) w':=fun p h=>by
  obtain⟨h1,v,h2,h3,h4⟩:=h;exact⟨h1,v,(hg.block B (bz h2) (by simp)).trans h2,h3.kept hg (by cases v.ownBlock<;>simp),h4⟩
 exact h.imp (key _) (key _)
theorem agk(w:World):Bld w.heap.size [] (w.alloc (.cells #[.pointer none,.slice none 0 0] 71)):=Lib.IsBuilderF.of (Lib.fresh_isBuilder _ _ w)
def IX(B:Nat)(l:List UInt8)(w:World)(e:Ending)(w':World):Prop:=(∃k:Int,e=.returned (.tuple #[.int .i64 k,.nilIface]))/\Bld B l w'/\Below B w w'/\∀K nm ve dg o n c,w.heap[K]?=some (.cells #[.string nm,.string ve,.string dg,.slice o n c] 44 (0,0))->¬K=B->w'.heap[K]?=some (.cells #[.string nm,.string ve,.string dg,.slice o n c] 44 (0,0))
theorem agl(B:Nat)(l:List UInt8)(s:ByteArray)(w:World)(h:Bld B l w)(hlen:l.length+s.size<=140737488355328)(hB:B<=w.heap.size) :
  Calls prog 30 #[.pointer (some ⟨B,0,none⟩),.string s] w (IX B (l++s.data.toList) w):=by
 refine(Any.Builder_WriteString_k Tryz.lays166 Tryz.Builder_Extra_166 B B (Lib.byteCells l) s w h (by rw[Lib.byteCells_length];exact hlen) hB).mono ?_;rintro e w' ⟨rfl,h1,h2,h3⟩;refine⟨⟨_,rfl⟩,Or.inr ?_,h2,fun K nm ve dg o n c hK hne=>h3 K _ hK (by simpa using hne) (fun c fz e=>by
  injection e with _ e2 _
  have e3:Tryz.lays166_ren.t 5=5:=rfl;rw[e3]at e2
  cases e2)⟩
 have e1:Lib.byteCells l++Lib.strCells s=Lib.byteCells (l++s.data.toList):=by simp[Lib.byteCells,Lib.strCells]
 rw[e1]at h1;exact h1
theorem agm(B:Nat)(l:List UInt8)(w:World)(h:Bld B l w)(hB:B<=w.heap.size) :
  Calls prog 34 #[.pointer (some ⟨B,0,none⟩)] w fun e w'=>e=.returned (.string ⟨l.toArray⟩)/\Below B w w':=(Any.Builder_String_any_k Tryz.lays169 Tryz.Builder_Extra_169 B B l w h hB).mono fun e w' ⟨h1,_,h2,_⟩=>⟨h1,h2⟩
theorem agn(y:En)(T:ByteArray)(hT:T.data.toList=91 :: (gm (iT y.nd) (iT y.nd).length++[93])):[10,91,91,112,97,99,107,97,103,101,93,93,10]++(([100,105,103,101,115,116,32,61,32]++((qd y.dg).data.toList++[10]))++(([110,97,109,101,32,61,32]++((qd y.nm).data.toList++[10]))++(([110,101,101,100,115,32,61,32]++(T.data.toList++[10]))++([118,101,114,115,105,111,110,32,61,32]++((qd y.ve).data.toList++[10])))))=ik (bZ y):=by
 rw[hT,IW,IW,IW];unfold ik bZ;simp
def Rnd(B K:Nat)(nm ve dg:ByteArray)(o:Option Addr)(n c:Nat)(W2:World)(l:List UInt8)(w:World):Prop:=Bld B l w/\B<=w.heap.size/\Below B W2 w/\K<w.heap.size/\w.heap[K]?=some (.cells #[.string nm,.string ve,.string dg,.slice o n c] 44 (0,0))
theorem Rnd.wr{B K:Nat}{nm ve dg:ByteArray}{o:Option Addr}{n c:Nat}{W2:World}{l l':List UInt8}{w w':World}{e:Ending}(h:Rnd B K nm ve dg o n c W2 l w)(hK:¬K=B)(hw:IX B l' w e w'):Rnd B K nm ve dg o n c W2 l' w' :=
 ⟨hw.2.1,Nat.le_trans h.2.1 hw.2.2.1.size,h.2.2.1.trans hw.2.2.1,Nat.lt_of_lt_of_le h.2.2.2.1 hw.2.2.1.size,hw.2.2.2 K nm ve dg o n c h.2.2.2.2 hK⟩
theorem Rnd.grow{B K:Nat}{nm ve dg:ByteArray}{o:Option Addr}{n c:Nat}{W2:World}{l:List UInt8}{w w':World}(h:Rnd B K nm ve dg o n c W2 l w)(hg:w.grownBy w' none):Rnd B K nm ve dg o n c W2 l w' :=
 ⟨h.1.grow hg,Nat.le_trans h.2.1 hg.size,h.2.2.1.trans ⟨hg.os,hg.tape,hg.output,hg.size,fun k hk=>hg.block k (Nat.lt_of_lt_of_le hk h.2.1) (by simp)⟩,Nat.lt_of_lt_of_le h.2.2.2.1 hg.size,(hg.block K h.2.2.2.1 (by simp)).trans h.2.2.2.2⟩
theorem agp(v:Value)(L:List En)(w:World)(h:EnS w v L)(hl:L.length<=50)(hsh:∀x∈L,Short x)(hnd:(L.map (·.nm)).Nodup) :
  Calls prog 14 #[v] w fun e w'=>e=.returned (.string (ny L))/\w.grownBy w' none:=by
 obtain⟨E,hE,hEl,hEi⟩:=afW h;obtain⟨o,c,rfl⟩:=wH h;obtain⟨n,hn⟩:=zN (L.length);have hb0:=heap_alloc_new w (.cells #[.slice o n c] 26);have Yl:Hd (Calls prog 26 #[.func (.func 60) #[] #[.pointer (some ⟨w.heap.size,0,none⟩)],.func (.func 28) #[] #[]] (w.alloc (.cells #[.slice o n c] 26)) fun e w'=>∃(E':List Ec) (o2:Option Addr) (c2:Nat),e=.returned (.slice o2 n c2)/\E'.length=n/\EcS w' (.slice o2 n c2) E'/\(∀i (h1:i<E'.length) (h2:i<(jd L).length),EcIs w' E'[i] (jd L)[i])/\w.grownBy w' none):=by
  have xy:E.length=n:=hEl.trans hn;have key:=af9 w.heap.size o c E (by omega) (w.alloc (.cells #[.slice o n c] 26)) (by rw[xy];exact hb0) (by rw[hEl];exact hE.grow (aP (ai w none) _));refine key.mono fun e w' ⟨E',o2,c2,h1,hp,hr,hown,hg⟩=>?_
  have OX:E'.length=n:=hp.length_eq.trans xy;have hgw:w.grownBy w' none:=af (aP (ai w none) _) hg;obtain⟨M,hM1,hM2,OY⟩:=agi hEl hEi hp;have hMr:wW M:=by
   unfold wW;rw[List.pairwise_iff_getElem];intro i j hi hj hij;have:=List.pairwise_iff_getElem.1 hr i j (by omega) (by omega) hij;rw[(OY i (by omega) hi).1,(OY j (by omega) hj).1]at this;exact this
  have hMs:=NJ hnd hM1 hMr;subst hMs;refine⟨E',o2,c2,by rw[<-OX];exact h1,OX,by rw[<-OX];exact agj hown,fun i h1 h2=>(OY i h1 h2).grow hgw,hgw⟩
 have OZ:(jd L).length=n:=(tK L).length_eq.trans hn;have O0:∀y∈jd L,Short y:=fun y hy=>hsh y ((tK L).subset hy)
 have Ym:ny L=⟨(tN ((jd L).map bZ)).toArray⟩:=rfl;rw[Ym];obtain⟨M,hM⟩:=zN (jd L);rw[hM]at Yl OZ O0 ⊢;have yg:Hd (∀y∈M,Short y):=O0;have yM:Hd (M.length=n):=OZ;rw[hn];rw[hn]at hl;have CI:Hd (∀wx,Calls prog 31 #[.int .i64 1] wx fun e w'=>e=.returned (.string ⟨(Lib.decDigits 1).toArray⟩)/\w'=wx):=fun wx=>Any.strconv_Itoa_small { Tryz.lays171 with } 1 (by decide) wx
 have hdd:(⟨(Lib.decDigits 1).toArray⟩:ByteArray)=⟨#[49]⟩:=by
  rw[Lib.decDigits];rfl
 rw[hdd]at CI;have CQ:Hd (∀s wx,s.size<=1048576->Calls prog 32 #[.string s] wx fun e w'=>e=.returned (.string (qd s))/\w'=wx):=fun s wx hs=>Yg s wx hs
 have CL:Hd (∀v N wx,TxS wx v N->N.length<=20->(∀y∈N,y.size<=1048576)->Calls prog 33 #[v] wx fun e w'=>∃T:ByteArray,e=.returned (.string T)/\T.data.toList=91 :: (gm (iT N) (iT N).length++[93])/\wx.grownBy w' none):=fun v N wx h1 h2 h3=>agf v N wx h1 h2 h3
 have c1:∀wx,(Op.stringOp .add ⟨#[102,111,114,109,97,116,32,61,32]⟩ ⟨#[49]⟩).run prog wx=.ok (.string (cat ⟨#[102,111,114,109,97,116,32,61,32]⟩ ⟨#[49]⟩)) wx:=fun wx=>ig _ _ wx (by decide)
 have l1:=gX ⟨#[102,111,114,109,97,116,32,61,32]⟩ ⟨#[49]⟩;have z1:(cat ⟨#[102,111,114,109,97,116,32,61,32]⟩ ⟨#[49]⟩).size=10:=gY _ _;generalize cat ⟨#[102,111,114,109,97,116,32,61,32]⟩ ⟨#[49]⟩=Z1 at c1 l1 z1;have c2:∀wx,(Op.stringOp .add Z1 ⟨#[10]⟩).run prog wx=.ok (.string (cat Z1 ⟨#[10]⟩)) wx:=fun wx=>ig _ _ wx (by rw[z1];decide)
 have l2:=gX Z1 ⟨#[10]⟩;have z2:(cat Z1 ⟨#[10]⟩).size=Z1.size+1:=gY _ _;generalize cat Z1 ⟨#[10]⟩=Z2 at c2 l2 z2;have HZ2:Hd ([]++Z2.data.toList=[102,111,114,109,97,116,32,61,32,49,10]++((M.map bZ).take 0).flatMap ik):=by
  show _=_;rw[l2,l1];rfl
 have hz2:Z2.size=11:=by omega
 clear h hE hEl hEi hb0 hsh hnd hM OZ O0 Ym hdd l1 l2 z1 z2 hn;go_enter func14,ntmps14;go_wp2_with (first|(go_at_call 27;refine(afX _ _ _ _).mono ?_;rintro e w' ⟨rfl,rfl⟩)|(go_at_call 26;refine Yl.o.mono ?_));rintro e W2 ⟨E',o2,c2',rfl,xy,EN,hpt,hg2⟩;have VL:Hd (E'.length=n/\EcS W2 (.slice o2 n c2') E'/\∀i (h1:i<E'.length) (h2:i<M.length),EcIs W2 E'[i] M[i]):=⟨xy,EN,hpt⟩;have HG2:Hd (w.grownBy W2 none):=hg2;obtain⟨B,hB⟩:=zN (W2.heap.size);have HB:Hd (W2.heap.size=B):=hB;have hbn:=agk W2;rw[hB]at hbn;have CW:Hd (∀l s wx,Bld B l wx->l.length+s.size<=140737488355328->B<=wx.heap.size->Calls prog 30 #[.pointer (some ⟨B,0,none⟩),.string s] wx (IX B (l++s.data.toList) wx)):=fun l s wx h1 h2 h3=>agl B l s wx h1 h2 h3
 have uB:Hd (Bld B [] (W2.alloc (.cells #[.pointer none,.slice none 0 0] 71))/\B<=(W2.alloc (.cells #[.pointer none,.slice none 0 0] 71)).heap.size):=⟨hbn,by rw[World.size_alloc,hB];omega⟩;clear xy EN hpt hg2 hbn;have HCB:Hd (∀l wx,Bld B l wx->B<=wx.heap.size->Calls prog 34 #[.pointer (some ⟨B,0,none⟩)] wx fun e w'=>e=.returned (.string ⟨l.toArray⟩)/\Below B wx w'):=fun l wx h1 h2=>agm B l wx h1 h2
 go_wp2_with (first|(go_at_call 31;refine(CI.o _).mono ?_;rintro e w' ⟨rfl,rfl⟩)|(go_at_call 30;refine(CW.o [] Z2 _ uB.o.1 (by rw[hz2];decide) uB.o.2).mono ?_));rintro e W3 ⟨⟨k0,rfl⟩,hb3,hw3,-⟩;have HI3:Hd (Bld B ([102,111,114,109,97,116,32,61,32,49,10]++((M.map bZ).take 0).flatMap ik) W3/\Below B W2 W3/\B<W3.heap.size):=by
  refine⟨?_,((Below.refl B W2).alloc (by rw[hB];exact Nat.le_refl _) _).trans hw3,?_⟩
  ·rw[<-HZ2.o];exact hb3
  ·have:=hw3.size;rw[World.size_alloc,hB]at this;omega
 clear hb3 hw3 uB hB c1 c2;go_wp2;go_loopw [16] (fun vi wr=>∃i:Nat,vi=.int .i64 i/\i<=n/\(Bld B ([102,111,114,109,97,116,32,61,32,49,10]++((M.map bZ).take i).flatMap ik) wr/\Below B W2 wr/\B<wr.heap.size)/\([102,111,114,109,97,116,32,61,32,49,10]++((M.map bZ).take i).flatMap ik).length<=11+i*67108864) (fun vi _=>n-(intOf vi).toNat)
 case atStart=>exact⟨0,rfl,Nat.zero_le _,HI3.o,by simp⟩
 case round =>
  obtain⟨i,rfl,hi,⟨hbl,hbw,hbs⟩,hln⟩:=hrel;have dW:Hd (W2.grownBy wr none):=by
   refine⟨hbw.os,hbw.tape,hbw.output,hbw.size,fun k hk _=>hbw.block k (by rw[<-HB.o];exact hk)⟩
  have zn:Hd (Below B W2 wr):=hbw
  by_cases hlt:i<n
  ·obtain⟨xy,EN,hpt⟩:=VL.o;have hix:i<E'.length:=by omega
   have Yn:EcS wr (.slice o2 E'.length c2') E':=by rw[xy];exact EN.grow dW.o
   obtain⟨a,rfl,hcp,hat⟩:=Yc Yn hix;have hiM:i<M.length:=by rw[yM.o];exact hlt
   obtain⟨p1,p2,p3,p4⟩:=hpt i hix hiM;obtain⟨e0,e1,e2,e3⟩:=hat i hix;obtain⟨q1,q2,q3,q4,q5⟩:=yg.o M[i] (List.getElem_mem _);have gU:Hd (((M.map bZ).take (i+1)).flatMap ik=((M.map bZ).take i).flatMap ik++ik (bZ M[i])):=by
    show _=_;rw[Wx (M.map bZ) i (by rw[List.length_map];exact hiM),List.getElem_map]
   obtain⟨y,hy⟩:=zN (M[i]);rw[hy]at p1 p2 p3 p4 q1 q2 q3 q4 q5 gU;obtain⟨x,hx⟩:=zN (E'[i]);rw[hx]at p1 p2 p3 p4 e0 e1 e2 e3;obtain⟨xn,xv,xd,xo,xm,xc⟩:=x;obtain⟨yn,yv,yd,N⟩:=y;simp only[]at p1 p2 p3 p4 q1 q2 q3 q4 q5 e0 e1 e2 e3;subst p1 p2 p3;have agq:Hd (TxS W2 (.slice xo xm xc) N):=p4;have Yo:Hd (∀y∈N,y.size<=1048576):=q5;have aho:n<=c2':=by omega
   obtain⟨l0,hl0⟩:∃l,[102,111,114,109,97,116,32,61,32,49,10]++((M.map bZ).take i).flatMap ik=l:=⟨_,rfl⟩;have JV:Hd ([102,111,114,109,97,116,32,61,32,49,10]++((M.map bZ).take i).flatMap ik=l0):=hl0;rw[hl0]at hbl hln;obtain⟨K,hK⟩:=zN (wr.heap.size);have HKB:Hd (¬K=B):=by show ¬_;omega
   have Yp:Hd (wr.heap.size=K):=hK;have hBK:B<K:=by omega
   have hnew:=heap_alloc_new wr (.cells #[.string xn,.string xv,.string xd,.slice xo xm xc] 44);rw[hK]at hnew;have lY:Hd (Bld B l0 (wr.alloc (.cells #[.string xn,.string xv,.string xd,.slice xo xm xc] 44))/\B<=(wr.alloc (.cells #[.string xn,.string xv,.string xd,.slice xo xm xc] 44)).heap.size/\Below B W2 (wr.alloc (.cells #[.string xn,.string xv,.string xd,.slice xo xm xc] 44))/\K<(wr.alloc (.cells #[.string xn,.string xv,.string xd,.slice xo xm xc] 44)).heap.size/\(wr.alloc (.cells #[.string xn,.string xv,.string xd,.slice xo xm xc] 44)).heap[K]?=some (.cells #[.string xn,.string xv,.string xd,.slice xo xm xc] 44 (0,0))) :=
    ⟨hbl.alloc _,by rw[World.size_alloc];omega,hbw.alloc (by omega) _,by rw[World.size_alloc];omega,hnew⟩
   have jM:Hd (l0.length<=11+i*67108864):=hln;clear hbl hbw hln EN Yn hpt hat p4 q5 hy hx hl0 hnew hK hcp xy hix hiM;have c2a:∀wx,(Op.stringOp .add ⟨#[100,105,103,101,115,116,32,61,32]⟩ (qd xd)).run prog wx=.ok (.string (cat ⟨#[100,105,103,101,115,116,32,61,32]⟩ (qd xd))) wx:=fun wx=>ig _ _ wx (by show 9+_<=_;have:=uS xd;omega)
   have l2a:=gX ⟨#[100,105,103,101,115,116,32,61,32]⟩ (qd xd);have z2a:(cat ⟨#[100,105,103,101,115,116,32,61,32]⟩ (qd xd)).size=9+((qd xd)).size:=gY _ _;generalize cat ⟨#[100,105,103,101,115,116,32,61,32]⟩ (qd xd)=S2a at c2a l2a z2a;have c2:∀wx,(Op.stringOp .add S2a ⟨#[10]⟩).run prog wx=.ok (.string (cat S2a ⟨#[10]⟩)) wx:=fun wx=>ig _ _ wx (by show _+1<=_;have:=uS xd;omega)
   have l2:=gX S2a ⟨#[10]⟩;have z2:(cat S2a ⟨#[10]⟩).size=S2a.size+1:=gY _ _;generalize cat S2a ⟨#[10]⟩=S2 at c2 l2 z2;have HS2:Hd (S2.data.toList=[100,105,103,101,115,116,32,61,32]++((qd xd).data.toList++[10])):=by
    show _=_;rw[l2,l2a];simp
   have hs2:S2.size<=0+9+1+((qd xd)).size:=by omega
   clear l2a l2 z2a z2;have c3a:∀wx,(Op.stringOp .add ⟨#[110,97,109,101,32,61,32]⟩ (qd xn)).run prog wx=.ok (.string (cat ⟨#[110,97,109,101,32,61,32]⟩ (qd xn))) wx:=fun wx=>ig _ _ wx (by show 7+_<=_;have:=uS xn;omega)
   have l3a:=gX ⟨#[110,97,109,101,32,61,32]⟩ (qd xn);have z3a:(cat ⟨#[110,97,109,101,32,61,32]⟩ (qd xn)).size=7+((qd xn)).size:=gY _ _;generalize cat ⟨#[110,97,109,101,32,61,32]⟩ (qd xn)=S3a at c3a l3a z3a;have c3:∀wx,(Op.stringOp .add S3a ⟨#[10]⟩).run prog wx=.ok (.string (cat S3a ⟨#[10]⟩)) wx:=fun wx=>ig _ _ wx (by show _+1<=_;have:=uS xn;omega)
   have l3:=gX S3a ⟨#[10]⟩;have z3:(cat S3a ⟨#[10]⟩).size=S3a.size+1:=gY _ _;generalize cat S3a ⟨#[10]⟩=S3 at c3 l3 z3;have fQ:Hd (S3.data.toList=[110,97,109,101,32,61,32]++((qd xn).data.toList++[10])):=by
    show _=_;rw[l3,l3a];simp
   have hs3:S3.size<=0+7+1+((qd xn)).size:=by omega
   clear l3a l3 z3a z3;have c5a:∀wx,(Op.stringOp .add ⟨#[118,101,114,115,105,111,110,32,61,32]⟩ (qd xv)).run prog wx=.ok (.string (cat ⟨#[118,101,114,115,105,111,110,32,61,32]⟩ (qd xv))) wx:=fun wx=>ig _ _ wx (by show 10+_<=_;have:=uS xv;omega)
   have l5a:=gX ⟨#[118,101,114,115,105,111,110,32,61,32]⟩ (qd xv);have z5a:(cat ⟨#[118,101,114,115,105,111,110,32,61,32]⟩ (qd xv)).size=10+((qd xv)).size:=gY _ _;generalize cat ⟨#[118,101,114,115,105,111,110,32,61,32]⟩ (qd xv)=S5a at c5a l5a z5a;have c5:∀wx,(Op.stringOp .add S5a ⟨#[10]⟩).run prog wx=.ok (.string (cat S5a ⟨#[10]⟩)) wx:=fun wx=>ig _ _ wx (by show _+1<=_;have:=uS xv;omega)
   have l5:=gX S5a ⟨#[10]⟩;have z5:(cat S5a ⟨#[10]⟩).size=S5a.size+1:=gY _ _;generalize cat S5a ⟨#[10]⟩=S5 at c5 l5 z5;have su:Hd (S5.data.toList=[118,101,114,115,105,111,110,32,61,32]++((qd xv).data.toList++[10])):=by
    show _=_;rw[l5,l5a];simp
   have hs5:S5.size<=0+10+1+((qd xv)).size:=by omega
   clear l5a l5 z5a z5;have hqd:=uS xd;have pV:=uS xn;have hqv:=uS xv;have hln:=jM.o;have mQ:Hd (∀wx,Bld B l0 wx->B<=wx.heap.size->Calls prog 30 #[.pointer (some ⟨B,0,none⟩),.string ⟨#[10,91,91,112,97,99,107,97,103,101,93,93,10]⟩] wx (IX B (l0++[10,91,91,112,97,99,107,97,103,101,93,93,10]) wx)):=fun wx h1 h2=>CW.o l0 ⟨#[10,91,91,112,97,99,107,97,103,101,93,93,10]⟩ wx h1 (by show _+13<=_;omega) h2
   obtain⟨WA,O6⟩:=zN (wr.alloc (.cells #[.string xn,.string xv,.string xd,.slice xo xm xc] 44));have Ei:Hd (wr.alloc (.cells #[.string xn,.string xv,.string xd,.slice xo xm xc] 44)=WA):=O6;rw[O6]at lY;clear O6 hln;go_wp2_with (go_at_call 30;(try rw[Yp.o]);rw[Ei.o];refine(mQ.o WA lY.o.1 lY.o.2.1).mono ?_);rintro e w1 ⟨⟨k1,rfl⟩,hh⟩;have HR1:Hd (Rnd B K xn xv xd xo xm xc W2 (l0++[10,91,91,112,97,99,107,97,103,101,93,93,10]) w1):=Rnd.wr (show Rnd B K xn xv xd xo xm xc W2 l0 WA from lY.o) HKB.o (e:=.returned (.tuple #[.int .i64 k1,.nilIface])) ⟨⟨_,rfl⟩,hh⟩;obtain⟨l1,hl1⟩:∃l,l0++[10,91,91,112,97,99,107,97,103,101,93,93,10]=l:=⟨_,rfl⟩;have qH:Hd (l0++[10,91,91,112,97,99,107,97,103,101,93,93,10]=l1):=hl1;have n1:l1.length=l0.length+13:=by rw[<-hl1];simp
   rw[hl1]at HR1;clear hh hl1 mQ;have f2:=(tH HR1.o.2.2.2.2).2.2.1;go_wp2_with (first|(go_at_call 32;refine(CQ.o xd _ q3).mono ?_;rintro e w' ⟨rfl,rfl⟩)|(go_at_call 30;refine(CW.o l1 S2 _ HR1.o.1 (by have:=jM.o;omega) HR1.o.2.1).mono ?_));rintro e w2 ⟨⟨k2,rfl⟩,hh⟩;have HR2:Hd (Rnd B K xn xv xd xo xm xc W2 (l1++S2.data.toList) w2):=Rnd.wr HR1.o HKB.o (e:=.returned (.tuple #[.int .i64 k2,.nilIface])) ⟨⟨_,rfl⟩,hh⟩;obtain⟨l2,hl2⟩:∃l,l1++S2.data.toList=l:=⟨_,rfl⟩;have HL2:Hd (l1++S2.data.toList=l2):=hl2;have n2:l2.length=l1.length+S2.size:=by rw[<-hl2];simp
   rw[hl2]at HR2;clear hh hl2;have f0:=(tH HR2.o.2.2.2.2).1;go_wp2_with (first|(go_at_call 32;refine(CQ.o xn _ q1).mono ?_;rintro e w' ⟨rfl,rfl⟩)|(go_at_call 30;refine(CW.o l2 S3 _ HR2.o.1 (by have:=jM.o;omega) HR2.o.2.1).mono ?_));rintro e w3 ⟨⟨k3,rfl⟩,hh⟩;have HR3:Hd (Rnd B K xn xv xd xo xm xc W2 (l2++S3.data.toList) w3):=Rnd.wr HR2.o HKB.o (e:=.returned (.tuple #[.int .i64 k3,.nilIface])) ⟨⟨_,rfl⟩,hh⟩;obtain⟨l3,hl3⟩:∃l,l2++S3.data.toList=l:=⟨_,rfl⟩;have oJ:Hd (l2++S3.data.toList=l3):=hl3;have n3:l3.length=l2.length+S3.size:=by rw[<-hl3];simp
   rw[hl3]at HR3;clear hh hl3;have f3:=(tH HR3.o.2.2.2.2).2.2.2;have agr:Hd (TxS w3 (.slice xo xm xc) N):=by
    have hb:=HR3.o.2.2.1;exact agq.o.grow ⟨hb.os,hb.tape,hb.output,hb.size,fun k hk _=>hb.block k (by rw[<-HB.o];exact hk)⟩
   go_wp2_with (go_at_call 33;refine(CL.o _ N _ agr.o q4 Yo.o).mono ?_);rintro e w4 ⟨T,rfl,hT,hg4⟩;have O7:Hd (Rnd B K xn xv xd xo xm xc W2 l3 w4):=HR3.o.grow hg4;have HT:Hd (T.data.toList=91 :: (gm (iT N) (iT N).length++[93])):=hT;have hTs:T.size<=20*1048580+2:=by
    have h1:=Ip (iT N) (fun y hy=>Yo.o y ((rM N).subset hy)) _ (Nat.le_refl _);rw[(rM N).length_eq]at h1;have h2:=congrArg List.length hT;rw[(rM N).length_eq]at h2;simp only[List.length_cons,List.length_append,List.length_nil]at h2;have h3:T.data.toList.length=T.size:=by simp
    have h4:N.length*1048580<=20*1048580:=Nat.mul_le_mul_right _ q4;omega
   clear hT hg4;have c4a:∀wx,(Op.stringOp .add ⟨#[110,101,101,100,115,32,61,32]⟩ T).run prog wx=.ok (.string (cat ⟨#[110,101,101,100,115,32,61,32]⟩ T)) wx:=fun wx=>ig _ _ wx (by show 8+_<=_;omega)
   have l4a:=gX ⟨#[110,101,101,100,115,32,61,32]⟩ T;have z4a:(cat ⟨#[110,101,101,100,115,32,61,32]⟩ T).size=8+T.size:=gY _ _;generalize cat ⟨#[110,101,101,100,115,32,61,32]⟩ T=S4a at c4a l4a z4a;have c4:∀wx,(Op.stringOp .add S4a ⟨#[10]⟩).run prog wx=.ok (.string (cat S4a ⟨#[10]⟩)) wx:=fun wx=>ig _ _ wx (by show _+1<=_;omega)
   have l4':=gX S4a ⟨#[10]⟩;have z4:(cat S4a ⟨#[10]⟩).size=S4a.size+1:=gY _ _;generalize cat S4a ⟨#[10]⟩=S4 at c4 l4' z4;have qG:Hd (S4.data.toList=[110,101,101,100,115,32,61,32]++(T.data.toList++[10])):=by
    show _=_;rw[l4',l4a];simp
   have hs4:S4.size<=9+T.size:=by omega
   clear l4a l4' z4a z4;go_wp2_with (go_at_call 30;refine(CW.o l3 S4 _ O7.o.1 (by have:=jM.o;omega) O7.o.2.1).mono ?_);rintro e w5 ⟨⟨k4,rfl⟩,hh⟩;have HR4:Hd (Rnd B K xn xv xd xo xm xc W2 (l3++S4.data.toList) w5):=Rnd.wr O7.o HKB.o (e:=.returned (.tuple #[.int .i64 k4,.nilIface])) ⟨⟨_,rfl⟩,hh⟩;obtain⟨l4,hl4⟩:∃l,l3++S4.data.toList=l:=⟨_,rfl⟩;have BO:Hd (l3++S4.data.toList=l4):=hl4;have n4:l4.length=l3.length+S4.size:=by rw[<-hl4];simp
   rw[hl4]at HR4;clear hh hl4;have f1:=(tH HR4.o.2.2.2.2).2.1;go_wp2_with (first|(go_at_call 32;refine(CQ.o xv _ q2).mono ?_;rintro e w' ⟨rfl,rfl⟩)|(go_at_call 30;refine(CW.o l4 S5 _ HR4.o.1 (by have:=jM.o;omega) HR4.o.2.1).mono ?_));rintro e w6 ⟨⟨k5,rfl⟩,hh⟩;have iy:Hd (Rnd B K xn xv xd xo xm xc W2 (l4++S5.data.toList) w6):=Rnd.wr HR4.o HKB.o (e:=.returned (.tuple #[.int .i64 k5,.nilIface])) ⟨⟨_,rfl⟩,hh⟩;obtain⟨l5,hl5⟩:∃l,l4++S5.data.toList=l:=⟨_,rfl⟩;have vP:Hd (l4++S5.data.toList=l5):=hl5;have n5:l5.length=l4.length+S5.size:=by rw[<-hl5];simp
   rw[hl5]at iy;clear hh hl5;have Yq:Hd ([102,111,114,109,97,116,32,61,32,49,10]++((M.map bZ).take (i+1)).flatMap ik=l5):=by
    show _=_;rw[<-vP.o,<-BO.o,<-oJ.o,<-HL2.o,<-qH.o,<-JV.o,gU.o,HS2.o,fQ.o,qG.o,su.o,<-agn ⟨xn,xv,xd,N⟩ T HT.o];simp only[List.append_assoc]
   have hfl:l5.length<=11+(i+1)*67108864:=by have:=jM.o;omega
   have FZ:Hd (B<w6.heap.size):=by
    have h1:=iy.o.2.1;have h2:=iy.o.2.2.2.1;have h3:=Yp.o;show B < _;omega
   clear c2a c2 c3a c3 c5a c5 c4a c4;go_wp2;go_roundw
   case rel=>exact⟨i+1,by go_num,by omega,by rw[Yq.o];exact⟨iy.o.1,iy.o.2.2.1,FZ.o⟩,by rw[Yq.o];exact hfl⟩
   case measure=>simp[intOf];omega
  ·have hie:i=n:=by omega
   have sO:Hd ([102,111,114,109,97,116,32,61,32,49,10]++((M.map bZ).take i).flatMap ik=tN (M.map bZ)):=by
    show _=_;rw[hie,List.take_of_length_le (by rw[List.length_map,yM.o];exact Nat.le_refl _)];rfl
   have fP:Hd (Bld B (tN (M.map bZ)) wr/\B<=wr.heap.size):=by
    rw[<-sO.o];exact⟨hbl,by omega⟩
   clear hbl hbw hln hie;go_wp2_with (go_at_call 34;refine(HCB.o _ _ fP.o.1 fP.o.2).mono ?_;rintro e w9 ⟨rfl,hb9⟩);go_ret;refine⟨rfl,af HG2.o ?_⟩;have hb:=zn.o.trans hb9;exact⟨hb.os,hb.tape,hb.output,hb.size,fun k hk _=>hb.block k (by rw[<-HB.o];exact hk)⟩
open Go.RowKit Go.Maps
theorem Yr{H:Type}{D:DataW H}{kl:Lit}{j c:Int}(h:∀z,D.atKey kl z=.lit (.int .i64 j))(hat:D.atKey kl (.lit (.int .i64 0))=.lit (.int .i64 c)):c=j:=by
 rw[h]at hat;injection hat with hat
 injection hat with _ hat
 exact hat.symm
theorem ags(a:Addr)(cap:Nat)(L:List En)(i B nn:Nat)(w:World)(hi:i<L.length)(hcap:L.length<=cap)(h:∀j (hj:j<L.length),EnAt w (a.add (j*4)) L[j])(hown:w.ownsMap prog 9 (plainElem (H:=Unit) prog 3) B nn (dB L L.length))(hL:L.length<=1048576)(hV:∀x∈L,x.nm.size<=1048576/\x.ve.size<=1048576/\x.dg.size<=1048576)(hN:∀x∈L,x.nd.length<=1048576)(hS:∀x∈L,∀y∈x.nd,y.size<=1048576) :
  Calls prog 13 #[.slice (some a) L.length cap,.int .i64 i,.map (some B)] w fun e w'=>e=.returned (.int .i64 (fZ L i))/\w.grownBy w' none:=by
 rw[Eb L i hi];have HOWN:Hd (∀w',w.grownBy w' none->w'.ownsMap prog 9 (plainElem (H:=Unit) prog 3) B nn (dB L L.length)):=fun w' hg=>hown.kept hg (by simp)
 obtain⟨j,hjL,O8,hjlt⟩:=adA L i hi;have agt:Hd (∀n,Maps.has (dB L L.length) (gW n)=az L n):=fun n=>by rw[Ee L n L.length (Nat.le_refl _),List.take_length]
 obtain⟨x,hx⟩:=zN (L[i]);have hmem:x∈L:=by rw[<-hx];exact List.getElem_mem _
 obtain⟨e0,e1,e2,sv,e3,hsv⟩:EnAt w (a.add (i*4)) x:=by rw[<-hx];exact h i hi
 rw[hx]at O8 hjlt ⊢;have HJ:Hd ((∀z,(dB L L.length).atKey (gW x.nm) z=.lit (.int .i64 (j:Int)))/\(j<i↔az (L.take i) x.nm=true)):=⟨O8,hjlt⟩;have H1:Hd (TxS w sv x.nd):=hsv;obtain⟨so,sc,rfl⟩:=kT hsv;have hnl:=hN x hmem;have hV1:=hV x hmem;have CI:Hd (∀w,TxS w (.slice so x.nd.length sc) x.nd->Calls prog 24 #[.agg #[.string x.nm,.string x.ve,.string x.dg,.slice so x.nd.length sc]] w fun e w'=>e=.returned (.bool (ed x))/\w.grownBy w' none):=fun w h=>adF x _ w h hnl ⟨by omega,by omega,by omega⟩ (fun y hy=>by have:=hS x hmem y hy;omega)
 have CT:Hd (∀w,TxS w (.slice so x.nd.length sc) x.nd->Calls prog 25 #[.slice so x.nd.length sc] w fun e w'=>e=.returned (.bool (dS x.nd x.nd.length))/\w.grownBy w' none):=fun w h=>adE _ x.nd w h hnl
 have hkey:keyOf prog 9 (.string x.nm)=some (gW x.nm):=Go.WideMaps.keyOf_string_mk underlying9 (by unfold maxLen;omega);have HKEY:Hd (∀y∈x.nd,keyOf prog 9 (.string y)=some (gW y)):=fun y hy=>Go.WideMaps.keyOf_string_mk underlying9 (by have:=hS x hmem y hy;unfold maxLen;omega)
 have hil:i<=1048576:=by omega
 have hiL:(i:Int)<(L.length:Int):=by omega
 clear h hV hN hS hmem hx hsv hown O8 hjlt hV1;obtain⟨R,hR⟩:=zN (nX L i x);rw[hR]
 by_cases hm:50<=i
 ·have HR:Hd (R=4):=hR.symm.trans (Ik (Or.inl hm));clear hR;go_enter func13,ntmps13;go_wp2;go_ret;exact⟨eX HR.o.symm,aP (ai w none) _⟩
 by_cases hn:20<x.nd.length
 ·have HR:Hd (R=4):=hR.symm.trans (Ik (Or.inr hn));clear hR;go_enter func13,ntmps13;go_wp2;go_ret;exact⟨eX HR.o.symm,aP (ai w none) _⟩
 have kS:¬(50<=i\/20<x.nd.length):=by omega
 have HT:Hd (ed x=false->R=2):=fun h=>hR.symm.trans (VH kS h)
 have HQ:Hd (ed x=true->R=if az (L.take i) x.nm=true\/dS x.nd x.nd.length=true then 5 else if x.nd.all (az L)=true then 0 else 6):=fun h=>hR.symm.trans (VI kS h)
 obtain⟨gd,hgd⟩:∃g,ed x=g:=⟨_,rfl⟩;rw[hgd]at HT HQ CI;obtain⟨tw,htw⟩:∃g,dS x.nd x.nd.length=g:=⟨_,rfl⟩;rw[htw]at HQ CT;obtain⟨xn,xv,xd,N⟩:=x;simp only[]at CI CT H1 HQ HJ HKEY hkey e0 e1 e2 e3 hn hnl;clear hR kS hgd htw;obtain⟨A,hA⟩:=zN (w.heap.size);go_enter func13,ntmps13;go_wp2_with (first|(go_at_call 24;refine(CI.o _ (H1.o.grow (aP (ai w none) _))).mono ?_));rintro e w1 ⟨rfl,hg1⟩;obtain⟨c0,c1,c2,c3⟩:=tH ((hg1.block w.heap.size (by simp) (by simp)).trans (heap_alloc_new w _));have HG:Hd (w.grownBy w1 none):=af (aP (ai w none) _) hg1
 try rw[hA]
 rw[hA]at c0 c1 c2 c3;have HC:Hd (w1.cell? ⟨A,3,none⟩=some (.slice so N.length sc)):=c3;clear hg1 e0 e1 e2 e3 hA c1 c2
 cases gd with
 | false =>
  go_wp2;go_ret;exact⟨eX (HT.o (by trivial)).symm,HG.o⟩
 | true =>
 have O9:Hd (R=if az (L.take i) xn=true\/tw=true then 5 else if N.all (az L)=true then 0 else 6):=HQ.o (by trivial);have ho1:=HOWN.o w1 HG.o
 by_cases hji:j<i
 ·have HR:Hd (R=5):=O9.o.trans (if_pos (Or.inl (HJ.o.2.1 hji)));have NM:(j:Int)<(i:Int):=by omega
  go_wp2_with (first|(at_lookup;refine wpList_lookup_own_int _ rfl _ _ 37 rfl 9 3 .i64 keyS underlying37 underlying3 (wV _) B nn _ rfl ho1 _ _ rfl hkey ?_;intro c hat hwc;obtain rfl:=Yr HJ.o.1 hat;clear hat hwc)|go_in);go_ret;exact⟨eX HR.o.symm,HG.o⟩
 ·have NM:¬(j:Int)<(i:Int):=by omega
  have HNT:Hd (¬az (L.take i) xn=true):=fun h=>hji (HJ.o.2.2 h)
  go_wp2_with (first|(at_lookup;refine wpList_lookup_own_int _ rfl _ _ 37 rfl 9 3 .i64 keyS underlying37 underlying3 (wV _) B nn _ rfl ho1 _ _ rfl hkey ?_;intro c hat hwc;obtain rfl:=Yr HJ.o.1 hat;clear hat hwc)|(go_at_call 25;refine(CT.o _ (H1.o.grow HG.o)).mono ?_)|go_in);rintro e w2 ⟨rfl,hg2⟩;have HG2:Hd (w.grownBy w2 none):=af HG.o hg2;have f3:=hg2.cell HC.o (by simp);clear hg2 c0 c3 ho1
  cases tw with
  | true =>
   have HR:Hd (R=5):=O9.o.trans (if_pos (Or.inr rfl));go_wp2;go_ret;exact⟨eX HR.o.symm,HG2.o⟩
  | false =>
   have HR:Hd (R=if N.all (az L)=true then 0 else 6):=O9.o.trans (if_neg (fun h=>h.elim HNT.o (by simp)));go_wp2;clear NM hji f3;go_loopw [41] (fun vk wr=>∃k:Nat,vk=.int .i64 k/\k<=N.length/\(N.take k).all (az L)=true/\w.grownBy wr none) (fun vk _=>N.length-(intOf vk).toNat)
   case atStart=>exact⟨0,rfl,Nat.zero_le _,rfl,HG2.o⟩
   case round =>
    obtain⟨k,rfl,hk,hall,hg⟩:=hrel;have oZ:Hd ((N.take k).all (az L)=true):=hall;have dW:Hd (w.grownBy wr none):=hg
    by_cases hlt:k<N.length
    ·obtain⟨b,rfl,hcv,hat⟩:=uK (H1.o.grow hg) hlt;have g0:=hat k hlt;obtain⟨y,hy⟩:=zN (N[k]);rw[hy]at g0;have Yt:=HKEY.o y (by rw[<-hy];exact List.getElem_mem _);have Pg:Hd (Maps.has (dB L L.length) (gW y)=az L y):=agt.o y;have KL:Hd ((N.take (k+1)).all (az L)=((N.take k).all (az L) && az L y)):=by
      show _=_;rw[Nw L N k hlt,hy]
     have uX:Hd (az L y=false->N.all (az L)=false):=fun h=>by
      rw[List.all_eq_false];exact⟨y,by rw[<-hy];exact List.getElem_mem _,by rw[h];simp⟩
     have ho2:=HOWN.o wr hg;obtain⟨q,hq⟩:=zN (Maps.has (dB L L.length) (gW y));rw[hq]at Pg;clear hall hg hat hy
     cases q with
     | false =>
      have fG:Hd (R=6):=HR.o.trans (if_neg (by rw[uX.o Pg.o.symm];simp));go_wp2_with (first|(at_lookup;refine wpList_lookup_own_ok_int _ rfl _ _ 37 rfl 9 3 .i64 keyS underlying37 underlying3 (wV _) B nn _ rfl ho2 _ _ rfl Yt ?_;intro c hat hwc;rw[hq])|go_in);go_ret;exact⟨eX fG.o.symm,dW.o⟩
     | true =>
      have HS2:Hd ((N.take (k+1)).all (az L)=true):=by
       show _=_;rw[KL.o,oZ.o,<-Pg.o];rfl
      go_wp2_with (first|(at_lookup;refine wpList_lookup_own_ok_int _ rfl _ _ 37 rfl 9 3 .i64 keyS underlying37 underlying3 (wV _) B nn _ rfl ho2 _ _ rfl Yt ?_;intro c hat hwc;rw[hq])|go_in);exact⟨⟨k+1,by go_num,by omega,HS2.o,dW.o⟩,by simp[intOf];omega⟩
    ·have hke:k=N.length:=by omega
     have HR0:Hd (R=0):=HR.o.trans (if_pos (by rw[hke,List.take_length]at hall;exact hall));clear hall hg hke hk;go_wp2;go_ret;exact⟨eX HR0.o.symm,dW.o⟩
open Go.RowKit Go.Maps
theorem Yu(v:Value)(L:List En)(w:World)(h:EnS w v L)(hL:L.length<=1048576)(hV:∀x∈L,x.nm.size<=1048576/\x.ve.size<=1048576/\x.dg.size<=1048576)(hN:∀x∈L,x.nd.length<=1048576)(hS:∀x∈L,∀y∈x.nd,y.size<=1048576) :
  Calls prog 4 #[v] w fun e w'=>e=.returned (.tuple #[.string (iU L),.int .i64 (bJ L L.length).1,.int .i64 ((bJ L L.length).2:Int)])/\w.grownBy w' none:=by
 have H1:Hd (EnS w v L):=h;have CF:Hd (∀(a:Addr) (cap i B:Nat) (w:World),i<L.length->L.length<=cap->(∀j (hj:j<L.length),EnAt w (a.add (j*4)) L[j])->w.ownsMap prog 9 (plainElem (H:=Unit) prog 3) B L.length (dB L L.length)->Calls prog 13 #[.slice (some a) L.length cap,.int .i64 i,.map (some B)] w fun e w'=>e=.returned (.int .i64 (fZ L i))/\w.grownBy w' none):=fun a cap i B w h1 h2 h3 h4=>ags a cap L i B L.length w h1 h2 h3 h4 hL hV hN hS
 have CFI:Hd (Calls prog 12 #[v] w fun e w'=>∃B,e=.returned (.map (some B))/\(L=[]\/w'.ownsMap prog 9 (plainElem (H:=Unit) prog 3) B L.length (dB L L.length))/\w.grownBy w' none):=by
  rcases h with⟨rfl,hl⟩|⟨a,cap,rfl,h2,h3⟩
  ·exact(adB w).mono fun e w' ⟨B,h1,h2⟩=>⟨B,h1,Or.inl hl,h2⟩
  ·exact(VC a cap L w hL h2 (fun x hx=>by have:=(hV x hx).1;unfold maxLen;omega) h3).mono fun e w' ⟨B,h1,h2,h3⟩=>⟨B,h1,Or.inr h2,h3⟩
 have CT:Hd (∀w',w.grownBy w' none->(bJ L L.length).1=0->Calls prog 14 #[v] w' fun e w''=>e=.returned (.string (ny L))/\w'.grownBy w'' none):=fun w' hg h0=>by
  obtain⟨s1,s2,s3⟩:=NR L h0;exact agp v L w' (h.grow hg) s1 (fun x hx=>⟨(hV x hx).1,(hV x hx).2.1,(hV x hx).2.2,s2 x hx,hS x hx⟩) s3
 obtain⟨o,c,rfl⟩:=wH h;have HH:Hd (∀i,i<L.length->¬fZ L i=0->bJ L (L.length-i)=(fZ L i,i)):=Vw L;have HM:Hd (∀i,i<L.length->fZ L i=0->bJ L (L.length-i)=bJ L (L.length-(i+1))):=Vx L;have lU:Hd ((bJ L L.length).1=0->iU L=ny L):=fun h0=>by
  show iU L=_;unfold iU;rw[if_pos h0]
 have qg:Hd (¬(bJ L L.length).1=0->iU L=⟨#[]⟩):=fun h0=>by
  show iU L=_;unfold iU;rw[if_neg h0]
 obtain⟨T,hT⟩:=zN (iU L);obtain⟨T',hT'⟩:∃T,ny L=T:=⟨_,rfl⟩;rw[hT,hT']at lU;rw[hT]at qg ⊢;rw[hT']at CT;obtain⟨R,hR⟩:=zN (bJ L L.length);have NT:Hd (bJ L (L.length-0)=R):=hR;rw[hR]at CT lU qg ⊢;clear h hV hN hS hR hT hT';go_enter func4,ntmps4;go_wp2_with (go_at_call 12;refine CFI.o.mono ?_);rintro e w1 ⟨B,rfl,hown,hg1⟩;have HOW:Hd (L=[]\/w1.ownsMap prog 9 (plainElem (H:=Unit) prog 3) B L.length (dB L L.length)):=hown;have aB:Hd (w.grownBy w1 none):=hg1;clear hown hg1;go_wp2;go_loopw [12] (fun vi wr=>∃i:Nat,vi=.int .i64 i/\i<=L.length/\bJ L (L.length-i)=R/\w1.grownBy wr none) (fun vi _=>L.length-(intOf vi).toNat)
 case atStart=>exact⟨0,rfl,Nat.zero_le _,NT.o,ai _ _⟩
 case round =>
  obtain⟨i,rfl,hi,hc,hg⟩:=hrel;have HG:Hd (w.grownBy wr none):=af aB.o hg;have kD:Hd (w1.grownBy wr none):=hg;have HC:Hd (bJ L (L.length-i)=R):=hc
  by_cases hlt:i<L.length
  ·have Ph:Hd (Calls prog 13 #[.slice o L.length c,.int .i64 i,.map (some B)] wr fun e w'=>e=.returned (.int .i64 (fZ L i))/\wr.grownBy w' none):=by
    rcases H1.o.grow HG.o with⟨h1,h2⟩|⟨a,cap,h1,h2,h3⟩
    ·rw[h2]at hlt;simp at hlt
    ·cases h1
     rcases HOW.o with h4|h4
     ·rw[h4]at hlt;simp at hlt
     ·exact CF.o a c i B wr hlt h2 h3 (h4.kept hg (by simp))
   have Ey:Hd (¬fZ L i=0->R=(fZ L i,i)):=fun h=>HC.o.symm.trans (HH.o i hlt h)
   have Ez:Hd (fZ L i=0->bJ L (L.length-(i+1))=R):=fun h=>(HM.o i hlt h).symm.trans HC.o
   obtain⟨F,hF⟩:=zN (fZ L i);rw[hF]at Ph Ey Ez;clear hF hc hg
   by_cases hz:F=0
   ·subst hz;go_wp2_with (go_at_call 13;refine Ph.o.mono ?_;rintro e w3 ⟨rfl,hg3⟩);exact⟨⟨i+1,by go_num,by omega,Ez.o (by trivial),af kD.o hg3⟩,by simp[intOf];omega⟩
   ·have hz1:(F != 0)=true:=by simp[hz]
    have HR:Hd (R=(F,i)):=Ey.o hz;have jK:Hd (T=⟨#[]⟩):=qg.o (by rw[HR.o];exact hz);clear hz;go_wp2_with (go_at_call 13;refine Ph.o.mono ?_;rintro e w3 ⟨rfl,hg3⟩);refine bodyPost_ret (results_tmp3 (t:=2) (u:=3) (v:=4) rfl _ _ _) rfl ⟨?_,af HG.o hg3⟩;rw[HR.o,jK.o];rfl
  ·have hil:i=L.length:=by omega
   have HR:Hd (R=(0,0)):=by
    show R=_;rw[<-hc,hil,Nat.sub_self];rfl
   have NY:Hd (T=T'):=lU.o (by rw[HR.o]);have CTT:Hd (Calls prog 14 #[.slice o L.length c] wr fun e w''=>e=.returned (.string T')/\wr.grownBy w'' none):=CT.o wr HG.o (by rw[HR.o]);clear hc hg hil hi;go_wp2_with (go_at_call 14;refine CTT.o.mono ?_;rintro e w3 ⟨rfl,hg3⟩);refine bodyPost_ret (results_tmp3 (t:=2) (u:=3) (v:=4) rfl _ _ _) rfl ⟨?_,af HG.o hg3⟩;rw[HR.o,NY.o];rfl
open Go.RowKit
theorem agu(n:Int)(w:World):Calls prog 7 #[.int .i64 n] w fun e w'=>e=.returned (.int .i64 n)/\w'=w:=by
 go_enter func7,ntmps7;go_wp2;go_ret;exact⟨rfl,rfl⟩
theorem agv(n:Int)(w:World):Calls prog 7 #[.int .i64 n] w fun e w'=>e=.returned (.int .i64 n)/\w.grownBy w' none:=by
 refine(agu n w).mono ?_;rintro e w' ⟨rfl,rfl⟩;exact⟨rfl,ai _ _⟩
open Go.RowKit
theorem Yv(w:World) :
  Calls prog 11 #[.slice none 0 0] w fun e w'=>e=.returned (.slice none 0 0)/\w.grownBy w' none:=by
 have CS:Hd (∀w,Calls prog 22 #[.slice none 0 0] w fun e w'=>∃o c,e=.returned (.slice o 0 c)/\w.grownBy w' none):=fun w=>(VZ (.slice none 0 0) [] w (Or.inl ⟨rfl,rfl⟩) (by simp)).mono (by
  rintro e w4 ⟨v4,S,rfl,hown4,wu,hr4,hb4⟩;have hS:S=[]:=List.Perm.eq_nil wu;subst hS;have Eu:TxS w4 v4 []:=yE rfl hown4;obtain⟨o,c,rfl⟩:=kT Eu;exact⟨o,c,rfl,pX hb4⟩)
 go_enter func11,ntmps11;go_wp2;go_loopw [3,4] (fun vm vi wr=>vm=.slice none 0 0/\vi=.int .i64 0/\w.grownBy wr none) (fun _ vi _=>0)
 case atStart=>exact⟨rfl,rfl,ai w none⟩
 case round =>
  obtain⟨rfl,rfl,hb⟩:=hrel;have HB:Hd (w.grownBy wr none):=hb;clear hb;go_wp2_with (go_at_call 22;refine(CS.o _).mono ?_);rintro e w4 ⟨o,c,rfl,hg⟩;have HB4:Hd (w.grownBy w4 none):=af HB.o hg;clear hg;go_wp2;go_loopw [5,6] (fun vm vi wr=>vm=.slice none 0 0/\vi=.int .i64 0/\w.grownBy wr none) (fun _ vi _=>0)
  case atStart=>exact⟨rfl,rfl,HB4.o⟩
  case round =>
   obtain⟨rfl,rfl,hb⟩:=hrel;have kz:Hd (w.grownBy wr none):=hb;clear hb;go_wp2;refine bodyPost_ret (results_tmp (t:=2) rfl _ _ _) rfl ⟨rfl,kz.o⟩
theorem agw(w:World) :
  Calls prog 6 #[.slice none 0 0] w fun e w'=>e=.returned (.tuple #[.string ⟨#[102,111,114,109,97,116,32,61,32,49,10]⟩,.int .i64 0,.int .i64 0])/\w.grownBy w' none:=by
 have CR:Hd (∀w,Calls prog 11 #[.slice none 0 0] w fun e w'=>e=.returned (.slice none 0 0)/\w.grownBy w' none):=Yv;go_enter func6,ntmps6;go_wp2;go_loopw [5] (fun vi wr=>vi=.int .i64 0/\w.grownBy wr none) (fun vi _=>0)
 case atStart=>exact⟨rfl,ai w none⟩
 case round =>
  obtain⟨rfl,hb⟩:=hrel;have HB:Hd (w.grownBy wr none):=hb;clear hb;go_wp2_with (go_at_call 11;refine(CR.o _).mono ?_);rintro e w4 ⟨rfl,hg⟩;have HB4:Hd (w.grownBy w4 none):=af HB.o hg;clear hg;go_wp2;go_loopw [7,9] (fun vm vi wr=>vm=.string ⟨#[102,111,114,109,97,116,32,61,32,49,10]⟩/\vi=.int .i64 0/\w.grownBy wr none) (fun _ vi _=>0)
  case atStart=>exact⟨rfl,rfl,HB4.o⟩
  case round =>
   obtain⟨rfl,rfl,hb⟩:=hrel;have kz:Hd (w.grownBy wr none):=hb;clear hb;go_wp2;refine bodyPost_ret (results_tmp3 (t:=2) (u:=3) (v:=4) rfl _ _ _) rfl ⟨rfl,kz.o⟩
theorem agx(v:Value)(L:List En)(w:World)(h:EnS w v L)(hL:L.length<=1048576)(hV:∀x∈L,x.nm.size<=1048576/\x.ve.size<=1048576/\x.dg.size<=1048576)(hN:∀x∈L,x.nd.length<=1048576)(hS:∀x∈L,∀y∈x.nd,y.size<=1048576) :
  Calls prog 6 #[v] w fun e w'=>e=.returned (.tuple #[.string (iU L),.int .i64 (bJ L L.length).1,.int .i64 ((bJ L L.length).2:Int)])/\w.grownBy w' none:=by
 rcases h with⟨rfl,rfl⟩|⟨a,cap,rfl,h2,h3⟩
 ·have e0:bJ [] ([]:List En).length=(0,0):=rfl;have e1:iU []=⟨#[102,111,114,109,97,116,32,61,32,49,10]⟩:=by
   unfold iU;rw[e0,if_pos rfl];have:jd []=[]:=List.Perm.eq_nil (tK []);unfold ny;rw[this];rfl
  rw[e0,e1];exact agw w
 ·exact ad5 a cap L w h2 h3 hL hV hN hS
open Go.RowKit Go.Joins
theorem Yw(ns:List Tn):∀(f t:Nat) (P out:List UInt8),dT (ns.map np) f t P out=dT ns f t P out
 | 0,t,P,out=>rfl
 | f+1,t,P,out=>by
  show List.foldl _ (out++dK (ns.map np) t) (dm (ns.map np) t P.length).reverse=List.foldl _ (out++dK ns t) (dm ns t P.length).reverse;rw[aes,aeu];congr 1;funext o v;rw[Yw]
theorem jH{T:List Tn}{q:Nat}{x:Tn}(h:T[q]?=some x):ag T q=x.kd/\aW T q=x.ky/\ax T q=x.ks:=by
 unfold ag aW ax;rw[h];exact⟨rfl,rfl,rfl⟩
theorem EO{T:List Tn}{q:Nat}{x:Tn}(h:T[q]?=some x)(f:Nat):vT T (f+1) q=if x.kd=1 then 91 :: cm true (x.ks.map (vT T f))++[93] else if x.kd=3 then qt x.tx else if x.kd=4 then Lib.itoa x.nu else if x.kd=5 then Lib.formatBool (decide (x.nu=1)) else[]:=by
 show(match T[q]? with|none=>[]|some x=>_)=_;rw[h]
theorem Yx{s:List UInt8}(h:s.all pb=true):qt s=sv s:=by
 unfold qt sv;rw[(yN s h).1];rfl
theorem agy{T:List Tn}{q:Nat}{x:Tn}(h:T[q]?=some x):∃f,T.length=f+1:=by
 have:=(List.getElem?_eq_some_iff.1 h).1;exact⟨T.length-1,by omega⟩
theorem Pj{T:List Tn}{q:Nat}{k s:List UInt8}(h:T[q]?=some (tS k s))(hs:s.all pb=true)(hk:kt k=k):gz T q=ln k (sv s):=by
 obtain⟨f,hf⟩:=agy h;have h1:ag T q=3:=(jH h).1;have h2:aW T q=k:=(jH h).2.1;have hv:vT T (f+1) q=qt s:=by rw[EO h];rfl
 unfold gz;rw[h1,h2,hf,hv,if_neg (by decide),hk,Yx hs];simp[ln]
theorem Yy:∀N:List (List UInt8),(∀y∈N,y.all pb=true)->cm false (N.map qt)=jt N/\cm true (N.map qt)=jn N
 | [],_=>⟨rfl,rfl⟩
 | y :: N,h=>by
  have ih:=(Yy N (fun z hz=>h z (by simp[hz]))).1;have e:=Yx (h y (by simp));constructor
  ·show(if false=true then[] else[44,32])++qt y++cm false (N.map qt)=_;rw[ih,e];simp[sv,jt]
  ·show(if true=true then[] else[44,32])++qt y++cm false (N.map qt)=_;rw[ih,e];simp[sv,jn]
theorem agz{T:List Tn}{q b:Nat}{k:List UInt8}{N:List (List UInt8)}(h:T[q]?=some ⟨1,k,[],0,List.range' b N.length,0⟩)(h2:2<=T.length)(hN:∀j (hj:j<N.length),T[b+j]?=some (tS [] N[j]))(hs:∀y∈N,y.all pb=true)(hk:kt k=k):gz T q=ln k (91 :: (jn N++[93])):=by
 obtain⟨f,hf⟩:∃f,T.length=f+1+1:=⟨T.length-2,by omega⟩;have h1:ag T q=1:=(jH h).1;have h3:aW T q=k:=(jH h).2.1;have hm:(List.range' b N.length).map (vT T (f+1))=N.map qt:=by
  apply List.ext_getElem (by simp);intro j a1 a2;simp only[List.length_map]at a2;simp only[List.getElem_map,List.getElem_range',Nat.one_mul];rw[EO (hN j a2)];rfl
 have hv:vT T (f+1+1) q=91 :: jn N++[93]:=by
  rw[EO h,<-(Yy N hs).2,<-hm];rfl
 unfold gz;rw[h1,h3,hf,hv,if_neg (by decide),hk];simp[ln]
theorem agA(S:List ByteArray):jn (S.map (·.data.toList))=gm S S.length:=by
 have key:∀(N:List (List UInt8)) (y:List UInt8),jt (N++[y])=jt N++(44 :: 32 :: 34 :: (y++[34])):=fun N=>by
  induction N with
  | nil=>intro y;rfl
  | cons z r ih=>intro y;simp[jt,ih]
 have key2:∀(N:List (List UInt8)) (y:List UInt8),jn (N++[y])=jn N++((if 0<N.length then[44,32] else[])++34 :: (y++[34])):=fun N y=>by
  cases N with
  | nil=>rfl
  | cons z r=>simp[jn,key]
 have h:∀k,k<=S.length->jn ((S.take k).map (·.data.toList))=gm S k:=fun k=>by
  induction k with
  | zero=>intro _;simp[jn,gm]
  | succ k ih =>
   intro hk;have:=ih (by omega);rw[Io S k (by omega),<-this,List.take_succ_eq_append_getElem (by omega),List.map_append,List.map_cons,List.map_nil,key2];simp only[List.length_map,List.length_take,Nat.min_eq_left (Nat.le_of_lt hk)]
 have:=h S.length (Nat.le_refl _)
 rwa [List.take_length]at this
theorem agB(x:En):jw x=ik x:=by
 unfold jw ik qo tV;rw[agA];simp[ln,sv,iC,lJ,lK,kW,kH]
theorem agC(M:List En):rO M=tN M:=by
 unfold rO tN;rw[funext agB];rfl
theorem agD{T P S:List Tn}{x:En}(hT:T=P++(iI P.length x++S))(hx:wY x)(f:Nat)(K out:List UInt8):dT T (f+1) P.length K out=out++qo x:=by
 obtain⟨b,hb⟩:=zN (P.length);have hg:∀j,T[b+j]?=(iI b x++S)[j]?:=fun j=>by
  rw[hT,<-hb,List.getElem?_append_right (by omega),show P.length+j-P.length=j by omega]
 have g0:T[b]?=some ⟨0,[],[],0,[b+1,b+1+1,b+1+2,b+1+(3+x.nd.length)],0⟩:=hg 0;have g1:T[b+1]?=some (tS lJ x.dg.data.toList):=hg 1;have g2:T[b+1+1]?=some (tS lK x.nm.data.toList):=hg 2;have g3:T[b+1+2]?=some ⟨1,kW,[],0,List.range' (b+1+3) x.nd.length,0⟩:=hg 3;have gj:∀j (hj:j<x.nd.length),T[b+1+3+j]?=some (tS [] x.nd[j].data.toList):=fun j hj=>by
  have:=hg (4+j);rw[show b+(4+j)=b+1+3+j by omega]at this;rw[this];unfold iI;rw[show 4+j=j+1+1+1+1 by omega];simp only[List.cons_append,List.getElem?_cons_succ,List.append_assoc];rw[List.getElem?_append_left (by simpa using hj)];simp[List.getElem?_eq_getElem hj]
 have g4:T[b+1+(3+x.nd.length)]?=some (tS kH x.ve.data.toList):=by
  have:=hg (4+x.nd.length);rw[show b+(4+x.nd.length)=b+1+(3+x.nd.length) by omega]at this;rw[this];unfold iI;rw[show 4+x.nd.length=x.nd.length+1+1+1+1 by omega];simp only[List.cons_append,List.getElem?_cons_succ,List.append_assoc];rw[List.getElem?_append_right (by simp)];simp
 have hks:=(jH g0).2.2;have k1:aW T (b+1)=lJ:=(jH g1).2.1;have k2:aW T (b+1+1)=lK:=(jH g2).2.1;have k3:aW T (b+1+2)=kW:=(jH g3).2.1;have k4:aW T (b+1+(3+x.nd.length))=kH:=(jH g4).2.1;have d1:ag T (b+1)=3:=(jH g1).1;have d2:ag T (b+1+1)=3:=(jH g2).1;have d3:ag T (b+1+2)=1:=(jH g3).1;have d4:ag T (b+1+(3+x.nd.length))=3:=(jH g4).1;have hsrt:[b+1,b+1+1,b+1+2,b+1+(3+x.nd.length)]=dQ T b:=by
  refine Ff T b ?_ _ (by rw[hks]) ?_
  ·unfold KD;rw[hks];simp only[List.pairwise_cons,List.mem_cons,List.not_mem_nil,or_false,forall_eq_or_imp,forall_eq,k1,k2,k3,k4,List.Pairwise.nil,and_true,false_imp_iff,implies_true];decide
  ·simp only[List.pairwise_cons,List.mem_cons,List.not_mem_nil,or_false,forall_eq_or_imp,forall_eq,k1,k2,k3,k4,List.Pairwise.nil,and_true,false_imp_iff,implies_true];decide
 have hrs:rs T b true=[]:=by
  unfold rs tb;rw[<-hsrt];simp only[List.filter_cons,List.filter_nil,d1,d2,d3,d4];rfl
 have h2:2<=T.length:=by
  have:=(List.getElem?_eq_some_iff.1 g1).1;omega
 rw[hb,LW,hrs];show out++dK T b=_;unfold dK;rw[<-hsrt];simp only[List.flatMap_cons,List.flatMap_nil,List.append_nil];rw[Pj g1 hx.1 (by decide),Pj g2 hx.2.1 (by decide),Pj g4 hx.2.2.1 (by decide)];have:=agz (N:=tV x) (k:=kW) (b:=b+1+3) (by rw[g3];simp[tV]) h2 (fun j hj=>by simp only[tV,List.length_map]at hj;rw[gj j hj];simp[tV]) (fun y hy=>by
  obtain⟨z,hz,rfl⟩:=List.mem_map.1 hy;exact hx.2.2.2 z hz) (by decide)
 rw[this];rfl
theorem Yz{T:List Tn}{f:Nat}:∀(M:List En) (P:List Tn) (o:List UInt8),T=P++dP P.length M->(∀x∈M,wY x)->o≠[]->(dU P.length M).foldl (gT T (f+1) iC true) o=o++M.flatMap jw
 | [],P,o,_,_,_=>by simp[dU]
 | x :: M,P,o,hT,hM,ho=>by
  have hT1:T=P++(iI P.length x++dP (P.length+5+x.nd.length) M):=hT;have hT2:T=(P++iI P.length x)++dP (P++iI P.length x).length M:=by
   rw[hT1,List.length_append,wX,List.append_assoc,Nat.add_assoc]
  show(dU (P.length+5+x.nd.length) M).foldl (gT T (f+1) iC true) (gT T (f+1) iC true o P.length)=_;have hg:gT T (f+1) iC true o P.length=o++jw x:=by
   unfold gT;rw[agD hT1 (hM x (by simp))];unfold iR jw;rw[if_neg ho];simp
  have:=Yz (f:=f) M (P++iI P.length x) (o++jw x) hT2 (fun y hy=>hM y (by simp[hy])) (by simp[ho]);rw[List.length_append,wX,<-Nat.add_assoc]at this;rw[hg,this];simp
theorem agE{M:List En}{l:List UInt8}{ns:List Tn}(hM:∀x∈M,wY x)(h:jf l=.ok ns)(hn:ns.map np=lL M):oQ ns=rO M:=by
 obtain⟨own,E,-⟩:=acy l ns h;rw[<-acG E,<-Yw,hn];have hlen:ns.length=(lL M).length:=by rw[<-hn,List.length_map]
 rw[hlen];obtain⟨T,hT⟩:=zN (lL M);rw[hT]
 by_cases h0:M=[]
 ·subst h0;have hT':T=[fJ [1],lZ]:=by rw[<-hT];rfl
  have g0:T[0]?=some (fJ [1]):=by rw[hT'];rfl
  have g1:T[1]?=some lZ:=by rw[hT'];rfl
  have hks:ax T 0=[1]:=(jH g0).2.2;have k1:aW T 1=jv:=(jH g1).2.1;have d1:ag T 1=4:=(jH g1).1;have hsrt:[1]=dQ T 0:=Ff T 0 (by unfold KD;rw[hks];simp) _ (by rw[hks]) (by simp);have hrs:rs T 0 true=[]:=by
   unfold rs tb;rw[<-hsrt];simp only[List.filter_cons,List.filter_nil,d1];rfl
  have hf:T.length=0+1+1:=by rw[hT'];rfl
  have hv:vT T (0+1+1) 1=[49]:=by rw[EO g1,<-Iw];rfl
  rw[hf,LW,hrs];show[]++dK T 0=_;unfold dK;rw[<-hsrt];simp only[List.flatMap_cons,List.flatMap_nil,List.append_nil];unfold gz;rw[d1,k1,hf,hv,if_neg (by decide)];decide
 ·have hT':T=[fJ [1,2],lZ,pz (dU 3 M)]++dP 3 M:=by rw[<-hT,lL,if_neg h0];rfl
  have g0:T[0]?=some (fJ [1,2]):=by rw[hT'];rfl
  have g1:T[1]?=some lZ:=by rw[hT'];rfl
  have g2:T[2]?=some (pz (dU 3 M)):=by rw[hT'];rfl
  have hks:=(jH g0).2.2;have k1:aW T 1=jv:=(jH g1).2.1;have k2:aW T 2=iC:=(jH g2).2.1;have d1:ag T 1=4:=(jH g1).1;have d2:ag T 2=2:=(jH g2).1;have hsrt:[1,2]=dQ T 0:=by
   refine Ff T 0 ?_ _ (by rw[hks];exact List.Perm.refl _) ?_
   ·unfold KD;rw[hks];simp only[fJ,List.pairwise_cons,List.mem_cons,List.not_mem_nil,or_false,forall_eq,k1,k2,List.Pairwise.nil,and_true,false_imp_iff,implies_true];decide
   ·simp only[List.pairwise_cons,List.mem_cons,List.not_mem_nil,or_false,forall_eq,k1,k2,List.Pairwise.nil,and_true,false_imp_iff,implies_true];decide
  have hrs:rs T 0 true=[2]:=by
   unfold rs tb;rw[<-hsrt];simp only[List.filter_cons,List.filter_nil,d1,d2];rfl
  obtain⟨f,hf⟩:∃f,T.length=f+1+1:=⟨T.length-2,by
   have:=(List.getElem?_eq_some_iff.1 g1).1;omega⟩
  rw[hf,LW,hrs];show gK T (f+1) [] ([]++dK T 0) 2=_;have hpr:dK T 0=ln jv [49]:=by
   unfold dK;rw[<-hsrt];simp only[List.flatMap_cons,List.flatMap_nil,List.append_nil];unfold gz;have hv:vT T (f+1+1) 1=[49]:=by rw[EO g1,<-Iw];rfl
   rw[d1,d2,k1,hf,hv,if_neg (by decide),if_pos (Or.inr rfl)];decide
  rw[hpr];unfold gK LU LV;rw[d2,k2,if_pos rfl,(jH g2).2.2];have:=Yz (T:=T) (f:=f) M [fJ [1,2],lZ,pz (dU 3 M)] (ln jv [49]) hT' hM (by decide);exact this
end Go.Proofs.YtmkjelchiacogaaGreatDoor
