import Derived.Test.YtbbmbnpebiakbaaGreatDoorB16
import Derived.Shelf.Strings.BuilderK
import Derived.Test.YtbbmbnpebiakbaaGreatDoorB11
import Derived.Test.YtbbmbnpebiakbaaGreatDoorB01
namespace Go.Proofs.YtbbmbnpebiakbaaGreatDoor
open Go.RowKit Go.Shelf Go.Sort
set_option linter.unusedVariables false
theorem perm_lift {α β:Type} (f:α->β) {A B:List β} (h:A.Perm B):∀Z:List α,Z.map f=B->∃Z':List α,Z'.map f=A/\Z'.Perm Z:=by
 induction h with
 | nil=>intro Z hZ;exact ⟨Z,hZ,List.Perm.refl _⟩
 | cons x _ ih =>
  intro Z hZ
  match Z,hZ with
  | z :: Z,hZ =>
   rw [List.map_cons] at hZ
   injection hZ with h1 h2
   obtain ⟨Z',h3,h4⟩:=ih Z h2
   exact ⟨z :: Z',by rw [List.map_cons,h1,h3],h4.cons z⟩
 | swap x y l =>
  intro Z hZ
  match Z,hZ with
  | z1 :: z2 :: Z,hZ =>
   rw [List.map_cons,List.map_cons] at hZ
   injection hZ with h1 h2
   injection h2 with h2 h3
   exact ⟨z2 :: z1 :: Z,by rw [List.map_cons,List.map_cons,h1,h2,h3],List.Perm.swap _ _ _⟩
 | trans _ _ ih1 ih2 =>
  intro Z hZ
  obtain ⟨Z2,h3,h4⟩:=ih2 Z hZ
  obtain ⟨Z1,h5,h6⟩:=ih1 Z2 h3
  exact ⟨Z1,h5,h6.trans h4⟩
theorem ec_match {w:World} {E E':List Ec} {L:List En} (hl:E.length=L.length) (hi:∀i (h1:i < E.length) (h2:i < L.length),EcIs w E[i] L[i]) (hp:E'.Perm E):∃M:List En,M.Perm L/\M.length=E'.length/\∀i (h1:i < E'.length) (h2:i < M.length),EcIs w E'[i] M[i]:=by
 obtain ⟨Z,hZ1,hZ2⟩:=perm_lift Prod.fst hp (E.zip L) (List.map_fst_zip (by omega))
 have hz:∀z ∈ Z,EcIs w z.1 z.2:=fun z hz=>by
  obtain ⟨i,hi2,rfl⟩:=List.getElem_of_mem (hZ2.subset hz)
  rw [List.getElem_zip]
  rw [List.length_zip] at hi2
  exact hi i (by omega) (by omega)
 refine ⟨Z.map Prod.snd,?_,by rw [<-hZ1];simp,fun i h1 h2=>?_⟩
 ·have:=hZ2.map Prod.snd
  rw [List.map_snd_zip (by omega)] at this
  exact this
 ·have hiZ:i < Z.length:=by simpa using h2
  have e1:E'[i]=Z[i].1:=by simp only [<-hZ1,List.getElem_map]
  rw [e1,List.getElem_map]
  exact hz _ (List.getElem_mem _)
theorem ecs_own {w:World} {base:Nat} {o:Option Addr} {c:Nat} {E:List Ec} (h:w.ownsRow base 43 4 (.slice o E.length c) E.length (E.flatMap ecC)):EcS w (.slice o E.length c) E:=by
 rcases h.2 with ⟨h1,h2⟩ | ⟨g,cap,cur,hv,hb,hc,h3,h4,h5,h6⟩
 ·exact Or.inl ⟨h1,List.length_eq_zero_iff.1 h2⟩
 ·refine Or.inr ⟨⟨g,0,none⟩,cap,hv,h3,fun i hi=>?_⟩
  have h':=h
  rw [hv] at h'
  have key:∀k u,0 < k->(ecC E[i])[k]?=some u->w.cell? ⟨((⟨g,0,none⟩:Addr).add (i * 4)).block,((⟨g,0,none⟩:Addr).add (i * 4)).off+k,none⟩=some u:=fun k u hk hu=>by
   have:=h'.cells (g:=g) rfl (i * 4+k) u (ec_get E i hi k u hu)
   rw [hadd_off _ _ k hk] at this
   exact this
  have k0:=h'.cells (g:=g) rfl (i * 4+0) _ (ec_get E i hi 0 _ rfl)
  exact ⟨by simpa using k0,key 1 _ (by omega) rfl,key 2 _ (by omega) rfl,key 3 _ (by omega) rfl⟩
def Bld (B:Nat) (l:List UInt8) (w:World):Prop:=Lib.IsBuilderF 55 5 B B (Lib.byteCells l) w
theorem Bld.alloc {B:Nat} {l:List UInt8} {w:World} (h:Bld B l w) (o:Obj):Bld B l (w.alloc o):=Lib.IsBuilderF.alloc h o
theorem Bld.grow {B:Nat} {l:List UInt8} {w w':World} (h:Bld B l w) (hg:w.grownBy w' none):Bld B l w':=by
 have key:∀p,Lib.BuilderAtF 55 5 B B p (Lib.byteCells l) w->Lib.BuilderAtF 55 5 B B p (Lib.byteCells l) w':=fun p h=>by
  obtain ⟨h1,v,h2,h3,h4⟩:=h
  exact ⟨h1,v,(hg.block B (Array.getElem?_eq_some_iff.1 h2).1 (by simp)).trans h2,h3.kept hg (by cases v.ownBlock <;> simp),h4⟩
 exact h.imp (key _) (key _)
theorem bld_new (w:World):Bld w.heap.size [] (w.alloc (.cells #[.pointer none,.slice none 0 0] 55)):=Lib.IsBuilderF.of (Lib.fresh_isBuilder _ _ w)
def WrPost (B:Nat) (l:List UInt8) (w:World) (e:Ending) (w':World):Prop:=(∃k:Int,e=.returned (.tuple #[.int .i64 k,.nilIface]))/\Bld B l w'/\Below B w w'/\∀K nm ve dg o n c,w.heap[K]?=some (.cells #[.string nm,.string ve,.string dg,.slice o n c] 43 (0,0))->¬ K=B->w'.heap[K]?=some (.cells #[.string nm,.string ve,.string dg,.slice o n c] 43 (0,0))
theorem cWrite (B:Nat) (l:List UInt8) (s:ByteArray) (w:World) (h:Bld B l w) (hlen:l.length+s.size<=140737488355328) (hB:B<=w.heap.size) :
  Calls Tryz.prog 26 #[.pointer (some ⟨B,0,none⟩),.string s] w (WrPost B (l++s.data.toList) w):=by
 refine (Any.Builder_WriteString_k Tryz.lays166 Tryz.Builder_Extra_166 B B (Lib.byteCells l) s w h (by rw [Lib.byteCells_length];exact hlen) hB).mono ?_
 rintro e w' ⟨rfl,h1,h2,h3⟩
 refine ⟨⟨_,rfl⟩,Or.inr ?_,h2,fun K nm ve dg o n c hK hne=>h3 K _ hK (by simpa using hne) (fun c fz e=>by
  injection e with _ e2 _
  have e3:Tryz.lays166_ren.t 5=5:=rfl
  rw [e3] at e2
  cases e2)⟩
 have e1:Lib.byteCells l++Lib.strCells s=Lib.byteCells (l++s.data.toList):=by simp [Lib.byteCells,Lib.strCells]
 rw [e1] at h1
 exact h1
theorem cBuilt (B:Nat) (l:List UInt8) (w:World) (h:Bld B l w) (hB:B<=w.heap.size) :
  Calls Tryz.prog 28 #[.pointer (some ⟨B,0,none⟩)] w fun e w'=>e=.returned (.string ⟨l.toArray⟩)/\Below B w w':=(Any.Builder_String_any_k Tryz.lays169 Tryz.Builder_Extra_169 B B l w h hB).mono fun e w' ⟨h1,_,h2,_⟩=>⟨h1,h2⟩
theorem ent_text (y:En) (T:ByteArray) (hT:T.data.toList=91 :: (ndK (sortT y.nd) (sortT y.nd).length++[93])):[10,91,91,112,97,99,107,97,103,101,93,93,10]++(([100,105,103,101,115,116,32,61,32]++((qd y.dg).data.toList++[10]))++(([110,97,109,101,32,61,32]++((qd y.nm).data.toList++[10]))++(([110,101,101,100,115,32,61,32]++(T.data.toList++[10]))++([118,101,114,115,105,111,110,32,61,32]++((qd y.ve).data.toList++[10])))))=entB (riseE y):=by
 rw [hT,qd_list,qd_list,qd_list]
 unfold entB riseE
 simp
def Rnd (B K:Nat) (nm ve dg:ByteArray) (o:Option Addr) (n c:Nat) (W2:World) (l:List UInt8) (w:World):Prop:=Bld B l w/\B<=w.heap.size/\Below B W2 w/\K < w.heap.size/\w.heap[K]?=some (.cells #[.string nm,.string ve,.string dg,.slice o n c] 43 (0,0))
theorem Rnd.wr {B K:Nat} {nm ve dg:ByteArray} {o:Option Addr} {n c:Nat} {W2:World} {l l':List UInt8} {w w':World} {e:Ending} (h:Rnd B K nm ve dg o n c W2 l w) (hK:¬ K=B) (hw:WrPost B l' w e w'):Rnd B K nm ve dg o n c W2 l' w' :=
 ⟨hw.2.1,Nat.le_trans h.2.1 hw.2.2.1.size,h.2.2.1.trans hw.2.2.1,Nat.lt_of_lt_of_le h.2.2.2.1 hw.2.2.1.size,hw.2.2.2 K nm ve dg o n c h.2.2.2.2 hK⟩
theorem Rnd.grow {B K:Nat} {nm ve dg:ByteArray} {o:Option Addr} {n c:Nat} {W2:World} {l:List UInt8} {w w':World} (h:Rnd B K nm ve dg o n c W2 l w) (hg:w.grownBy w' none):Rnd B K nm ve dg o n c W2 l w' :=
 ⟨h.1.grow hg,Nat.le_trans h.2.1 hg.size,h.2.2.1.trans ⟨hg.os,hg.tape,hg.output,hg.size,fun k hk=>hg.block k (Nat.lt_of_lt_of_le hk h.2.1) (by simp)⟩,Nat.lt_of_lt_of_le h.2.2.2.1 hg.size,(hg.block K h.2.2.2.1 (by simp)).trans h.2.2.2.2⟩
set_option maxRecDepth 100000 in
set_option maxHeartbeats 6400000 in
theorem textOf_any (v:Value) (L:List En) (w:World) (h:EnS w v L) (hl:L.length<=50) (hsh:∀x ∈ L,Short x) (hnd:(L.map (·.nm)).Nodup) :
  Calls Tryz.prog 19 #[v] w fun e w'=>e=.returned (.string (lockT L))/\w.grownBy w' none:=by
 obtain ⟨E,hE,hEl,hEi⟩:=ens_ecs h
 obtain ⟨o,c,rfl⟩:=ens_slice h
 obtain ⟨n,hn⟩:∃n,L.length=n:=⟨_,rfl⟩
 have hb0:=heap_alloc_new w (.cells #[.slice o n c] 23)
 have CSf:Hid (Calls Tryz.prog 34 #[.func (.func 57) #[] #[.pointer (some ⟨w.heap.size,0,none⟩)],.func (.func 36) #[] #[]] (w.alloc (.cells #[.slice o n c] 23)) fun e w'=>∃(E':List Ec) (o2:Option Addr) (c2:Nat),e=.returned (.slice o2 n c2)/\E'.length=n/\EcS w' (.slice o2 n c2) E'/\(∀i (h1:i < E'.length) (h2:i < (sortE L).length),EcIs w' E'[i] (sortE L)[i])/\w.grownBy w' none):=by
  have hEn:E.length=n:=hEl.trans hn
  have key:=sfuncE w.heap.size o c E (by omega) (w.alloc (.cells #[.slice o n c] 23)) (by rw [hEn];exact hb0) (by rw [hEl];exact hE.grow (gb_alloc (gb_refl w none) _))
  refine key.mono fun e w' ⟨E',o2,c2,h1,hp,hr,hown,hg⟩=>?_
  have hE'n:E'.length=n:=hp.length_eq.trans hEn
  have hgw:w.grownBy w' none:=gb_trans (gb_alloc (gb_refl w none) _) hg
  obtain ⟨M,hM1,hM2,hM3⟩:=ec_match hEl hEi hp
  have hMr:RiseE M:=by
   unfold RiseE
   rw [List.pairwise_iff_getElem]
   intro i j hi hj hij
   have:=List.pairwise_iff_getElem.1 hr i j (by omega) (by omega) hij
   rw [(hM3 i (by omega) hi).1,(hM3 j (by omega) hj).1] at this
   exact this
  have hMs:=sortE_one hnd hM1 hMr
  subst hMs
  refine ⟨E',o2,c2,by rw [<-hE'n];exact h1,hE'n,by rw [<-hE'n];exact ecs_own hown,fun i h1 h2=>(hM3 i h1 h2).grow hgw,hgw⟩
 have hML:(sortE L).length=n:=(sortE_perm L).length_eq.trans hn
 have hMS:∀y ∈ sortE L,Short y:=fun y hy=>hsh y ((sortE_perm L).subset hy)
 have hLT:lockT L=⟨(lockB ((sortE L).map riseE)).toArray⟩:=rfl
 rw [hLT]
 obtain ⟨M,hM⟩:∃M,sortE L=M:=⟨_,rfl⟩
 rw [hM] at CSf hML hMS ⊢
 have HMS:Hid (∀y ∈ M,Short y):=hMS
 have HML:Hid (M.length=n):=hML
 rw [hn]
 rw [hn] at hl
 have CI:Hid (∀wx,Calls Tryz.prog 38 #[.int .i64 1] wx fun e w'=>e=.returned (.string ⟨(Lib.decDigits 1).toArray⟩)/\w'=wx):=fun wx=>Any.strconv_Itoa_small Tryz.lays171 1 (by decide) wx
 have hdd:(⟨(Lib.decDigits 1).toArray⟩:ByteArray)=⟨#[49]⟩:=by
  rw [Lib.decDigits];rfl
 rw [hdd] at CI
 have CQ:Hid (∀s wx,s.size<=1048576->Calls Tryz.prog 39 #[.string s] wx fun e w'=>e=.returned (.string (qd s))/\w'=wx):=fun s wx hs=>quoted_any s wx hs
 have CL:Hid (∀v N wx,TxS wx v N->N.length<=20->(∀y ∈ N,y.size<=1048576)->Calls Tryz.prog 40 #[v] wx fun e w'=>∃T:ByteArray,e=.returned (.string T)/\T.data.toList=91 :: (ndK (sortT N) (sortT N).length++[93])/\wx.grownBy w' none):=fun v N wx h1 h2 h3=>listOf_any v N wx h1 h2 h3
 have c1:∀wx,(Op.stringOp .add ⟨#[102,111,114,109,97,116,32,61,32]⟩ ⟨#[49]⟩).run Tryz.prog wx=.ok (.string (cat ⟨#[102,111,114,109,97,116,32,61,32]⟩ ⟨#[49]⟩)) wx:=fun wx=>add_cat _ _ wx (by decide)
 have l1:=cat_list ⟨#[102,111,114,109,97,116,32,61,32]⟩ ⟨#[49]⟩
 have z1:(cat ⟨#[102,111,114,109,97,116,32,61,32]⟩ ⟨#[49]⟩).size=10:=cat_size _ _
 generalize cat ⟨#[102,111,114,109,97,116,32,61,32]⟩ ⟨#[49]⟩=Z1 at c1 l1 z1
 have c2:∀wx,(Op.stringOp .add Z1 ⟨#[10]⟩).run Tryz.prog wx=.ok (.string (cat Z1 ⟨#[10]⟩)) wx:=fun wx=>add_cat _ _ wx (by rw [z1];decide)
 have l2:=cat_list Z1 ⟨#[10]⟩
 have z2:(cat Z1 ⟨#[10]⟩).size=Z1.size+1:=cat_size _ _
 generalize cat Z1 ⟨#[10]⟩=Z2 at c2 l2 z2
 have HZ2:Hid ([]++Z2.data.toList=[102,111,114,109,97,116,32,61,32,49,10]++((M.map riseE).take 0).flatMap entB):=by
  show _=_
  rw [l2,l1];rfl
 have hz2:Z2.size=11:=by omega
 clear h hE hEl hEi hb0 hsh hnd hM hML hMS hLT hdd l1 l2 z1 z2 hn
 go_enter Tryz.func19,Tryz.ntmps19
 go_wp2_with (first | (go_at_call 35;refine (valE_any _ _ _ _).mono ?_;rintro e w' ⟨rfl,rfl⟩) | (go_at_call 34;refine CSf.out.mono ?_))
 rintro e W2 ⟨E',o2,c2',rfl,hEn,hecs,hpt,hg2⟩
 have HEC:Hid (E'.length=n/\EcS W2 (.slice o2 n c2') E'/\∀i (h1:i < E'.length) (h2:i < M.length),EcIs W2 E'[i] M[i]):=⟨hEn,hecs,hpt⟩
 have HG2:Hid (w.grownBy W2 none):=hg2
 obtain ⟨B,hB⟩:∃B,W2.heap.size=B:=⟨_,rfl⟩
 have HB:Hid (W2.heap.size=B):=hB
 have hbn:=bld_new W2
 rw [hB] at hbn
 have CW:Hid (∀l s wx,Bld B l wx->l.length+s.size<=140737488355328->B<=wx.heap.size->Calls Tryz.prog 26 #[.pointer (some ⟨B,0,none⟩),.string s] wx (WrPost B (l++s.data.toList) wx)):=fun l s wx h1 h2 h3=>cWrite B l s wx h1 h2 h3
 have HBN:Hid (Bld B [] (W2.alloc (.cells #[.pointer none,.slice none 0 0] 55))/\B<=(W2.alloc (.cells #[.pointer none,.slice none 0 0] 55)).heap.size):=⟨hbn,by rw [World.size_alloc,hB];omega⟩
 clear hEn hecs hpt hg2 hbn
 have HCB:Hid (∀l wx,Bld B l wx->B<=wx.heap.size->Calls Tryz.prog 28 #[.pointer (some ⟨B,0,none⟩)] wx fun e w'=>e=.returned (.string ⟨l.toArray⟩)/\Below B wx w'):=fun l wx h1 h2=>cBuilt B l wx h1 h2
 go_wp2_with (first | (go_at_call 38;refine (CI.out _).mono ?_;rintro e w' ⟨rfl,rfl⟩) | (go_at_call 26;refine (CW.out [] Z2 _ HBN.out.1 (by rw [hz2];decide) HBN.out.2).mono ?_))
 rintro e W3 ⟨⟨k0,rfl⟩,hb3,hw3,-⟩
 have HI3:Hid (Bld B ([102,111,114,109,97,116,32,61,32,49,10]++((M.map riseE).take 0).flatMap entB) W3/\Below B W2 W3/\B < W3.heap.size):=by
  refine ⟨?_,((Below.refl B W2).alloc (by rw [hB];exact Nat.le_refl _) _).trans hw3,?_⟩
  ·rw [<-HZ2.out];exact hb3
  ·have:=hw3.size
   rw [World.size_alloc,hB] at this
   omega
 clear hb3 hw3 HBN hB c1 c2
 go_wp2
 go_loopw [16] (fun vi wr=>∃i:Nat,vi=.int .i64 i/\i<=n/\(Bld B ([102,111,114,109,97,116,32,61,32,49,10]++((M.map riseE).take i).flatMap entB) wr/\Below B W2 wr/\B < wr.heap.size)/\([102,111,114,109,97,116,32,61,32,49,10]++((M.map riseE).take i).flatMap entB).length<=11+i * 67108864) (fun vi _=>n - (intOf vi).toNat)
 case atStart=>exact ⟨0,rfl,Nat.zero_le _,HI3.out,by simp⟩
 case round =>
  obtain ⟨i,rfl,hi,⟨hbl,hbw,hbs⟩,hln⟩:=hrel
  have HGW:Hid (W2.grownBy wr none):=by
   refine ⟨hbw.os,hbw.tape,hbw.output,hbw.size,fun k hk _=>hbw.block k (by rw [<-HB.out];exact hk)⟩
  have HBW:Hid (Below B W2 wr):=hbw
  by_cases hlt:i < n
  ·obtain ⟨hEn,hecs,hpt⟩:=HEC.out
   have hix:i < E'.length:=by omega
   have hecs2:EcS wr (.slice o2 E'.length c2') E':=by rw [hEn];exact hecs.grow HGW.out
   obtain ⟨a,rfl,hcp,hat⟩:=ecs_at hecs2 hix
   have hiM:i < M.length:=by rw [HML.out];exact hlt
   obtain ⟨p1,p2,p3,p4⟩:=hpt i hix hiM
   obtain ⟨e0,e1,e2,e3⟩:=hat i hix
   obtain ⟨q1,q2,q3,q4,q5⟩:=HMS.out M[i] (List.getElem_mem _)
   have HNX:Hid (((M.map riseE).take (i+1)).flatMap entB=((M.map riseE).take i).flatMap entB++entB (riseE M[i])):=by
    show _=_
    rw [flat_snoc (M.map riseE) i (by rw [List.length_map];exact hiM),List.getElem_map]
   obtain ⟨y,hy⟩:∃y,M[i]=y:=⟨_,rfl⟩
   rw [hy] at p1 p2 p3 p4 q1 q2 q3 q4 q5 HNX
   obtain ⟨x,hx⟩:∃x,E'[i]=x:=⟨_,rfl⟩
   rw [hx] at p1 p2 p3 p4 e0 e1 e2 e3
   obtain ⟨xn,xv,xd,xo,xm,xc⟩:=x
   obtain ⟨yn,yv,yd,N⟩:=y
   simp only [] at p1 p2 p3 p4 q1 q2 q3 q4 q5 e0 e1 e2 e3
   subst p1 p2 p3
   have HTX2:Hid (TxS W2 (.slice xo xm xc) N):=p4
   have HQ5:Hid (∀y ∈ N,y.size<=1048576):=q5
   have hcp':n<=c2':=by omega
   obtain ⟨l0,hl0⟩:∃l,[102,111,114,109,97,116,32,61,32,49,10]++((M.map riseE).take i).flatMap entB=l:=⟨_,rfl⟩
   have HL0:Hid ([102,111,114,109,97,116,32,61,32,49,10]++((M.map riseE).take i).flatMap entB=l0):=hl0
   rw [hl0] at hbl hln
   obtain ⟨K,hK⟩:∃K,wr.heap.size=K:=⟨_,rfl⟩
   have HKB:Hid (¬ K=B):=by show ¬ _;omega
   have HKE:Hid (wr.heap.size=K):=hK
   have hBK:B < K:=by omega
   have hnew:=heap_alloc_new wr (.cells #[.string xn,.string xv,.string xd,.slice xo xm xc] 43)
   rw [hK] at hnew
   have HWA:Hid (Bld B l0 (wr.alloc (.cells #[.string xn,.string xv,.string xd,.slice xo xm xc] 43))/\B<=(wr.alloc (.cells #[.string xn,.string xv,.string xd,.slice xo xm xc] 43)).heap.size/\Below B W2 (wr.alloc (.cells #[.string xn,.string xv,.string xd,.slice xo xm xc] 43))/\K < (wr.alloc (.cells #[.string xn,.string xv,.string xd,.slice xo xm xc] 43)).heap.size/\(wr.alloc (.cells #[.string xn,.string xv,.string xd,.slice xo xm xc] 43)).heap[K]?=some (.cells #[.string xn,.string xv,.string xd,.slice xo xm xc] 43 (0,0))) :=
    ⟨hbl.alloc _,by rw [World.size_alloc];omega,hbw.alloc (by omega) _,by rw [World.size_alloc];omega,hnew⟩
   have HLN:Hid (l0.length<=11+i * 67108864):=hln
   clear hbl hbw hln hecs hecs2 hpt hat p4 q5 hy hx hl0 hnew hK hcp hEn hix hiM
   have c2a:∀wx,(Op.stringOp .add ⟨#[100,105,103,101,115,116,32,61,32]⟩ (qd xd)).run Tryz.prog wx=.ok (.string (cat ⟨#[100,105,103,101,115,116,32,61,32]⟩ (qd xd))) wx:=fun wx=>add_cat _ _ wx (by show 9+_<=_;have:=qd_size xd;omega)
   have l2a:=cat_list ⟨#[100,105,103,101,115,116,32,61,32]⟩ (qd xd)
   have z2a:(cat ⟨#[100,105,103,101,115,116,32,61,32]⟩ (qd xd)).size=9+((qd xd)).size:=cat_size _ _
   generalize cat ⟨#[100,105,103,101,115,116,32,61,32]⟩ (qd xd)=S2a at c2a l2a z2a
   have c2:∀wx,(Op.stringOp .add S2a ⟨#[10]⟩).run Tryz.prog wx=.ok (.string (cat S2a ⟨#[10]⟩)) wx:=fun wx=>add_cat _ _ wx (by show _+1<=_;have:=qd_size xd;omega)
   have l2:=cat_list S2a ⟨#[10]⟩
   have z2:(cat S2a ⟨#[10]⟩).size=S2a.size+1:=cat_size _ _
   generalize cat S2a ⟨#[10]⟩=S2 at c2 l2 z2
   have HS2:Hid (S2.data.toList=[100,105,103,101,115,116,32,61,32]++((qd xd).data.toList++[10])):=by
    show _=_
    rw [l2,l2a];simp
   have hs2:S2.size<=0+9+1+((qd xd)).size:=by omega
   clear l2a l2 z2a z2
   have c3a:∀wx,(Op.stringOp .add ⟨#[110,97,109,101,32,61,32]⟩ (qd xn)).run Tryz.prog wx=.ok (.string (cat ⟨#[110,97,109,101,32,61,32]⟩ (qd xn))) wx:=fun wx=>add_cat _ _ wx (by show 7+_<=_;have:=qd_size xn;omega)
   have l3a:=cat_list ⟨#[110,97,109,101,32,61,32]⟩ (qd xn)
   have z3a:(cat ⟨#[110,97,109,101,32,61,32]⟩ (qd xn)).size=7+((qd xn)).size:=cat_size _ _
   generalize cat ⟨#[110,97,109,101,32,61,32]⟩ (qd xn)=S3a at c3a l3a z3a
   have c3:∀wx,(Op.stringOp .add S3a ⟨#[10]⟩).run Tryz.prog wx=.ok (.string (cat S3a ⟨#[10]⟩)) wx:=fun wx=>add_cat _ _ wx (by show _+1<=_;have:=qd_size xn;omega)
   have l3:=cat_list S3a ⟨#[10]⟩
   have z3:(cat S3a ⟨#[10]⟩).size=S3a.size+1:=cat_size _ _
   generalize cat S3a ⟨#[10]⟩=S3 at c3 l3 z3
   have HS3:Hid (S3.data.toList=[110,97,109,101,32,61,32]++((qd xn).data.toList++[10])):=by
    show _=_
    rw [l3,l3a];simp
   have hs3:S3.size<=0+7+1+((qd xn)).size:=by omega
   clear l3a l3 z3a z3
   have c5a:∀wx,(Op.stringOp .add ⟨#[118,101,114,115,105,111,110,32,61,32]⟩ (qd xv)).run Tryz.prog wx=.ok (.string (cat ⟨#[118,101,114,115,105,111,110,32,61,32]⟩ (qd xv))) wx:=fun wx=>add_cat _ _ wx (by show 10+_<=_;have:=qd_size xv;omega)
   have l5a:=cat_list ⟨#[118,101,114,115,105,111,110,32,61,32]⟩ (qd xv)
   have z5a:(cat ⟨#[118,101,114,115,105,111,110,32,61,32]⟩ (qd xv)).size=10+((qd xv)).size:=cat_size _ _
   generalize cat ⟨#[118,101,114,115,105,111,110,32,61,32]⟩ (qd xv)=S5a at c5a l5a z5a
   have c5:∀wx,(Op.stringOp .add S5a ⟨#[10]⟩).run Tryz.prog wx=.ok (.string (cat S5a ⟨#[10]⟩)) wx:=fun wx=>add_cat _ _ wx (by show _+1<=_;have:=qd_size xv;omega)
   have l5:=cat_list S5a ⟨#[10]⟩
   have z5:(cat S5a ⟨#[10]⟩).size=S5a.size+1:=cat_size _ _
   generalize cat S5a ⟨#[10]⟩=S5 at c5 l5 z5
   have HS5:Hid (S5.data.toList=[118,101,114,115,105,111,110,32,61,32]++((qd xv).data.toList++[10])):=by
    show _=_
    rw [l5,l5a];simp
   have hs5:S5.size<=0+10+1+((qd xv)).size:=by omega
   clear l5a l5 z5a z5
   have hqd:=qd_size xd
   have hqn:=qd_size xn
   have hqv:=qd_size xv
   have hln:=HLN.out
   have CW1:Hid (∀wx,Bld B l0 wx->B<=wx.heap.size->Calls Tryz.prog 26 #[.pointer (some ⟨B,0,none⟩),.string ⟨#[10,91,91,112,97,99,107,97,103,101,93,93,10]⟩] wx (WrPost B (l0++[10,91,91,112,97,99,107,97,103,101,93,93,10]) wx)):=fun wx h1 h2=>CW.out l0 ⟨#[10,91,91,112,97,99,107,97,103,101,93,93,10]⟩ wx h1 (by show _+13<=_;omega) h2
   obtain ⟨WA,hWA⟩:∃WA,wr.alloc (.cells #[.string xn,.string xv,.string xd,.slice xo xm xc] 43)=WA:=⟨_,rfl⟩
   have HWE:Hid (wr.alloc (.cells #[.string xn,.string xv,.string xd,.slice xo xm xc] 43)=WA):=hWA
   rw [hWA] at HWA
   clear hWA hln
   go_wp2_with (first | (go_at_call 26;(try rw [HKE.out]);rw [HWE.out];refine (CW1.out WA HWA.out.1 HWA.out.2.1).mono ?_))
   rintro e w1 ⟨⟨k1,rfl⟩,hh⟩
   have HR1:Hid (Rnd B K xn xv xd xo xm xc W2 (l0++[10,91,91,112,97,99,107,97,103,101,93,93,10]) w1):=Rnd.wr (show Rnd B K xn xv xd xo xm xc W2 l0 WA from HWA.out) HKB.out (e:=.returned (.tuple #[.int .i64 k1,.nilIface])) ⟨⟨_,rfl⟩,hh⟩
   obtain ⟨l1,hl1⟩:∃l,l0++[10,91,91,112,97,99,107,97,103,101,93,93,10]=l:=⟨_,rfl⟩
   have HL1:Hid (l0++[10,91,91,112,97,99,107,97,103,101,93,93,10]=l1):=hl1
   have n1:l1.length=l0.length+13:=by rw [<-hl1];simp
   rw [hl1] at HR1
   clear hh hl1 CW1
   have f2:=(en_block HR1.out.2.2.2.2).2.2.1
   go_wp2_with (first | (go_at_call 39;refine (CQ.out xd _ q3).mono ?_;rintro e w' ⟨rfl,rfl⟩) | (go_at_call 26;refine (CW.out l1 S2 _ HR1.out.1 (by have:=HLN.out;omega) HR1.out.2.1).mono ?_))
   rintro e w2 ⟨⟨k2,rfl⟩,hh⟩
   have HR2:Hid (Rnd B K xn xv xd xo xm xc W2 (l1++S2.data.toList) w2):=Rnd.wr HR1.out HKB.out (e:=.returned (.tuple #[.int .i64 k2,.nilIface])) ⟨⟨_,rfl⟩,hh⟩
   obtain ⟨l2,hl2⟩:∃l,l1++S2.data.toList=l:=⟨_,rfl⟩
   have HL2:Hid (l1++S2.data.toList=l2):=hl2
   have n2:l2.length=l1.length+S2.size:=by rw [<-hl2];simp
   rw [hl2] at HR2
   clear hh hl2
   have f0:=(en_block HR2.out.2.2.2.2).1
   go_wp2_with (first | (go_at_call 39;refine (CQ.out xn _ q1).mono ?_;rintro e w' ⟨rfl,rfl⟩) | (go_at_call 26;refine (CW.out l2 S3 _ HR2.out.1 (by have:=HLN.out;omega) HR2.out.2.1).mono ?_))
   rintro e w3 ⟨⟨k3,rfl⟩,hh⟩
   have HR3:Hid (Rnd B K xn xv xd xo xm xc W2 (l2++S3.data.toList) w3):=Rnd.wr HR2.out HKB.out (e:=.returned (.tuple #[.int .i64 k3,.nilIface])) ⟨⟨_,rfl⟩,hh⟩
   obtain ⟨l3,hl3⟩:∃l,l2++S3.data.toList=l:=⟨_,rfl⟩
   have HL3:Hid (l2++S3.data.toList=l3):=hl3
   have n3:l3.length=l2.length+S3.size:=by rw [<-hl3];simp
   rw [hl3] at HR3
   clear hh hl3
   have f3:=(en_block HR3.out.2.2.2.2).2.2.2
   have HTX3:Hid (TxS w3 (.slice xo xm xc) N):=by
    have hb:=HR3.out.2.2.1
    exact HTX2.out.grow ⟨hb.os,hb.tape,hb.output,hb.size,fun k hk _=>hb.block k (by rw [<-HB.out];exact hk)⟩
   go_wp2_with (first | (go_at_call 40;refine (CL.out _ N _ HTX3.out q4 HQ5.out).mono ?_))
   rintro e w4 ⟨T,rfl,hT,hg4⟩
   have HR3':Hid (Rnd B K xn xv xd xo xm xc W2 l3 w4):=HR3.out.grow hg4
   have HT:Hid (T.data.toList=91 :: (ndK (sortT N) (sortT N).length++[93])):=hT
   have hTs:T.size<=20 * 1048580+2:=by
    have h1:=ndk_len (sortT N) (fun y hy=>HQ5.out y ((sortT_perm N).subset hy)) _ (Nat.le_refl _)
    rw [(sortT_perm N).length_eq] at h1
    have h2:=congrArg List.length hT
    rw [(sortT_perm N).length_eq] at h2
    simp only [List.length_cons,List.length_append,List.length_nil] at h2
    have h3:T.data.toList.length=T.size:=by simp
    have h4:N.length * 1048580<=20 * 1048580:=Nat.mul_le_mul_right _ q4
    omega
   clear hT hg4
   have c4a:∀wx,(Op.stringOp .add ⟨#[110,101,101,100,115,32,61,32]⟩ T).run Tryz.prog wx=.ok (.string (cat ⟨#[110,101,101,100,115,32,61,32]⟩ T)) wx:=fun wx=>add_cat _ _ wx (by show 8+_<=_;omega)
   have l4a:=cat_list ⟨#[110,101,101,100,115,32,61,32]⟩ T
   have z4a:(cat ⟨#[110,101,101,100,115,32,61,32]⟩ T).size=8+T.size:=cat_size _ _
   generalize cat ⟨#[110,101,101,100,115,32,61,32]⟩ T=S4a at c4a l4a z4a
   have c4:∀wx,(Op.stringOp .add S4a ⟨#[10]⟩).run Tryz.prog wx=.ok (.string (cat S4a ⟨#[10]⟩)) wx:=fun wx=>add_cat _ _ wx (by show _+1<=_;omega)
   have l4':=cat_list S4a ⟨#[10]⟩
   have z4:(cat S4a ⟨#[10]⟩).size=S4a.size+1:=cat_size _ _
   generalize cat S4a ⟨#[10]⟩=S4 at c4 l4' z4
   have HS4:Hid (S4.data.toList=[110,101,101,100,115,32,61,32]++(T.data.toList++[10])):=by
    show _=_
    rw [l4',l4a];simp
   have hs4:S4.size<=9+T.size:=by omega
   clear l4a l4' z4a z4
   go_wp2_with (first | (go_at_call 26;refine (CW.out l3 S4 _ HR3'.out.1 (by have:=HLN.out;omega) HR3'.out.2.1).mono ?_))
   rintro e w5 ⟨⟨k4,rfl⟩,hh⟩
   have HR4:Hid (Rnd B K xn xv xd xo xm xc W2 (l3++S4.data.toList) w5):=Rnd.wr HR3'.out HKB.out (e:=.returned (.tuple #[.int .i64 k4,.nilIface])) ⟨⟨_,rfl⟩,hh⟩
   obtain ⟨l4,hl4⟩:∃l,l3++S4.data.toList=l:=⟨_,rfl⟩
   have HL4:Hid (l3++S4.data.toList=l4):=hl4
   have n4:l4.length=l3.length+S4.size:=by rw [<-hl4];simp
   rw [hl4] at HR4
   clear hh hl4
   have f1:=(en_block HR4.out.2.2.2.2).2.1
   go_wp2_with (first | (go_at_call 39;refine (CQ.out xv _ q2).mono ?_;rintro e w' ⟨rfl,rfl⟩) | (go_at_call 26;refine (CW.out l4 S5 _ HR4.out.1 (by have:=HLN.out;omega) HR4.out.2.1).mono ?_))
   rintro e w6 ⟨⟨k5,rfl⟩,hh⟩
   have HR5:Hid (Rnd B K xn xv xd xo xm xc W2 (l4++S5.data.toList) w6):=Rnd.wr HR4.out HKB.out (e:=.returned (.tuple #[.int .i64 k5,.nilIface])) ⟨⟨_,rfl⟩,hh⟩
   obtain ⟨l5,hl5⟩:∃l,l4++S5.data.toList=l:=⟨_,rfl⟩
   have HL5:Hid (l4++S5.data.toList=l5):=hl5
   have n5:l5.length=l4.length+S5.size:=by rw [<-hl5];simp
   rw [hl5] at HR5
   clear hh hl5
   have HFIN:Hid ([102,111,114,109,97,116,32,61,32,49,10]++((M.map riseE).take (i+1)).flatMap entB=l5):=by
    show _=_
    rw [<-HL5.out,<-HL4.out,<-HL3.out,<-HL2.out,<-HL1.out,<-HL0.out,HNX.out,HS2.out,HS3.out,HS4.out,HS5.out,<-ent_text ⟨xn,xv,xd,N⟩ T HT.out]
    simp only [List.append_assoc]
   have hfl:l5.length<=11+(i+1) * 67108864:=by have:=HLN.out;omega
   have HBS:Hid (B < w6.heap.size):=by
    have h1:=HR5.out.2.1
    have h2:=HR5.out.2.2.2.1
    have h3:=HKE.out
    show B < _
    omega
   clear c2a c2 c3a c3 c5a c5 c4a c4
   go_wp2
   go_roundw
   case rel=>exact ⟨i+1,by go_num,by omega,by rw [HFIN.out];exact ⟨HR5.out.1,HR5.out.2.2.1,HBS.out⟩,by rw [HFIN.out];exact hfl⟩
   case measure=>simp [intOf];omega
  ·have hie:i=n:=by omega
   have HLF:Hid ([102,111,114,109,97,116,32,61,32,49,10]++((M.map riseE).take i).flatMap entB=lockB (M.map riseE)):=by
    show _=_
    rw [hie,List.take_of_length_le (by rw [List.length_map,HML.out];exact Nat.le_refl _)];rfl
   have HBL:Hid (Bld B (lockB (M.map riseE)) wr/\B<=wr.heap.size):=by
    rw [<-HLF.out];exact ⟨hbl,by omega⟩
   clear hbl hbw hln hie
   go_wp2_with (first | (go_at_call 28;refine (HCB.out _ _ HBL.out.1 HBL.out.2).mono ?_;rintro e w9 ⟨rfl,hb9⟩))
   go_ret
   refine ⟨rfl,gb_trans HG2.out ?_⟩
   have hb:=HBW.out.trans hb9
   exact ⟨hb.os,hb.tape,hb.output,hb.size,fun k hk _=>hb.block k (by rw [<-HB.out];exact hk)⟩
end Go.Proofs.YtbbmbnpebiakbaaGreatDoor
namespace Go.Proofs.YtbbmbnpebiakbaaGreatDoor
open Go.RowKit Go.Maps
set_option linter.unusedVariables false
theorem atKey_int {H:Type} {D:DataW H} {kl:Lit} {j c:Int} (h:∀z,D.atKey kl z=.lit (.int .i64 j)) (hat:D.atKey kl (.lit (.int .i64 0))=.lit (.int .i64 c)):c=j:=by
 rw [h] at hat
 injection hat with hat
 injection hat with _ hat
 exact hat.symm
set_option maxRecDepth 100000 in
set_option maxHeartbeats 6400000 in
theorem bFaultOf_at (a:Addr) (cap:Nat) (L:List En) (i B nn:Nat) (w:World) (hi:i < L.length) (hcap:L.length<=cap) (h:∀j (hj:j < L.length),EnAt w (a.add (j * 4)) L[j]) (hown:w.ownsMap Tryz.prog 9 (plainElem (H:=Unit) Tryz.prog 3) B nn (frD L L.length)) (hL:L.length<=1048576) (hV:∀x ∈ L,x.nm.size<=1048576/\x.ve.size<=1048576/\x.dg.size<=1048576) (hN:∀x ∈ L,x.nd.length<=1048576) (hS:∀x ∈ L,∀y ∈ x.nd,y.size<=1048576) :
  Calls Tryz.prog 18 #[.slice (some a) L.length cap,.int .i64 i,.map (some B)] w fun e w'=>e=.returned (.int .i64 (errE L i))/\w.grownBy w' none:=by
 rw [errE_at L i hi]
 have HOWN:Hid (∀w',w.grownBy w' none->w'.ownsMap Tryz.prog 9 (plainElem (H:=Unit) Tryz.prog 3) B nn (frD L L.length)):=fun w' hg=>hown.kept hg (by simp)
 obtain ⟨j,hjL,hjat,hjlt⟩:=fr_first L i hi
 have HHAS:Hid (∀n,Maps.has (frD L L.length) (keyT n)=hasNm L n):=fun n=>by rw [fr_has L n L.length (Nat.le_refl _),List.take_length]
 obtain ⟨x,hx⟩:∃x,L[i]=x:=⟨_,rfl⟩
 have hmem:x ∈ L:=by rw [<-hx];exact List.getElem_mem _
 obtain ⟨e0,e1,e2,sv,e3,hsv⟩:EnAt w (a.add (i * 4)) x:=by rw [<-hx];exact h i hi
 rw [hx] at hjat hjlt ⊢
 have HJ:Hid ((∀z,(frD L L.length).atKey (keyT x.nm) z=.lit (.int .i64 (j:Int)))/\(j < i ↔ hasNm (L.take i) x.nm=true)):=⟨hjat,hjlt⟩
 have H1:Hid (TxS w sv x.nd):=hsv
 obtain ⟨so,sc,rfl⟩:=txs_slice hsv
 have hnl:=hN x hmem
 have hV1:=hV x hmem
 have CI:Hid (∀w,TxS w (.slice so x.nd.length sc) x.nd->Calls Tryz.prog 32 #[.agg #[.string x.nm,.string x.ve,.string x.dg,.slice so x.nd.length sc]] w fun e w'=>e=.returned (.bool (goodE x))/\w.grownBy w' none):=fun w h=>isEntry_any x _ w h hnl ⟨by omega,by omega,by omega⟩ (fun y hy=>by have:=hS x hmem y hy;omega)
 have CT:Hid (∀w,TxS w (.slice so x.nd.length sc) x.nd->Calls Tryz.prog 33 #[.slice so x.nd.length sc] w fun e w'=>e=.returned (.bool (twS x.nd x.nd.length))/\w.grownBy w' none):=fun w h=>bTwice_any _ x.nd w h hnl
 have hkey:keyOf Tryz.prog 9 (.string x.nm)=some (keyT x.nm):=Go.WideMaps.keyOf_string_mk Tryz.underlying9 (by unfold maxLen;omega)
 have HKEY:Hid (∀y ∈ x.nd,keyOf Tryz.prog 9 (.string y)=some (keyT y)):=fun y hy=>Go.WideMaps.keyOf_string_mk Tryz.underlying9 (by have:=hS x hmem y hy;unfold maxLen;omega)
 have hil:i<=1048576:=by omega
 have hiL:(i:Int) < (L.length:Int):=by omega
 clear h hV hN hS hmem hx hsv hown hjat hjlt hV1
 obtain ⟨R,hR⟩:∃R,faultE L i x=R:=⟨_,rfl⟩
 rw [hR]
 by_cases hm:50<=i
 ·have HR:Hid (R=4):=hR.symm.trans (fe_many (Or.inl hm))
  clear hR
  go_enter Tryz.func18,Tryz.ntmps18
  go_wp2
  go_ret
  exact ⟨ret_int HR.out.symm,gb_alloc (gb_refl w none) _⟩
 by_cases hn:20 < x.nd.length
 ·have HR:Hid (R=4):=hR.symm.trans (fe_many (Or.inr hn))
  clear hR
  go_enter Tryz.func18,Tryz.ntmps18
  go_wp2
  go_ret
  exact ⟨ret_int HR.out.symm,gb_alloc (gb_refl w none) _⟩
 have hmany:¬ (50<=i\/20 < x.nd.length):=by omega
 have HT:Hid (goodE x=false->R=2):=fun h=>hR.symm.trans (fe_text hmany h)
 have HQ:Hid (goodE x=true->R=if hasNm (L.take i) x.nm=true\/twS x.nd x.nd.length=true then 5 else if x.nd.all (hasNm L)=true then 0 else 6):=fun h=>hR.symm.trans (fe_rest hmany h)
 obtain ⟨gd,hgd⟩:∃g,goodE x=g:=⟨_,rfl⟩
 rw [hgd] at HT HQ CI
 obtain ⟨tw,htw⟩:∃g,twS x.nd x.nd.length=g:=⟨_,rfl⟩
 rw [htw] at HQ CT
 obtain ⟨xn,xv,xd,N⟩:=x
 simp only [] at CI CT H1 HQ HJ HKEY hkey e0 e1 e2 e3 hn hnl
 clear hR hmany hgd htw
 obtain ⟨A,hA⟩:∃A,w.heap.size=A:=⟨_,rfl⟩
 go_enter Tryz.func18,Tryz.ntmps18
 go_wp2_with (first | (go_at_call 32;refine (CI.out _ (H1.out.grow (gb_alloc (gb_refl w none) _))).mono ?_))
 rintro e w1 ⟨rfl,hg1⟩
 obtain ⟨c0,c1,c2,c3⟩:=en_block ((hg1.block w.heap.size (by simp) (by simp)).trans (heap_alloc_new w _))
 have HG:Hid (w.grownBy w1 none):=gb_trans (gb_alloc (gb_refl w none) _) hg1
 try rw [hA]
 rw [hA] at c0 c1 c2 c3
 have HC:Hid (w1.cell? ⟨A,3,none⟩=some (.slice so N.length sc)):=c3
 clear hg1 e0 e1 e2 e3 hA c1 c2
 cases gd with
 | false =>
  go_wp2
  go_ret
  exact ⟨ret_int (HT.out (by trivial)).symm,HG.out⟩
 | true =>
 have HQ':Hid (R=if hasNm (L.take i) xn=true\/tw=true then 5 else if N.all (hasNm L)=true then 0 else 6):=HQ.out (by trivial)
 have ho1:=HOWN.out w1 HG.out
 by_cases hji:j < i
 ·have HR:Hid (R=5):=HQ'.out.trans (if_pos (Or.inl (HJ.out.2.1 hji)))
  have hjI:(j:Int) < (i:Int):=by omega
  go_wp2_with (first | (at_lookup;refine wpList_lookup_own_int _ rfl _ _ 44 rfl 9 3 .i64 keyS Tryz.underlying44 Tryz.underlying3 (zeroI _) B nn _ rfl ho1 _ _ rfl hkey ?_;intro c hat hwc;obtain rfl:=atKey_int HJ.out.1 hat;clear hat hwc) | go_in)
  go_ret
  exact ⟨ret_int HR.out.symm,HG.out⟩
 ·have hjI:¬ (j:Int) < (i:Int):=by omega
  have HNT:Hid (¬ hasNm (L.take i) xn=true):=fun h=>hji (HJ.out.2.2 h)
  go_wp2_with (first | (at_lookup;refine wpList_lookup_own_int _ rfl _ _ 44 rfl 9 3 .i64 keyS Tryz.underlying44 Tryz.underlying3 (zeroI _) B nn _ rfl ho1 _ _ rfl hkey ?_;intro c hat hwc;obtain rfl:=atKey_int HJ.out.1 hat;clear hat hwc) | (go_at_call 33;refine (CT.out _ (H1.out.grow HG.out)).mono ?_) | go_in)
  rintro e w2 ⟨rfl,hg2⟩
  have HG2:Hid (w.grownBy w2 none):=gb_trans HG.out hg2
  have f3:=hg2.cell HC.out (by simp)
  clear hg2 c0 c3 ho1
  cases tw with
  | true =>
   have HR:Hid (R=5):=HQ'.out.trans (if_pos (Or.inr rfl))
   go_wp2
   go_ret
   exact ⟨ret_int HR.out.symm,HG2.out⟩
  | false =>
   have HR:Hid (R=if N.all (hasNm L)=true then 0 else 6):=HQ'.out.trans (if_neg (fun h=>h.elim HNT.out (by simp)))
   go_wp2
   clear hjI hji f3
   go_loopw [41] (fun vk wr=>∃k:Nat,vk=.int .i64 k/\k<=N.length/\(N.take k).all (hasNm L)=true/\w.grownBy wr none) (fun vk _=>N.length - (intOf vk).toNat)
   case atStart=>exact ⟨0,rfl,Nat.zero_le _,rfl,HG2.out⟩
   case round =>
    obtain ⟨k,rfl,hk,hall,hg⟩:=hrel
    have HALL:Hid ((N.take k).all (hasNm L)=true):=hall
    have HGW:Hid (w.grownBy wr none):=hg
    by_cases hlt:k < N.length
    ·obtain ⟨b,rfl,hcv,hat⟩:=txs_at (H1.out.grow hg) hlt
     have g0:=hat k hlt
     obtain ⟨y,hy⟩:∃y,N[k]=y:=⟨_,rfl⟩
     rw [hy] at g0
     have hkey2:=HKEY.out y (by rw [<-hy];exact List.getElem_mem _)
     have HHY:Hid (Maps.has (frD L L.length) (keyT y)=hasNm L y):=HHAS.out y
     have HSN:Hid ((N.take (k+1)).all (hasNm L)=((N.take k).all (hasNm L) && hasNm L y)):=by
      show _=_
      rw [all_snoc L N k hlt,hy]
     have HNO:Hid (hasNm L y=false->N.all (hasNm L)=false):=fun h=>by
      rw [List.all_eq_false]
      exact ⟨y,by rw [<-hy];exact List.getElem_mem _,by rw [h];simp⟩
     have ho2:=HOWN.out wr hg
     obtain ⟨q,hq⟩:∃q,Maps.has (frD L L.length) (keyT y)=q:=⟨_,rfl⟩
     rw [hq] at HHY
     clear hall hg hat hy
     cases q with
     | false =>
      have HR6:Hid (R=6):=HR.out.trans (if_neg (by rw [HNO.out HHY.out.symm];simp))
      go_wp2_with (first | (at_lookup;refine wpList_lookup_own_ok_int _ rfl _ _ 44 rfl 9 3 .i64 keyS Tryz.underlying44 Tryz.underlying3 (zeroI _) B nn _ rfl ho2 _ _ rfl hkey2 ?_;intro c hat hwc;rw [hq]) | go_in)
      go_ret
      exact ⟨ret_int HR6.out.symm,HGW.out⟩
     | true =>
      have HS2:Hid ((N.take (k+1)).all (hasNm L)=true):=by
       show _=_
       rw [HSN.out,HALL.out,<-HHY.out];rfl
      go_wp2_with (first | (at_lookup;refine wpList_lookup_own_ok_int _ rfl _ _ 44 rfl 9 3 .i64 keyS Tryz.underlying44 Tryz.underlying3 (zeroI _) B nn _ rfl ho2 _ _ rfl hkey2 ?_;intro c hat hwc;rw [hq]) | go_in)
      exact ⟨⟨k+1,by go_num,by omega,HS2.out,HGW.out⟩,by simp [intOf];omega⟩
    ·have hke:k=N.length:=by omega
     have HR0:Hid (R=0):=HR.out.trans (if_pos (by rw [hke,List.take_length] at hall;exact hall))
     clear hall hg hke hk
     go_wp2
     go_ret
     exact ⟨ret_int HR0.out.symm,HGW.out⟩
end Go.Proofs.YtbbmbnpebiakbaaGreatDoor
namespace Go.Proofs.YtbbmbnpebiakbaaGreatDoor
open Go.RowKit Go.Maps
set_option linter.unusedVariables false
set_option maxRecDepth 100000 in
set_option maxHeartbeats 3200000 in
theorem bPrint_any (v:Value) (L:List En) (w:World) (h:EnS w v L) (hL:L.length<=1048576) (hV:∀x ∈ L,x.nm.size<=1048576/\x.ve.size<=1048576/\x.dg.size<=1048576) (hN:∀x ∈ L,x.nd.length<=1048576) (hS:∀x ∈ L,∀y ∈ x.nd,y.size<=1048576) :
  Calls Tryz.prog 8 #[v] w fun e w'=>e=.returned (.tuple #[.string (lockR L),.int .i64 (lockFrom L L.length).1,.int .i64 ((lockFrom L L.length).2:Int)])/\w.grownBy w' none:=by
 have H1:Hid (EnS w v L):=h
 have CF:Hid (∀(a:Addr) (cap i B:Nat) (w:World),i < L.length->L.length<=cap->(∀j (hj:j < L.length),EnAt w (a.add (j * 4)) L[j])->w.ownsMap Tryz.prog 9 (plainElem (H:=Unit) Tryz.prog 3) B L.length (frD L L.length)->Calls Tryz.prog 18 #[.slice (some a) L.length cap,.int .i64 i,.map (some B)] w fun e w'=>e=.returned (.int .i64 (errE L i))/\w.grownBy w' none):=fun a cap i B w h1 h2 h3 h4=>bFaultOf_at a cap L i B L.length w h1 h2 h3 h4 hL hV hN hS
 have CFI:Hid (Calls Tryz.prog 17 #[v] w fun e w'=>∃B,e=.returned (.map (some B))/\(L=[]\/w'.ownsMap Tryz.prog 9 (plainElem (H:=Unit) Tryz.prog 3) B L.length (frD L L.length))/\w.grownBy w' none):=by
  rcases h with ⟨rfl,hl⟩ | ⟨a,cap,rfl,h2,h3⟩
  ·exact (firstsOf_nil w).mono fun e w' ⟨B,h1,h2⟩=>⟨B,h1,Or.inl hl,h2⟩
  ·exact (firstsOf_at a cap L w hL h2 (fun x hx=>by have:=(hV x hx).1;unfold maxLen;omega) h3).mono fun e w' ⟨B,h1,h2,h3⟩=>⟨B,h1,Or.inr h2,h3⟩
 have CT:Hid (∀w',w.grownBy w' none->(lockFrom L L.length).1=0->Calls Tryz.prog 19 #[v] w' fun e w''=>e=.returned (.string (lockT L))/\w'.grownBy w'' none):=fun w' hg h0=>by
  obtain ⟨s1,s2,s3⟩:=lock_small L h0
  exact textOf_any v L w' (h.grow hg) s1 (fun x hx=>⟨(hV x hx).1,(hV x hx).2.1,(hV x hx).2.2,s2 x hx,hS x hx⟩) s3
 obtain ⟨o,c,rfl⟩:=ens_slice h
 have HH:Hid (∀i,i < L.length->¬ errE L i=0->lockFrom L (L.length - i)=(errE L i,i)):=lock_hit L
 have HM:Hid (∀i,i < L.length->errE L i=0->lockFrom L (L.length - i)=lockFrom L (L.length - (i+1))):=lock_miss L
 have HLR:Hid ((lockFrom L L.length).1=0->lockR L=lockT L):=fun h0=>by
  show lockR L=_
  unfold lockR;rw [if_pos h0]
 have HLE:Hid (¬ (lockFrom L L.length).1=0->lockR L=⟨#[]⟩):=fun h0=>by
  show lockR L=_
  unfold lockR;rw [if_neg h0]
 obtain ⟨T,hT⟩:∃T,lockR L=T:=⟨_,rfl⟩
 obtain ⟨T',hT'⟩:∃T,lockT L=T:=⟨_,rfl⟩
 rw [hT,hT'] at HLR
 rw [hT] at HLE ⊢
 rw [hT'] at CT
 obtain ⟨R,hR⟩:∃R,lockFrom L L.length=R:=⟨_,rfl⟩
 have HS0:Hid (lockFrom L (L.length - 0)=R):=hR
 rw [hR] at CT HLR HLE ⊢
 clear h hV hN hS hR hT hT'
 go_enter Tryz.func8,Tryz.ntmps8
 go_wp2_with (first | (go_at_call 17;refine CFI.out.mono ?_))
 rintro e w1 ⟨B,rfl,hown,hg1⟩
 have HOW:Hid (L=[]\/w1.ownsMap Tryz.prog 9 (plainElem (H:=Unit) Tryz.prog 3) B L.length (frD L L.length)):=hown
 have HG1:Hid (w.grownBy w1 none):=hg1
 clear hown hg1
 go_wp2
 go_loopw [12] (fun vi wr=>∃i:Nat,vi=.int .i64 i/\i<=L.length/\lockFrom L (L.length - i)=R/\w1.grownBy wr none) (fun vi _=>L.length - (intOf vi).toNat)
 case atStart=>exact ⟨0,rfl,Nat.zero_le _,HS0.out,gb_refl _ _⟩
 case round =>
  obtain ⟨i,rfl,hi,hc,hg⟩:=hrel
  have HG:Hid (w.grownBy wr none):=gb_trans HG1.out hg
  have HGR:Hid (w1.grownBy wr none):=hg
  have HC:Hid (lockFrom L (L.length - i)=R):=hc
  by_cases hlt:i < L.length
  ·have CFF:Hid (Calls Tryz.prog 18 #[.slice o L.length c,.int .i64 i,.map (some B)] wr fun e w'=>e=.returned (.int .i64 (errE L i))/\wr.grownBy w' none):=by
    rcases H1.out.grow HG.out with ⟨h1,h2⟩ | ⟨a,cap,h1,h2,h3⟩
    ·rw [h2] at hlt;simp at hlt
    ·cases h1
     rcases HOW.out with h4 | h4
     ·rw [h4] at hlt;simp at hlt
     ·exact CF.out a c i B wr hlt h2 h3 (h4.kept hg (by simp))
   have HH':Hid (¬ errE L i=0->R=(errE L i,i)):=fun h=>HC.out.symm.trans (HH.out i hlt h)
   have HM':Hid (errE L i=0->lockFrom L (L.length - (i+1))=R):=fun h=>(HM.out i hlt h).symm.trans HC.out
   obtain ⟨F,hF⟩:∃F,errE L i=F:=⟨_,rfl⟩
   rw [hF] at CFF HH' HM'
   clear hF hc hg
   by_cases hz:F=0
   ·subst hz
    go_wp2_with (first | (go_at_call 18;refine CFF.out.mono ?_;rintro e w3 ⟨rfl,hg3⟩))
    exact ⟨⟨i+1,by go_num,by omega,HM'.out (by trivial),gb_trans HGR.out hg3⟩,by simp [intOf];omega⟩
   ·have hz1:(F != 0)=true:=by simp [hz]
    have HR:Hid (R=(F,i)):=HH'.out hz
    have HTE:Hid (T=⟨#[]⟩):=HLE.out (by rw [HR.out];exact hz)
    clear hz
    go_wp2_with (first | (go_at_call 18;refine CFF.out.mono ?_;rintro e w3 ⟨rfl,hg3⟩))
    refine bodyPost_ret (results_tmp3 (t:=2) (u:=3) (v:=4) rfl _ _ _) rfl ⟨?_,gb_trans HG.out hg3⟩
    rw [HR.out,HTE.out];rfl
  ·have hil:i=L.length:=by omega
   have HR:Hid (R=(0,0)):=by
    show R=_
    rw [<-hc,hil,Nat.sub_self];rfl
   have HTT:Hid (T=T'):=HLR.out (by rw [HR.out])
   have CTT:Hid (Calls Tryz.prog 19 #[.slice o L.length c] wr fun e w''=>e=.returned (.string T')/\wr.grownBy w'' none):=CT.out wr HG.out (by rw [HR.out])
   clear hc hg hil hi
   go_wp2_with (first | (go_at_call 19;refine CTT.out.mono ?_;rintro e w3 ⟨rfl,hg3⟩))
   refine bodyPost_ret (results_tmp3 (t:=2) (u:=3) (v:=4) rfl _ _ _) rfl ⟨?_,gb_trans HG.out hg3⟩
   rw [HR.out,HTT.out];rfl
open Go.RowKit
set_option linter.unusedVariables false
set_option maxHeartbeats 400000 in
theorem lnum_any (n:Int) (w:World):Calls Tryz.prog 11 #[.int .i64 n] w fun e w'=>e=.returned (.int .i64 n)/\w'=w:=by
 go_enter Tryz.func11,Tryz.ntmps11
 go_wp2
 go_ret
 exact ⟨rfl,rfl⟩
end Go.Proofs.YtbbmbnpebiakbaaGreatDoor
