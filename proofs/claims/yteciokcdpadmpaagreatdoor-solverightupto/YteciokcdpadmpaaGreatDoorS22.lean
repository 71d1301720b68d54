import Derived.Test.YteciokcdpadmpaaGreatDoorS15
import Derived.Laws.EntriesVeiled
import Derived.Test.YteciokcdpadmpaaGreatDoorS21
set_option linter.all false
set_option maxRecDepth 100000
set_option maxHeartbeats 0
open Go.Proofs.Tryz
namespace Go.Proofs.YteciokcdpadmpaaGreatDoor
open Go.RowKit
def uB(x y:Int):Int:=if x=0 then y else x
theorem abq(x y:Int)(b:Nat)(w:World)(h0:w.cell? ⟨b,0,none⟩=some (.int .i64 x))(h1:w.cell? ⟨b,1,none⟩=some (.int .i64 y)) :
  Calls prog 85 #[.slice (some ⟨b,0,none⟩) 2 2] w fun e w'=>e=.returned (.int .i64 (uB x y))/\w'=w:=by
 obtain⟨R,hR⟩:∃R,R=uB x y:=⟨_,rfl⟩;have HR:=ae hR;rw[<-hR];clear hR;go_enter func85,ntmps85;go_wp2
 go_loop [8] (fun i=>∃k:Nat,k<=2/\i=.int .i64 k/\(1<=k->x=0)/\(2<=k->y=0)) (fun i=>2-(intOf i).toNat)
 case atStart=>exact⟨0,by omega,rfl,by omega,by omega⟩
 case round =>
  obtain⟨k,hk,rfl,k1,k2⟩:=hrel
  rcases(show k=0\/k=1\/k=2 by omega) with rfl|rfl|rfl
  ·clear k1 k2 hk
   cases hz:(x == 0) with
   | true =>
    have hx:x=0:=by simpa using hz
    go_wp2
    go_round
    case rel=>exact⟨1,by omega,rfl,fun _=>hx,by omega⟩
    case measure=>simp[intOf]
   | false =>
    have HZ:Hd (R=x):=by show R=x;rw[HR.o];unfold uB;rw[if_neg (by simpa using hz)]
    go_wp2;go_ret;exact⟨bM HZ.o.symm,rfl⟩
  ·have hx:=ae (k1 (by omega));clear k1 k2 hk;have HZ:Hd (R=y):=by show R=y;rw[HR.o];unfold uB;rw[if_pos hx.o]
   cases hz:(y == 0) with
   | true =>
    have hy:y=0:=by simpa using hz
    go_wp2
    go_round
    case rel=>exact⟨2,by omega,rfl,fun _=>hx.o,fun _=>hy⟩
    case measure=>simp[intOf]
   | false =>
    go_wp2;go_ret;exact⟨bM HZ.o.symm,rfl⟩
  ·have HZ:Hd (R=0):=by show R=0;rw[HR.o];unfold uB;rw[if_pos (k1 (by omega)),k2 (by omega)]
   clear k1 k2 hk;go_wp2;go_ret;exact⟨bM HZ.o.symm,rfl⟩
def yj(x y:It):Int:=uB (aC (cutV y.v) (cutV x.v)) (Lib.compareInt (x.k:Int) (y.k:Int))
theorem abr{p q:Nat}{x0 x1 x2 x3 y0 y1 y2 y3:Int}{x4 x5 y4 y5:ByteArray}{w w':World}(hg:w.grownBy w' none)(h:w.cell? ⟨p,0,none⟩=some (.int .i64 x0)/\w.cell? ⟨p,1,none⟩=some (.int .i64 x1)/\w.cell? ⟨p,2,none⟩=some (.int .i64 x2)/\w.cell? ⟨p,3,none⟩=some (.int .i64 x3)/\w.cell? ⟨p,4,none⟩=some (.string x4)/\w.cell? ⟨p,5,none⟩=some (.string x5)/\w.cell? ⟨q,0,none⟩=some (.int .i64 y0)/\w.cell? ⟨q,1,none⟩=some (.int .i64 y1)/\w.cell? ⟨q,2,none⟩=some (.int .i64 y2)/\w.cell? ⟨q,3,none⟩=some (.int .i64 y3)/\w.cell? ⟨q,4,none⟩=some (.string y4)/\w.cell? ⟨q,5,none⟩=some (.string y5)) :
  w'.cell? ⟨p,0,none⟩=some (.int .i64 x0)/\w'.cell? ⟨p,1,none⟩=some (.int .i64 x1)/\w'.cell? ⟨p,2,none⟩=some (.int .i64 x2)/\w'.cell? ⟨p,3,none⟩=some (.int .i64 x3)/\w'.cell? ⟨p,4,none⟩=some (.string x4)/\w'.cell? ⟨p,5,none⟩=some (.string x5)/\w'.cell? ⟨q,0,none⟩=some (.int .i64 y0)/\w'.cell? ⟨q,1,none⟩=some (.int .i64 y1)/\w'.cell? ⟨q,2,none⟩=some (.int .i64 y2)/\w'.cell? ⟨q,3,none⟩=some (.int .i64 y3)/\w'.cell? ⟨q,4,none⟩=some (.string y4)/\w'.cell? ⟨q,5,none⟩=some (.string y5):=by
 obtain⟨h0,h1,h2,h3,h4,h5,h6,h7,h8,h9,h10,h11⟩:=h;exact⟨hg.cell h0 (by simp),hg.cell h1 (by simp),hg.cell h2 (by simp),hg.cell h3 (by simp),hg.cell h4 (by simp),hg.cell h5 (by simp),hg.cell h6 (by simp),hg.cell h7 (by simp),hg.cell h8 (by simp),hg.cell h9 (by simp),hg.cell h10 (by simp),hg.cell h11 (by simp)⟩
theorem abt(x y:It)(w:World)(hx:x.v.pre.length<=100)(hy:y.v.pre.length<=100) :
  Calls prog 84 #[.agg (jE x).toArray,.agg (jE y).toArray] w fun e w'=>e=.returned (.int .i64 (yj x y))/\Gr w w':=by
 obtain⟨k,⟨a1,a2,a3,a4,a5⟩⟩:=x;obtain⟨l,⟨b1,b2,b3,b4,b5⟩⟩:=y;simp only[]at hx hy;have CV:Hd (∀w,Calls prog 86 #[.agg #[.int .i64 b1,.int .i64 b2,.int .i64 b3,.string ⟨b4.toArray⟩,.string ⟨b5.toArray⟩],.agg #[.int .i64 a1,.int .i64 a2,.int .i64 a3,.string ⟨a4.toArray⟩,.string ⟨a5.toArray⟩]] w fun e w'=>e=.returned (.int .i64 (aC ⟨b1,b2,b3,b4⟩ ⟨a1,a2,a3,a4⟩))/\Gr w w'):=fun w=>by
  have:=G.compare_any b1 b2 b3 a1 a2 a3 ⟨b4.toArray⟩ ⟨b5.toArray⟩ ⟨a4.toArray⟩ ⟨a5.toArray⟩ w (by show b4.toArray.size < _;simp;omega) (by show a4.toArray.size < _;simp;omega);simpa using this
 have CI:Hd (∀w,Calls prog 87 #[.int .i64 (k:Int),.int .i64 (l:Int)] w fun e w'=>e=.returned (.int .i64 (Lib.compareInt (k:Int) (l:Int)))/\w'=w):=fun w=>wX _ _ w
 show Calls prog 84 #[.agg #[.int .i64 (k:Int),.int .i64 a1,.int .i64 a2,.int .i64 a3,.string ⟨a4.toArray⟩,.string ⟨a5.toArray⟩],.agg #[.int .i64 (l:Int),.int .i64 b1,.int .i64 b2,.int .i64 b3,.string ⟨b4.toArray⟩,.string ⟨b5.toArray⟩]] w fun e w'=>e=.returned (.int .i64 (uB (aC ⟨b1,b2,b3,b4⟩ ⟨a1,a2,a3,a4⟩) (Lib.compareInt (k:Int) (l:Int))))/\Gr w w'
 obtain⟨r,hr⟩:=zN (aC (⟨b1,b2,b3,b4⟩:V) ⟨a1,a2,a3,a4⟩);obtain⟨c,hc⟩:=zN (Lib.compareInt (k:Int) (l:Int));rw[hr]at CV ⊢;rw[hc]at CI ⊢;have CO:=ae (abq r c);obtain⟨o,ho⟩:=zN (uB r c);rw[ho]at CO ⊢;obtain⟨A4,RF⟩:∃s:ByteArray,s=⟨a4.toArray⟩:=⟨_,rfl⟩;obtain⟨A5,RG⟩:∃s:ByteArray,s=⟨a5.toArray⟩:=⟨_,rfl⟩;obtain⟨B4,hB4⟩:∃s:ByteArray,s=⟨b4.toArray⟩:=⟨_,rfl⟩;obtain⟨B5,RH⟩:∃s:ByteArray,s=⟨b5.toArray⟩:=⟨_,rfl⟩;rw[<-RF,<-RG,<-hB4,<-RH]at CV ⊢;clear hr hc ho hx hy RF RG hB4 RH;go_enter func84,ntmps84;go_wp2;obtain⟨W,hW⟩:=zN ((w.alloc (.cells #[.int .i64 (k:Int),.int .i64 a1,.int .i64 a2,.int .i64 a3,.string A4,.string A5] 147)).alloc (.cells #[.int .i64 (l:Int),.int .i64 b1,.int .i64 b2,.int .i64 b3,.string B4,.string B5] 147));rw[hW];have g1:W.heap[w.heap.size]?=some (.cells #[.int .i64 (k:Int),.int .i64 a1,.int .i64 a2,.int .i64 a3,.string A4,.string A5] 147 (0,0)):=by
  rw[<-hW,Lib.alloc_old _ _ _ (by simp)];exact heap_alloc_new w _
 have g2:W.heap[w.heap.size+1]?=some (.cells #[.int .i64 (l:Int),.int .i64 b1,.int .i64 b2,.int .i64 b3,.string B4,.string B5] 147 (0,0)):=by
  rw[<-hW];exact hrow2 w _ _
 have bT:Hd (Gr w W):=by
  show Gr w W;rw[<-hW];exact Bj (Bj (Bi w) _) _
 obtain⟨A,hA⟩:=zN (w.heap.size);rw[hA]at g1 g2;rw[hA];have c0:W.cell? ⟨A,0,none⟩=some (.int .i64 (k:Int)):=by rw[ah g1];rfl
 have c1:W.cell? ⟨A,1,none⟩=some (.int .i64 a1):=by rw[ah g1];rfl
 have c2:W.cell? ⟨A,2,none⟩=some (.int .i64 a2):=by rw[ah g1];rfl
 have c3:W.cell? ⟨A,3,none⟩=some (.int .i64 a3):=by rw[ah g1];rfl
 have c4:W.cell? ⟨A,4,none⟩=some (.string A4):=by rw[ah g1];rfl
 have c5:W.cell? ⟨A,5,none⟩=some (.string A5):=by rw[ah g1];rfl
 have d0:W.cell? ⟨A+1,0,none⟩=some (.int .i64 (l:Int)):=by rw[ah g2];rfl
 have d1:W.cell? ⟨A+1,1,none⟩=some (.int .i64 b1):=by rw[ah g2];rfl
 have d2:W.cell? ⟨A+1,2,none⟩=some (.int .i64 b2):=by rw[ah g2];rfl
 have d3:W.cell? ⟨A+1,3,none⟩=some (.int .i64 b3):=by rw[ah g2];rfl
 have d4:W.cell? ⟨A+1,4,none⟩=some (.string B4):=by rw[ah g2];rfl
 have d5:W.cell? ⟨A+1,5,none⟩=some (.string B5):=by rw[ah g2];rfl
 clear hW hA g1 g2
 go_region_held3 (fun w'=>w'.cell? ⟨A,0,none⟩=some (.int .i64 (k:Int))/\w'.cell? ⟨A,1,none⟩=some (.int .i64 a1)/\w'.cell? ⟨A,2,none⟩=some (.int .i64 a2)/\w'.cell? ⟨A,3,none⟩=some (.int .i64 a3)/\w'.cell? ⟨A,4,none⟩=some (.string A4)/\w'.cell? ⟨A,5,none⟩=some (.string A5)/\w'.cell? ⟨A+1,0,none⟩=some (.int .i64 (l:Int))/\w'.cell? ⟨A+1,1,none⟩=some (.int .i64 b1)/\w'.cell? ⟨A+1,2,none⟩=some (.int .i64 b2)/\w'.cell? ⟨A+1,3,none⟩=some (.int .i64 b3)/\w'.cell? ⟨A+1,4,none⟩=some (.string B4)/\w'.cell? ⟨A+1,5,none⟩=some (.string B5)) ((first|exact abr (by assumption) (by assumption)|go_keep)) (first|(go_at_call 86;refine(CV.o _).mono ?_;rintro e w1 ⟨rfl,hg1,hd1⟩)|(go_at_call 87;refine(CI.o _).mono ?_;rintro e w' ⟨rfl,rfl⟩)|(go_at_call 85;refine(CO.o _ _ (by simp) (by simp)).mono ?_;rintro e w' ⟨rfl,rfl⟩))
 have hgr:Hd (Gr W w'):=⟨bZ hg1,Nat.le_trans (Nat.le_succ _) hd1⟩;clear hg1 hd1 c0 c1 c2 c3 c4 c5 d0 d1 d2 d3 d4 d5;go_wp2;go_ret;exact⟨rfl,Bj (uV bT.o hgr.o) _⟩
open Go.RowKit
theorem J7{w:World}{v:Value}{M:List It}(h:Qp w v M):∃o c,v=.slice o M.length c/\(∀i,i<M.length->∃a,o=some a/\M.length<=c):=by
 rcases h with⟨rfl,rfl⟩|⟨a,cap,rfl,h2,-⟩
 ·exact⟨_,_,rfl,fun i hi=>by simp at hi⟩
 ·exact⟨_,_,rfl,fun _ _=>⟨a,rfl,h2⟩⟩
theorem abu{w:World}{N:Nat}{k:Nat}{y1 y2 y3:Int}{y4 y5:List UInt8}{t:TypeId}(h:w.heap[N]?=some (.cells #[.int .i64 (k:Int),.int .i64 y1,.int .i64 y2,.int .i64 y3,.string ⟨y4.toArray⟩,.string ⟨y5.toArray⟩] t (0,0))):ItAt w ⟨N,0,none⟩ ⟨k,⟨y1,y2,y3,y4,y5⟩⟩ :=
 ⟨by rw[ah h];rfl,by rw[ah h];rfl,by rw[ah h];rfl,by rw[ah h];rfl,by rw[ah h];rfl,by rw[ah h];rfl⟩
theorem RI(sl:Value)(L:List Re)(name v:ByteArray)(w:World)(h:ReS w sl L)(hL:L.length<=1048576)(hV:∀x∈L,x.ve.size<2 ^ 62)(hv:v.size<2 ^ 62) :
  Calls prog 61 #[sl,.string name,.string v] w fun e w'=>e=.returned (.int .i64 (oC name v L 0))/\w.grownBy w' none:=by
 have HS:=ae h;have CP:Hd (∀w,Calls prog 49 #[.string v] w fun e w'=>(∃k:Int,e=.returned (.tuple #[jP (bi v),.int .i64 (gV v.data.toList).1,.int .i64 k]))/\w.grownBy w' none):=fun w=>(parse_any v w hv).mono fun e w' ⟨h1,h2⟩=>⟨⟨_,h1⟩,h2⟩
 have CI:=ae (fun w (h:ReS w sl L)=>Qs sl L name w h hL hV);have p1:=zM v;have J8:=ae (fun(h:okV v=false)=>Qr name v h L 0);have mG:=ae (fun(h:okV v=true)=>Qq name v h L 0);have zX:=ae (fun x (hx:x∈gZ name L 0)=>(JF name L 0 x hx).1);have rQ:=ae (Nat.le_trans (Di name L 0) hL);obtain⟨o0,n0,c0,rfl⟩:∃o n c,sl=.slice o n c:=by
  rcases h with⟨rfl,-⟩|⟨a,cap,rfl,-⟩
  ·exact⟨_,_,_,rfl⟩
  ·exact⟨_,_,_,rfl⟩
 unfold jP at CP;obtain⟨E,hE⟩:=zN ((gV v.data.toList).1);obtain⟨y,hy⟩:=zN (bi v);have hok:okV v=decide (E=0):=by unfold okV;rw[hE]
 rw[hE,hy]at CP;rw[hok]at J8 mG;rw[hy]at mG p1;obtain⟨y1,y2,y3,y4,y5⟩:=y;simp only[]at CP p1;obtain⟨R,hR⟩:=zN (oC name v L 0);obtain⟨M,hM⟩:=zN (gZ name L 0);rw[hR]at J8 mG ⊢;rw[hM]at mG zX rQ CI;have CC:Hd (∀(x:It) w,x.v.pre.length<=100->Calls prog 86 #[.agg #[.int .i64 x.v.major,.int .i64 x.v.minor,.int .i64 x.v.patch,.string ⟨x.v.pre.toArray⟩,.string ⟨x.v.build.toArray⟩],.agg #[.int .i64 y1,.int .i64 y2,.int .i64 y3,.string ⟨y4.toArray⟩,.string ⟨y5.toArray⟩]] w fun e w'=>e=.returned (.int .i64 (aC (cutV x.v) ⟨y1,y2,y3,y4⟩))/\w.grownBy w' none):=fun x w hx=>by
  refine(compare_any _ _ _ _ _ _ _ _ _ _ w (by show x.v.pre.toArray.size < _;simp;omega) (by show y4.toArray.size < _;simp;omega)).mono ?_;rintro e w' ⟨rfl,hg⟩;refine⟨?_,hg⟩;simp[cutV]
 clear h hE hy hok hR hM p1 hV hv;go_enter func61,ntmps61;go_wp2_with (go_at_call 49;refine(CP.o _).mono ?_);rintro e w1 ⟨⟨k,rfl⟩,hg⟩;have HG:=ae hg;clear hg
 by_cases hE:E=0
 ·subst hE;have RJ:=mG.o (by simp);have HI:Hd (xY ⟨y1,y2,y3,y4⟩ (M.drop 0)=R):=RJ;clear RJ;go_wp2_with (go_at_call 82;refine(CI.o _ (HS.o.grow (aj HG.o _))).mono ?_);rintro e w2 ⟨vs,rfl,ho,hb⟩;have hgi:(w1.alloc (.cells #[.int .i64 y1,.int .i64 y2,.int .i64 y3,.string ⟨y4.toArray⟩,.string ⟨y5.toArray⟩] 108)).grownBy w2 none:=oh hb;obtain⟨V0,hV0⟩:=zN w1.heap.size;have STv:Hd (St V0 y1 y2 y3 ⟨y4.toArray⟩ ⟨y5.toArray⟩ w2):=by
   show St V0 _ _ _ _ _ w2;rw[<-hV0];exact(l9 (heap_alloc_new w1 _)).grow hgi
  have hits:=JE ho;have HIT:=ae hits;obtain⟨ov,cv,rfl,hov⟩:=J7 hits;replace HG:=ae (ag HG.o (ag (aj (ak w1 none) _) hgi))
  try rw[hV0]
  clear ho hb hgi hV0 hits;go_wp2;go_loopw [24] (fun vi wr=>∃i:Nat,vi=.int .i64 i/\i<=M.length/\xY ⟨y1,y2,y3,y4⟩ (M.drop i)=R/\w2.grownBy wr none) (fun vi _=>M.length-(intOf vi).toNat)
  case atStart=>exact⟨0,rfl,Nat.zero_le _,HI.o,ak _ _⟩
  case round =>
   obtain⟨i,rfl,hi,hf,hg⟩:=hrel;replace STv:=ae (STv.o.grow hg);replace HG:=ae (ag HG.o hg);have HW2:=ae hg;have hml:=rQ.o
   by_cases hlt:i<M.length
   ·obtain⟨a,rfl,hcv⟩:=hov i hlt;obtain⟨x,hx⟩:=zN (M[i]);have hat:ItAt wr (a.add (i*6)) x:=by
     rcases HIT.o with⟨e,-⟩|⟨a',cap',e,-,h3⟩
     ·cases e
     ·cases e
      rw[<-hx];exact(h3 i hlt).grow hg
    have HF:Hd ((if aC (cutV x.v) ⟨y1,y2,y3,y4⟩=0 then(x.k:Int) else xY ⟨y1,y2,y3,y4⟩ (M.drop (i+1)))=R):=by
     show _=_;rw[List.drop_eq_getElem_cons hlt,hx]at hf;exact hf
    have CX:=ae (fun w=>CC.o x w (zX.o x (by rw[<-hx];exact List.getElem_mem _)));obtain⟨c,hc⟩:=zN (aC (cutV x.v) ⟨y1,y2,y3,y4⟩);rw[hc]at CX HF;obtain⟨xk,⟨z1,z2,z3,z4,z5⟩⟩:=x;simp only[]at CX HF;obtain⟨e0,e1,e2,e3,e4,e5⟩:=hat;simp only[]at e0 e1 e2 e3 e4 e5;obtain⟨s1,s2,s3,s4,s5⟩:=STv.o;have abv:V0<wr.heap.size:=ui s1;have gA:=aj (ak wr none) (.cells #[.int .i64 (xk:Int),.int .i64 z1,.int .i64 z2,.int .i64 z3,.string ⟨z4.toArray⟩,.string ⟨z5.toArray⟩] 147);have t1:=gA.cell s1 (by simp);have t2:=gA.cell s2 (by simp);have t3:=gA.cell s3 (by simp);have t4:=gA.cell s4 (by simp);have t5:=gA.cell s5 (by simp);clear hf hg hx hc gA;go_wp2_with (go_at_call 86;refine(CX.o _).mono ?_);rintro e w3 ⟨rfl,hg⟩;have hit:=(abu (heap_alloc_new wr _)).grow hg;have hk:=hit.1;simp only[]at hk;have hgr:=ag (aj (ak wr none) _) hg
    have dJ:=ae (ag HG.o hgr);have HW3:=ae hgr;clear hg hgr hit e0 e1 e2 e3 e4 e5 s1 s2 s3 s4 s5 t1 t2 t3 t4 t5 abv
    cases hz:(c == 0) with
    | true =>
     have h0:c=0:=by simpa using hz
     have HQ:Hd ((xk:Int)=R):=by
      have:=HF.o;rw[if_pos h0]at this;exact this
     clear h0;go_wp2;go_ret;exact⟨bM HQ.o,dJ.o⟩
    | false =>
     have h0:¬c=0:=by simpa using hz
     have HQ:Hd (xY ⟨y1,y2,y3,y4⟩ (M.drop (i+1))=R):=by
      have:=HF.o;rw[if_neg h0]at this;exact this
     clear h0;go_wp2;exact⟨⟨i+1,by go_num,by omega,HQ.o,ag HW2.o HW3.o⟩,by simp[intOf];omega⟩
   ·have hil:i=M.length:=by omega
    have HQ:Hd (-1=R):=by
     show _=_;rw[hil,List.drop_length]at hf;exact hf
    clear hf hil hg;go_wp2;go_ret;exact⟨bM HQ.o,HG.o⟩
 ·have hE1:(E == 0)=false:=by simp[hE]
  have hE2:(E != 0)=true:=by simp[hE]
  have HQ:=ae ((J8.o (by simp[hE])).symm);clear hE;go_wp2;go_ret;exact⟨bM HQ.o,aj HG.o _⟩
open Go.RowKit Go.Shelf Go.Sort
def abw:Prop:=∀(ve:Value) (E:List It) (base:Nat) (w:World),w.ownsRow base 147 6 ve E.length (E.flatMap jE)->E.length<=8388608->(∀e∈E,e.v.pre.length<=100) →
 Calls prog 83 #[ve,.func (.func 84) #[] #[]] w fun e w'=>e=.returned (.tuple #[])/\∃E':List It,E'.Perm E/\E'.Pairwise (fun a b=>0<=yj b a)/\w'.ownsRow base 147 6 ve E'.length (E'.flatMap jE)/\w.grownBy w' ve.ownBlock
abbrev Ib:={e:It // e.v.pre.length<=100}
instance:Inhabited Ib:=⟨⟨⟨0,zeroV⟩,by show(0:Nat)<=_;omega⟩⟩
def encI(x:Ib):List Value:=jE x.1
def zY(x y:Ib):Int:=yj x.1 y.1
theorem abx{a b:Int}:Lib.compareInt a b<0↔a<b:=by
 unfold Lib.compareInt
 repeat' split
 all_goals omega
theorem zZ(x y:It):yj x y<0↔aC (cutV y.v) (cutV x.v)<0\/(aC (cutV y.v) (cutV x.v)=0/\x.k<y.k):=by
 unfold yj uB;split
 ·rename_i h;rw[abx];omega
 ·rename_i h;omega
theorem aby:SWO (ltOf zY) where
 irrefl x:=by
  unfold ltOf zY;apply decide_eq_false;rw[zZ,Be];omega
 trans x y z h1 h2:=by
  unfold ltOf zY at *;have a1:=(zZ _ _).1 (of_decide_eq_true h1);have a2:=(zZ _ _).1 (of_decide_eq_true h2);refine decide_eq_true ((zZ _ _).2 ?_)
  rcases a1 with a1|⟨a1,b1⟩
  ·rcases a2 with a2|⟨a2,b2⟩
   ·exact Or.inl (Bg a2 a1)
   ·exact Or.inl (Es (by omega) a1)
  ·rcases a2 with a2|⟨a2,b2⟩
   ·exact Or.inl (Bf a2 (by omega))
   ·refine Or.inr ⟨?_,by omega⟩;have c1:=qW (show aC (cutV z.1.v) (cutV y.1.v)<=0 by omega) (show aC (cutV y.1.v) (cutV x.1.v)<=0 by omega);have c2:=qW (show aC (cutV x.1.v) (cutV y.1.v)<=0 by have:=gJ (cutV x.1.v) (cutV y.1.v);omega) (show aC (cutV y.1.v) (cutV z.1.v)<=0 by have:=gJ (cutV y.1.v) (cutV z.1.v);omega);have c3:=gJ (cutV x.1.v) (cutV z.1.v);omega
 ntrans x y z h1 h2:=by
  unfold ltOf zY at *;have a1:=of_decide_eq_false h1;have a2:=of_decide_eq_false h2;rw[zZ]at a1 a2;apply decide_eq_false;rw[zZ];have d1:=gJ (cutV x.1.v) (cutV y.1.v);have d2:=gJ (cutV y.1.v) (cutV z.1.v);have d3:=gJ (cutV x.1.v) (cutV z.1.v);have e1:=qW (show aC (cutV x.1.v) (cutV y.1.v)<=0 by omega) (show aC (cutV y.1.v) (cutV z.1.v)<=0 by omega)
  by_cases h0:aC (cutV x.1.v) (cutV z.1.v)=0
  ·have f1:aC (cutV x.1.v) (cutV y.1.v)=0:=by
    by_cases hh:aC (cutV x.1.v) (cutV y.1.v)<0
    ·have:=Bf hh (show aC (cutV y.1.v) (cutV z.1.v)<=0 by omega);omega
    ·omega
   have f2:aC (cutV y.1.v) (cutV z.1.v)=0:=by
    by_cases hh:aC (cutV y.1.v) (cutV z.1.v)<0
    ·have:=Es (show aC (cutV x.1.v) (cutV y.1.v)<=0 by omega) hh;omega
    ·omega
   omega
  ·omega
theorem abz{w w':World}(h:Gr w w'):∃q os,w'=grow (w.drewN q) os:=by
 refine⟨w'.drawn-w.drawn,w'.heap.extract w.heap.size w'.heap.size,?_⟩;obtain⟨hg,hd⟩:=h;have hh:w'.heap=w.heap++w'.heap.extract w.heap.size w'.heap.size:=by
  apply Array.ext_getElem?;intro k
  by_cases hk:k<w.heap.size
  ·rw[Array.getElem?_append_left hk];exact hg.block k hk (by simp)
  ·rw[Array.getElem?_append_right (by omega),Array.getElem?_extract]
   by_cases hk2:k<w'.heap.size
   ·rw[if_pos (by omega)];congr 1;omega
   ·rw[if_neg (by omega),Array.getElem?_eq_none (by omega)]
 have h1:=hg.os;have h2:=hg.tape;have h3:=hg.output
 cases w';cases w
 simp only[grow,World.drewN,World.mk.injEq]at *;exact⟨hh,h2,by omega,h1,h3⟩
theorem abA(w:World)(blk off size:Nat):CmpLays prog 84 #[] encI 6 zY blk off size w:=by
 intro m os dk hdk x y;refine(abt x.1 y.1 _ x.2 y.2).mono ?_;rintro e w' ⟨rfl,hg⟩;exact⟨rfl,abz hg⟩
theorem RN(x:Ib):(encI x).length=6:=rfl
theorem abB(x:Ib):∀v∈encI x,v.oneCell'=true:=Qn x.1
theorem J9(d:Array Ib):(flatK encI 6 d).toList=(d.toList.map (·.1)).flatMap jE:=by
 apply List.ext_getElem?;intro j;have hl:((d.toList.map (·.1)).flatMap jE).length=d.size*6:=by
  have:∀L:List It,(L.flatMap jE).length=L.length*6:=by
   intro L
   induction L with
   | nil=>rfl
   | cons e L ih=>rw[List.flatMap_cons,List.length_append,ih,List.length_cons];show 6+_=_;omega
  rw[this];simp
 by_cases hj:j<d.size*6
 ·have hi:j / 6<d.size:=by omega
  have h1:(flatK encI 6 d).toList[j]?=some ((encI d[j / 6]!)[j % 6]!):=by
   rw[Array.getElem?_toList,Array.getElem?_eq_getElem (by simpa using hj)];have:=get_flatK encI 6 d j hj;rw[getElem!_pos _ j (by simpa using hj)]at this;rw[this]
  have h2:=JD (d.toList.map (·.1)) (j / 6) (by simpa using hi) (j % 6) ((encI d[j / 6]!)[j % 6]!) (by
   rw[getElem!_pos d (j / 6) hi];have hk:j % 6<(encI d[j / 6]).length:=by rw[RN];omega
   rw[getElem!_pos _ (j % 6) hk];rw[List.getElem_map,Array.getElem_toList];exact List.getElem?_eq_getElem hk)
  rw[show j / 6*6+j % 6=j by omega]at h2;rw[h1,h2]
 ·rw[List.getElem?_eq_none (by simp;omega),List.getElem?_eq_none (by rw[hl];omega)]
theorem egI:∀args w,(callFunc 84 args).run prog w=.ok (.enter 84 args) w:=enters_of func84 (by kernel_rfl) rfl
theorem abC:abw:=by
 intro ve E base w hown hlen hsmall;obtain⟨D,hD⟩:∃D:Array Ib,D.toList.map (·.1)=E:=⟨(E.attach.map fun e=>(⟨e.1,hsmall e.1 e.2⟩:Ib)).toArray,by simp⟩;have hDs:D.size=E.length:=by rw[<-hD];simp
 have hown':=hown
 rcases hown.2 with⟨rfl,h0⟩|⟨g,cap,cur,rfl,hb,hg,hn,hm,hs,ht⟩
 ·refine(AnyF.slices_SortFunc_none Tryz.laysSortT none 0 (.func (.func 84) #[] #[]) w).mono ?_;rintro e w' ⟨rfl,rfl⟩;have hE:=List.eq_nil_of_length_eq_zero h0;subst hE;exact⟨rfl,[],List.Perm.refl _,List.Pairwise.nil,hown',⟨rfl,rfl,rfl,Nat.le_refl _,fun _ _ _=>rfl⟩⟩
 ·have hH:HoldsK encI 6 w g 0 D:=by
   intro j hj;have hj':j<(E.flatMap jE).length:=by rw[hown.1,<-hDs];simpa using hj
   refine⟨?_,Lib.frozen_of_heap hg _⟩;have h1:(flatK encI 6 D).toList[j]?=(E.flatMap jE)[j]?:=by rw[J9,hD]
   rw[Array.getElem?_toList,Array.getElem?_eq_getElem hj]at h1;rw[Nat.zero_add,ah hg];rw[getElem!_pos _ j hj];show cur[j]?=some (id _);rw[id,h1,<-ht,List.getElem?_take_of_lt (by rw[hown.1]at hj';exact hj')];simp
  rw[<-hDs];refine(AnyQ.slices_SortFunc Tryz.laysSortT 6 isAgg147 sizeOf147 encI RN abB zY aby 84 #[] g 0 cap D w egI (abA w g 0 D.size) hH (aB hg) (by omega)).mono ?_;rintro e w' ⟨rfl,d',m,os,hperm,hsort,hw'⟩;have hds:=hperm.1;have hgl:=(aB hg);have hheap:w'.heap=(w.heap.modify g (onCells (putCells id 0 (flatK encI 6 d'))))++os:=by rw[hw'];rfl
  have hg':w'.heap[g]?=some (.cells (putCells id 0 (flatK encI 6 d') cur) 147):=by
   rw[hheap,Array.getElem?_append_left (by simpa using hgl),Array.getElem?_modify,if_pos rfl,hg];rfl
  have Ir:(flatK encI 6 d').size=D.size*6:=by simp[hds]
  have hcs:D.size*6<=cur.size:=by rw[hs,hDs];omega
  have hlen2:((d'.toList.map (·.1)).flatMap jE).length=D.size*6:=by rw[<-J9,Array.length_toList,Ir]
  refine⟨rfl,d'.toList.map (·.1),?_,?_,⟨?_,.inr ⟨g,cap,_,?_,hb,hg',?_,hm,?_,?_⟩⟩,?_⟩
  ·rw[<-hD];apply List.Perm.map;have:=hperm.2.2;rw[Array.extract_size]at this;rw[show d'.extract 0 D.size=d' by rw[<-hds,Array.extract_size]]at this;exact this
  ·rw[List.pairwise_iff_getElem];intro i j hi hj hij;simp only[List.length_map,Array.length_toList]at hi hj;have:=hsort i j (Nat.zero_le _) hij (by omega);rw[getElem!_pos d' j hj,getElem!_pos d' i hi]at this;have h3:=of_decide_eq_false this;simp only[List.getElem_map,Array.getElem_toList];exact Int.not_lt.1 h3
  ·rw[hlen2];simp[hds]
  ·simp[hds]
  ·simp[hds];omega
  ·simp[putCells,hs]
  ·rw[show(d'.toList.map (·.1)).length=D.size by simp[hds],<-J9];apply List.ext_getElem?;intro j
   by_cases hj:j<D.size*6
   ·rw[List.getElem?_take_of_lt hj,Array.getElem?_toList,Array.getElem?_toList];rw[putCells,Array.getElem?_mapIdx,Array.getElem?_eq_getElem (show j<cur.size by omega)];rw[Option.map_some,if_pos ⟨Nat.zero_le _,by omega⟩,Nat.sub_zero,id,getElem!_pos _ j (by omega)];exact(Array.getElem?_eq_getElem _).symm
   ·rw[List.getElem?_eq_none (by simp;omega),List.getElem?_eq_none (by rw[Array.length_toList];omega)]
  ·refine⟨by rw[hw'];rfl,by rw[hw'];rfl,by rw[hw'];rfl,?_,?_⟩
   ·rw[hheap];simp
   ·intro k hk hne;have hkg:g≠k:=by
     intro h;subst h;exact hne rfl
    rw[hheap,Array.getElem?_append_left (by simpa using hk),Array.getElem?_modify,if_neg hkg]
open Go.RowKit
theorem abD:(prog.info? 3).map (fun i=>(i.zero,i.size,i.bytes))=some (some (.int .i64 0),1,8):=by kernel_rfl
theorem abE(n:Nat):madeCells #[Value.int .i64 0] n=((List.range n).map fun _=>Value.int .i64 0).toArray:=by
 apply Array.ext';simp[madeCells];intro a ha;rw[Nat.mod_one];rfl
def NxAt(w:World)(B:Nat)(N:List Nat)(i:Nat):Prop:=w.heap[B]?=some (.cells (((N.take i).map fun(k:Nat)=>Value.int .i64 (k:Int))++List.replicate (N.length-i) (Value.int .i64 0)).toArray 3 (0,0))
theorem NxAt.cell{w:World}{B:Nat}{N:List Nat}{i:Nat}(h:NxAt w B N i)(hi:i<N.length):w.cell? ⟨B,i,none⟩=some (.int .i64 0):=by
 rw[ah h];have h1:((N.take i).map fun(k:Nat)=>Value.int .i64 (k:Int)).length=i:=by rw[List.length_map,List.length_take];omega
 simp only[List.getElem?_toArray];rw[List.getElem?_append_right (by omega),h1,Nat.sub_self,List.getElem?_replicate,if_pos (by omega)]
theorem NxAt.f{w:World}{B:Nat}{N:List Nat}{i:Nat}(h:NxAt w B N i)(j:Nat):w.frozen? ⟨B,j,none⟩=false:=Lib.frozen_of_heap h j
theorem NxAt.grow{w w':World}{B:Nat}{N:List Nat}{i:Nat}(h:NxAt w B N i)(hg:w.grownBy w' none):NxAt w' B N i:=by
 unfold NxAt at h ⊢;rw[hg.block B ((aB h)) (by simp)];exact h
theorem NxAt.set{w:World}{B:Nat}{N:List Nat}{i:Nat}(h:NxAt w B N i)(hi:i<N.length){k:Nat}(hk:N[i]=k):NxAt (w.setCell ⟨B,i,none⟩ (.int .i64 (k:Int))) B N (i+1):=by
 unfold NxAt at h ⊢;simp only[World.setCell,Array.getElem?_modify,h,if_true,Option.map_some];congr 2;apply Array.ext';simp only[Option.isSome_none,Bool.false_eq_true,if_false];rw[Array.toList_setIfInBounds];have h1:((N.take i).map fun(k:Nat)=>Value.int .i64 (k:Int)).length=i:=by rw[List.length_map,List.length_take];omega
 have h2:N.length-i=(N.length-(i+1))+1:=by omega
 simp only[];rw[List.set_append_right _ _ (by omega),h1,Nat.sub_self,h2,List.replicate_succ,List.set_cons_zero,List.take_succ_eq_append_getElem hi,List.map_append,List.append_assoc,hk];rfl
theorem RP{w wa wb:World}{row:Option Nat}(h:w.grownBy wa none)(hg:wa.grownBy wb row)(hr:∀q,row=some q->w.heap.size<=q):w.grownBy wb none :=
 ⟨hg.os.trans h.os,hg.tape.trans h.tape,hg.output.trans h.output,Nat.le_trans h.size hg.size,fun k hk hn=>(hg.block k (Nat.lt_of_lt_of_le hk h.size) (fun e=>by have:=hr k e.symm;omega)).trans (h.block k hk hn)⟩
def abG(M:List It)(w:World)(e:Ending)(w':World):Prop:=∃(B:Nat) (E:List It),e=.returned (.slice (some ⟨B,0,none⟩) E.length E.length)/\w.heap.size<=B/\NxAt w' B (E.map (·.k)) E.length/\w.grownBy w' none/\E.Perm M/\E.Pairwise (fun a b=>0<=yj b a)
theorem abH(sl:Value)(L:List Re)(name:ByteArray)(w:World)(h:ReS w sl L)(hL:L.length<=1048576)(hV:∀x∈L,x.ve.size<2 ^ 62) :
  Calls prog 57 #[sl,.string name] w (abG (gZ name L 0) w):=by
 have CI:=ae (Qs sl L name w h hL hV);have rQ:=ae (Nat.le_trans (Di name L 0) hL);have zX:=ae (fun x (hx:x∈gZ name L 0)=>(JF name L 0 x hx).1);obtain⟨o0,n0,c0,rfl⟩:∃o n c,sl=.slice o n c:=by
  rcases h with⟨rfl,-⟩|⟨a,cap,rfl,-⟩
  ·exact⟨_,_,_,rfl⟩
  ·exact⟨_,_,_,rfl⟩
 obtain⟨M,hM⟩:=zN (gZ name L 0);rw[hM]at CI rQ zX ⊢;clear h hM hV;go_enter func57,ntmps57;go_wp2_with (go_at_call 82;refine CI.o.mono ?_);rintro e w1 ⟨vs,rfl,ho,hb⟩;have CS:=ae (abC vs M w.heap.size w1 ho (by have:=rQ.o;omega) zX.o);have HO:=ae ho;obtain⟨ov,cv,rfl,-⟩:=J7 (JE ho);have HG:=ae (oh hb);clear ho hb;go_wp2_with (first|(go_at_call 83;refine CS.o.mono ?_));rintro e w2 ⟨rfl,E,hp,hso,hrow,hg⟩;have Ko:=hp.length_eq;have HE:Hd (E.Perm M/\E.Pairwise (fun a b=>0<=yj b a)):=⟨hp,hso⟩;replace HG:=ae (RP HG.o hg (fun q hq=>(HO.o.lt q hq).1));have Kq:Hd (E.length<=1048576):=by rw[Ko];exact rQ.o
 have hits:=JE hrow;rw[<-Ko]at hits ⊢;have HIT:=ae hits;have hov:∀i,i<E.length->∃a,ov=some a/\E.length<=cv:=by
  obtain⟨ov',cv',abI,hov⟩:=J7 hits
  cases abI
  exact hov
 clear hp hso hrow hg Ko hits HO CS CI rQ zX;obtain⟨N,hN⟩:=zN (E.map (·.k));have HN:=ae hN;have hNl:N.length=E.length:=by rw[<-hN];simp
 have o5:=ae hNl;have hmk:=run_make_row' (P:=prog) 25 3 (.int .i64 0) 8 underlying25 abD rfl .i64 .i64 E.length (by have:=Kq.o;omega) (by have:=Kq.o;omega);clear hN hNl;go_wp2;obtain⟨B,hB⟩:=zN (w2.heap.size);obtain⟨W1,hW1⟩:=zN (w2.alloc (.cells (madeCells #[.int .i64 0] E.length) 3));have HX0:Hd (NxAt W1 B N 0):=by
  show W1.heap[B]?=_;rw[<-hW1,<-hB,heap_alloc_new w2,abE];congr 2;apply Array.ext';have:=o5.o;simp[List.map_const',this]
 have bT:Hd (w2.grownBy W1 none):=by show w2.grownBy W1 none;rw[<-hW1];exact aj (ak w2 none) _
 have HB:Hd (w2.heap.size<=B):=by show _<=_;omega
 have Kr:=ae (Nat.le_trans HG.o.size HB.o)
 try rw[hW1]
 try rw[hB]
 clear hW1 hB hmk;go_loopw [19] (fun vi wk=>∃i:Nat,vi=.int .i64 i/\i<=E.length/\NxAt wk B N i/\w2.grownBy wk none) (fun vi _=>E.length-(intOf vi).toNat)
 case atStart=>exact⟨0,rfl,Nat.zero_le _,HX0.o,bT.o⟩
 case round =>
  obtain⟨i,rfl,hi,htx,hgk⟩:=hrel;have HX:=ae htx;have jY:=ae hgk;clear htx hgk;have hml:=Kq.o
  by_cases hlt:i<E.length
  ·obtain⟨a,rfl,hcv⟩:=hov i hlt;obtain⟨x,hx⟩:=zN (E[i]);have hat:ItAt wr (a.add (i*6)) x:=by
    rcases HIT.o with⟨e,-⟩|⟨a',cap',e,-,h3⟩
    ·cases e
    ·cases e
     rw[<-hx];exact(h3 i hlt).grow jY.o
   have HS:Hd (∀h:i<N.length,N[i]=x.k):=fun h=>by
    have e:=HN.o;subst e;rw[List.getElem_map,hx]
   obtain⟨xk,⟨z1,z2,z3,z4,z5⟩⟩:=x;obtain⟨e0,e1,e2,e3,e4,e5⟩:=hat;simp only[]at e0 e1 e2 e3 e4 e5;have Kt:i<N.length:=by have:=o5.o;omega
   have dW:=ae Kt;have gA:=aj (ak wr none) (.cells #[.int .i64 (xk:Int),.int .i64 z1,.int .i64 z2,.int .i64 z3,.string ⟨z4.toArray⟩,.string ⟨z5.toArray⟩] 147);have hc:=(HX.o.grow gA).cell Kt;have hf:=(HX.o.grow gA).f i;clear hx gA Kt;go_wp2;exact⟨⟨i+1,by go_num,by omega,(HX.o.grow (aj (ak wr none) _)).set dW.o (HS.o dW.o),RP (ag jY.o (aj (ak wr none) _)) (aW (ak _ (some B)) _ _) (fun q hq=>by injection hq with hq;have:=HB.o;omega)⟩,by simp[intOf];omega⟩
  ·have hil:i=E.length:=by omega
   have HXF:Hd (NxAt wr B (E.map (·.k)) E.length):=by
    show NxAt _ _ _ _;rw[HN.o,<-hil];exact HX.o
   clear hil hi;go_wp2;refine bodyPost_ret (results_tmp (t:=4) rfl _ _ _) rfl ⟨B,E,rfl,Kr.o,HXF.o,ag HG.o jY.o,HE.o.1,HE.o.2⟩
open Go.RowKit Go.Maps Go.Joins
section
variable {B S M R0 p q k:Nat} {pv nv cm rv cv:Value} {f:Int} {A D A1 D1 A2 D2:Nat} {w wx wx':World} {ch:List Nat}
theorem abJ{w:World}{a b:Nat}{x y:Array Value}{t u:TypeId}(h:w.heap[a]?=some (.cells x t (0,0)))(h':w.heap[b]?=some (.cells y u (0,0)))(e:¬t=u):¬a=b:=by
 rintro rfl;rw[h]at h';injection h' with h'
 injection h' with _ h'
 exact e h'
theorem row_ne{w:World}{a:Nat}{x:Array Value}{t u:TypeId}{v:Value}{n:Nat}{xs:List Value}(h:w.heap[a]?=some (.cells x t (0,0)))(h':w.ownsRow B u 1 v n xs)(e:¬t=u){b:Nat}(hb:v.ownBlock=some b):¬b=a:=by
 rcases h'.2 with⟨e1,-⟩|⟨g',c',cur,e1,-,h2,-⟩
 ·rw[e1]at hb;cases hb
 ·rw[e1]at hb;obtain rfl:g'=b:=Option.some.inj hb;exact fun h3=>abJ h h2 e h3.symm
theorem qK{w:World}{u:TypeId}{v:Value}{n:Nat}{xs:List Value}(h':w.ownsRow B u 1 v n xs){b:Nat}(hb:v.ownBlock=some b):B<=b/\b<w.heap.size:=by
 rcases h'.2 with⟨e1,-⟩|⟨g',c',cur,e1,h1,h2,-⟩
 ·rw[e1]at hb;cases hb
 ·rw[e1]at hb;obtain rfl:g'=b:=Option.some.inj hb;exact⟨h1,(aB h2)⟩
theorem Cs.st(h:Cs B S M R0 p q k pv nv cm rv f A D A1 D1 cv w ch wx)(hSR:S<R0)(hp:R0+1<=p)(hq:R0+1<=q)(f2:Fx (fun b=>b=S) wx wx')(s:∀cv',Sb wx S pv nv cm rv (.map (some M)) cv' f A1 D1->Sb wx' S pv nv cm rv (.map (some M)) cv' f A2 D2):Cs B S M R0 p q k pv nv cm rv f A D A2 D2 cv w ch wx':=by
 obtain⟨g,cap,y1,y2,y3,y4,y5,y6,y7,y8⟩:=h;exact⟨g,cap,s _ y1,jo y2 f2 (fun b hb=>row_ne y1 y2 (by decide) hb),y3.trans (f2.mono fun b hb=>Or.inl hb),f2.cell y4 (by omega),f2.cell y5 (by omega),f2.cell y6 (by omega),Nat.le_trans y7 f2.size,y8⟩
end
def Xb(B S M b:Nat):Prop:=b=S\/b=M\/B<=b
def Xr(S M:Nat)(rv cv:Value)(b:Nat):Prop:=b=S\/b=M\/rv.ownBlock=some b\/cv.ownBlock=some b
def RQ(B S M k:Nat)(pv nv cm rv cv:Value)(f:Int)(A D A' D':Nat)(row row':List ByteArray)(ch:List Nat)(w:World)(e:Ending)(w':World):Prop:=∃(b0 b1 b2 b3 bs bl g cc:Nat) (rv':Value),e=.returned (.func (.func 64) #[] #[.pointer (some ⟨b0,0,none⟩),.pointer (some ⟨b1,0,none⟩),.pointer (some ⟨b2,0,none⟩),.pointer (some ⟨b3,0,none⟩)]) ∧
 (w'.cell? ⟨b0,0,none⟩=some (.func (.func 63) #[] #[.pointer (some ⟨bs,0,none⟩),.pointer (some ⟨bl,0,none⟩)])/\w'.cell? ⟨b1,0,none⟩=some (.pointer (some ⟨S,0,none⟩))/\w'.cell? ⟨b2,0,none⟩=some (.int .u64 (A:Int))/\w'.cell? ⟨b3,0,none⟩=some (.int .u64 (D:Int))/\w'.cell? ⟨bs,0,none⟩=some (.pointer (some ⟨S,0,none⟩))/\w'.cell? ⟨bl,0,none⟩=some (.int .i64 (row.length:Int))) ∧
 (∀b,b=b0\/b=b1\/b=b2\/b=b3\/b=bs\/b=bl->w.heap.size<=b/\rv'.ownBlock≠some b/\g≠b) ∧
 Sb w' S pv nv cm rv' (.map (some M)) (.slice (some ⟨g,0,none⟩) (ch.length+1) cc) f A' D'/\w'.ownsRow B 9 1 rv' row'.length (row'.map .string)/\w'.ownsRow B 3 1 (.slice (some ⟨g,0,none⟩) (ch.length+1) cc) (ch.length+1) ((ch++[k]).map fun(j:Nat)=>Value.int .i64 (j:Int))/\InR w' M row'/\Fx (Xr S M rv cv) w w'/\(∀g',rv'.ownBlock=some g'->rv.ownBlock=some g'\/w.heap.size<=g')/\(cv.ownBlock=some g\/w.heap.size<=g)
def Ku(B S M:Nat)(pv nv cm rv cv:Value)(f:Int)(A D:Nat)(row row':List ByteArray)(bs bl:Nat)(rv':Value)(w w':World):Prop:=(w.heap.size<=bs/\w.heap.size<=bl/\w'.cell? ⟨bs,0,none⟩=some (.pointer (some ⟨S,0,none⟩))/\w'.cell? ⟨bl,0,none⟩=some (.int .i64 (row.length:Int))/\rv'.ownBlock≠some bs/\rv'.ownBlock≠some bl)/\Sb w' S pv nv cm rv' (.map (some M)) cv f A D/\w'.ownsRow B 9 1 rv' row'.length (row'.map .string)/\InR w' M row'/\Fx (Lx S M rv) w w'/\(∀g,rv'.ownBlock=some g->rv.ownBlock=some g\/w.heap.size<=g)
theorem RU{w:World}{B t u n m:Nat}{v v':Value}{xs ys:List Value}(h:w.ownsRow B t 1 v n xs)(h':w.ownsRow B u 1 v' m ys)(e:¬t=u){b:Nat}(hb:v.ownBlock=some b):¬v'.ownBlock=some b:=by
 rcases h.2 with⟨e1,-⟩|⟨g',c',cur,e1,-,h2,-⟩
 ·rw[e1]at hb;cases hb
 ·rw[e1]at hb;obtain rfl:g'=b:=Option.some.inj hb;exact fun h3=>row_ne h2 h' e h3 rfl
theorem Kv{w:World}{B M u n:Nat}{row:List ByteArray}{v:Value}{xs:List Value}(h:InR w M row)(h':w.ownsRow B u 1 v n xs):¬v.ownBlock=some M:=by
 intro hb
 rcases h'.2 with⟨e1,-⟩|⟨g',c',cur,e1,-,h2,-⟩
 ·rw[e1]at hb;cases hb
 ·rw[e1]at hb;obtain rfl:g'=M:=Option.some.inj hb;obtain⟨D',⟨es,cl,h1,-⟩,-⟩:=h;rw[h1]at h2
  cases h2
theorem abK{B S M R0 p q k b0 bs bl:Nat}{pv nv cm rv cv rv':Value}{f:Int}{A D A' D':Nat}{row row':List ByteArray}{ch:List Nat}{w wc wz w5 w':World}{g cap:Nat}(hw:w.heap.size=R0)(hr:w.ownsRow B 9 1 rv row.length (row.map .string))(hin:InR w M row)(hcv:w.ownsRow B 3 1 cv ch.length (ch.map fun(j:Nat)=>Value.int .i64 (j:Int)))(hS:S<R0)
  (hp:R0+1<=p/\p<R0+3) (hq:R0+1<=q/\q<R0+3)
  (y1:Sb wc S pv nv cm rv (.map (some M)) (.slice (some ⟨g,0,none⟩) (ch.length+1) cap) f A' D') (hr':wc.ownsRow B 9 1 rv row.length (row.map .string)) (hin':InR wc M row) (y2:wc.ownsRow B 3 1 (.slice (some ⟨g,0,none⟩) (ch.length+1) cap) (ch.length+1) ((ch++[k]).map fun(j:Nat)=>Value.int .i64 (j:Int))) (y3:Fx (fun b=>b=S\/cv.ownBlock=some b) w wc) (y4:wc.cell? ⟨R0,0,none⟩=some (.pointer (some ⟨S,0,none⟩))) (y5:wc.cell? ⟨p,0,none⟩=some (.int .u64 (A:Int))) (y6:wc.cell? ⟨q,0,none⟩=some (.int .u64 (D:Int))) (y7:R0+3<=wc.heap.size) (y8:cv.ownBlock=some g\/R0+3<=g)
  (fz:Fx (fun _=>False) wc wz) (l:Ku B S M pv nv cm rv (.slice (some ⟨g,0,none⟩) (ch.length+1) cap) f A' D' row row' bs bl rv' wz w5)
  (fw:Fx (fun b=>b=b0) w5 w') (hb0:w'.cell? ⟨b0,0,none⟩=some (.func (.func 63) #[] #[.pointer (some ⟨bs,0,none⟩),.pointer (some ⟨bl,0,none⟩)])) (h0:(wc.heap.size<=b0/\b0<wz.heap.size)\/b0=w5.heap.size) :
  RQ B S M k pv nv cm rv cv f A D A' D' row row' ch w (.returned (.func (.func 64) #[] #[.pointer (some ⟨b0,0,none⟩),.pointer (some ⟨R0,0,none⟩),.pointer (some ⟨p,0,none⟩),.pointer (some ⟨q,0,none⟩)])) w':=by
 obtain⟨⟨l1,l2,l3,l4,l5,l6⟩,m1,m2,m3,m4,m5⟩:=l;have s1:=fz.size;have s2:=m4.size;have hM:M<R0:=by
  obtain⟨D',hD',-⟩:=hin;have:=hD'.lt;omega
 have hbs:bs<w5.heap.size:=ui l3;have hbl:bl<w5.heap.size:=ui l4;have hgl:=(qK (b:=g) y2 rfl).2;have hrl:=fun b (hb:rv.ownBlock=some b)=>hw ▸ (qK hr hb).2
 have hcl:=fun b (hb:cv.ownBlock=some b)=>hw ▸ (qK hcv hb).2
 have hgR:=y8.imp (hcl g) id;have hrr:∀b,rv'.ownBlock=some b->b<R0\/(wz.heap.size<=b/\b<w5.heap.size):=fun b hb=>(m5 b hb).imp (hrl b) (fun h=>⟨h,(qK m2 hb).2⟩)
 have kL:∀b,R0<=b->b<wz.heap.size->¬Lx S M rv b:=fun b h1 h2=>by
  rintro(rfl|rfl|h)
  ·omega
  ·omega
  ·have:=hrl b h;omega
 have c3:∀{b:Nat} {v:Value},R0<=b->b<R0+3->wc.cell? ⟨b,0,none⟩=some v->w'.cell? ⟨b,0,none⟩=some v:=fun {b v} h1 h2 hv=>fw.cell (m4.cell (fz.cell hv (fun h=>h)) (kL b h1 (by omega))) (by omega)
 have fgM:¬Lx S M rv g:=by
  rintro(h|h|h)
  ·exact row_ne y1 y2 (by decide) rfl h
  ·exact Kv hin' y2 (congrArg some h)
  ·exact RU hr' y2 (by decide) h rfl
 have abL:¬g=b0:=by omega
 have RX:∀b,rv'.ownBlock=some b->¬b=b0:=fun b hb=>by have:=hrr b hb;omega
 refine⟨b0,R0,p,q,bs,bl,g,cap,rv',rfl,⟨hb0,c3 (Nat.le_refl _) (by omega) y4,c3 (by omega) (by omega) y5,c3 (by omega) (by omega) y6,fw.cell l3 (by omega),fw.cell l4 (by omega)⟩,?_,m1.fx fw (by omega),jo m2 fw RX,?_,m3.fx fw (by omega),?_,fun g' hg'=>(m5 g' hg').imp id (fun h=>by omega),y8.imp id (fun h=>by omega)⟩
 ·rintro b hb;refine⟨by omega,fun e=>?_,by omega⟩
  rcases hb with rfl|rfl|rfl|rfl|rfl|rfl
  ·exact RX _ e rfl
  ·have:=hrr _ e;omega
  ·have:=hrr _ e;omega
  ·have:=hrr _ e;omega
  ·exact l5 e
  ·exact l6 e
 ·exact jo (jo (jo y2 fz (fun _ _ h=>h)) m4 (fun b hb=>by obtain rfl:g=b:=Option.some.inj hb;exact fgM)) fw (fun b hb=>by obtain rfl:g=b:=Option.some.inj hb;exact abL)
 ·refine⟨(fw.os.trans (m4.os.trans fz.os)).trans y3.os,(fw.tape.trans (m4.tape.trans fz.tape)).trans y3.tape,(fw.output.trans (m4.output.trans fz.output)).trans y3.output,?_,fun b hb hn=>?_⟩
  ·have:=fw.size;have:=y3.size;omega
  ·have:=y3.size;rw[fw.block b (by omega) (by omega),m4.block b (by omega) (fun h=>hn (h.elim Or.inl fun h=>h.elim (fun e=>Or.inr (Or.inl e)) fun e=>Or.inr (Or.inr (Or.inl e)))),fz.block b (by omega) (fun h=>h),y3.block b hb (fun h=>hn (h.elim Or.inl fun e=>Or.inr (Or.inr (Or.inr e))))]
theorem abM(B S M k ng nl ncc ncp:Nat)(po co:Option Addr)(na:Addr)(pc cc:Nat)(cm rv:Value)(f:Int)(A D:Nat)(P:List Pl)(row ns:List ByteArray)(ch:List Nat)(w:World)(h:Sb w S (.slice po P.length pc) (.slice (some na) nl ncp) cm rv (.map (some M)) (.slice co ch.length cc) f A D)
  (hro:∀w',Fx (Xb B S M) w w'->PlS w' (.slice po P.length pc) P/\w'.cell? (na.add k)=some (.slice (some ⟨ng,0,none⟩) ns.length ncc)/\∀i (hi:i<ns.length),w'.cell? ⟨ng,i,none⟩=some (.string ns[i])) (wC:¬Xb B S M ng) (hkn:k<nl) (hnl:nl<=ncp) (hncc:ns.length<=ncc) (hk:k<P.length) (hP:P.length<=64) (hA:A<18446744073709551616) (hD:D<18446744073709551616) (hb:P[k].bar<18446744073709551616) (hr:w.ownsRow B 9 1 rv row.length (row.map .string)) (hin:InR w M row) (hSM:¬S=M) (hc:w.ownsRow B 3 1 (.slice co ch.length cc) ch.length (ch.map fun(j:Nat)=>Value.int .i64 (j:Int))) (hcl:ch.length<=64) (hB:B<=w.heap.size) (hz:∀x∈ns,x.size<=maxLen) (hR:row.length+ns.length<=1048576) :
  Calls prog 35 #[.pointer (some ⟨S,0,none⟩),.int .i64 k] w (RQ B S M k (.slice po P.length pc) (.slice (some na) nl ncp) cm rv (.slice co ch.length cc) f A D (A ||| 2 ^ k) (D ||| P[k].bar) row (ed row ns) ch w):=by
 obtain⟨⟨c0,c1,-⟩,⟨c4,c5,c6⟩,c7,c8⟩:=h.cells;have z6:=h.fz 6;have z7:=h.fz 7;have z8:=h.fz 8;obtain⟨R0,hR0⟩:=zN w.heap.size;have HR0:=ae hR0;obtain⟨W1,hW1⟩:=zN (w.alloc (.cells #[.pointer (some ⟨S,0,none⟩)] 44));have hg1:w.grownBy W1 none:=by rw[<-hW1];exact aj (ak w none) _
 have hs1:W1.heap.size=R0+1:=by rw[<-hW1,World.size_alloc,hR0]
 have hb1:W1.heap[R0]?=some (.cells #[.pointer (some ⟨S,0,none⟩)] 44 (0,0)):=by rw[<-hW1,<-hR0];exact heap_alloc_new w _
 have b0:W1.cell? ⟨R0,0,none⟩=some (.pointer (some ⟨S,0,none⟩)):=by rw[ah hb1];rfl
 have d7:=hg1.cell c7 (by simp);have d8:=hg1.cell c8 (by simp);have HS:=ae h;obtain⟨b,hb'⟩:=zN (P[k].bar);rw[hb']at hb ⊢;have nU:=ae hb';have Aa:=ae hro;have HNG:=ae wC;have HRW:=ae (And.intro hr (And.intro hin hz));have pI:Hd (∀wx,Fx (fun b=>b=S\/(Value.slice co ch.length cc).ownBlock=some b) w wx->Fx (Xb B S M) w wx):=fun wx hx=>hx.mono fun b hb=>hb.elim Or.inl (fun e=>Or.inr (Or.inr (qK hc e).1))
 have hSR:S<R0:=by rw[<-hR0];exact(aB h)
 have TB:=ae (QF W1 hs1 (.int .u64 (A:Int)) (.int .u64 (D:Int)) 64);have TC:=ae (QF W1 hs1 (.int .u64 (D:Int)) (.int .u64 (A:Int)) 64);clear h hro wC hr hin hz hb';go_enter func35,ntmps35;go_wp2
 go_cut [5,6] from 8 (fun v5 v6 wx=>∃p q,v5=.pointer (some ⟨p,0,none⟩)/\v6=.pointer (some ⟨q,0,none⟩)/\¬p=q/\R0+1<=p/\R0+1<=q/\wx.cell? ⟨p,0,none⟩=some (.int .u64 (A:Int))/\wx.cell? ⟨q,0,none⟩=some (.int .u64 (D:Int))/\W1.grownBy wx none/\R0+3<=wx.heap.size/\p<R0+3/\q<R0+3)
 case first =>
  go_region_held3 (fun u=>u.cell? ⟨R0,0,none⟩=some (.pointer (some ⟨S,0,none⟩))/\u.cell? ⟨S,7,none⟩=some (.int .u64 (A:Int))/\u.cell? ⟨S,8,none⟩=some (.int .u64 (D:Int))) ((first|assumption|go_keep)) (fail)
  all_goals (go_wp2_with fail;go_meet;first|exact⟨R0+1,R0+1+1,rfl,rfl,by omega,by omega,by omega,TB.o.1,TB.o.2.1,nz TB.o.2.2.1,Nat.le_of_eq TB.o.2.2.2.symm,by omega,by omega⟩|exact⟨R0+1+1,R0+1,rfl,rfl,by omega,by omega,by omega,TC.o.2.1,TC.o.1,nz TC.o.2.2.1,Nat.le_of_eq TC.o.2.2.2.symm,by omega,by omega⟩)
 case rest =>
  obtain⟨p,q,rfl,rfl,hpq,hp1,hq1,m1,m2,hgc,hsc,hp3,hq3⟩:=hcut;have hgw:=ag hg1 hgc;have x0:=hgc.cell b0 (by simp);have x6:=hgw.cell c6 (by simp);obtain⟨i0,hi0,hii⟩:=Option.map_eq_some_iff.1 FU;simp only[Prod.mk.injEq]at hii;obtain⟨hz0,hz1,hzb⟩:=hii;have hfc:Fx (fun _=>False) w wc:=(Fx.refl _ w).gb hgw (fun b e=>by cases e);have hrow:=jo hc hfc (fun _ _ h=>h);have wu:=ae (HS.o.fx hfc (fun h=>h));have bT:=ae hgw;have HGC:=ae hgc;have HM:=ae (And.intro m1 m2);have di:∀b,(Value.slice co ch.length cc).ownBlock=some b->¬b=S/\b<R0:=fun b hb=>by
   rcases hc.2 with⟨e,-⟩|⟨g',c',cur,e,-,h2,-⟩
   ·rw[e]at hb;cases hb
   ·rw[e]at hb;obtain rfl:g'=b:=Option.some.inj hb;refine⟨fun e=>?_,by rw[<-HR0.o];exact(aB h2)⟩;have h3:w.heap[S]?=_:=HS.o;rw[e,h3]at h2;injection h2 with h2
    injection h2 with _ h2
    exact absurd h2 (by decide)
  have zS:Hd (some S≠(Value.slice co ch.length cc).ownBlock):=fun e=>(di S e.symm).1 rfl
  have JQ:Hd (some R0≠(Value.slice co ch.length cc).ownBlock):=fun e=>by have:=(di R0 e.symm).2;omega
  have lW:=ae di;obtain⟨K,hK⟩:=zN (wc.heap.size);have JR:Hd ((wc.drew.alloc (.cells #[.int .i64 (k:Int)] 3)).heap[K]?=some (.cells #[.int .i64 (k:Int)] 3 (0,0))):=by
   have:=heap_alloc_new wc.drew (.cells #[.int .i64 (k:Int)] 3);rw[show wc.drew.heap.size=K from hK]at this;exact this
  have Z4:B<=K:=by omega
  have hone:∀u∈([.int .i64 (k:Int)]:List Value),u.oneCell'=true:=by simp[Value.oneCell']
  have f6A:=(World.grownBy_alloc wc (.cells #[.int .i64 (k:Int)] 3) none).cell x6 (by simp);have f0A:=(World.grownBy_alloc wc (.cells #[.int .i64 (k:Int)] 3) none).cell x0 (by simp);obtain⟨ys,hys⟩:∃ys:List Value,(ch.map fun(j:Nat)=>Value.int .i64 (j:Int))=ys:=⟨_,rfl⟩;have JS:=ae hys;rw[hys]at hrow;clear hys di hfc m1 m2 hgc hgw c0 c1 c4 c5 c6 c7 c8 d7 d8;go_wp2
  go_cut [] from 8 (Cs B S M R0 p q k (.slice po P.length pc) (.slice (some na) nl ncp) cm rv f A D A D (.slice co ch.length cc) w ch)
  case first =>
   go_region_law (refine step_append_lies _ (by rfl) _ _ _ (by rfl) B 3 i0 _ 1 8 underlying25 hi0 hz0 hz1 hzb (by rfl) (by decide) (.slice co ch.length cc) ch.length ys (by rfl) (hrow.drew.alloc _) ⟨K,0,none⟩ 1 1 [.int .i64 (k:Int)] (by rfl) (by rfl) (World.news_of_block JR.o) hone (by omega) (by unfold maxLen;omega) (by omega) (by simp;omega) _ rfl ?_;intro g cap w3 hown3 hgrow hat hlt3;have hc3:=hgrow.cell f6A zS.o;have hc0:=hgrow.cell f0A JQ.o;have Z5:=Lib.frozen_of_heap ((hgrow.block S (Nat.lt_of_lt_of_le (aB wu.o) (World.grownBy_alloc wc (.cells #[.int .i64 (k:Int)] 3) none).size) zS.o).trans (((World.grownBy_alloc wc (.cells #[.int .i64 (k:Int)] 3) none).block S (aB wu.o) (by simp)).trans wu.o)) 6)
   all_goals (go_wp2_with fail;go_meet;exact Z7 HR0.o wu.o bT.o x0 HM.o.1 HM.o.2 hp1 hq1 hsc hSR lW.o (by rw[JS.o];exact hown3) hgrow hat)
  case rest =>
   have HC:=ae hcut;obtain⟨g,cap,y1,y2,y3,y4,y5,y6,y7,y8⟩:=hcut;obtain⟨-,-,c7,c8⟩:=y1.cells;have z7':=y1.fz 7;have CO:=ae (fun w=>Fa k (by omega) w);have hor:=bits_or_u64_nat A (2 ^ k) hA (og (by omega));obtain⟨E2,hE2⟩:∃X:Int,((2 ^ k:Nat):Int)=X:=⟨_,rfl⟩;obtain⟨A2,hA2⟩:∃X:Int,((A ||| 2 ^ k:Nat):Int)=X:=⟨_,rfl⟩;rw[hE2]at CO hor;rw[hA2]at hor;have HA2:=ae hA2;clear y1 y2 y3 y5 y6 y7 y8 hE2 hA2 x0 x6 f6A f0A hrow;go_wp2
   go_cut [] from 8 (Cs B S M R0 p q k (.slice po P.length pc) (.slice (some na) nl ncp) cm rv f A D (A ||| 2 ^ k) D (.slice co ch.length cc) w ch)
   case first =>
    go_region_with (first|(go_at_call 48;refine(CO.o _).mono ?_;rintro e w' ⟨rfl,rfl⟩))
    all_goals (go_wp2_with fail;go_meet;rw[<-HA2.o];exact HC.o.st hSR hp1 hq1 ((Fx.refl (fun b=>b=S) _).set (Or.inl rfl) _ _).drew (fun _ s=>s.setA _))
   case rest =>
    have HC:=ae hcut;obtain⟨g,cap,y1,y2,y3,y4,y5,y6,y7,y8⟩:=hcut;obtain⟨⟨c0,-⟩,-,c7,c8⟩:=y1.cells;have z8':=y1.fz 8;obtain⟨a,rfl,hcap,hat⟩:=Fq (Aa.o _ (pI.o _ y3)).1 hk;obtain⟨e0,e1,-⟩:=hat k hk;rw[nU.o]at e1;have hor2:=bits_or_u64_nat D b hD hb;obtain⟨D2,hD2⟩:∃X:Int,((D ||| b:Nat):Int)=X:=⟨_,rfl⟩;rw[hD2]at hor2;have HD2:=ae hD2;have hkc:k<pc:=by omega
    clear y1 y2 y3 y5 y6 y7 y8 hD2 hat;go_wp2
    go_cut [] from 8 (Cs B S M R0 p q k (.slice (some a) P.length pc) (.slice (some na) nl ncp) cm rv f A D (A ||| 2 ^ k) (D ||| b) (.slice co ch.length cc) w ch)
    case first =>
     go_region_law (fail)
     all_goals (go_wp2_with fail;go_meet;rw[<-HD2.o];exact HC.o.st hSR hp1 hq1 ((Fx.refl (fun b=>b=S) _).set (Or.inl rfl) _ _).drew (fun _ s=>s.setD _))
    case rest =>
     obtain⟨g,cap,y1,y2,y3,y4,y5,y6,y7,y8⟩:=hcut;obtain⟨⟨-,c1,-⟩,-⟩:=y1.cells;obtain⟨hr,hin,hz⟩:=HRW.o;have FB:=pI.o _ y3;obtain⟨-,n0,n1⟩:=Aa.o _ FB;have Dj:¬Lx S M rv ng:=fun hh=>HNG.o (hh.elim Or.inl fun hh=>hh.elim (fun e=>Or.inr (Or.inl e)) fun e=>Or.inr (Or.inr (qK hr e).1))
     have hr':=jo hr y3 (fun g' hg' hh=>hh.elim (row_ne HS.o hr (by decide) hg') (RU hr hc (by decide) hg'));have hin':=hin.fx y3 (fun hh=>hh.elim (fun e=>hSM e.symm) (Kv hin hc));have CL:Hd (∀wz,Fx (fun _=>False) wc wz->Calls prog 32 #[.pointer (some ⟨S,0,none⟩),.slice (some ⟨ng,0,none⟩) ns.length ncc] wz fun e w'=>∃bs bl rv',e=.returned (.func (.func 63) #[] #[.pointer (some ⟨bs,0,none⟩),.pointer (some ⟨bl,0,none⟩)])/\Hd (Ku B S M (.slice (some a) P.length pc) (.slice (some na) nl ncp) cm rv (.slice (some ⟨g,0,none⟩) (ch.length+1) cap) f (A ||| 2 ^ k) (D ||| b) row (ed row ns) bs bl rv' wz w')):=fun wz hx =>
      QB B S M ng ncc _ _ cm rv _ f _ _ row ns wz (y1.fx hx (fun h=>h)) (jo hr' hx (fun _ _ h=>h)) (hin'.fx hx (fun h=>h)) hSM (Nat.le_trans hB (Nat.le_trans y3.size hx.size)) (fun i hi=>hx.cell (n1 i hi) (fun h=>h)) Dj hncc hz hR
     obtain⟨K,hK⟩:=zN (wc.heap.size);have hmf:∀(fn:Fn) (first cap:Array Value) (w:World),(Instr.makeFunc fn first cap).run prog w=.ok (.func fn first cap) w:=fun _ _ _ _=>rfl
     have afg:k<ncp:=by omega
     have HE:=ae (fun(wz w5 w':World) (bs bl b0:Nat) (rv':Value)=>abK (B:=B) (M:=M) (k:=k) (b0:=b0) (bs:=bs) (bl:=bl) (rv':=rv') (wz:=wz) (w5:=w5) (w':=w') (row':=ed row ns) HR0.o hr hin hc hSR ⟨hp1,hp3⟩ ⟨hq1,hq3⟩ y1 hr' hin' y2 y3 y4 y5 y6 y7 y8);have hxa:Fx (fun _=>False) wc wc.drew:=(Fx.refl _ wc).drew;have hxb:Fx (fun _=>False) wc (wc.drew.alloc (.cells #[.nilFunc] 1)):=hxa.gb (aj (ak _ none) _) (fun b e=>by cases e);have n0B:=(World.grownBy_alloc wc (.cells #[.nilFunc] 1) none).cell n0 (by simp);have c1B:=(World.grownBy_alloc wc (.cells #[.nilFunc] 1) none).cell c1 (by simp);have y4B:=(World.grownBy_alloc wc (.cells #[.nilFunc] 1) none).cell y4 (by simp);have jM:=ae hxa;have HXB:=ae hxb;have HKB:Hd (∀bs bl rv' w5,Ku B S M (.slice (some a) P.length pc) (.slice (some na) nl ncp) cm rv (.slice (some ⟨g,0,none⟩) (ch.length+1) cap) f (A ||| 2 ^ k) (D ||| b) row (ed row ns) bs bl rv' (wc.drew.alloc (.cells #[.nilFunc] 1)) w5->w5.heap[K]?=some (.cells #[.nilFunc] 1 (0,0))):=fun bs bl rv' w5 hl=>by
      have h1:=heap_alloc_new wc.drew (.cells #[.nilFunc] 1);rw[show wc.drew.heap.size=K from hK]at h1;obtain⟨-,-,-,-,m4,-⟩:=hl;refine(m4.block K (aB h1) ?_).trans h1;have JK:M<w.heap.size:=by
       obtain⟨D',hD',-⟩:=hin;exact hD'.lt
      have:=y3.size;rintro(h|h|h)
      ·omega
      ·omega
      ·have:=(qK hr h).2;omega
     clear y1 y2 y3 y5 y6 y7 y8 hr hin hz FB n1 Dj c0 c7 c8 hr' hin' hxa hxb;go_wp2;go_region_with (first|(go_at_call 32;refine(CL.o _ (by first|exact jM.o|exact HXB.o)).mono ?_;rintro e w5 ⟨bs,bl,rv',rfl,hl⟩;first|(have hkb:=HKB.o _ _ _ _ hl.o;have afh:w5.cell? ⟨K,0,none⟩=some .nilFunc:=(by rw[ah hkb];rfl);have hkf:=Lib.frozen_of_heap hkb 0)|(have hnb:=heap_alloc_new w5 (.cells #[.nilFunc] 1);have hna:(w5.alloc (.cells #[.nilFunc] 1)).cell? ⟨w5.heap.size,0,none⟩=some .nilFunc:=(by rw[ah hnb];rfl);have hnf:=Lib.frozen_of_heap hnb 0)))
     all_goals (go_wp2;go_ret;first|exact HE.o wc.drew w5 _ bs bl w5.heap.size rv' jM.o hl.o ((Fx.refl _ w5).gb (aj (ak w5 none) _) (fun b e=>by cases e)) (by rw[ah (heap_alloc_new w5 _)];rfl) (Or.inr rfl)|exact HE.o (wc.drew.alloc (.cells #[.nilFunc] 1)) w5 _ bs bl K rv' HXB.o hl.o ((Fx.refl (fun b=>b=K) w5).set (Or.inl rfl) _ _) (by rw[ah (block_setCell hkb _)];rfl) (Or.inl ⟨Nat.le_of_eq hK,by rw[World.size_alloc];exact Nat.lt_succ_of_le (Nat.le_of_eq hK.symm)⟩))
open Go.RowKit Go.Maps Go.Joins
structure Dy(B S M:Nat)(pv nv cm:Value)(row:List ByteArray)(ch:List Nat)(A D:Nat)(rv cv:Value)(f:Int)(w:World):Prop where
 sb:Sb w S pv nv cm rv (.map (some M)) cv f A D
 f0:0<=f
 f1:f<9223372036854775808
 rr:w.ownsRow B 9 1 rv row.length (row.map .string)
 cc:w.ownsRow B 3 1 cv ch.length (ch.map fun(j:Nat)=>Value.int .i64 (j:Int))
 ir:InR w M row
structure Ro(n:Nat)(P:List Pl)(NS:Nat->List ByteArray)(CD:ByteArray->Nat->Prop)(B S M nb Mc:Nat)(pv:Value)(w:World):Prop where
 pl:PlS w pv P
 nm:∀k,k<n->∃ng ncc,w.cell? ⟨nb,k,none⟩=some (.slice (some ⟨ng,0,none⟩) (NS k).length ncc)/\(NS k).length<=ncc/\¬Xb B S M ng/\∀i (hi:i<(NS k).length),w.cell? ⟨ng,i,none⟩=some (.string (NS k)[i])
 cd:∃q D,w.ownsMap prog 9 oD Mc q D/\∀x,∃v cs,oD v=some (D.atKey (kT x) Dl,[])/\(∀w',Fx (Xb B S M) w w'->IS w' v cs)/\cs.length<=64/\∀c∈cs,∃k:Nat,c=(k:Int)/\k<n/\CD x k
structure RY(n:Nat)(P:List Pl)(NS:Nat->List ByteArray)(CD:ByteArray->Nat->Prop)(I:List ByteArray->List Nat->Nat->Nat->Prop):Prop where
 few:∀{row ch A D},I row ch A D->ch.length<=n
 le:∀{row ch A D},I row ch A D->ch.length<=row.length
 nod:∀{row ch A D},I row ch A D->row.Nodup
 len:∀{row ch A D},I row ch A D->row.length<=1048000
 sz:∀{row ch A D},I row ch A D->∀x∈row,x.size<=maxLen
 a:∀{row ch A D},I row ch A D->A<18446744073709551616
 d:∀{row ch A D},I row ch A D->D<18446744073709551616
 nsl:∀k,k<n->(NS k).length<=64
 nsz:∀k,k<n->∀x∈NS k,x.size<=maxLen
 bar:∀k (hk:k<P.length),P[k].bar<18446744073709551616
 step:∀{row ch A D},I row ch A D->∀x k (hk:k<P.length),row[ch.length]?=some x->CD x k->(!(D ||| P[k].bar).testBit k && decide (P[k].bar &&& A=0))=true->I (ed row (NS k)) (ch++[k]) (A ||| 2 ^ k) (D ||| P[k].bar)
section
variable {B S M:Nat} {pv nv cm rv cv rv' cv':Value} {row:List ByteArray} {ch:List Nat} {A D:Nat} {f:Int} {w w' w'':World}
theorem Dy.fx(h:Dy B S M pv nv cm row ch A D rv cv f w){X:Nat->Prop}(hf:Fx X w w')(hS:¬X S)(hM:¬X M)(hr:∀g,rv.ownBlock=some g->¬X g)(hc:∀g,cv.ownBlock=some g->¬X g):Dy B S M pv nv cm row ch A D rv cv f w':=⟨h.sb.fx hf hS,h.f0,h.f1,jo h.rr hf hr,jo h.cc hf hc,h.ir.fx hf hM⟩
theorem Dy.grow(h:Dy B S M pv nv cm row ch A D rv cv f w)(hg:w.grownBy w' none):Dy B S M pv nv cm row ch A D rv cv f w':=h.fx ((Fx.refl (fun _=>False) w).gb hg (fun b e=>by cases e)) (fun h=>h) (fun h=>h) (fun _ _ h=>h) (fun _ _ h=>h)
theorem Dy.burn(h:Dy B S M pv nv cm row ch A D rv cv f w)(hf:0<f)(hSM:¬S=M):Dy B S M pv nv cm row ch A D rv cv (f-1) (w.setCell ⟨S,3,none⟩ (.int .i64 (f-1))):=by
 have f2:Fx (fun b=>b=S) w (w.setCell ⟨S,3,none⟩ (.int .i64 (f-1))):=(Fx.refl (fun b=>b=S) w).set (Or.inl rfl) _ _;have h1:=h.f1;exact⟨h.sb.setF _,by omega,by omega,jo h.rr f2 (fun g hg=>row_ne h.sb h.rr (by decide) hg),jo h.cc f2 (fun g hg=>row_ne h.sb h.cc (by decide) hg),h.ir.fx f2 (fun e=>hSM e.symm)⟩
theorem Dy.lt(h:Dy B S M pv nv cm row ch A D rv cv f w):S<w.heap.size/\M<w.heap.size:=by
 refine⟨(aB h.sb),?_⟩;obtain⟨D',hD',-⟩:=h.ir;exact hD'.lt
def FD(S M:Nat)(rv cv rv' cv':Value)(w w':World):Prop:=Fx (Xr S M rv cv) w w'/\(∀g,rv'.ownBlock=some g->rv.ownBlock=some g\/w.heap.size<=g)/\∀g,cv'.ownBlock=some g->cv.ownBlock=some g\/w.heap.size<=g
theorem FD.refl(S M:Nat)(rv cv:Value)(w:World):FD S M rv cv rv cv w w:=⟨Fx.refl _ w,fun _ h=>Or.inl h,fun _ h=>Or.inl h⟩
theorem FD.fx(h:FD S M rv cv rv' cv' w w')(hf:Fx (Xr S M rv' cv') w' w''):Fx (Xr S M rv cv) w w'':=by
 obtain⟨h1,h2,h3⟩:=h;refine⟨hf.os.trans h1.os,hf.tape.trans h1.tape,hf.output.trans h1.output,Nat.le_trans h1.size hf.size,fun b hb hn=>(hf.block b (Nat.lt_of_lt_of_le hb h1.size) ?_).trans (h1.block b hb hn)⟩;rintro(h|h|h|h)
 ·exact hn (Or.inl h)
 ·exact hn (Or.inr (Or.inl h))
 ·rcases h2 b h with h|h
  ·exact hn (Or.inr (Or.inr (Or.inl h)))
  ·omega
 ·rcases h3 b h with h|h
  ·exact hn (Or.inr (Or.inr (Or.inr h)))
  ·omega
theorem FD.trans{rv'' cv'':Value}(h:FD S M rv cv rv' cv' w w')(h':FD S M rv' cv' rv'' cv'' w' w''):FD S M rv cv rv'' cv'' w w'':=by
 have hs:=h.1.size;refine⟨h.fx h'.1,fun g hg=>?_,fun g hg=>?_⟩
 ·rcases h'.2.1 g hg with e|e
  ·exact h.2.1 g e
  ·exact Or.inr (by omega)
 ·rcases h'.2.2 g hg with e|e
  ·exact h.2.2 g e
  ·exact Or.inr (by omega)
theorem FD.sm(h:FD S M rv cv rv' cv' w w'){rv'' cv'':Value}(hf:Fx (fun b=>b=S\/b=M) w' w'')(hr:rv''.ownBlock=rv'.ownBlock)(hc:cv''.ownBlock=cv'.ownBlock):FD S M rv cv rv'' cv'' w w'' :=
 h.trans ⟨hf.mono (fun b hb=>hb.elim Or.inl fun e=>Or.inr (Or.inl e)),fun g hg=>Or.inl (hr ▸ hg),fun g hg=>Or.inl (hc ▸ hg)⟩
theorem FD.gb(h:FD S M rv cv rv' cv' w w')(hg:w'.grownBy w'' none):FD S M rv cv rv' cv' w w'':=h.sm ((Fx.refl _ w').gb hg (fun b e=>by cases e)) rfl rfl
theorem FD.xb(h:FD S M rv cv rv' cv' w w')(hy:Dy B S M pv nv cm row ch A D rv cv f w):Fx (Xb B S M) w w':=h.1.mono fun b hb=>by
 rcases hb with h|h|h|h
 ·exact Or.inl h
 ·exact Or.inr (Or.inl h)
 ·exact Or.inr (Or.inr (qK hy.rr h).1)
 ·exact Or.inr (Or.inr (qK hy.cc h).1)
theorem F8{w:World}{B n:Nat}{e:TypeId}{v:Value}{xs:List Value}(h:w.ownsRow B e 1 v n xs){i:Nat}(hi:i<n):∃g c,v=.slice (some ⟨g,0,none⟩) n c/\n<=c/\w.cell? ⟨g,i,none⟩=xs[i]?:=by
 rcases h.2 with⟨rfl,hn0⟩|⟨g,c,cur,rfl,hgB,hgb,hnc,hcm,hcs,hct⟩
 ·omega
 ·refine⟨g,c,rfl,hnc,?_⟩;rw[ah hgb,<-hct,List.getElem?_take,if_pos (by omega),Array.getElem?_toList]
theorem Dy.back{row':List ByteArray}{k:Nat}{A' D':Nat}{rv4 rv5:Value}{co:Option Addr}{cc:Nat}{w4 w5:World}(h:Dy B S M pv nv cm row' (ch++[k]) A' D' rv4 (.slice co (ch.length+1) cc) f w4)(hSM:¬S=M)(hp:row'.take row.length=row)(k1:Sb w5 S pv nv cm rv5 (.map (some M)) (.slice co ch.length cc) f A D)(k2:w5.ownsRow B 9 1 rv5 row.length ((row'.take row.length).map .string))(k3:InR w5 M (row'.take row.length))(k4:Fx (fun b=>b=S\/b=M) w4 w5):Dy B S M pv nv cm row ch A D rv5 (.slice co ch.length cc) f w5:=by
 rw[hp]at k2 k3;have hc:=h.cc;rw[List.length_append]at hc;obtain⟨g,c,e,h1,-⟩:=F8 hc (i:=0) (by simp)
 cases e
 refine⟨k1,h.f0,h.f1,k2,?_,k3⟩;have h2:=Qu (jo hc k4 (fun b hb hh=>hh.elim (row_ne h.sb hc (by decide) hb) (fun e=>Kv h.ir hc (e ▸ hb)))) (m:=ch.length) (by simp)
 rwa [List.map_append,List.take_left' (by simp)]at h2
def Kw(I:List ByteArray->List Nat->Nat->Nat->Prop)(B S M:Nat)(pv nv cm:Value)(row:List ByteArray)(ch:List Nat)(A D:Nat)(rv cv:Value)(w:World)(e:Ending)(w':World):Prop :=
 (e=JG/\Fx (Xr S M rv cv) w w')\/(e=.returned (.bool true)/\Fx (Xr S M rv cv) w w'/\∃row' ch' A' D' rv' cv' f',Dy B S M pv nv cm row' ch' A' D' rv' cv' f' w'/\I row' ch' A' D'/\ch'.length=row'.length)\/(e=.returned (.bool false)/\∃rv' cv' f',Dy B S M pv nv cm row ch A D rv' cv' f' w'/\FD S M rv cv rv' cv' w w')
theorem FD.post{I:List ByteArray->List Nat->Nat->Nat->Prop}{rv0 cv0:Value}{w0:World}{row0:List ByteArray}{ch0:List Nat}{A0 D0:Nat}{e:Ending}(h:FD S M rv0 cv0 rv cv w0 w)(hp:Kw I B S M pv nv cm row ch A D rv cv w e w'):(∃v,e=.returned v/\¬v=.bool true)\/Kw I B S M pv nv cm row0 ch0 A0 D0 rv0 cv0 w0 e w':=by
 rcases hp with⟨rfl,h1⟩|⟨rfl,h1,h2⟩|⟨rfl,-⟩
 ·exact Or.inr (Or.inl ⟨rfl,h.fx h1⟩)
 ·exact Or.inr (Or.inr (Or.inl ⟨rfl,h.fx h1,h2⟩))
 ·exact Or.inl ⟨_,rfl,by simp⟩
end
open Go.RowKit Go.Maps Go.Joins
theorem Ky(name:ByteArray):∀(L:List Re) (k:Nat) (x:It),x∈gZ name L k->∃j,x.k=k+j/\∃h:j<L.length,L[j].nm=name
 | [],k,x,hx=>by simp[gZ]at hx
 | y :: r,k,x,hx=>by
  unfold gZ at hx;split at hx
  ·rename_i hc
   rcases List.mem_cons.1 hx with rfl|hx
   ·exact⟨0,rfl,by simp,by simp at hc;exact hc.1⟩
   ·obtain⟨j,h1,h2,h3⟩:=Ky name r (k+1) x hx;exact⟨j+1,by omega,by simp;omega,by simpa using h3⟩
  ·obtain⟨j,h1,h2,h3⟩:=Ky name r (k+1) x hx;exact⟨j+1,by omega,by simp;omega,by simpa using h3⟩
theorem abN{w:World}{B:Nat}{N:List Nat}(h:NxAt w B N N.length):IS w (.slice (some ⟨B,0,none⟩) N.length N.length) (N.map fun(k:Nat)=>(k:Int)):=by
 refine Or.inr ⟨⟨B,0,none⟩,N.length,by rw[List.length_map],by rw[List.length_map];exact Nat.le_refl _,fun j hj=>?_⟩;rw[List.length_map]at hj;rw[wB,ah h];simp[hj]
theorem abO(b n c j:Nat)(h:j+1<=c)(wx:World):(Instr.slice 25 (.slice (some ⟨b,0,none⟩) n c) (some (.int .i64 (j:Int))) (some (.int .i64 ((j:Int)+1))) none).run prog wx=.ok (.slice (some ⟨b,j,none⟩) 1 (c-j)) wx:=by
 have ht:prog.underlying 25=some (.slice (prog.elem 25)):=by kernel_rfl
 have hsz:∀w,(sizeOf (prog.elem 25)).run prog w=.ok 1 w:=fun w=>by kernel_rfl
 rw[run_slice_lh wx _ _ n c ht .i64 .i64 (j:Int) ((j:Int)+1) (by omega) (by omega) (by omega),hsz];have e1:((j:Int)).toNat=j:=by omega
 have e2:((j:Int)+1).toNat=j+1:=by omega
 simp only[Result.andThen,sliced,e1,e2];rw[if_neg (by omega),Option.map_some,Nat.mul_one,wB,show j+1-j=1 by omega]
theorem abP(b n c j:Nat)(h:j+1<=n)(hc:n<=c)(wx:World):(Instr.slice 25 (.slice (some ⟨b,0,none⟩) n c) (some (.int .i64 ((j:Int)+1))) none none).run prog wx=.ok (.slice (some ⟨b,if c=j+1 then 0 else j+1,none⟩) (n-(j+1)) (c-(j+1))) wx:=by
 have ht:prog.underlying 25=some (.slice (prog.elem 25)):=by kernel_rfl
 have hsz:∀w,(sizeOf (prog.elem 25)).run prog w=.ok 1 w:=fun w=>by kernel_rfl
 rw[run_slice_l wx _ _ n c ht .i64 ((j:Int)+1) (by omega) (by omega),hsz];have e2:((j:Int)+1).toNat=j+1:=by omega
 simp only[Result.andThen,sliced,e2]
 by_cases hc':c=j+1
 ·rw[if_pos hc',if_pos hc']
 ·rw[if_neg hc',if_neg hc',Option.map_some,Nat.mul_one,wB]
theorem abQ{p q:Addr}{x y:Value}{w w':World}(hg:w.grownBy w' none)(h:w.cell? p=some x/\w.cell? q=some y):w'.cell? p=some x/\w'.cell? q=some y:=⟨hg.cell h.1 (by simp),hg.cell h.2 (by simp)⟩
theorem RZ(b o n:Nat):(⟨b,o,none⟩:Addr).add n=⟨b,o+n,none⟩:=by
 unfold Addr.add;split
 ·rename_i h;rw[h];rfl
 ·simp
def c3(N:List Nat)(j i:Nat):List Int:=match i with
 | 0=>((N.drop j).take 1).map fun(k:Nat)=>(k:Int)
 | 1=>(N.take j).map fun(k:Nat)=>(k:Int)
 | _=>(N.drop (j+1)).map fun(k:Nat)=>(k:Int)
def a3(B j o i:Nat):Addr:=match i with
 | 0=>⟨B,j,none⟩
 | 1=>⟨B,0,none⟩
 | _=>⟨B,o,none⟩
def k3(n j i:Nat):Nat:=match i with
 | 0=>n-j
 | 1=>n
 | _=>n-(j+1)
theorem Si(N:List Nat)(j:Nat)(hj:j<N.length):(ig (c3 N j) 3).length=N.length/\∀x∈ig (c3 N j) 3,∃k∈N,x=(k:Int):=by
 have e:ig (c3 N j) 3=([]++c3 N j 0++c3 N j 1)++c3 N j 2:=rfl;rw[e];refine⟨by simp[c3];omega,fun x hx=>?_⟩;simp only[List.nil_append,List.mem_append,c3,List.mem_map]at hx
 rcases hx with(⟨k,hk,rfl⟩|⟨k,hk,rfl⟩)|⟨k,hk,rfl⟩
 ·exact⟨k,List.mem_of_mem_drop (List.mem_of_mem_take hk),rfl⟩
 ·exact⟨k,List.mem_of_mem_take hk,rfl⟩
 ·exact⟨k,List.mem_of_mem_drop hk,rfl⟩
theorem abR(N:List Nat)(B j o q:Nat)(hj:j<N.length)(hN:N.length<=64)(ho:(if N.length=j+1 then 0 else j+1)=o)(w:World)(h:IS w (.slice (some ⟨B,0,none⟩) N.length N.length) (N.map fun(k:Nat)=>(k:Int)))(hq:w.heap[q]?=some (.cells #[.slice (some ⟨B,j,none⟩) 1 (N.length-j),.slice (some ⟨B,0,none⟩) j N.length,.slice (some ⟨B,o,none⟩) (N.length-(j+1)) (N.length-(j+1))] 25 (0,0))) :
  Calls prog 62 #[.slice (some ⟨q,0,none⟩) 3 3] w fun e w'=>∃v,e=.returned v/\w'.ownsRow w.heap.size 3 1 v (ig (c3 N j) 3).length ((ig (c3 N j) 3).map (Value.int .i64))/\w.grownBy w' none:=by
 have hcell:∀t (ht:t<N.length),w.cell? ⟨B,t,none⟩=some (.int .i64 (N[t]:Int)):=fun t ht=>by
  rcases h with⟨e,-⟩|⟨a,cap,e,-,h3⟩
  ·cases e
  ·injection e with e _ _
   cases e
   have:=h3 t (by simpa using ht);rw[wB,List.getElem_map]at this;exact this
 refine abp q (a3 B j o) (c3 N j) (k3 N.length j) w (fun i hi=>?_) (fun i hi t u hu=>?_) (fun i hi=>?_) ?_
 ·rw[ah hq]
  rcases(show i=0\/i=1\/i=2 by omega) with rfl|rfl|rfl
  ·have:(c3 N j 0).length=1:=by simp[c3];omega
   rw[this];rfl
  ·have:(c3 N j 1).length=j:=by simp[c3];omega
   rw[this];rfl
  ·have:(c3 N j 2).length=N.length-(j+1):=by simp[c3]
   rw[this];rfl
 ·obtain⟨x,hx,rfl⟩:=Option.map_eq_some_iff.1 ((List.getElem?_map (f:=Value.int .i64)) ▸ hu)
  rcases(show i=0\/i=1\/i=2 by omega) with rfl|rfl|rfl
  ·obtain⟨k,hk,rfl⟩:=Option.map_eq_some_iff.1 ((List.getElem?_map (f:=fun(k:Nat)=>(k:Int))) ▸ hx);rw[List.getElem?_take]at hk;split at hk
   ·rename_i ht;obtain rfl:t=0:=by omega
    rw[List.getElem?_drop]at hk;obtain⟨h1,h2⟩:=List.getElem?_eq_some_iff.1 hk;show w.cell? ((⟨B,j,none⟩:Addr).add 0)=_;rw[RZ,hcell (j+0) h1,h2]
   ·cases hk
  ·obtain⟨k,hk,rfl⟩:=Option.map_eq_some_iff.1 ((List.getElem?_map (f:=fun(k:Nat)=>(k:Int))) ▸ hx);rw[List.getElem?_take]at hk;split at hk
   ·obtain⟨h1,h2⟩:=List.getElem?_eq_some_iff.1 hk;show w.cell? ((⟨B,0,none⟩:Addr).add t)=_;rw[wB,hcell t h1,h2]
   ·cases hk
  ·obtain⟨k,hk,rfl⟩:=Option.map_eq_some_iff.1 ((List.getElem?_map (f:=fun(k:Nat)=>(k:Int))) ▸ hx);rw[List.getElem?_drop]at hk;obtain⟨h1,h2⟩:=List.getElem?_eq_some_iff.1 hk;rw[if_neg (by omega)]at ho;subst ho;show w.cell? ((⟨B,j+1,none⟩:Addr).add t)=_;rw[RZ,hcell (j+1+t) h1,h2]
 ·rcases(show i=0\/i=1\/i=2 by omega) with rfl|rfl|rfl<;>(simp[c3];try omega)
 ·rw[(Si N j hj).1];omega
def Kz(L:List Re)(name:ByteArray)(w:World)(e:Ending)(w':World):Prop:=∃(g c:Nat) (cs:List Int),e=.returned (.slice (some ⟨g,0,none⟩) cs.length c)/\w.heap.size<=g/\g<w'.heap.size/\IS w' (.slice (some ⟨g,0,none⟩) cs.length c) cs/\cs.length<=64/\(∀x∈cs,∃k:Nat,x=(k:Int)/\k<L.length/\aZ L k=name)/\w.grownBy w' none
theorem abS(lo oo:Option Addr)(lc oc:Nat)(L:List Re)(O:List En)(name:ByteArray)(w:World)(h:ReS w (.slice lo L.length lc) L)(ho:EnS w (.slice oo O.length oc) O)(hL:L.length<=64)(hV:∀x∈L,x.ve.size<2 ^ 62)(hO:O.length<=1048576)(hOV:∀x∈O,x.ve.size<2 ^ 62) :
  Calls prog 31 #[.slice lo L.length lc,.slice oo O.length oc,.string name] w (Kz L name w):=by
 obtain⟨b,hb⟩:=zN (w.heap.size);obtain⟨W1,hW1⟩:=zN (w.alloc (.cells #[.string name] 9));have hg1:w.grownBy W1 none:=by rw[<-hW1];exact aj (ak w none) _
 have hb1:W1.heap[b]?=some (.cells #[.string name] 9 (0,0)):=by rw[<-hW1,<-hb];exact heap_alloc_new w _
 have b0:W1.cell? ⟨b,0,none⟩=some (.string name):=by rw[ah hb1];rfl
 have hs1:W1.heap.size=b+1:=by rw[<-hW1,World.size_alloc,hb]
 have CO:Hd (Calls prog 57 #[.slice lo L.length lc,.string name] W1 fun e w'=>∃(B:Nat) (N:List Nat),e=.returned (.slice (some ⟨B,0,none⟩) N.length N.length)/\Hd (b<=B/\NxAt w' B N N.length/\W1.grownBy w' none/\(∀k∈N,k<L.length/\aZ L k=name)/\N.length<=L.length)):=(abH (.slice lo L.length lc) L name W1 (h.grow hg1) (by omega) hV).mono fun e w' ⟨B,E,h1,h2,h3,h4,h5,h6⟩=>by
  refine⟨B,E.map (·.k),by rw[List.length_map];exact h1,by omega,by rw[List.length_map];exact h3,h4,fun k hk=>?_,?_⟩
  ·obtain⟨x,hx,rfl⟩:=List.mem_map.1 hk;obtain⟨j,e1,e2,e3⟩:=Ky name L 0 x (h5.subset hx);rw[Nat.zero_add]at e1;rw[e1,qp L j e2];exact⟨e2,e3⟩
  ·rw[List.length_map,h5.length_eq];have:=Di name L 0;omega
 have CI:Hd (∀w',W1.grownBy w' none->Calls prog 58 #[.slice oo O.length oc,.func (.func 59) #[] #[.pointer (some ⟨b,0,none⟩)]] w' fun e w''=>∃z:Int,e=.returned (.int .i64 z)/\Hd (w'.grownBy w'' none/\(z=-1\/∃j:Nat,j<O.length/\z=(j:Int)))):=fun w' hg=>(abn oo oc b O name w' (ho.grow (ag hg1 hg)) hO (hg.cell b0 (by simp))).mono fun e w'' ⟨h1,h2⟩=>by
  rcases h2 with h2|⟨j,h2,h3⟩
  ·exact⟨_,h2,h1,Or.inl rfl⟩
  ·exact⟨_,h3,h1,Or.inr ⟨j,h2,rfl⟩⟩
 have CF:=ae (fun w' v (hg:w.grownBy w' none) (hv:v.size<2 ^ 62)=>RI (.slice lo L.length lc) L name v w' (h.grow hg) (by omega) hV hv);have xQ:=ae (fun w' (hg:w.grownBy w' none) i (hi:i<O.length)=>Rz (ho.grow hg) hi);have HOV:=ae hOV;have HB:=ae hb;have bJ:=ae hg1;have hmf:∀(fn:Fn) (first cap:Array Value) (w:World),(Instr.makeFunc fn first cap).run prog w=.ok (.func fn first cap) w:=fun _ _ _ _=>rfl
 clear h ho hV hOV hg1 hb1 hs1;go_enter func31,ntmps31;go_wp2_with (go_at_call 57;refine CO.o.mono ?_);rintro e w2 ⟨B,N,rfl,hof⟩;have Du:=ae hof.o;have C2:=ae (CI.o w2 hof.o.2.2.1);have hNl:=Nat.le_trans hof.o.2.2.2.2 hL;have bD:=ae (abN hof.o.2.1);have HG2:=ae (ag bJ.o hof.o.2.2.1);clear hof;go_wp2_with (go_at_call 58;refine C2.o.mono ?_);rintro e w3 ⟨z,rfl,hz⟩;have dJ:=ae (ag HG2.o hz.o.1);have b3:=hz.o.1.cell (Du.o.2.2.1.cell b0 (by simp)) (by simp);have HIS:=ae (bD.o.grow hz.o.1);have Sj:Hd (∀w',w3.grownBy w' none->Kz L name w (.returned (.slice (some ⟨B,0,none⟩) N.length N.length)) w'):=fun w' hg=>by
  have hi:=HIS.o.grow hg;have hlen:(N.map fun(k:Nat)=>(k:Int)).length=N.length:=by simp
  refine⟨B,N.length,N.map fun(k:Nat)=>(k:Int),by rw[hlen],by rw[HB.o];exact Du.o.1,?_,by rw[hlen];exact hi,by rw[hlen];exact hNl,fun x hx=>?_,ag dJ.o hg⟩
  ·have h1:=(aB Du.o.2.1);have h2:=hz.o.1.size;have h3:=hg.size;omega
  ·obtain⟨k,hk,rfl⟩:=List.mem_map.1 hx;exact⟨k,rfl,Du.o.2.2.2.1 k hk⟩
 rcases hz.o.2 with rfl|⟨j,hj,rfl⟩
 ·clear hz b0 b3;go_wp2;go_ret;exact Sj.o _ (ak _ _)
 ·obtain⟨a,rfl,hoc,hat⟩:=xQ.o w3 dJ.o j hj;obtain⟨-,e1,-⟩:=hat j hj;have Ac:=HOV.o O[j] (List.getElem_mem _);obtain⟨ve,Sl⟩:=zN (O[j].ve);rw[Sl]at e1 Ac;have hjc:j<oc:=by omega
  have HD:Hd (w3.grownBy w3.drew none):=⟨rfl,rfl,rfl,Nat.le_refl _,fun _ _ _=>rfl⟩;have C3:=ae (CF.o w3.drew ve (ag dJ.o HD.o) Ac);obtain⟨fz,hfz⟩:=zN (oC name ve L 0);rw[hfz]at C3;have C4:Hd (∀w4,w3.grownBy w4 none->Calls prog 60 #[.slice (some ⟨B,0,none⟩) N.length N.length,.int .i64 fz] w4 fun e w'=>w'=w4/\∃z:Int,e=.returned (.int .i64 z)/\(z=-1\/∃j:Nat,j<N.length/\z=(j:Int))):=fun w4 hg=>by
   have hlen:(N.map fun(k:Nat)=>(k:Int)).length=N.length:=by simp
   have:=abl (some ⟨B,0,none⟩) N.length (N.map fun(k:Nat)=>(k:Int)) fz w4 (by rw[hlen];exact HIS.o.grow hg) (by rw[hlen];omega);rw[hlen]at this;refine this.mono ?_;rintro e w' ⟨h1,h2⟩
   rcases h2 with h2|⟨j,h2,h3⟩
   ·exact⟨h1,_,h2,Or.inl rfl⟩
   ·exact⟨h1,_,h3,Or.inr ⟨j,h2,rfl⟩⟩
  clear hat Ac Sl hfz hz b0 C2 CO CI CF;go_wp2
  go_region_held3 (fun u=>u.cell? ⟨b,0,none⟩=some (.string name)/\u.cell? ⟨(a.add (j*4)).block,(a.add (j*4)).off+1,none⟩=some (.string ve)) ((first|exact abQ (by assumption) (by assumption)|go_keep)) (first|(go_at_call 61;refine C3.o.mono ?_;rintro e w4 ⟨rfl,hg4⟩)|(go_at_call 60;refine(C4.o _ (ag HD.o hg4)).mono ?_;rintro e w5 ⟨rfl,z2,rfl,hz2⟩))
  have fC:=ae (ag HD.o hg4);clear hg4 e1 b3
  rcases hz2 with rfl|⟨j2,hj2,rfl⟩
  ·go_wp2;go_ret;exact Sj.o _ fC.o
  ·have s1:=abO B N.length N.length j2 (by omega);have s2:=Ru (some ⟨B,0,none⟩) N.length N.length j2 (by omega);have s3:=abP B N.length N.length j2 (by omega) (Nat.le_refl _);obtain⟨o3,ho3⟩:=zN ((if N.length=j2+1 then 0 else j2+1));rw[ho3]at s3;have hgz:w3.grownBy (w5.drew.alloc (.cells #[.slice (some ⟨B,j2,none⟩) 1 (N.length-j2),.slice (some ⟨B,0,none⟩) j2 N.length,.slice (some ⟨B,o3,none⟩) (N.length-(j2+1)) (N.length-(j2+1))] 25)) none:=aj (nz fC.o) _;have CC:Hd (Calls prog 62 #[.slice (some ⟨w5.heap.size,0,none⟩) 3 3] (w5.drew.alloc (.cells #[.slice (some ⟨B,j2,none⟩) 1 (N.length-j2),.slice (some ⟨B,0,none⟩) j2 N.length,.slice (some ⟨B,o3,none⟩) (N.length-(j2+1)) (N.length-(j2+1))] 25)) fun e w'=>∃(g c:Nat),e=.returned (.slice (some ⟨g,0,none⟩) N.length c)/\Hd (Kz L name w (.returned (.slice (some ⟨g,0,none⟩) N.length c)) w')):=(abR N B j2 o3 w5.heap.size hj2 hNl ho3 _ (HIS.o.grow hgz) (heap_alloc_new w5.drew _)).mono fun e w' ⟨v,h1,h2,h3⟩=>by
    obtain⟨k1,k2⟩:=Si N j2 hj2;have h5:=Rx h2;obtain⟨g,c,hv,h6,-⟩:=F8 (i:=0) h2 (by omega);rw[hv]at h1 h2 h5;obtain⟨h7,h8⟩:=qK (b:=g) h2 rfl;have h9:=hgz.size;have h10:=dJ.o.size;rw[k1]at h1;refine⟨g,c,h1,g,c,ig (c3 N j2) 3,by rw[k1],by omega,h8,h5,by omega,fun x hx=>?_,ag dJ.o (ag hgz h3)⟩;obtain⟨k,hk,rfl⟩:=k2 x hx;exact⟨k,rfl,Du.o.2.2.2.1 k hk⟩
   have hwr:IntKind.i64.wrap ((j2:Int)+1)=(j2:Int)+1:=by rw[IntKind.wrap_i64];omega
   clear hgz ho3;go_wp2
   go_region_held3 (fun _=>True) (trivial) (first|(go_at_call 62;refine CC.o.mono ?_;rintro e w6 ⟨g,c,rfl,hpost⟩))
   go_wp2;go_ret;exact hpost.o
open Go.RowKit Go.Maps Go.Joins Go.ChangeMaps Go.MapKept
def jG(L:List Re)(k:Nat):List ByteArray:=match L[k]? with|some x=>x.nd.map (·.n)|none=>[]
theorem Dv(L:List Re)(k:Nat)(h:k<L.length):jG L k=L[k].nd.map (·.n):=by simp[jG,List.getElem?_eq_getElem h]
def Far(S M nb Mc b:Nat):Prop:=¬b=S/\¬b=M/\¬b=nb/\¬b=Mc
def Gv(S M nb Mc:Nat)(w:World)(v:Value)(cs:List Int):Prop:=(v=.slice none 0 0/\cs=[])\/∃g c,v=.slice (some ⟨g,0,none⟩) cs.length c/\cs.length<=c/\g<w.heap.size/\Far S M nb Mc g/\∀j (hj:j<cs.length),w.cell? ⟨g,j,none⟩=some (.int .i64 cs[j])
structure Nw(L:List Re)(S M nb Mc:Nat)(pv:Value)(f:Int)(bar kn km:Nat)(w:World):Prop where
 sb:Sb w S pv (.slice (some ⟨nb,0,none⟩) L.length L.length) (.map (some Mc)) (.slice none 0 0) (.map (some M)) (.slice none 0 0) f 0 bar
 mm:w.heap[M]?=some (.map #[] 0)
 row:∃cur,w.heap[nb]?=some (.cells cur 53 (0,0))/\cur.size=L.length
 nm:∀k (hk:k<L.length),k<kn->∃ng nc,w.cell? ⟨nb,k,none⟩=some (.slice (some ⟨ng,0,none⟩) (jG L k).length nc)/\(jG L k).length<=nc/\ng<w.heap.size/\Far S M nb Mc ng/\∀t (ht:t<(jG L k).length),w.cell? ⟨ng,t,none⟩=some (.string (jG L k)[t])
 cd:∃D,w.ownsMap prog 9 oD Mc km D/\∀x,∃v cs,oD v=some (D.atKey (kT x) Dl,[])/\Gv S M nb Mc w v cs/\cs.length<=64/\∀c∈cs,∃k:Nat,c=(k:Int)/\k<L.length/\aZ L k=x
section
variable {L:List Re} {S M nb Mc:Nat} {pv:Value} {f:Int} {bar kn km:Nat} {w w':World} {X:Nat->Prop}
theorem Gv.fx{v:Value}{cs:List Int}(h:Gv S M nb Mc w v cs)(hf:Fx X w w')(hX:∀b,b<w.heap.size->Far S M nb Mc b->¬X b):Gv S M nb Mc w' v cs:=by
 rcases h with h|⟨g,c,h1,h2,h3,h4,h5⟩
 ·exact Or.inl h
 ·exact Or.inr ⟨g,c,h1,h2,Nat.lt_of_lt_of_le h3 hf.size,h4,fun j hj=>hf.cell (h5 j hj) (hX g h3 h4)⟩
theorem Gv.is{v:Value}{cs:List Int}(h:Gv S M nb Mc w v cs):IS w v cs:=by
 rcases h with h|⟨g,c,h1,h2,h3,h4,h5⟩
 ·exact Or.inl h
 ·exact Or.inr ⟨⟨g,0,none⟩,c,h1,h2,fun j hj=>by rw[wB];exact h5 j hj⟩
theorem Nw.grow(h:Nw L S M nb Mc pv f bar kn km w)(hg:w.grownBy w' none):Nw L S M nb Mc pv f bar kn km w':=by
 have hf:Fx (fun _=>False) w w':=(Fx.refl _ w).gb hg (fun b e=>by cases e);obtain⟨cur,h1,h2⟩:=h.row;refine⟨h.sb.grow hg,(hf.block M (aB h.mm) (fun h=>h)).trans h.mm,⟨cur,(hf.block nb (aB h1) (fun h=>h)).trans h1,h2⟩,fun k hk hkn=>?_,?_⟩
 ·obtain⟨ng,nc,e1,e2,e3,e4,e5⟩:=h.nm k hk hkn;exact⟨ng,nc,hf.cell e1 (fun h=>h),e2,Nat.lt_of_lt_of_le e3 hf.size,e4,fun t ht=>hf.cell (e5 t ht) (fun h=>h)⟩
 ·obtain⟨D,d1,d2⟩:=h.cd;refine⟨D,d1.kept hg (by simp),fun x=>?_⟩;obtain⟨v,cs,e1,e2,e3⟩:=d2 x;exact⟨v,cs,e1,e2.fx hf (fun _ _ _ h=>h),e3⟩
theorem Nw.name(h:Nw L S M nb Mc pv f bar kn km w)(hd:¬S=nb/\¬M=nb/\¬Mc=nb)(hk:kn<L.length){ng nc:Nat}(hnc:(jG L kn).length<=nc)(wC:ng<w.heap.size)(hF:Far S M nb Mc ng)(hc:∀t (ht:t<(jG L kn).length),w.cell? ⟨ng,t,none⟩=some (.string (jG L kn)[t])):Nw L S M nb Mc pv f bar (kn+1) km (w.setCell ⟨nb,kn,none⟩ (.slice (some ⟨ng,0,none⟩) (jG L kn).length nc)):=by
 have hf:Fx (fun b=>b=nb) w (w.setCell ⟨nb,kn,none⟩ (.slice (some ⟨ng,0,none⟩) (jG L kn).length nc)):=(Fx.refl (fun b=>b=nb) w).set (Or.inl rfl) _ _;obtain⟨cur,h1,h2⟩:=h.row;have hb:=block_setCell (i:=kn) h1 (.slice (some ⟨ng,0,none⟩) (jG L kn).length nc);refine⟨h.sb.fx hf hd.1,(hf.block M (aB h.mm) hd.2.1).trans h.mm,⟨_,hb,by simpa using h2⟩,fun k hk hkn=>?_,?_⟩
 ·by_cases e:k=kn
  ·subst e;refine⟨ng,nc,?_,hnc,Nat.lt_of_lt_of_le wC hf.size,hF,fun t ht=>hf.cell (hc t ht) hF.2.2.1⟩;rw[ah hb,Array.getElem?_setIfInBounds_self,if_pos (by omega)]
  ·obtain⟨ng',nc',e1,e2,e3,e4,e5⟩:=h.nm k hk (by omega);refine⟨ng',nc',?_,e2,Nat.lt_of_lt_of_le e3 hf.size,e4,fun t ht=>hf.cell (e5 t ht) e4.2.2.1⟩;rw[ah h1]at e1;rw[ah hb,Array.getElem?_setIfInBounds_ne (fun h=>e h.symm)];exact e1
 ·obtain⟨D,⟨es,cl,m1,m2⟩,d2⟩:=h.cd;refine⟨D,⟨es,cl,(hf.block Mc (aB m1) hd.2.2).trans m1,m2⟩,fun x=>?_⟩;obtain⟨v,cs,e1,e2,e3⟩:=d2 x;exact⟨v,cs,e1,e2.fx hf (fun b _ hb=>hb.2.2.1),e3⟩
theorem Nw.cand{D:DataW Unit}(h:Nw L S M nb Mc pv f bar kn km w)(hd:¬S=Mc/\¬M=Mc/\¬nb=Mc)(hD:IsMap D)(d2:∀x,∃v cs,oD v=some (D.atKey (kT x) Dl,[])/\Gv S M nb Mc w v cs/\cs.length<=64/\∀c∈cs,∃k:Nat,c=(k:Int)/\k<L.length/\aZ L k=x){x:ByteArray}{v:Value}{cs:List Int}{d:DataW Unit}(hv:oD v=some (d,[]))(hG:Gv S M nb Mc w v cs)(hl:cs.length<=64)(hcs:∀c∈cs,∃k:Nat,c=(k:Int)/\k<L.length/\aZ L k=x)(hown:w'.ownsMap prog 9 oD Mc (km+1) (D.put (kT x) d))(hg:w.grownBy w' (some Mc)):Nw L S M nb Mc pv f bar kn (km+1) w':=by
 have hf:Fx (fun b=>b=Mc) w w':=(Fx.refl _ w).gb hg (fun b e=>by cases e;exact Or.inl rfl);obtain⟨cur,h1,h2⟩:=h.row;refine⟨h.sb.fx hf hd.1,(hf.block M (aB h.mm) hd.2.1).trans h.mm,⟨cur,(hf.block nb (aB h1) hd.2.2).trans h1,h2⟩,fun k hk hkn=>?_,⟨_,hown,fun y=>?_⟩⟩
 ·obtain⟨ng,nc,e1,e2,e3,e4,e5⟩:=h.nm k hk hkn;exact⟨ng,nc,hf.cell e1 hd.2.2,e2,Nat.lt_of_lt_of_le e3 hf.size,e4,fun t ht=>hf.cell (e5 t ht) e4.2.2.2⟩
 ·by_cases e:y=x
  ·subst e;exact⟨v,cs,by rw[atKey_put_same hD (by trivial)];exact hv,hG.fx hf (fun b _ hb=>hb.2.2.2),hl,hcs⟩
  ·obtain⟨v',cs',e1,e2,e3⟩:=d2 y;exact⟨v',cs',by rw[atKey_put_other (fun h=>e (JH h))];exact e1,e2.fx hf (fun b _ hb=>hb.2.2.2),e3⟩
theorem Nw.ro{B:Nat}{P:List Pl}(h:Nw L S M nb Mc pv f bar L.length km w)(hB:B=w.heap.size)(hd:¬nb=S/\¬nb=M/\¬Mc=S/\¬Mc=M)(hp:PlS w' pv P)(hf:Fx (Xb B S M) w w'):Ro L.length P (jG L) (fun x k=>aZ L k=x) B S M nb Mc pv w':=by
 have far:∀b,b<w.heap.size->¬b=S->¬b=M->¬Xb B S M b:=fun b h1 h2 h3 h4=>by
  rcases h4 with h|h|h
  ·exact h2 h
  ·exact h3 h
  ·omega
 obtain⟨cur,r1,r2⟩:=h.row;refine⟨hp,fun k hk=>?_,?_⟩
 ·obtain⟨ng,nc,e1,e2,e3,e4,e5⟩:=h.nm k hk hk;have hn:=far ng e3 e4.1 e4.2.1;exact⟨ng,nc,hf.cell e1 (far nb (aB r1) hd.1 hd.2.1),e2,hn,fun t ht=>hf.cell (e5 t ht) hn⟩
 ·obtain⟨D,⟨es,cl,m1,m2⟩,d2⟩:=h.cd;refine⟨km,D,⟨es,cl,(hf.block Mc (aB m1) (far Mc (aB m1) hd.2.2.1 hd.2.2.2)).trans m1,m2⟩,fun x=>?_⟩;obtain⟨v,cs,e1,e2,e3,e4⟩:=d2 x;exact⟨v,cs,e1,fun w'' hf'=>(e2.fx (hf.trans hf') (fun b h1 h2=>far b h1 h2.1 h2.2.1)).is,e3,e4⟩
theorem abT(hS:Sb w S pv (.slice (some ⟨nb,0,none⟩) L.length L.length) (.map (some Mc)) (.slice none 0 0) (.map (some M)) (.slice none 0 0) f 0 bar)(hM:w.heap[M]?=some (.map #[] 0))(hMc:w.heap[Mc]?=some (.map #[] 0))(hnb:w.heap[nb]?=some (.cells (Array.replicate L.length (Value.slice none 0 0)) 53 (0,0))):Nw L S M nb Mc pv f bar 0 0 w :=
 ⟨hS,hM,⟨_,hnb,by simp⟩,fun k hk h=>by omega,.map [],⟨#[],0,hMc,⟨by simp,stamped_empty 0,by simp⟩,Nat.le_refl _,rfl⟩,fun x=>⟨.slice none 0 0,[],rfl,Or.inl ⟨rfl,rfl⟩,by simp,fun c hc=>by cases hc⟩⟩
theorem abU(hM:w.heap[M]?=some (.map #[] 0)):InR w M []:=⟨.map [],⟨#[],0,hM,⟨by simp,stamped_empty 0,by simp⟩,Nat.le_refl _,rfl⟩,fun x=>rfl⟩
theorem abV(W:World)(a b c d:Obj):((((W.alloc a).alloc b).alloc c).alloc d).heap[W.heap.size]?=some a/\((((W.alloc a).alloc b).alloc c).alloc d).heap[W.heap.size+1]?=some b/\((((W.alloc a).alloc b).alloc c).alloc d).heap[W.heap.size+2]?=some c/\((((W.alloc a).alloc b).alloc c).alloc d).heap[W.heap.size+3]?=some d/\W.grownBy ((((W.alloc a).alloc b).alloc c).alloc d) none:=by
 have e1:(W.alloc a).heap.size=W.heap.size+1:=World.size_alloc _ _;have e2:((W.alloc a).alloc b).heap.size=W.heap.size+2:=by rw[World.size_alloc,e1]
 have e3:(((W.alloc a).alloc b).alloc c).heap.size=W.heap.size+3:=by rw[World.size_alloc,e2]
 have h1:=heap_alloc_new W a;have h2:=heap_alloc_new (W.alloc a) b;have h3:=heap_alloc_new ((W.alloc a).alloc b) c;have h4:=heap_alloc_new (((W.alloc a).alloc b).alloc c) d;rw[e1]at h2;rw[e2]at h3;rw[e3]at h4;refine⟨?_,?_,?_,h4,aj (aj (aj (aj (ak W none) _) _) _) _⟩
 ·rw[Below.heap_alloc _ _ _ (by omega),Below.heap_alloc _ _ _ (by omega),Below.heap_alloc _ _ _ (by omega),h1]
 ·rw[Below.heap_alloc _ _ _ (by omega),Below.heap_alloc _ _ _ (by omega),h2]
 ·rw[Below.heap_alloc _ _ _ (by omega),h3]
def Sm(L:List Re)(pv:Value)(bar G:Nat)(W:World)(v:Value)(w:World):Prop:=∃(S M nb Mc:Nat) (f:Int),v=.pointer (some ⟨S,0,none⟩)/\(G<=S/\G<=M/\G<=nb/\G<=Mc)/\(¬S=M/\¬S=nb/\¬S=Mc/\¬M=nb/\¬M=Mc/\¬nb=Mc)/\(0<=f/\f<9223372036854775808)/\Nw L S M nb Mc pv f bar 0 0 w/\W.grownBy w none
theorem abW{W:World}{G:Nat}{a b c:Obj}(hG:W.heap.size=G)(h1:(nb=G/\a=.cells (Array.replicate L.length (Value.slice none 0 0)) 53 (0,0))\/(nb=G+1/\b=.cells (Array.replicate L.length (Value.slice none 0 0)) 53 (0,0))\/(nb=G+1+1/\c=.cells (Array.replicate L.length (Value.slice none 0 0)) 53 (0,0)))(h2:(Mc=G/\a=.map #[] 0)\/(Mc=G+1/\b=.map #[] 0)\/(Mc=G+1+1/\c=.map #[] 0))(h3:(M=G/\a=.map #[] 0)\/(M=G+1/\b=.map #[] 0)\/(M=G+1+1/\c=.map #[] 0))(hd:¬nb=Mc/\¬nb=M/\¬Mc=M)(hf:0<=f/\f<9223372036854775808):Sm L pv bar G W (.pointer (some ⟨G+1+1+1,0,none⟩)) ((((W.alloc a).alloc b).alloc c).alloc (.cells #[pv,.slice (some ⟨nb,0,none⟩) L.length L.length,.map (some Mc),.int .i64 f,.slice none 0 0,.map (some M),.slice none 0 0,.int .u64 0,.int .u64 (bar:Int)] 83)).drew:=by
 obtain⟨k1,k2,k3,k4,k5⟩:=abV W a b c (.cells #[pv,.slice (some ⟨nb,0,none⟩) L.length L.length,.map (some Mc),.int .i64 f,.slice none 0 0,.map (some M),.slice none 0 0,.int .u64 0,.int .u64 (bar:Int)] 83);rw[hG]at k1 k2 k3 k4;have get:∀(n:Nat) (x:Obj),(n=G/\a=x)\/(n=G+1/\b=x)\/(n=G+1+1/\c=x)->((((W.alloc a).alloc b).alloc c).alloc (.cells #[pv,.slice (some ⟨nb,0,none⟩) L.length L.length,.map (some Mc),.int .i64 f,.slice none 0 0,.map (some M),.slice none 0 0,.int .u64 0,.int .u64 (bar:Int)] 83)).heap[n]?=some x:=fun n x h=>by
  rcases h with⟨rfl,rfl⟩|⟨rfl,rfl⟩|⟨rfl,rfl⟩
  ·exact k1
  ·exact k2
  ·exact k3
 exact⟨G+1+1+1,M,nb,Mc,f,rfl,⟨by omega,by omega,by omega,by omega⟩,⟨by omega,by omega,by omega,by omega,by omega,by omega⟩,hf,abT (w:=World.drew _) k4 (get M _ h3) (get Mc _ h2) (get nb _ h1),nz k5⟩
end
open Go.RowKit Go.Maps Go.Joins
theorem Fx.dn(X:Nat->Prop)(w:World)(q:Nat):Fx X w (w.drewN q):=⟨rfl,rfl,rfl,Nat.le_refl _,fun _ _ _=>rfl⟩
theorem Sr(w:World):(zeroValue 25).run prog w=.ok (.slice none 0 0) w:=by kernel_rfl
theorem abX(n:Nat)(P:List Pl)(NS:Nat->List ByteArray)(CD:ByteArray->Nat->Prop)(I:List ByteArray->List Nat->Nat->Nat->Prop)(V:RY n P NS CD I)(B S M nb ncp Mc:Nat)(po:Option Addr)(pc:Nat)(hP:P.length=n)(hn:n<=64)(hSM:¬S=M)(hnb:¬Xb B S M nb)(hncp:n<=ncp)(w0:World)(hB0:B<=w0.heap.size)(hro:∀w',Fx (Xb B S M) w0 w'->Ro n P NS CD B S M nb Mc (.slice po P.length pc) w') :
  ∀(d:Nat) (row:List ByteArray) (ch:List Nat) (A D:Nat) (rv cv:Value) (f:Int) (w:World),n-ch.length=d->I row ch A D->Dy B S M (.slice po P.length pc) (.slice (some ⟨nb,0,none⟩) n ncp) (.map (some Mc)) row ch A D rv cv f w->Fx (Xb B S M) w0 w →
   Calls prog 15 #[.pointer (some ⟨S,0,none⟩)] w (Kw I B S M (.slice po P.length pc) (.slice (some ⟨nb,0,none⟩) n ncp) (.map (some Mc)) row ch A D rv cv w):=by
 intro d
 induction d using Nat.strongRecOn with
 | ind d ih =>
 intro row ch A D rv cv f w hd hI hy hf0;have IH:=ae ih;have HY:=ae hy;have HI:=ae hI;have HV:=ae V;have Aa:=ae hro;have Su:=ae hf0;have HD:=ae hd;have hch:=V.few hI;have hrow:=V.len hI;have hle:=V.le hI;obtain⟨ro,rc,rfl⟩:=rU hy.rr;obtain⟨co,cc,rfl⟩:=rU hy.cc;obtain⟨⟨-,-,c2,-⟩,⟨c4,-,c6⟩,-⟩:=hy.sb.cells
 by_cases hl:ch.length=row.length
 ·have HL:=ae hl;have hl2:((ch.length:Int) == (row.length:Int))=true:=by simp[hl]
  clear hl ih hy hI V hro hf0 hd hle;go_enter func15,ntmps15;go_wp2;go_quiet (fail);go_wp2;go_ret;exact Or.inr (Or.inl ⟨rfl,Fx.dn _ w _,row,ch,A,D,_,_,f,HY.o.fx (Fx.dn (fun _=>False) w _) (fun h=>h) (fun h=>h) (fun _ _ h=>h) (fun _ _ h=>h),HI.o,HL.o⟩)
 ·have hlt0:ch.length<row.length:=by omega
  have hl2:((ch.length:Int) == (row.length:Int))=false:=by simp;omega
  obtain⟨gr,rc',er,hrc,hcx⟩:=F8 hy.rr hlt0
  cases er
  rw[List.getElem?_map,List.getElem?_eq_getElem hlt0,Option.map_some]at hcx;have HX:=ae (List.getElem?_eq_getElem hlt0);have hkey:=FN (V.sz hI row[ch.length] (List.getElem_mem _));obtain⟨x,hx⟩:=zN (row[ch.length]);rw[hx]at hcx HX hkey;obtain⟨q,Dm,hown,hcd⟩:=(hro w hf0).cd;obtain⟨v,cs,hv,his,hcl,hcs⟩:=hcd x;have HIS:=ae his;have HCS:=ae hcs;obtain⟨vo,vc,rfl⟩:=Ja (his w (Fx.refl _ w));have KA:Hd (∀W:World,W.heap=w.heap->(Instr.lookup 80 (.map (some Mc)) (.string x) false).run prog W=.ok (.slice vo cs.length vc) W):=fun W hW=>by
   obtain⟨es,cl,h1,r⟩:=hown;obtain⟨v',ps,hrun,hv'⟩:=World.ownsMap.lookup (w:=W) ⟨es,cl,by rw[hW];exact h1,r⟩ keyS underlying80 (Sr _) (show oD (.slice none 0 0)=some (Dl,[]) from rfl) hkey;rw[QG hv' hv]at hrun;exact hrun
  clear hl ih hy hI V hro hf0 hd hle hown hcd hv his hcs hx hkey;go_enter func15,ntmps15;go_wp2;go_quiet (fail);go_wp2;obtain⟨W,hW⟩:=zN (w.drewN nq);have Ad:Fx (fun _=>False) w W:=hW ▸ Fx.dn _ w nq;have hrun:∀q,(Instr.lookup 80 (.map (some Mc)) (.string x) false).run prog (W.drewN q)=.ok (.slice vo cs.length vc) (W.drewN q):=fun q=>KA.o _ (by rw[<-hW];rfl)
  replace c2:=Ad.cell c2 (fun h=>h);replace c4:=Ad.cell c4 (fun h=>h);replace c6:=Ad.cell c6 (fun h=>h);replace hcx:=Ad.cell hcx (fun h=>h);rw[hW];clear hW;go_quiet (fail);go_wp2;have HWW:=ae Ad;clear hrun c2 c4 c6 hcx Ad;go_loopw [34] (fun vi wr=>∃(i:Nat) (rv' cv':Value) (f':Int),vi=.int .i64 i/\i<=cs.length/\Dy B S M (.slice po P.length pc) (.slice (some ⟨nb,0,none⟩) n ncp) (.map (some Mc)) row ch A D rv' cv' f' wr/\FD S M (.slice (some ⟨gr,0,none⟩) row.length rc) (.slice co ch.length cc) rv' cv' w wr) (fun vi _=>cs.length-(intOf vi).toNat)
  case atStart =>
   have hx:Fx (fun _=>False) w (W.drewN nq):=HWW.o.trans (Fx.dn _ W _);exact⟨0,_,_,f,rfl,Nat.zero_le _,HY.o.fx hx (fun h=>h) (fun h=>h) (fun _ _ h=>h) (fun _ _ h=>h),hx.mono (fun b h=>h.elim),fun g h=>Or.inl h,fun g h=>Or.inl h⟩
  case round =>
   obtain⟨i,rv',cv',f',rfl,hi,hy,hfd⟩:=hrel;obtain⟨wo,hwo⟩:∃wo,wo=wr:=⟨_,rfl⟩;subst hwo;have Sv:=ae hy;have KC:=ae hfd;have hxb:=hfd.xb HY.o
   by_cases hlt:i<cs.length
   ·obtain⟨a,rfl,hvc,hat⟩:=uj (HIS.o wo hxb) hlt;have e0:=hat i hlt;obtain⟨k,hk1,hk2,hk3⟩:=HCS.o cs[i] (List.getElem_mem _);rw[hk1]at e0;have Dw:k<P.length:=by omega
    have HCD:=ae hk3;have JL:i<vc:=by omega
    have CB:=ae (ZL S _ _ _ _ _ _ f' A D wo hy.sb hy.f0 hy.f1);clear hat hk1 hk3 hy hfd hxb;go_wp2_with (go_at_call 33;refine CB.o.mono ?_);rintro e w1 (⟨h0,rfl,rfl⟩|⟨h0,rfl,rfl⟩)
    ·exact⟨rfl,Or.inl ⟨rfl,KC.o.1⟩⟩
    ·have KD:=ae (Sv.o.burn h0 hSM);have jl:=ae (KC.o.sm (rv'':=rv') (cv'':=cv') ((Fx.refl (fun b=>b=S\/b=M) wo).set (Or.inl (Or.inl rfl)) 3 (.int .i64 (f'-1))) rfl rfl);obtain⟨w1,hw1⟩:=zN (wo.setCell ⟨S,3,none⟩ (.int .i64 (f'-1)));rw[hw1]at KD jl ⊢;obtain⟨q,hq⟩:=zN ((!(D ||| P[k].bar).testBit k && decide (P[k].bar &&& A=0)));have HQ:=ae hq;have CF:Hd (Calls prog 34 #[.pointer (some ⟨S,0,none⟩),.int .i64 k] w1 fun e w'=>e=.returned (.bool q)/\w1.grownBy w' none):=by
      have:=fits_any S k po pc _ _ _ _ _ _ A D P w1 KD.o.sb (Aa.o w1 (Su.o.trans (jl.o.xb HY.o))).pl Dw (by omega) (HV.o.a HI.o) (HV.o.d HI.o) (HV.o.bar k Dw);rw[hq]at this;exact this
     clear hw1 hq e0 CB h0;go_wp2_with (go_at_call 34;refine CF.o.mono ?_);rintro e w2 ⟨rfl,hg2⟩;have lV:=ae (KD.o.grow hg2);have HF2:=ae (jl.o.gb hg2);clear hg2
     cases q with
     | false =>
      go_wp2;exact⟨⟨i+1,rv',cv',f'-1,by go_num,by omega,lV.o,HF2.o⟩,by simp[intOf];omega⟩
     | true =>
      obtain⟨co',cc',rfl⟩:=rU lV.o.cc;have hx2:=Su.o.trans (HF2.o.xb HY.o);have xK:=ae hx2;obtain⟨ng,ncc,n1,n2,n3,n4⟩:=(Aa.o w2 hx2).nm k hk2;have hnl:=HV.o.nsl k hk2;have CH:=ae (abM B S M k ng n ncc ncp po co' ⟨nb,0,none⟩ pc cc' _ rv' (f'-1) A D P row (NS k) ch w2 lV.o.sb (fun w' hf=>⟨(Aa.o w' (hx2.trans hf)).pl,by rw[Qv];exact hf.cell n1 hnb,fun i hi=>hf.cell (n4 i hi) n3⟩) n3 hk2 hncp n2 Dw (by omega) (HV.o.a HI.o) (HV.o.d HI.o) (HV.o.bar k Dw) lV.o.rr lV.o.ir hSM lV.o.cc (by omega) (Nat.le_trans hB0 hx2.size) (HV.o.nsz k hk2) (by omega));have HI3:=ae (HV.o.step HI.o x k Dw HX.o HCD.o HQ.o);clear n1 n2 n3 n4 hx2;go_wp2_with (go_at_call 35;refine CH.o.mono ?_);rintro e w3 ⟨b0,b1,b2,b3,bs,bl,g,cc3,rv3,rfl,hcell,hbx,k1,k2,k3,k4,k5,k6,k7⟩;have hy3:Dy B S M (.slice po P.length pc) (.slice (some ⟨nb,0,none⟩) n ncp) (.map (some Mc)) (ed row (NS k)) (ch++[k]) (A ||| 2 ^ k) (D ||| P[k].bar) rv3 (.slice (some ⟨g,0,none⟩) (ch.length+1) cc3) (f'-1) w3:=⟨k1,lV.o.f0,lV.o.f1,k2,by rw[List.length_append];exact k3,k4⟩
      have KE:FD S M rv' (.slice co' ch.length cc') rv3 (.slice (some ⟨g,0,none⟩) (ch.length+1) cc3) w2 w3:=⟨k5,k6,fun g' e=>by cases e;exact k7⟩;have HF3:=ae (HF2.o.trans KE);have Ae:=ae hcell;have pJ:Hd (∀b,b=b0\/b=b1\/b=b2\/b=b3\/b=bs\/b=bl->¬b=S/\¬b=M/\¬Xr S M rv3 (.slice (some ⟨g,0,none⟩) (ch.length+1) cc3) b):=fun b hb=>by
       obtain⟨q1,q2,q3⟩:=hbx b hb;obtain⟨q4,q5⟩:=lV.o.lt;refine⟨by omega,by omega,?_⟩;rintro(h|h|h|h)
       ·omega
       ·omega
       ·exact q2 h
       ·exact q3 (Option.some.inj h)
      have C3:=ae (IH.o (n-(ch++[k]).length) (by have:=HV.o.few HI3.o;have h9:=HD.o;rw[List.length_append,List.length_singleton]at this ⊢;omega) _ _ _ _ _ _ _ w3 rfl HI3.o hy3 (xK.o.trans (KE.xb lV.o)));clear k1 k2 k3 k4 k5 k6 k7 hcell hbx KE hy3 CH;go_wp2_with (go_at_call 15;refine C3.o.mono ?_);rintro e w4 (⟨rfl,h1⟩|⟨rfl,h1,row',ch',A',D',rv4,cv4,f4,h2,h3,h4⟩|⟨rfl,rv4,cv4,f4,h2,h3⟩)
      ·exact⟨rfl,Or.inl ⟨rfl,HF3.o.fx h1⟩⟩
      ·have HE:=ae (And.intro (HF3.o.fx h1) (And.intro h2 (And.intro h3 h4)));clear h1 h2 h3 h4;go_wp2;go_ret;exact Or.inr (Or.inl ⟨rfl,HE.o.1,row',ch',A',D',rv4,cv4,f4,HE.o.2⟩)
      ·obtain⟨co4,cc4,e4⟩:=rU h2.cc;rw[List.length_append,List.length_singleton]at e4;subst e4;obtain⟨m1,m2,m3,m4,m5,m6⟩:=Ae.o;obtain⟨t',ht'⟩:=Fg (NS k) row;have hpre:(ed row (NS k)).take row.length=row:=by rw[ht',List.take_left' rfl]
       have hcap:ch.length+1<=cc4:=by
        have:=h2.cc;rw[List.length_append,List.length_singleton]at this;obtain⟨_,_,e,h5,-⟩:=F8 this (i:=0) (by omega)
        cases e
        exact h5
       have CT:Hd (Calls prog 64 #[.pointer (some ⟨b0,0,none⟩),.pointer (some ⟨b1,0,none⟩),.pointer (some ⟨b2,0,none⟩),.pointer (some ⟨b3,0,none⟩)] w4 fun e w'=>e=.returned (.tuple #[])/\∃rv',Dy B S M (.slice po P.length pc) (.slice (some ⟨nb,0,none⟩) n ncp) (.map (some Mc)) row ch A D rv' (.slice co4 ch.length cc4) f4 w'/\FD S M (.slice (some ⟨gr,0,none⟩) row.length rc) (.slice co ch.length cc) rv' (.slice co4 ch.length cc4) w w'):=by
        refine(aa7 B S M b0 b1 b2 b3 bs bl row.length ch.length _ _ _ rv4 co4 cc4 f4 _ _ A D (ed row (NS k)) ch w4 h2.sb h2.rr h2.ir (HV.o.nod HI3.o) (by rw[ht',List.length_append];omega) (HV.o.sz HI3.o) (by have:=HV.o.len HI3.o;omega) hcap (by omega) (h3.1.cell m1 (pJ.o b0 (by simp)).2.2) (h3.1.cell m2 (pJ.o b1 (by simp)).2.2) (h3.1.cell m3 (pJ.o b2 (by simp)).2.2) (h3.1.cell m4 (pJ.o b3 (by simp)).2.2) (h3.1.cell m5 (pJ.o bs (by simp)).2.2) (h3.1.cell m6 (pJ.o bl (by simp)).2.2) (fun b hb=>⟨(pJ.o b hb).1,(pJ.o b hb).2.1⟩) hSM).mono ?_;rintro e w5 ⟨rfl,rv5,q1,q2,q3,q4,q5⟩;exact⟨rfl,rv5,h2.back hSM hpre q1 q2 q3 q4,(HF3.o.trans h3).sm q4 q5 (by cases co4<;>rfl)⟩
       clear h2 h3 m1 m2 m3 m4 m5 m6 hpre hcap ht';go_wp2_with (go_at_call 64;refine CT.o.mono ?_);rintro e w5 ⟨rfl,rv5,q1,q2⟩;have HE:=ae (And.intro q1 q2);clear q1 q2;go_wp2;exact⟨⟨i+1,rv5,_,f4,by go_num,by omega,HE.o.1,HE.o.2⟩,by simp[intOf];omega⟩
   ·clear hy hfd hxb;go_wp2;go_ret;exact Or.inr (Or.inr ⟨rfl,rv',cv',f',Sv.o,KC.o⟩)
end Go.Proofs.YteciokcdpadmpaaGreatDoor
