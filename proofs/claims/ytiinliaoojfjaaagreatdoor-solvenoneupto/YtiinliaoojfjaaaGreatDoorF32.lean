import Derived.Test.YtiinliaoojfjaaaGreatDoorF19
import Derived.Test.YtiinliaoojfjaaaGreatDoorF22
set_option linter.all false
set_option maxRecDepth 100000
set_option maxHeartbeats 0
open Go.Proofs.Tryz
namespace Go.Proofs.YtiinliaoojfjaaaGreatDoor
open Go.RowKit
theorem NI{w:World}{v:Value}{M:List It}(h:UK w v M):∃o c,v=.slice o M.length c/\(∀i,i<M.length->∃a,o=some a/\M.length<=c):=by
 rcases h with⟨rfl,rfl⟩|⟨a,cap,rfl,h2,-⟩
 ·exact⟨_,_,rfl,fun i hi=>by simp at hi⟩
 ·exact⟨_,_,rfl,fun _ _=>⟨a,rfl,h2⟩⟩
theorem afk{w:World}{N:Nat}{k:Nat}{y1 y2 y3:Int}{y4 y5:List UInt8}{t:TypeId}(h:w.heap[N]?=some (.cells #[.int .i64 (k:Int),.int .i64 y1,.int .i64 y2,.int .i64 y3,.string ⟨y4.toArray⟩,.string ⟨y5.toArray⟩] t (0,0))):ItAt w ⟨N,0,none⟩ ⟨k,⟨y1,y2,y3,y4,y5⟩⟩ :=
 ⟨by rw[ah h];rfl,by rw[ah h];rfl,by rw[ah h];rfl,by rw[ah h];rfl,by rw[ah h];rfl,by rw[ah h];rfl⟩
theorem VK(sl:Value)(L:List Re)(name v:ByteArray)(w:World)(h:ReS w sl L)(hL:L.length<=1048576)(hV:∀x∈L,x.ve.size<2 ^ 62)(hv:v.size<2 ^ 62) :
  Calls prog 94 #[sl,.string name,.string v] w fun e w'=>e=.returned (.int .i64 (fB name v L 0))/\w.grownBy w' none:=by
 have HS:=ae h;have CP:Hd (∀w,Calls prog 88 #[.string v] w fun e w'=>(∃k:Int,e=.returned (.tuple #[eY (aK v),.int .i64 (ig v.data.toList).1,.int .i64 k]))/\w.grownBy w' none):=fun w=>(parse_any v w hv).mono fun e w' ⟨h1,h2⟩=>⟨⟨_,h1⟩,h2⟩
 have CI:=ae (fun w (h:ReS w sl L)=>UN sl L name w h hL hV);have p1:=sF v;have ni:=ae (fun(h:okV v=false)=>UM name v h L 0);have uF:=ae (fun(h:okV v=true)=>UL name v h L 0);have CJ:=ae (fun x (hx:x∈bn name L 0)=>(MK name L 0 x hx).1);have oh:=ae (Nat.le_trans (ww name L 0) hL);obtain⟨o0,n0,c0,rfl⟩:∃o n c,sl=.slice o n c:=by
  rcases h with⟨rfl,-⟩|⟨a,cap,rfl,-⟩
  ·exact⟨_,_,_,rfl⟩
  ·exact⟨_,_,_,rfl⟩
 unfold eY at CP;obtain⟨E,hE⟩:=zN ((ig v.data.toList).1);obtain⟨y,hy⟩:=zN (aK v);have hok:okV v=decide (E=0):=by unfold okV;rw[hE]
 rw[hE,hy]at CP;rw[hok]at ni uF;rw[hy]at uF p1;obtain⟨y1,y2,y3,y4,y5⟩:=y;simp only[]at CP p1;obtain⟨R,hR⟩:=zN (fB name v L 0);obtain⟨M,hM⟩:=zN (bn name L 0);rw[hR]at ni uF ⊢;rw[hM]at uF CJ oh CI;have CC:Hd (∀(x:It) w,x.v.pre.length<=100->Calls prog 122 #[.agg #[.int .i64 x.v.major,.int .i64 x.v.minor,.int .i64 x.v.patch,.string ⟨x.v.pre.toArray⟩,.string ⟨x.v.build.toArray⟩],.agg #[.int .i64 y1,.int .i64 y2,.int .i64 y3,.string ⟨y4.toArray⟩,.string ⟨y5.toArray⟩]] w fun e w'=>e=.returned (.int .i64 (aB (cutV x.v) ⟨y1,y2,y3,y4⟩))/\w.grownBy w' none):=fun x w hx=>by
  refine(compare_any _ _ _ _ _ _ _ _ _ _ w (by show x.v.pre.toArray.size < _;simp;omega) (by show y4.toArray.size < _;simp;omega)).mono ?_;rintro e w' ⟨rfl,hg⟩;refine⟨?_,hg⟩;simp[cutV]
 clear h hE hy hok hR hM p1 hV hv;go_enter func94,ntmps94;go_wp2_with (go_at_call 88;refine(CP.o _).mono ?_);rintro e w1 ⟨⟨k,rfl⟩,hg⟩;have HG:=ae hg;clear hg
 by_cases hE:E=0
 ·subst hE;have VL:=uF.o (by simp);have HI:Hd (zy ⟨y1,y2,y3,y4⟩ (M.drop 0)=R):=VL;clear VL;go_wp2_with (go_at_call 118;refine(CI.o _ (HS.o.grow (ak HG.o _))).mono ?_);rintro e w2 ⟨vs,rfl,ho,hb⟩;have hgi:(w1.alloc (.cells #[.int .i64 y1,.int .i64 y2,.int .i64 y3,.string ⟨y4.toArray⟩,.string ⟨y5.toArray⟩] 150)).grownBy w2 none:=gz hb;obtain⟨V0,hV0⟩:=zN w1.heap.size;have STv:Hd (St V0 y1 y2 y3 ⟨y4.toArray⟩ ⟨y5.toArray⟩ w2):=by
   show St V0 _ _ _ _ _ w2;rw[<-hV0];exact(yN (heap_alloc_new w1 _)).grow hgi
  have hits:=MJ ho;have HIT:=ae hits;obtain⟨ov,cv,rfl,hov⟩:=NI hits;replace HG:=ae (ag HG.o (ag (ak (ai w1 none) _) hgi))
  try rw[hV0]
  clear ho hb hgi hV0 hits;go_wp2;go_loopw [24] (fun vi wr=>∃i:Nat,vi=.int .i64 i/\i<=M.length/\zy ⟨y1,y2,y3,y4⟩ (M.drop i)=R/\w2.grownBy wr none) (fun vi _=>M.length-(intOf vi).toNat)
  case atStart=>exact⟨0,rfl,Nat.zero_le _,HI.o,ai _ _⟩
  case round =>
   obtain⟨i,rfl,hi,hf,hg⟩:=hrel;replace STv:=ae (STv.o.grow hg);replace HG:=ae (ag HG.o hg);have HW2:=ae hg;have hml:=oh.o
   by_cases hlt:i<M.length
   ·obtain⟨a,rfl,hcv⟩:=hov i hlt;obtain⟨x,hx⟩:=zN (M[i]);have hat:ItAt wr (a.add (i*6)) x:=by
     rcases HIT.o with⟨e,-⟩|⟨a',cap',e,-,h3⟩
     ·cases e
     ·cases e
      rw[<-hx];exact(h3 i hlt).grow hg
    have HF:Hd ((if aB (cutV x.v) ⟨y1,y2,y3,y4⟩=0 then(x.k:Int) else zy ⟨y1,y2,y3,y4⟩ (M.drop (i+1)))=R):=by
     show _=_;rw[List.drop_eq_getElem_cons hlt,hx]at hf;exact hf
    have CX:=ae (fun w=>CC.o x w (CJ.o x (by rw[<-hx];exact List.getElem_mem _)));obtain⟨c,hc⟩:=zN (aB (cutV x.v) ⟨y1,y2,y3,y4⟩);rw[hc]at CX HF;obtain⟨xk,⟨z1,z2,z3,z4,z5⟩⟩:=x;simp only[]at CX HF;obtain⟨e0,e1,e2,e3,e4,e5⟩:=hat;simp only[]at e0 e1 e2 e3 e4 e5;obtain⟨s1,s2,s3,s4,s5⟩:=STv.o;have afl:V0<wr.heap.size:=qP s1;have gA:=ak (ai wr none) (.cells #[.int .i64 (xk:Int),.int .i64 z1,.int .i64 z2,.int .i64 z3,.string ⟨z4.toArray⟩,.string ⟨z5.toArray⟩] 183);have t1:=gA.cell s1 (by simp);have t2:=gA.cell s2 (by simp);have t3:=gA.cell s3 (by simp);have t4:=gA.cell s4 (by simp);have t5:=gA.cell s5 (by simp);clear hf hg hx hc gA;go_wp2_with (go_at_call 122;refine(CX.o _).mono ?_);rintro e w3 ⟨rfl,hg⟩;have hit:=(afk (heap_alloc_new wr _)).grow hg;have hk:=hit.1;simp only[]at hk;have hgr:=ag (ak (ai wr none) _) hg
    have dD:=ae (ag HG.o hgr);have HW3:=ae hgr;clear hg hgr hit e0 e1 e2 e3 e4 e5 s1 s2 s3 s4 s5 t1 t2 t3 t4 t5 afl
    cases hz:(c == 0) with
    | true =>
     have h0:c=0:=by simpa using hz
     have HQ:Hd ((xk:Int)=R):=by
      have:=HF.o;rw[if_pos h0]at this;exact this
     clear h0;go_wp2;go_ret;exact⟨bF HQ.o,dD.o⟩
    | false =>
     have h0:¬c=0:=by simpa using hz
     have HQ:Hd (zy ⟨y1,y2,y3,y4⟩ (M.drop (i+1))=R):=by
      have:=HF.o;rw[if_neg h0]at this;exact this
     clear h0;go_wp2;exact⟨⟨i+1,by go_num,by omega,HQ.o,ag HW2.o HW3.o⟩,by simp[intOf];omega⟩
   ·have hil:i=M.length:=by omega
    have HQ:Hd (-1=R):=by
     show _=_;rw[hil,List.drop_length]at hf;exact hf
    clear hf hil hg;go_wp2;go_ret;exact⟨bF HQ.o,HG.o⟩
 ·have hE1:(E == 0)=false:=by simp[hE]
  have hE2:(E != 0)=true:=by simp[hE]
  have HQ:=ae ((ni.o (by simp[hE])).symm);clear hE;go_wp2;go_ret;exact⟨bF HQ.o,ak HG.o _⟩
open Go.RowKit
theorem afm{p0 p1 p2 p3 p4 p5 p6 p7 p8 p9 p10:Addr}{c0 c1 c2 c3 c4 c5 c6 c7 c8 c9 c10:Value}{w w':World}(hg:w.grownBy w' none)(h:w.cell? p0=some c0/\w.cell? p1=some c1/\w.cell? p2=some c2/\w.cell? p3=some c3/\w.cell? p4=some c4/\w.cell? p5=some c5/\w.cell? p6=some c6/\w.cell? p7=some c7/\w.cell? p8=some c8/\w.cell? p9=some c9/\w.cell? p10=some c10):w'.cell? p0=some c0/\w'.cell? p1=some c1/\w'.cell? p2=some c2/\w'.cell? p3=some c3/\w'.cell? p4=some c4/\w'.cell? p5=some c5/\w'.cell? p6=some c6/\w'.cell? p7=some c7/\w'.cell? p8=some c8/\w'.cell? p9=some c9/\w'.cell? p10=some c10:=by
 obtain⟨h0,h1,h2,h3,h4,h5,h6,h7,h8,h9,h10⟩:=h;exact⟨hg.cell h0 (by simp),hg.cell h1 (by simp),hg.cell h2 (by simp),hg.cell h3 (by simp),hg.cell h4 (by simp),hg.cell h5 (by simp),hg.cell h6 (by simp),hg.cell h7 (by simp),hg.cell h8 (by simp),hg.cell h9 (by simp),hg.cell h10 (by simp)⟩
def TR(A:Nat)(sg n a b c:Int)(P Q:ByteArray)(w:World):Prop:=w.heap[A]?=some (.cells #[.int .i64 sg,.int .i64 n,.int .i64 a,.int .i64 b,.int .i64 c,.string P,.string Q] 107 (0,0))
theorem TR.cells{A:Nat}{sg n a b c:Int}{P Q:ByteArray}{w:World}(h:TR A sg n a b c P Q w):w.cell? ⟨A,0,none⟩=some (.int .i64 sg)/\w.cell? ⟨A,1,none⟩=some (.int .i64 n)/\w.cell? ⟨A,2,none⟩=some (.int .i64 a)/\w.cell? ⟨A,3,none⟩=some (.int .i64 b)/\w.cell? ⟨A,4,none⟩=some (.int .i64 c)/\w.cell? ⟨A,5,none⟩=some (.string P)/\w.cell? ⟨A,6,none⟩=some (.string Q) :=
 ⟨by rw[ah h];rfl,by rw[ah h];rfl,by rw[ah h];rfl,by rw[ah h];rfl,by rw[ah h];rfl,by rw[ah h];rfl,by rw[ah h];rfl⟩
theorem TR.grow{A:Nat}{sg n a b c:Int}{P Q:ByteArray}{w w':World}(h:TR A sg n a b c P Q w)(hg:w.grownBy w' none):TR A sg n a b c P Q w':=by
 unfold TR at h ⊢;rw[hg.block A ((aC h)) (by simp)];exact h
theorem VM(w:World)(p:Addr):w.drew.cell? p=w.cell? p:=rfl
theorem VN(w:World)(o1 o2:Obj):((w.alloc o1).alloc o2).heap[w.heap.size+1]?=some o2:=by
 have:=heap_alloc_new (w.alloc o1) o2;simpa using this
theorem afn(sg:Int)(hs:0<=sg/\sg<=7)(a b c v1 v2 v3:Int)(P Q v4 v5:ByteArray)(w:World)(hp:P.size<=1048576)(hv:v4.size<=1048576) :
  Calls prog 49 #[.agg #[.int .i64 sg,.int .i64 0,.int .i64 a,.int .i64 b,.int .i64 c,.string P,.string Q],.agg #[.int .i64 v1,.int .i64 v2,.int .i64 v3,.string v4,.string v5]] w fun e w'=>e=.returned (.bool (jb ⟨sg,⟨0,a,b,c,P.data.toList⟩⟩ ⟨v1,v2,v3,v4.data.toList⟩))/\w.grownBy w' none:=by
 obtain⟨N,hN⟩:=zN (iV ⟨0,a,b,c,P.data.toList⟩ ⟨v1,v2,v3,v4.data.toList⟩);obtain⟨C,hC⟩:=zN (iy ⟨0,a,b,c,P.data.toList⟩ ⟨v1,v2,v3,v4.data.toList⟩);obtain⟨L,hL⟩:=zN (oZ ⟨0,a,b,c,P.data.toList⟩ ⟨v1,v2,v3,v4.data.toList⟩);obtain⟨x,hx⟩:=zN (aB (bu ⟨0,a,b,c,P.data.toList⟩) ⟨v1,v2,v3,v4.data.toList⟩);have CN:Hd (∀w,Calls prog 79 #[.agg #[.int .i64 0,.int .i64 a,.int .i64 b,.int .i64 c,.string P,.string Q],.agg #[.int .i64 v1,.int .i64 v2,.int .i64 v3,.string v4,.string v5]] w fun e w'=>e=.returned (.bool N)/\w.grownBy w' none):=fun w=>by rw[<-hN];exact U7 a b c v1 v2 v3 P Q v4 v5 w
 have CP:Hd (∀w,Calls prog 78 #[.agg #[.int .i64 0,.int .i64 a,.int .i64 b,.int .i64 c,.string P,.string Q],.agg #[.int .i64 v1,.int .i64 v2,.int .i64 v3,.string v4,.string v5]] w fun e w'=>e=.returned (.int .i64 C)/\w.grownBy w' none):=fun w=>by rw[<-hC];exact ad8 a b c v1 v2 v3 P Q v4 v5 w hp hv
 have CL:Hd (∀w,Calls prog 81 #[.agg #[.int .i64 0,.int .i64 a,.int .i64 b,.int .i64 c,.string P,.string Q],.agg #[.int .i64 v1,.int .i64 v2,.int .i64 v3,.string v4,.string v5]] w fun e w'=>e=.returned (.bool L)/\w.grownBy w' none):=fun w=>by rw[<-hL];exact aec a b c v1 v2 v3 P Q v4 v5 w
 have CF:=ae (aeg a b c P Q);have CC:Hd (∀w,Calls prog 25 #[.agg #[.int .i64 a,.int .i64 b,.int .i64 c,.string ⟨#[48]⟩,.string ⟨#[]⟩],.agg #[.int .i64 v1,.int .i64 v2,.int .i64 v3,.string v4,.string v5]] w fun e w'=>e=.returned (.int .i64 x)/\w.grownBy w' none):=fun w=>by
  rw[<-hx];refine(yQ a b c v1 v2 v3 ⟨#[48]⟩ ⟨#[]⟩ v4 v5 w (by show 1<=_;omega) hv).mono ?_;rintro e w' ⟨rfl,h⟩;exact⟨rfl,Eo h⟩
 obtain⟨F,hF⟩:=zN (rW ⟨0,a,b,c,P.data.toList⟩ ⟨v1,v2,v3,v4.data.toList⟩);have IV:Hd (F=true):=by show F=_;rw[<-hF];rfl
 obtain⟨R,hR⟩:=zN (jb ⟨sg,⟨0,a,b,c,P.data.toList⟩⟩ ⟨v1,v2,v3,v4.data.toList⟩);have HR:Hd (R=if sg=0 then N else if sg=1 then decide (0<=C) else if sg=2 then decide (C<=0) else if sg=3 then decide (0<C) else if sg=4 then decide (C<0) else if sg=5 then F && L else if sg=6 then(F && (decide (0<1) || decide (v1=a))) && (decide (0<2) || decide (v2=b)) else F):=by
  show R=_;rw[<-hR];unfold jb;rw[hN,hC,hL,hF]
 rw[hR];have lX:=ae hs;clear hN hC hL hx hF hR hp hv hs;go_enter func49,ntmps49;go_wp2_with (go_at_call 78;refine(CP.o _).mono ?_);rintro e w1 ⟨rfl,hg⟩;obtain⟨A,hA⟩:=zN (w.heap.size);have HT:Hd (TR A sg 0 a b c P Q w1):=by
  refine TR.grow (w:=(w.alloc (.cells #[.int .i64 sg,.int .i64 0,.int .i64 a,.int .i64 b,.int .i64 c,.string P,.string Q] 107)).alloc (.cells #[.int .i64 v1,.int .i64 v2,.int .i64 v3,.string v4,.string v5] 61)) ?_ hg;unfold TR;rw[<-hA,Lib.alloc_old _ _ _ (by simp)];exact heap_alloc_new w _
 have HV:Hd (St (A+1) v1 v2 v3 v4 v5 w1):=by
  refine St.grow ?_ hg;refine yN (t:=61) ?_;rw[<-hA];exact VN w _ _
 have HG:=ae (ag (ak (ak (ai w none) _) _) hg)
 try rw[hA]
 clear hA hg;obtain⟨t0,t1,t2,t3,t4,t5,t6⟩:=HT.o.cells;obtain⟨s1,s2,s3,s4,s5⟩:=HV.o;go_wp2_with (go_at_call 79;refine(CN.o _).mono ?_);rintro e w2 ⟨rfl,hg⟩;replace HT:=ae (HT.o.grow hg);replace HV:=ae (HV.o.grow hg);replace HG:=ae (ag HG.o hg);clear hg t0 t1 t2 t3 t4 t5 t6 s1 s2 s3 s4 s5;obtain⟨t0,t1,t2,t3,t4,t5,t6⟩:=HT.o.cells;obtain⟨s1,s2,s3,s4,s5⟩:=HV.o;go_wp2_with (fail);go_quiet (fail);obtain⟨U,hU⟩:=zN (w2.drewN nq);replace HT:Hd (TR A sg 0 a b c P Q U):=by show TR _ _ _ _ _ _ _ _ U;rw[<-hU];exact HT.o
 replace HV:Hd (St (A+1) v1 v2 v3 v4 v5 U):=by show St _ _ _ _ _ _ U;rw[<-hU];exact HV.o
 replace HG:Hd (w.grownBy U none):=by show w.grownBy U none;rw[<-hU];exact aH HG.o _
 try rw[hU]
 clear hU t0 t1 t2 t3 t4 t5 t6 s1 s2 s3 s4 s5;have NJ:=IV.o;subst NJ;have hsg:=lX.o;clear lX;obtain⟨t0,t1,t2,t3,t4,t5,t6⟩:=HT.o.cells;obtain⟨s1,s2,s3,s4,s5⟩:=HV.o
 by_cases h5:sg=5
 ·subst h5;clear hsg;go_wp2_with (go_at_call 81;refine(CL.o _).mono ?_);rintro e w5 rfl hg5;replace HG:=ae (ag HG.o hg5);clear hg5;go_wp2
  all_goals go_ret
  all_goals (refine⟨bi ?_,HG.o⟩;have hr:=HR.o;clear HR;simp_all<;>rfl)
 ·have hss:sg=0\/sg=1\/sg=2\/sg=3\/sg=4\/sg=6\/sg=7:=by omega
  clear h5 hsg
  rcases hss with rfl|rfl|rfl|rfl|rfl|rfl|rfl
  all_goals (
   go_wp2
   all_goals go_ret
   all_goals (refine⟨bi ?_,HG.o⟩;have hr:=HR.o;clear HR;simp_all<;>rfl))
theorem NK(k:Nat)(m:Int)(hm:(m=1/\k=1)\/(m=2/\k=2)\/(m=3/\k=3))(sg:Int)(hs:0<=sg/\sg<=7)(a b c v1 v2 v3:Int)(P Q X v4 v5:ByteArray)(w:World)(hX:X.size<=1048576)(hXk:bu ⟨k,a,b,c,P.data.toList⟩=⟨a,b,c,X.data.toList⟩)(hFk:rW ⟨k,a,b,c,P.data.toList⟩ ⟨v1,v2,v3,v4.data.toList⟩=decide (aB (bu ⟨k,a,b,c,P.data.toList⟩) ⟨v1,v2,v3,v4.data.toList⟩<=0))(CN:Hd (∀w,Calls prog 79 #[.agg #[.int .i64 m,.int .i64 a,.int .i64 b,.int .i64 c,.string P,.string Q],.agg #[.int .i64 v1,.int .i64 v2,.int .i64 v3,.string v4,.string v5]] w fun e w'=>e=.returned (.bool (iV ⟨k,a,b,c,P.data.toList⟩ ⟨v1,v2,v3,v4.data.toList⟩))/\w.grownBy w' none))(CP:Hd (∀w,Calls prog 78 #[.agg #[.int .i64 m,.int .i64 a,.int .i64 b,.int .i64 c,.string P,.string Q],.agg #[.int .i64 v1,.int .i64 v2,.int .i64 v3,.string v4,.string v5]] w fun e w'=>e=.returned (.int .i64 (iy ⟨k,a,b,c,P.data.toList⟩ ⟨v1,v2,v3,v4.data.toList⟩))/\w.grownBy w' none))(CL:Hd (∀w,Calls prog 81 #[.agg #[.int .i64 m,.int .i64 a,.int .i64 b,.int .i64 c,.string P,.string Q],.agg #[.int .i64 v1,.int .i64 v2,.int .i64 v3,.string v4,.string v5]] w fun e w'=>e=.returned (.bool (oZ ⟨k,a,b,c,P.data.toList⟩ ⟨v1,v2,v3,v4.data.toList⟩))/\w.grownBy w' none))(CF:Hd (∀w,Calls prog 80 #[.agg #[.int .i64 m,.int .i64 a,.int .i64 b,.int .i64 c,.string P,.string Q]] w fun e w'=>e=.returned (.agg #[.int .i64 a,.int .i64 b,.int .i64 c,.string X,.string ⟨#[]⟩])/\w.grownBy w' none))(hv:v4.size<=1048576) :
  Calls prog 49 #[.agg #[.int .i64 sg,.int .i64 m,.int .i64 a,.int .i64 b,.int .i64 c,.string P,.string Q],.agg #[.int .i64 v1,.int .i64 v2,.int .i64 v3,.string v4,.string v5]] w fun e w'=>e=.returned (.bool (jb ⟨sg,⟨k,a,b,c,P.data.toList⟩⟩ ⟨v1,v2,v3,v4.data.toList⟩))/\w.grownBy w' none:=by
 obtain⟨N,hN⟩:=zN (iV ⟨k,a,b,c,P.data.toList⟩ ⟨v1,v2,v3,v4.data.toList⟩);obtain⟨C,hC⟩:=zN (iy ⟨k,a,b,c,P.data.toList⟩ ⟨v1,v2,v3,v4.data.toList⟩);obtain⟨L,hL⟩:=zN (oZ ⟨k,a,b,c,P.data.toList⟩ ⟨v1,v2,v3,v4.data.toList⟩);obtain⟨x,hx⟩:=zN (aB (bu ⟨k,a,b,c,P.data.toList⟩) ⟨v1,v2,v3,v4.data.toList⟩);rw[hN]at CN;rw[hC]at CP;rw[hL]at CL;have CC:Hd (∀w,Calls prog 25 #[.agg #[.int .i64 a,.int .i64 b,.int .i64 c,.string X,.string ⟨#[]⟩],.agg #[.int .i64 v1,.int .i64 v2,.int .i64 v3,.string v4,.string v5]] w fun e w'=>e=.returned (.int .i64 x)/\w.grownBy w' none):=fun w=>by
  rw[<-hx,hXk];refine(yQ a b c v1 v2 v3 X ⟨#[]⟩ v4 v5 w hX hv).mono ?_;rintro e w' ⟨rfl,h⟩;exact⟨rfl,Eo h⟩
 obtain⟨F,hF⟩:=zN (rW ⟨k,a,b,c,P.data.toList⟩ ⟨v1,v2,v3,v4.data.toList⟩);have IV:Hd (F=decide (x<=0)):=by show F=_;rw[<-hF,<-hx,hFk]
 obtain⟨R,hR⟩:=zN (jb ⟨sg,⟨k,a,b,c,P.data.toList⟩⟩ ⟨v1,v2,v3,v4.data.toList⟩);have HR:Hd (R=if sg=0 then N else if sg=1 then decide (0<=C) else if sg=2 then decide (C<=0) else if sg=3 then decide (0<C) else if sg=4 then decide (C<0) else if sg=5 then F && L else if sg=6 then(F && (decide (k<1) || decide (v1=a))) && (decide (k<2) || decide (v2=b)) else F):=by
  show R=_;rw[<-hR];unfold jb;rw[hN,hC,hL,hF]
 rw[hR];have lX:=ae hs;have HM:=ae hm;have hm0:(m == 0)=false:=by rcases hm with⟨rfl,-⟩|⟨rfl,-⟩|⟨rfl,-⟩<;>rfl
 clear hN hC hL hx hF hR hv hs hX hXk hFk hm;go_enter func49,ntmps49;go_wp2_with (go_at_call 78;refine(CP.o _).mono ?_);rintro e w1 ⟨rfl,hg⟩;obtain⟨A,hA⟩:=zN (w.heap.size);have HT:Hd (TR A sg m a b c P Q w1):=by
  refine TR.grow (w:=(w.alloc (.cells #[.int .i64 sg,.int .i64 m,.int .i64 a,.int .i64 b,.int .i64 c,.string P,.string Q] 107)).alloc (.cells #[.int .i64 v1,.int .i64 v2,.int .i64 v3,.string v4,.string v5] 61)) ?_ hg;unfold TR;rw[<-hA,Lib.alloc_old _ _ _ (by simp)];exact heap_alloc_new w _
 have HV:Hd (St (A+1) v1 v2 v3 v4 v5 w1):=by
  refine St.grow ?_ hg;refine yN (t:=61) ?_;rw[<-hA];exact VN w _ _
 have HG:=ae (ag (ak (ak (ai w none) _) _) hg)
 try rw[hA]
 clear hA hg;obtain⟨t0,t1,t2,t3,t4,t5,t6⟩:=HT.o.cells;obtain⟨s1,s2,s3,s4,s5⟩:=HV.o;go_wp2_with (first|(go_at_call 79;refine(CN.o _).mono ?_));rintro e w2 ⟨rfl,hg⟩;replace HT:=ae (HT.o.grow hg);replace HV:=ae (HV.o.grow hg);replace HG:=ae (ag HG.o hg);clear hg t0 t1 t2 t3 t4 t5 t6 s1 s2 s3 s4 s5;obtain⟨t0,t1,t2,t3,t4,t5,t6⟩:=HT.o.cells;obtain⟨s1,s2,s3,s4,s5⟩:=HV.o;obtain⟨fb,hfb⟩:=zN (decide (x<=0));have BR:=ae hfb;clear hfb;go_wp2_with (fail)
 go_region_held3 (fun w'=>w'.cell? ⟨A,1,none⟩=some (.int .i64 m)/\w'.cell? ⟨A,2,none⟩=some (.int .i64 a)/\w'.cell? ⟨A,3,none⟩=some (.int .i64 b)/\w'.cell? ⟨A,4,none⟩=some (.int .i64 c)/\w'.cell? ⟨A,5,none⟩=some (.string P)/\w'.cell? ⟨A,6,none⟩=some (.string Q)/\w'.cell? ⟨A+1,0,none⟩=some (.int .i64 v1)/\w'.cell? ⟨A+1,1,none⟩=some (.int .i64 v2)/\w'.cell? ⟨A+1,2,none⟩=some (.int .i64 v3)/\w'.cell? ⟨A+1,3,none⟩=some (.string v4)/\w'.cell? ⟨A+1,4,none⟩=some (.string v5)) (first|(simp only[VM];exact⟨t1,t2,t3,t4,t5,t6,s1,s2,s3,s4,s5⟩)|exact afm (by assumption) (by assumption)) (first|(go_at_call 80;refine(CF.o _).mono ?_;rintro e w3 ⟨rfl,hg3⟩)|(go_at_call 25;refine(CC.o _).mono ?_;rintro e w4 ⟨rfl,hg4⟩))
 have hg5:=ag (dF hg3) hg4;replace HT:=ae (HT.o.grow hg5);replace HV:=ae (HV.o.grow hg5);replace HG:=ae (ag HG.o hg5);clear hg3 hg4 hg5 t0 t1 t2 t3 t4 t5 t6 s1 s2 s3 s4 s5 BR;have NJ:=IV.o;subst NJ
 cases hxb:decide (x<=0)
 all_goals (
  rw[hxb]at HR;clear hxb IV;have hsg:=lX.o;clear lX;obtain⟨t0,t1,t2,t3,t4,t5,t6⟩:=HT.o.cells;obtain⟨s1,s2,s3,s4,s5⟩:=HV.o
  by_cases h5:sg=5
  ·subst h5;clear hsg
   first
    | (go_wp2_with (go_at_call 81;refine(CL.o _).mono ?_)
       rintro e w5 rfl hg5;replace HG:=ae (ag HG.o hg5);clear hg5;go_wp2)
    | go_wp2
   all_goals go_ret
   all_goals (refine⟨bi ?_,HG.o⟩;have hr:=HR.o;clear HR;simp_all<;>rfl)
  ·have hss:sg=0\/sg=1\/sg=2\/sg=3\/sg=4\/sg=6\/sg=7:=by omega
   clear h5 hsg
   rcases HM.o with⟨rfl,rfl⟩|⟨rfl,rfl⟩|⟨rfl,rfl⟩
   all_goals (
    rcases hss with rfl|rfl|rfl|rfl|rfl|rfl|rfl
    all_goals (
     go_wp2
     all_goals go_ret
     all_goals (refine⟨bi ?_,HG.o⟩;have hr:=HR.o;clear HR;simp_all<;>rfl))))
theorem afo(sg:Int)(hs:0<=sg/\sg<=7)(a b c v1 v2 v3:Int)(P Q v4 v5:ByteArray)(w:World)(hp:P.size<=1048576)(hv:v4.size<=1048576) :
  Calls prog 49 #[.agg #[.int .i64 sg,.int .i64 1,.int .i64 a,.int .i64 b,.int .i64 c,.string P,.string Q],.agg #[.int .i64 v1,.int .i64 v2,.int .i64 v3,.string v4,.string v5]] w fun e w'=>e=.returned (.bool (jb ⟨sg,⟨1,a,b,c,P.data.toList⟩⟩ ⟨v1,v2,v3,v4.data.toList⟩))/\w.grownBy w' none :=
 NK 1 1 (Or.inl ⟨rfl,rfl⟩) sg hs a b c v1 v2 v3 P Q _ v4 v5 w (by show 1<=_;omega) rfl rfl (ae fun w=>U8 a b c v1 v2 v3 P Q v4 v5 w) (ae fun w=>ad9 a b c v1 v2 v3 P Q v4 v5 w hp hv) (ae fun w=>aed a b c v1 v2 v3 P Q v4 v5 w) (ae (aeh a b c P Q)) hv
theorem afp(sg:Int)(hs:0<=sg/\sg<=7)(a b c v1 v2 v3:Int)(P Q v4 v5:ByteArray)(w:World)(hp:P.size<=1048576)(hv:v4.size<=1048576) :
  Calls prog 49 #[.agg #[.int .i64 sg,.int .i64 2,.int .i64 a,.int .i64 b,.int .i64 c,.string P,.string Q],.agg #[.int .i64 v1,.int .i64 v2,.int .i64 v3,.string v4,.string v5]] w fun e w'=>e=.returned (.bool (jb ⟨sg,⟨2,a,b,c,P.data.toList⟩⟩ ⟨v1,v2,v3,v4.data.toList⟩))/\w.grownBy w' none :=
 NK 2 2 (Or.inr (Or.inl ⟨rfl,rfl⟩)) sg hs a b c v1 v2 v3 P Q _ v4 v5 w (by show 1<=_;omega) rfl rfl (ae fun w=>U9 a b c v1 v2 v3 P Q v4 v5 w) (ae fun w=>aea a b c v1 v2 v3 P Q v4 v5 w hp hv) (ae fun w=>aee a b c v1 v2 v3 P Q v4 v5 w) (ae (aei a b c P Q)) hv
theorem afq(sg:Int)(hs:0<=sg/\sg<=7)(a b c v1 v2 v3:Int)(P Q v4 v5:ByteArray)(w:World)(hp:P.size<=1048576)(hv:v4.size<=1048576) :
  Calls prog 49 #[.agg #[.int .i64 sg,.int .i64 3,.int .i64 a,.int .i64 b,.int .i64 c,.string P,.string Q],.agg #[.int .i64 v1,.int .i64 v2,.int .i64 v3,.string v4,.string v5]] w fun e w'=>e=.returned (.bool (jb ⟨sg,⟨3,a,b,c,P.data.toList⟩⟩ ⟨v1,v2,v3,v4.data.toList⟩))/\w.grownBy w' none :=
 NK 3 3 (Or.inr (Or.inr ⟨rfl,rfl⟩)) sg hs a b c v1 v2 v3 P Q _ v4 v5 w hp rfl rfl (ae fun w=>Va a b c v1 v2 v3 P Q v4 v5 w hp hv) (ae fun w=>aeb a b c v1 v2 v3 P Q v4 v5 w hp hv) (ae fun w=>aef a b c v1 v2 v3 P Q v4 v5 w) (ae (aej a b c P Q)) hv
end Go.Proofs.YtiinliaoojfjaaaGreatDoor
