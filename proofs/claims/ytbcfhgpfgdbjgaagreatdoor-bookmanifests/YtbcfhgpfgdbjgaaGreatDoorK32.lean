import Derived.Test.YtbcfhgpfgdbjgaaGreatDoorK28
import Derived.Test.YtbcfhgpfgdbjgaaGreatDoorK27
set_option linter.all false
set_option maxRecDepth 100000
set_option maxHeartbeats 0
open Go.Proofs.Tryz
namespace Go.Proofs.YtbcfhgpfgdbjgaaGreatDoor
open Go.RowKit Go.Maps Go.WideMaps Go.Joins
variable{many:Bool}{s:ByteArray}{ns:List Tn}{k:List UInt8}{R de i p t:Nat}{L O:Value}{w:World}
theorem aj7:(prog.info? 9).map (fun i=>(i.zero,i.size,i.bytes))=some (some (.string ⟨#[]⟩),1,16):=by kernel_rfl
theorem aj8(s:ByteArray):∀u∈[Value.string s],u.oneCell'=true:=by
 intro u hu;rw[List.mem_singleton.1 hu];rfl
theorem aj9(n:Nat):∀u∈[Value.int .i64 (n:Nat)],u.oneCell'=true:=by
 intro u hu;rw[List.mem_singleton.1 hu];rfl
def mm(l:List UInt8)(many:Bool)(q:Rs Nat):Rs Nat:=if many=true then(q.bind fun i=>must l i 93).bind fun i=>must l i 93 else q.bind fun i=>must l i 93
theorem aap(l:List UInt8)(many:Bool)(c:Int × Nat):mm l many (.error c)=.error c:=by cases many<;>rfl
theorem aka(l:List UInt8)(i:Nat)(ns:List Tn)(own:List Nat)(now:Nat)(many:Bool)(hm:decide (nx l (i+1)=91)=many)(c:Int × Nat)(h:gV l (l.length+1) (if many=true then i+2 else i+1) []=.error c):iw l ⟨i,ns,own,now⟩=.error c:=by
 rw[F7 l i ns own now many hm,h]
theorem akb(l:List UInt8)(i:Nat)(ns:List Tn)(own:List Nat)(now:Nat)(many:Bool)(hm:decide (nx l (i+1)=91)=many)(ks:List (List UInt8 × Nat))(j:Nat)(h:gV l (l.length+1) (if many=true then i+2 else i+1) []=.ok (ks,j)) :
  (∀c,mm l many (.ok j)=.error c->iw l ⟨i,ns,own,now⟩=.error c)/\(∀j2,mm l many (.ok j)=.ok j2->iw l ⟨i,ns,own,now⟩=Dv j2 own (way many own ks 0 ns)):=by
 rw[F7 l i ns own now many hm,h];have e:mm l many (.ok j)=if many=true then(must l j 93).bind (fun i=>must l i 93) else must l j 93:=rfl;rw[e];simp only[]
 cases must l j 93 with
 |error d=>
  have e2:(if many=true then(Except.error d:Rs Nat).bind (fun i=>must l i 93) else .error d)=.error d:=by cases many<;>rfl
  rw[e2];exact⟨fun c hc=>(by cases hc;rfl),fun j2 hc=>(by cases hc)⟩
 |ok j1=>
  have e2:(if many=true then(Except.ok j1:Rs Nat).bind (fun i=>must l i 93) else .ok j1)=(if many=true then must l j1 93 else .ok j1):=rfl;rw[e2];simp only[]
  cases (if many=true then must l j1 93 else .ok j1:Rs Nat) with
  |error d=>exact⟨fun c hc=>(by cases hc;rfl),fun j2 hc=>(by cases hc)⟩
  |ok j2=>exact⟨fun c hc=>(by cases hc),fun j3 hc=>(by cases hc;rfl)⟩
def q3:Rs (List UInt8 × Nat)->Rs Nat
 | .error e=>.error e
 | .ok (_,j)=>.ok j
theorem akc{M:Nat}{now:Nat}{g:Rs (List UInt8 × Nat)}{e:Ending}{w':World}(h:Wv i M R s L O now de g w e w'):∃t:List UInt8,e=.returned (.tuple #[.string ⟨t.toArray⟩,.int .i64 (i:Nat)])/\Ds w' R s L O now de (q3 g)/\(∀k j,g=.ok (k,j)->t=k)/\w.grownBy w' (some R):=by
 match g,h with
 | .error (c,p),h =>
  obtain⟨⟨t,-,h1⟩,h2⟩:=h.2.1 c p rfl;exact⟨t,h1,h2,fun k j hh=>(by cases hh),h.2.2⟩
 | .ok (k,j),h =>
  obtain⟨h1,h2⟩:=h.1 k j rfl;exact⟨k,h1,h2,fun k' j' hh=>(by cases hh;rfl),h.2.2⟩
def Sm(l:List UInt8)(f:Nat)(acc:List (List UInt8 × Nat))(p:Nat):Rs (List UInt8 × Nat)->Rs (List (List UInt8 × Nat) × Nat)
 | .error e=>.error e
 | .ok (k,j)=>if nx l (bl l j)=46 then gV l f (bl l j+1) (acc++[(k,p)]) else .ok (acc++[(k,p)],bl l j)
theorem akd(l:List UInt8)(f i:Nat)(acc:List (List UInt8 × Nat)):gV l (f+1) i acc=Sm l f acc (bl l i) (dw l (bl l i)):=by
 rw[FX]
 cases dw l (bl l i) with
 |error e=>rfl
 |ok q=>rfl
theorem Ds.err{now:Nat}(h:Ds w R s L O now de (.ok i)):w.cell? ⟨R,5,none⟩=some (.int .i64 0)/\w.cell? ⟨R,1,none⟩=some (.int .i64 (i:Nat))/\(∀k,w.frozen? ⟨R,k,none⟩=false):=⟨h.2.cells.2.2.2.2.2.1,h.2.cells.2.1,h.2.cells.2.2.2.2.2.2.2.2⟩
theorem Ds.to{now:Nat}(h:Ds w R s L O now de (.ok i))(j:Nat)(hj:j<=s.size):Ds (w.setCell ⟨R,1,none⟩ (.int .i64 (j:Nat))) R s L O now de (.ok j):=⟨hj,h.2.setI j⟩
theorem ake(many:Bool)(B P R:Nat)(s:ByteArray)(now de j:Nat)(ns:List Tn)(own:List Nat)(t:Nat)(k:List UInt8)(p:Nat)(w:World)(h:Dt w B P R s now de (.ok j) ns own)(W:WF ns own)(ht:t<ns.length)(hsz:ns.length<=900000) :
  Calls prog 57 #[.pointer (some ⟨R,0,none⟩),.int .i64 (t:Nat),.string ⟨k.toArray⟩,.int .i64 (p:Nat),.bool many] w (KA B P R s now de (.ok j) ns own (if many=true then gz ns t k p else gy ns own t k p) w):=by
 cases many with
 |true=>exact ahx B P R s now de j ns own t k p w h W ht hsz
 |false=>exact ahy B P R s now de j ns own t k p w h W ht hsz
theorem akf{own:List Nat}{c:Int × Nat}(h:(if many=true then gz ns t k p else gy ns own t k p)=.error c):c=(5,p):=by
 cases many with
 |true=>exact aiD h
 |false=>exact aiC h
theorem akg{ns':List Tn}{own:List Nat}{t':Nat}(J:Jt ns own t)(h:(if many=true then gz ns t k p else gy ns own t k p)=.ok (t',ns')):t'<ns'.length:=by
 cases many with
 |true=>exact(Vl J h).1.lt
 |false=>exact(Vk J h).1.lt
theorem akh:Rt:=by
 intro B P R s now i ns own w h hPB hs hx LI;have hl:s.data.toList.length=s.size:=by simp
 have HT0:=ae h;obtain⟨hb1,hb2,hb3⟩:=h.base;obtain⟨a1,a2,N,c,O,oc,xs,ks,a3,a4,a5,a6⟩:=h;obtain⟨LV,hLV⟩:=zN (Value.slice (some ⟨N,0,none⟩) ns.length c);obtain⟨OV,hOV⟩:=zN (Value.slice (some ⟨O,0,none⟩) ns.length oc);rw[hLV,hOV]at a6;have CM:=ae (fun(q:Rs Nat) (c:Int) w (hc:0<=c) (h:Ds w R s LV OV now 0 q)=>Nh R s LV OV now 0 q c hc w h (by omega));have CI:=ae (fun(q:Rs Nat) (c:Int) w (hc:0<=c) (h:Ds w R s LV OV now 0 q)=>uk R s LV OV now 0 q c hc w h (by omega));have CB:=ae (fun(q:Rs Nat) w (h:Ds w R s LV OV now 0 q)=>Uj R s LV OV now 0 q w h (by omega));have CK:=ae (fun k w (h:Ds w R s LV OV now 0 (.ok k))=>Wx R s LV OV now 0 k w h.2 h.1 (by omega));have fV:Hd (∀k,k<=s.size->k<=bl s.data.toList k/\bl s.data.toList k<=s.size):=fun k hk=>by rw[<-hl];exact jQ _ k (by omega)
 have jU:Hd (∀k x j,k<=s.size->dw s.data.toList k=.ok (x,j)->k<j/\j<=s.size):=fun k x j a b=>by
  have:=xK s.data.toList k x j (by omega) b;omega
 have dC:Hd (∀k,nx s.data.toList k=46->k<s.size):=fun k a=>by
  have:=bD (l:=s.data.toList) (i:=k) (by rw[a];decide);omega
 have hil:i<s.size:=by
  have:=bD (l:=s.data.toList) (i:=i) (by rw[hx];decide);omega
 have CM0:Hd (Calls prog 43 #[.pointer (some ⟨R,0,none⟩),.int .u8 91] w fun e w'=>e=.returned (.tuple #[])/\Ds w' R s LV OV now 0 (.ok (i+1))/\w.grownBy w' (some R)):=by
  have:=CM.o (.ok i) 91 w (by decide) a6;have e:(Except.bind (.ok i) fun i=>must s.data.toList i 91:Rs Nat)=.ok (i+1):=by show must _ i 91=_;unfold must;rw[if_pos hx]
  rw[e]at this;exact this
 obtain⟨many,hm⟩:=zN (decide (nx s.data.toList (i+1)=91));have CI0:Hd (∀w,Ds w R s LV OV now 0 (.ok (i+1))->Calls prog 39 #[.pointer (some ⟨R,0,none⟩),.int .u8 91] w fun e w'=>e=.returned (.bool many)/\w.grownBy w' none):=fun w h=>by
  have:=CI.o (.ok (i+1)) 91 w (by decide) h;rw[show iL s.data.toList (.ok (i+1)) 91=many from hm]at this;exact this
 have HI2:Hd (many=true->i+2<=s.size):=fun e=>by
  rw[e]at hm;have:=bD (l:=s.data.toList) (i:=i+1) (by rw[of_decide_eq_true hm];decide);omega
 obtain⟨G,hG⟩:=zN (iw s.data.toList ⟨i,ns,own,now⟩);obtain⟨S,hS⟩:=zN (gV s.data.toList (s.data.toList.length+1) (if many=true then i+2 else i+1) []);have kW:Hd (∀c,S=.error c->G=.error c):=fun c hc=>by
  show G=_;rw[<-hG];exact aka _ i ns own now many hm c (hS.trans hc)
 have o6:Hd (∀ks j,S=.ok (ks,j)->(∀c,mm s.data.toList many (.ok j)=.error c->G=.error c)/\(∀j2,mm s.data.toList many (.ok j)=.ok j2->G=Dv j2 own (way many own ks 0 ns))):=fun ks j hc=>by
  rw[<-hG];exact akb _ i ns own now many hm ks j (hS.trans hc)
 have HHO:Hd (∀ks j,S=.ok (ks,j)->(∀x∈ks,x.1.length<=s.size)/\0<ks.length/\ks.length<=s.size):=fun ks j hc=>by
  have hi0:(if many=true then i+2 else i+1)<=s.data.toList.length:=by
   have:=HI2.o
   cases many with
   |true=>have:=this rfl;simp only[if_true];omega
   |false=>simp only[Bool.false_eq_true,if_false];omega
  obtain⟨b1,b2,b3,b4⟩:=JS s.data.toList _ _ _ _ _ hi0 (fun x hx=>absurd hx (by simp)) (hS.trans hc);simp only[List.length_nil]at b2 b3;exact⟨fun x hx=>by have:=b1 x hx;omega,by omega,by omega⟩
 rw[hG];have HS:=ae hS;have D8:=ae LI;have D9:=ae hPB;have x9:Hd (B<=w.heap.size/\P<w.heap.size/\R<w.heap.size):=⟨hb1,hb2,hb3⟩;have dF:=ae a6;obtain⟨i0,aki,hii⟩:=Option.map_eq_some_iff.1 aj7;simp only[Prod.mk.injEq]at hii;obtain⟨hz0,hz1,hzb⟩:=hii;obtain⟨j0,hj0,hjj⟩:=Option.map_eq_some_iff.1 NR;simp only[Prod.mk.injEq]at hjj;obtain⟨hy0,hy1,hyb⟩:=hjj;clear hG hS LI hPB a1 a2 a3 a4 a5 a6 hLV hOV hx hm hb1 hb2 hb3;go_enter func40,ntmps40
 go_upto_if 15 with(first|(go_at_call 43;refine CM0.o.mono ?_;rintro e w1 ⟨rfl,hd1,hg1⟩)|(go_at_call 39;refine(CI0.o _ hd1).mono ?_;rintro e w2 ⟨rfl,hg2⟩))
 have HD2:=ae (hd1.grow hg2);have HG2:=ae (aP hg1 hg2);clear hd1 hg1 hg2 CM0 CI0
 go_cut [] from 11 (fun wx=>Ds wx R s LV OV now 0 (.ok (if many=true then i+2 else i+1))/\w.grownBy wx (some R))
 case first=>
  obtain⟨-,c1,cf⟩:=HD2.o.err;have cf1:=cf 1;clear cf
  cases many with
  |true=>
   have HD3:Hd (Ds (w2.setCell ⟨R,1,none⟩ (.int .i64 (((i+1:Nat):Int)+1))) R s LV OV now 0 (.ok (i+2))):=HD2.o.to (i+2) (HI2.o rfl);go_wp2;go_meet;exact⟨HD3.o,aT HG2.o 1 _⟩
  |false=>
   go_wp2;go_meet;exact⟨HD2.o,HG2.o⟩
 case rest=>
  obtain⟨hd3,hg3⟩:=hcut;have hi0:=hd3.1;obtain⟨i2,hi2⟩:=zN ((if many=true then i+2 else i+1));rw[hi2]at HS hd3 hi0;have HD3:=ae hd3;have aU:=ae hg3;clear hd3 hg3 hi2 HD2 HG2;go_wp2;go_loopw [3,4,5] (fun v3 v4 v5 wr=>∃(q:Rs Nat) (acc:List (List UInt8 × Nat)),Ds wr R s LV OV now 0 q/\w.grownBy wr (some R)/\wr.ownsRow w.heap.size 9 1 v3 acc.length (vC acc)/\wr.ownsRow w.heap.size 3 1 v4 acc.length (vF acc)/\acc.length<=100001/\((v5=.bool true/\∃(kx f:Nat),q=.ok kx/\s.size-kx<f/\gV s.data.toList f kx acc=S/\acc.length<=kx)\/(v5=.bool false/\((∃kx,q=.ok kx/\S=.ok (acc,kx))\/∃c,q=.error c/\S=.error c)))) (fun _ _ v5 wr=>match v5 with | .bool true=>s.size+2-(match wr.cell? ⟨R,1,none⟩ with|some (.int _ k)=>k.toNat|_=>0)|_=>0)
  case atStart=>exact⟨.ok i2,[],HD3.o,aU.o,World.ownsRow_nil _ _ _ _,World.ownsRow_nil _ _ _ _,by simp,Or.inl ⟨rfl,i2,s.data.toList.length+1,rfl,by omega,HS.o,by simp⟩⟩
  case round=>
   obtain⟨q,acc,hds,hg,hk,hp,hal,hor⟩:=hrel
   rcases hor with⟨rfl,kx,f,rfl,hf,hhd,hak⟩|⟨rfl,hor⟩
   ·-- a key more
    obtain⟨f,rfl⟩:∃f',f=f'+1:=⟨f-1,by omega⟩;rw[akd]at hhd;obtain⟨c5,c1,cf⟩:=hds.err;have hkx:=hds.1;have eY:Hd ((match wr.cell? ⟨R,1,none⟩ with|some (.int _ k)=>k.toNat|_=>0)=kx):=by show _=_;rw[c1];simp
    have HG:=ae hg;have HK:=ae hk;have HP:=ae hp;have HDk:=ae hds;have C1:=CB.o (.ok kx) wr hds;obtain⟨b1,b2⟩:=fV.o kx hkx;obtain⟨jb,hjb⟩:=zN (bl s.data.toList kx);have e1:(Except.bind (.ok kx) fun i=>.ok (bl s.data.toList i):Rs Nat)=.ok jb:=by show Except.ok _=_;rw[hjb]
    rw[e1]at C1;rw[hjb]at hhd b1 b2;have zV:=ae C1;have C2:=CK.o jb;have K2:=jU.o jb;obtain⟨KR,lw⟩:=zN (dw s.data.toList jb);rw[lw]at C2 hhd K2;have C2':=ae C2;have wM:=ae hhd;have fD:=ae (fun x j (hh:KR=.ok (x,j))=>K2 x j b2 hh);clear hds hg hk hp hhd C1 C2 K2 hjb lw e1 c1 cf;go_wp2_with (first|(go_at_call 38;refine zV.o.mono ?_));rintro e w2 ⟨rfl,hd2,hg2⟩;have HD2:=ae hd2;have HG2:=ae (dK HG.o hg2);obtain⟨x1,x2,x3,hdd⟩:=HDk.o.dd;have akj:=ae (bY HK.o fun g' cur' hh hc=>hg2.block g' (aG hc) (by simp only[ne_eq,Option.some.injEq];exact aZ hc hdd (by decide)));have akk:=ae (bY HP.o fun g' cur' hh hc=>hg2.block g' (aG hc) (by simp only[ne_eq,Option.some.injEq];exact aZ hc hdd (by decide)));clear hd2 hg2 hdd c5;go_wp2_with (go_at_call 55;refine(C2'.o _ HD2.o).mono ?_);intro e w3 hdk
    obtain⟨t,rfl,hd3,hkt,hg3⟩:=akc hdk;have aU:=ae (dK HG2.o hg3);obtain⟨x1,x2,x3,hdd⟩:=HD2.o.dd;have hk3:=bY akj.o fun g' cur' hh hc=>hg3.block g' (aG hc) (by simp only[ne_eq,Option.some.injEq];exact aZ hc hdd (by decide))
    have hp3:=bY akk.o fun g' cur' hh hc=>hg3.block g' (aG hc) (by simp only[ne_eq,Option.some.injEq];exact aZ hc hdd (by decide))
    have uZ:=ae hp3;have yO:=ae hd3;have LZ:=ae hkt;have hz3:=aU.o.size;clear hdk hd3 hkt hg3 hdd hp3;go_wp2_with (first|(at_builtin;refine wpList_append_lies _ rfl _ _ 113 rfl w.heap.size 9 i0 _ 1 16 underlying113 aki hz0 hz1 hzb rfl (by decide) _ _ _ rfl (hk3.alloc _) _ 1 1 [.string ⟨t.toArray⟩] rfl rfl (World.news_of_block (heap_alloc_new _ _)) (aj8 _) (by decide) (by unfold maxLen;omega) (by omega) (by simp;omega) _ rfl ?_));intro g4 cap4 w4 hown4 hgrow4 hat4 hlt4;have HD4:=ae ((yO.o.grow (World.grownBy_alloc w3 (.cells #[.string ⟨t.toArray⟩] 9) none)).app (hk3.alloc _) hgrow4 (by decide));have dn:=ae (PI (aP aU.o (World.grownBy_alloc w3 (.cells #[.string ⟨t.toArray⟩] 9) none)) hgrow4 (fun b hb=>(dO hk3 hb).1));have Hu:w4.ownsRow w.heap.size 3 1 u4 acc.length (vF acc):=bY (uZ.o.alloc (.cells #[.string ⟨t.toArray⟩] 9)) fun g' cur' hh hc=>hgrow4.block g' (aG hc) (fun e=>by
     obtain⟨-,cc,hcc⟩:=dO (hk3.alloc (.cells #[.string ⟨t.toArray⟩] 9)) e.symm;exact aZ hc hcc (by decide) rfl)
    have qh:=ae hown4;have KH:=dn.o.size;clear hown4 hgrow4 hat4 hlt4 hk3;go_wp2_with (first|(at_builtin;refine wpList_append_lies _ rfl _ _ 46 rfl w.heap.size 3 j0 _ 1 8 underlying46 hj0 hy0 hy1 hyb rfl (by decide) _ _ _ rfl (Hu.alloc _) _ 1 1 [.int .i64 (jb:Nat)] rfl rfl (World.news_of_block (heap_alloc_new _ _)) (aj9 _) (by decide) (by unfold maxLen;omega) (by omega) (by simp;omega) _ rfl ?_));intro g5 cap5 w5 hown5 hgrow5 hat5 hlt5;have HD5:=ae ((HD4.o.grow (World.grownBy_alloc w4 (.cells #[.int .i64 (jb:Nat)] 3) none)).app (Hu.alloc _) hgrow5 (by decide));have fJ:=ae (PI (aP dn.o (World.grownBy_alloc w4 (.cells #[.int .i64 (jb:Nat)] 3) none)) hgrow5 (fun b hb=>(dO Hu hb).1));have wQ:Hd (w5.ownsRow w.heap.size 9 1 (.slice (some ⟨g4,0,none⟩) (acc.length+1) cap4) (acc.length+1) (vC acc++[.string ⟨t.toArray⟩])):=bY (qh.o.alloc (.cells #[.int .i64 (jb:Nat)] 3)) fun g' cur' hh hc=>hgrow5.block g' (aG hc) (fun e=>by
     obtain⟨-,cc,hcc⟩:=dO (Hu.alloc (.cells #[.int .i64 (jb:Nat)] 3)) e.symm;exact aZ hc hcc (by decide) rfl)
    have LG:=ae hown5;clear hown5 hgrow5 hat5 hlt5 Hu;obtain⟨q4,hq4⟩:=zN (((q3 KR).bind fun i=>.ok (bl s.data.toList i):Rs Nat));have C6:=CB.o (q3 KR) w5 HD5.o;rw[hq4]at C6;have PX:=ae C6;have C7:=CI.o q4 46;obtain⟨b,hb⟩:=zN (iL s.data.toList q4 46);rw[hb]at C7;have PL:=ae (fun w (h:Ds w R s LV OV now 0 q4)=>C7 w (by decide) h);have xx:=ae hq4;have HB4:=ae hb;clear C6 C7 hq4 hb;go_wp2_with (first|(go_at_call 38;refine PX.o.mono ?_));rintro e w6 ⟨rfl,hd6,dV⟩;have HD6:=ae hd6;have lL:=ae (dK fJ.o dV);obtain⟨x1,x2,x3,hdd⟩:=HD5.o.dd;have HK6:=ae (bY wQ.o fun g' cur' hh hc=>dV.block g' (aG hc) (by simp only[ne_eq,Option.some.injEq];exact aZ hc hdd (by decide)));have Du:=ae (bY LG.o fun g' cur' hh hc=>dV.block g' (aG hc) (by simp only[ne_eq,Option.some.injEq];exact aZ hc hdd (by decide)))
    clear hd6 dV hdd;go_wp2_with (go_at_call 39;refine(PL.o _ HD6.o).mono ?_);rintro e w7 ⟨rfl,iV⟩;have HD7:=ae (HD6.o.grow iV);have BN:=ae (aP lL.o iV);have ou:Hd ((acc++[(t,jb)]).length=acc.length+1):=by show _=_;simp
    have Kw:Hd (w7.ownsRow w.heap.size 9 1 (.slice (some ⟨g4,0,none⟩) (acc.length+1) cap4) (acc++[(t,jb)]).length (vC (acc++[(t,jb)]))):=by
     show World.ownsRow _ _ _ _ _ _ _;rw[ou.o,aiE];exact bY HK6.o fun g' cur' hh hc=>iV.block g' (aG hc) (by simp)
    have vw:Hd (w7.ownsRow w.heap.size 3 1 (.slice (some ⟨g5,0,none⟩) (acc.length+1) cap5) (acc++[(t,jb)]).length (vF (acc++[(t,jb)]))):=by
     show World.ownsRow _ _ _ _ _ _ _;rw[ou.o,aiF];exact bY Du.o fun g' cur' hh hc=>iV.block g' (aG hc) (by simp)
    clear iV
    cases b with
    |true=>
     obtain⟨kk,j,lw⟩:∃kk j,KR=.ok (kk,j):=by
      match KR,xx with
      | .error e,xx =>
       have h1:(Except.error e:Rs Nat)=q4:=xx.o;have h2:=HB4.o;rw[<-h1]at h2
       cases h2
      | .ok (kk,j),_=>exact⟨kk,j,rfl⟩
     have ht:=LZ.o kk j lw;obtain⟨k1,k2⟩:=fD.o kk j lw;have hh:=wM.o;have hq:=xx.o;have hb:=HB4.o;rw[lw]at hh hq;have hq':(Except.ok (bl s.data.toList j):Rs Nat)=q4:=hq;rw[<-hq']at hb;have hb':=of_decide_eq_true hb;have hh':gV s.data.toList f (bl s.data.toList j+1) (acc++[(kk,jb)])=S:=by
      have e:Sm s.data.toList f acc jb (.ok (kk,j))=gV s.data.toList f (bl s.data.toList j+1) (acc++[(kk,jb)]):=if_pos hb';rw[<-e];exact hh
     obtain⟨d1,d2⟩:=fV.o j k2;have d3:=dC.o _ hb';obtain⟨j7,FZ⟩:=zN (bl s.data.toList j);rw[FZ]at hq' hh' d1 d2 d3;rw[<-ht]at hh';have HHK:=ae hh';have Hw:=HD7.o;rw[<-hq']at Hw;obtain⟨-,c1,cf⟩:=Hw.err;have cf1:=cf 1;have HD9:Hd (Ds (w7.setCell ⟨R,1,none⟩ (.int .i64 ((j7:Int)+1))) R s LV OV now 0 (.ok (j7+1))):=Hw.to (j7+1) (by omega);obtain⟨x1,x2,x3,hdd⟩:=Hw.dd;have HK9:Hd ((w7.setCell ⟨R,1,none⟩ (.int .i64 ((j7:Int)+1))).ownsRow w.heap.size 9 1 (.slice (some ⟨g4,0,none⟩) (acc.length+1) cap4) (acc++[(t,jb)]).length (vC (acc++[(t,jb)]))):=bY Kw.o fun g' cur' hh hc=>heap_setCell_other _ _ _ _ (aZ hc hdd (by decide))
     have HP9:Hd ((w7.setCell ⟨R,1,none⟩ (.int .i64 ((j7:Int)+1))).ownsRow w.heap.size 3 1 (.slice (some ⟨g5,0,none⟩) (acc.length+1) cap5) (acc++[(t,jb)]).length (vF (acc++[(t,jb)]))):=bY vw.o fun g' cur' hh hc=>heap_setCell_other _ _ _ _ (aZ hc hdd (by decide))
     clear lw ht hh hq hb hq' hb' hh' FZ Hw cf hdd;go_wp2;go_roundw
     case rel=>exact⟨.ok (j7+1),acc++[(t,jb)],HD9.o,aT BN.o 1 _,HK9.o,HP9.o,by rw[ou.o];omega,Or.inl ⟨rfl,j7+1,f,rfl,by omega,HHK.o,by rw[ou.o];omega⟩⟩
     case measure=>
      rw[eY.o,HD9.o.err.2.1];simp;omega
    |false=>
     have wY:Hd ((∃kx,q4=.ok kx/\S=.ok (acc++[(t,jb)],kx))\/∃c,q4=.error c/\S=.error c):=by
      match KR,xx,wM,LZ with
      | .error e,xx,wM,_=>exact Or.inr ⟨e,xx.o.symm,wM.o.symm⟩
      | .ok (kk,j),xx,wM,LZ =>
       have ht:=LZ.o kk j rfl;have hq:(Except.ok (bl s.data.toList j):Rs Nat)=q4:=xx.o;have hb:=HB4.o;rw[<-hq]at hb;have hb':=of_decide_eq_false hb;refine Or.inl ⟨_,hq.symm,?_⟩;have e:Sm s.data.toList f acc jb (.ok (kk,j))=.ok (acc++[(kk,jb)],bl s.data.toList j):=if_neg hb';rw[ht,<-e];exact wM.o.symm
     go_wp2;go_roundw
     case rel=>exact⟨q4,acc++[(t,jb)],HD7.o,BN.o,Kw.o,vw.o,by rw[ou.o];omega,Or.inr ⟨rfl,wY.o⟩⟩
     case measure=>
      rw[eY.o];simp;omega
   ·-- no more keys
    obtain⟨o3,k3,rfl⟩:=nV hk;obtain⟨o4,k4,rfl⟩:=nV hp;have HDq:=ae hds;have HG:=ae hg;have HK:=ae hk;have HP:=ae hp;have wY:=ae hor;have CM1:=ae (CM.o q 93 wr (by decide) hds);have Sr:=ae (fun w (h:Ds w R s LV OV now 0 (q.bind fun i=>must s.data.toList i 93))=>CM.o _ 93 w (by decide) h);have pR:Hd (mm s.data.toList many q=if many=true then(q.bind fun i=>must s.data.toList i 93).bind (fun i=>must s.data.toList i 93) else q.bind fun i=>must s.data.toList i 93):=rfl;obtain⟨qA,hqA⟩:=zN ((q.bind fun i=>must s.data.toList i 93:Rs Nat));rw[hqA]at CM1 Sr pR;obtain⟨qB,hqB⟩:=zN ((qA.bind fun i=>must s.data.toList i 93:Rs Nat));rw[hqB]at Sr pR;obtain⟨q5,hq5⟩:=zN (mm s.data.toList many q);have AB:=ae hq5;rw[hq5]at pR;obtain⟨n,hn⟩:=zN (acc.length);have HN:=ae hn;rw[hn]at HK HP hal ⊢;clear hds hg hk hp hor hqA hqB hq5 hn
    go_upto_if 60 with(first|(go_at_call 43;refine CM1.o.mono ?_;rintro e w2 ⟨rfl,hd2,hg2⟩))
    have HD2:=ae hd2;have HG2:=ae (dK HG.o hg2);obtain⟨x1,x2,x3,hdd⟩:=HDq.o.dd;have fD:=ae (bY HK.o fun g' cur' hh hc=>hg2.block g' (aG hc) (by simp only[ne_eq,Option.some.injEq];exact aZ hc hdd (by decide)));have HP2:=ae (bY HP.o fun g' cur' hh hc=>hg2.block g' (aG hc) (by simp only[ne_eq,Option.some.injEq];exact aZ hc hdd (by decide)));clear hd2 hg2 hdd
    go_cut [] from 58 (fun wx=>Ds wx R s LV OV now 0 q5/\w.grownBy wx (some R)/\wx.ownsRow w.heap.size 9 1 (.slice o3 n k3) n (vC acc)/\wx.ownsRow w.heap.size 3 1 (.slice o4 n k4) n (vF acc))
    case first=>
     cases many with
     |true=>
      have HE:Hd (q5=qB):=pR.o;go_wp2_with (go_at_call 43;refine(Sr.o _ HD2.o).mono ?_;rintro e w3 ⟨rfl,hd3,hg3⟩);go_meet;rw[HE.o];obtain⟨x1,x2,x3,hdd⟩:=HD2.o.dd;exact⟨hd3,dK HG2.o hg3,bY fD.o fun g' cur' hh hc=>hg3.block g' (aG hc) (by simp only[ne_eq,Option.some.injEq];exact aZ hc hdd (by decide)),bY HP2.o fun g' cur' hh hc=>hg3.block g' (aG hc) (by simp only[ne_eq,Option.some.injEq];exact aZ hc hdd (by decide))⟩
     |false=>
      have HE:Hd (q5=qA):=pR.o;go_wp2;go_meet;rw[HE.o];exact⟨HD2.o,HG2.o,fD.o,HP2.o⟩
    case rest=>
     obtain⟨hd5,hg5,hk5,Az⟩:=hcut;obtain⟨hB1,hB2,hB3⟩:=x9.o;have xh:Hd (DFr B P w wc):=by
      have hT:=HT0.o;obtain⟨z1,z2,-⟩:=hT;exact sV dF.o z1 z2 hB2 hg5
     match q5,hd5,AB with
     | .error c,hd5,AB =>
      have dU:Hd (G=.error c):=by
       rcases wY.o with⟨kx,e1,e2⟩|⟨c',e1,e2⟩
       ·have:=AB.o;rw[e1]at this;exact(o6.o _ _ e2).1 c this
       ·have:=AB.o;rw[e1,aap]at this
        cases this
        exact kW.o _ e2
      have yV:Hd (Fq wc B P R s now 0 c):=by
       have hT:=HT0.o;obtain⟨z1,z2,-⟩:=hT;exact⟨LV,OV,hd5,z1,z2,Nat.lt_of_lt_of_le hB2 hg5.size⟩
      obtain⟨-,c5,z5⟩:=yV.o.now;obtain⟨e1,he1⟩:=zN c.1;rw[he1]at c5 z5;clear hd5 hg5 hk5 Az he1 hB1 hB2 hB3;go_wp2;go_loopw [9] (fun v9 wr=>v9=.int .i64 0/\wr=wc) (fun _ _=>0)
      case atStart=>exact⟨rfl,rfl⟩
      case round=>
       obtain⟨rfl,rfl⟩:=hrel
       by_cases hn0:0<n
       ·have hlt1:decide ((0:Int)<(n:Int))=true:=by simp;omega
        have hlt2:(0:Int)<(n:Int):=by omega
        go_wp2;refine bodyPost_end (results_none rfl _ _ _) rfl ?_;rw[dU.o];exact⟨rfl,fun d hh=>(by cases hh),fun c' hh=>(by injection hh with hh;subst hh;exact⟨now,yV.o⟩),xh.o⟩
       ·have hlt1:decide ((0:Int)<(n:Int))=false:=by simp;omega
        have hlt2:¬(0:Int)<(n:Int):=by omega
        go_wp2;refine bodyPost_end (results_none rfl _ _ _) rfl ?_;rw[dU.o];exact⟨rfl,fun d hh=>(by cases hh),fun c' hh=>(by injection hh with hh;subst hh;exact⟨now,yV.o⟩),xh.o⟩
     | .ok j2,hd5,AB =>
      obtain⟨kx,hqk,Su⟩:∃kx,q=.ok kx/\S=.ok (acc,kx):=by
       rcases wY.o with h|⟨c',e1,e2⟩
       ·exact h
       ·have:=AB.o;rw[e1,aap]at this
        cases this
      have hmm:=AB.o;rw[hqk]at hmm;have hG2:=(o6.o _ _ Su).2 j2 hmm;obtain⟨hkl,pg,hns⟩:=HHO.o _ _ Su;obtain⟨Sw,hSw⟩:=zN (way many own acc 0 ns);rw[hSw]at hG2;have dR:=ae hG2;have HSW:=ae hSw;have hnn:=HN.o;rw[hnn]at pg hns;obtain⟨g3,c3,h3v,-,-⟩:=hk5.form pg;obtain⟨g4,c4,h4v,-,-⟩:=Az.form pg;injection h3v with h3o _ h3c
      injection h4v with h4o _ h4c
      subst h3o h3c h4o h4c;obtain⟨aaq,cu4,aar⟩:=dO Az (g:=g4) rfl;have FP:Hd (Dt wc B g4 R s now 0 (.ok j2) ns own):=HT0.o.places hg5 (fun L O hd=>by obtain⟨rfl,rfl⟩:=Ds.uni hd dF.o;exact hd5) aaq (aG aar);have BG:=ae hk5;have Sv:=ae Az;obtain⟨d,hd⟩:∃d,n=d+1:=⟨n-1,by omega⟩;subst hd;have HJ:Hd (Jt ns own 0):=⟨D8.o.jt.wf,D8.o.jt.wt,oO D8.o.rt (by omega),D8.o.rt⟩;have HNN:Hd (ns.length<=300000):=by have h1:=D8.o.nn;have h2:=D8.o.le;simp only[]at h1 h2;show _<=_;omega
      have HW1:Hd (∀i (hi:i<acc.length) t m,i+1<acc.length->way many own (acc.drop i) t m=match gm m t acc[i].1 acc[i].2 with | .error e=>.error e | .ok (t1,ns1)=>way many own (acc.drop (i+1)) t1 ns1):=fun i hi t m h2=>by
       rw[List.drop_eq_getElem_cons hi,List.drop_eq_getElem_cons h2];exact EP many own acc[i].1 acc[i].2 acc[i+1] _ t m
      have HW0:Hd (∀i (hi:i<acc.length) t m,i+1=acc.length->way many own (acc.drop i) t m=if many=true then gz m t acc[i].1 acc[i].2 else gy m own t acc[i].1 acc[i].2):=fun i hi t m h2=>by
       rw[List.drop_eq_getElem_cons hi,List.drop_eq_nil_of_le (by omega)];exact EO many own acc[i].1 acc[i].2 t m
      clear hd5 hg5 hk5 Az hqk Su hmm hG2 hkl hSw aaq aar hB1 hB2 hB3 hnn;go_wp2;go_loopw [8,9] (fun v8 v9 wr=>∃(x t:Nat) (m:List Tn),v9=.int .i64 (x:Nat)/\v8=.int .i64 (t:Nat)/\x<=d+1/\(x<=d->Jt m own t/\m.length<=ns.length+x)/\t<m.length/\Dt wr B g4 R s now 0 (.ok j2) m own/\way many own (acc.drop x) t m=Sw/\DFr B g4 wc wr) (fun _ v9 _=>d+1-(intOf v9).toNat)
      case atStart=>exact⟨0,0,ns,rfl,rfl,Nat.zero_le _,fun _=>⟨HJ.o,Nat.le_refl _⟩,HJ.o.lt,FP.o,HSW.o,DFr.refl _⟩
      case round=>
       obtain⟨x,t,m,rfl,rfl,hx,hxj,Ea,hdt,fF,hfr⟩:=hrel;obtain⟨-,-,c5,-⟩:=hdt.cells;have HDm:=ae hdt;have uN:=ae hfr
       by_cases hxd:x<=d
       ·obtain⟨hj,hml⟩:=hxj hxd;have hil:x<acc.length:=by have:=HN.o;omega
        have a1:=(bY BG.o fun g' cur' hh hc=>hfr.oth _ _ _ _ hc (by decide) (by decide) (by decide) (by decide)).cells (g:=g3) rfl x _ (Rj acc x hil);have a2:=(bY Sv.o fun g' cur' hh hc=>by cases hh;exact hfr.pro).cells (g:=g4) rfl x _ (Rk acc x hil);rw[uA]at a1 a2;have hx1:x<d+1:=by omega
        have hg1:decide ((x:Int)<((d+1:Nat):Int))=true:=by simp;omega
        have hg2:(x:Int)<((d+1:Nat):Int):=by omega
        have hN:=HNN.o;obtain⟨hdd,hdf⟩:=hdt.drew 1
        by_cases hlt:x<d
        ·rw[HW1.o x hil t m (by have:=HN.o;omega)]at fF;have CS:=ahw B g4 R s now 0 j2 m own t acc[x].1 acc[x].2 wr.drew hdd hj.wf hj.wt hj.lt (by omega);have HST:=ae (fun t1 m1 (hs:gm m t acc[x].1 acc[x].2=.ok (t1,m1))=>EN hj hs);have iO:=ae (fun c (hc:gm m t acc[x].1 acc[x].2=.error c)=>aiB hc);obtain⟨y,hy⟩:=zN (acc[x]);rw[hy]at a1 a2 CS fF HST iO;obtain⟨R0,hR⟩:=zN (gm m t y.1 y.2);rw[hR]at CS fF HST iO;obtain⟨y1,y2⟩:=y;simp only[]at a1 a2 CS fF HST iO;have Hy:Hd (∀w'',DFr B g4 wr w''->w''.cell? ⟨g3,x,none⟩=some (.string ⟨y1.toArray⟩)/\w''.cell? ⟨g4,x,none⟩=some (.int .i64 (y2:Nat))):=fun w'' hf=>by
          have hf2:=hfr.two hf;have b1:=(bY BG.o fun g' cur' hh hc=>hf2.oth _ _ _ _ hc (by decide) (by decide) (by decide) (by decide)).cells (g:=g3) rfl x _ (Rj acc x hil);have b2:=(bY Sv.o fun g' cur' hh hc=>by cases hh;exact hf2.pro).cells (g:=g4) rfl x _ (Rk acc x hil);rw[uA]at b1 b2;rw[hy]at b1 b2;exact⟨b1,b2⟩
         match R0,CS,fF,HST,iO with
         | .error c,CS,fF,_,iO =>
          obtain rfl:=iO.o c rfl;have aB:Hd (Sw=.error (5,y2)):=fF.symm;have jw:Hd (Calls prog 56 #[.pointer (some ⟨R,0,none⟩),.int .i64 (t:Nat),.string ⟨y1.toArray⟩,.int .i64 (y2:Nat)] wr.drew fun e w''=>e=.returned (.int .i64 (-1))/\Hd ((∃ns',Dt w'' B g4 R s now 0 (.ok j2) ns' own)/\DFr B g4 wr w'')/\(w''.cell? ⟨g3,x,none⟩=some (.string ⟨y1.toArray⟩)/\w''.cell? ⟨g4,x,none⟩=some (.int .i64 (y2:Nat)))):=by
           refine CS.mono ?_;rintro e w'' ⟨-,p2,p3⟩;obtain⟨q1,q2⟩:=p2 _ rfl;have hf:=hdf.two p3;exact⟨q1,⟨q2,hf⟩,Hy.o w'' hf⟩
          have hlt2:(x:Int)<(d:Int):=by omega
          clear hdt hfr hj fF hy hR CS iO hxj Ea hdd hdf hN hml HST;go_wp2
          go_region_held3 (fun u=>u.cell? ⟨g3,x,none⟩=some (.string ⟨y1.toArray⟩)/\u.cell? ⟨g4,x,none⟩=some (.int .i64 (y2:Nat))) ((first|assumption|go_keep)) (first|(go_at_call 56;refine jw.o.mono ?_;rintro e w7 ⟨rfl,hall,hcl⟩))
          obtain⟨⟨ns',hd7⟩,jY⟩:=hall.o;have HD7:=ae hd7;have ry:=ae jY;obtain⟨k1,k2⟩:=hcl;clear hd7 jY hall a1 a2 c5;go_wp2_with (go_at_call 58;refine(zX B g4 R s now 0 ns' own j2 _ HD7.o 5 (by decide) y2).mono ?_;rintro e w8 ⟨rfl,hd8,xg⟩);refine bodyPost_ret (results_none rfl _ _ _) rfl ?_;rw[dR.o,aB.o];exact⟨rfl,fun d hh=>(by cases hh),fun c' hh=>(by have hh:(Except.error (5,y2):Rs Sd)=.error c':=hh;injection hh with hh;subst hh;exact⟨now,hd8.fq.toP D9.o⟩),xh.o.two (((uN.o.two ry.o).two xg).toP D9.o)⟩
         | .ok (t1,m1),CS,fF,HST,_ =>
          have aB:Hd (way many own (acc.drop (x+1)) t1 m1=Sw):=fF;obtain⟨j1,-,j3⟩:=HST.o t1 m1 rfl;have oq:=ae j1;clear j1;have jw:Hd (Calls prog 56 #[.pointer (some ⟨R,0,none⟩),.int .i64 (t:Nat),.string ⟨y1.toArray⟩,.int .i64 (y2:Nat)] wr.drew fun e w''=>e=.returned (.int .i64 (t1:Nat))/\Hd (Dt w'' B g4 R s now 0 (.ok j2) m1 own/\DFr B g4 wr w'')/\(w''.cell? ⟨g3,x,none⟩=some (.string ⟨y1.toArray⟩)/\w''.cell? ⟨g4,x,none⟩=some (.int .i64 (y2:Nat)))):=by
           refine CS.mono ?_;rintro e w'' ⟨p1,-,p3⟩;obtain⟨q1,q2⟩:=p1 _ _ rfl;have hf:=hdf.two p3;exact⟨q1,⟨q2,hf⟩,Hy.o w'' hf⟩
          have hlt2: (x:Int)<(d:Int):=by omega
          have hnt:¬(t1:Int)<0:=by omega
          clear hdt hfr hj fF hy hR CS hxj Ea hdd hdf HST;go_wp2
          go_region_held3 (fun u=>u.cell? ⟨g3,x,none⟩=some (.string ⟨y1.toArray⟩)/\u.cell? ⟨g4,x,none⟩=some (.int .i64 (y2:Nat))) ((first|assumption|go_keep)) (first|(go_at_call 56;refine jw.o.mono ?_;rintro e w7 ⟨rfl,hall,hcl⟩))
          obtain⟨hd7,jY⟩:=hall.o;have HD7:=ae hd7;have ry:=ae jY;clear hd7 jY hall a1 a2 c5 hcl;go_wp2;go_roundw
          case rel=>exact⟨x+1,t1,m1,by go_num,rfl,by omega,fun _=>⟨oq.o,by omega⟩,oq.o.lt,HD7.o,aB.o,uN.o.two ry.o⟩
          case measure=>simp[intOf];omega
        ·have hxe:x=d:=by omega
         rw[HW0.o x hil t m (by have:=HN.o;omega)]at fF;have CS:=ake many B g4 R s now 0 j2 m own t acc[x].1 acc[x].2 wr.drew hdd hj.wf hj.lt (by omega);have HST:=ae (fun t1 m1 (hs:(if many=true then gz m t acc[x].1 acc[x].2 else gy m own t acc[x].1 acc[x].2)=.ok (t1,m1))=>akg hj hs);have iO:=ae (fun c (hc:(if many=true then gz m t acc[x].1 acc[x].2 else gy m own t acc[x].1 acc[x].2)=.error c)=>akf hc);obtain⟨y,hy⟩:=zN (acc[x]);rw[hy]at a1 a2 CS fF HST iO;obtain⟨R0,hR⟩:=zN ((if many=true then gz m t y.1 y.2 else gy m own t y.1 y.2));rw[hR]at CS fF HST iO;obtain⟨y1,y2⟩:=y;simp only[]at a1 a2 CS fF HST iO;have Hy:Hd (∀w'',DFr B g4 wr w''->w''.cell? ⟨g3,x,none⟩=some (.string ⟨y1.toArray⟩)/\w''.cell? ⟨g4,x,none⟩=some (.int .i64 (y2:Nat))):=fun w'' hf=>by
          have hf2:=hfr.two hf;have b1:=(bY BG.o fun g' cur' hh hc=>hf2.oth _ _ _ _ hc (by decide) (by decide) (by decide) (by decide)).cells (g:=g3) rfl x _ (Rj acc x hil);have b2:=(bY Sv.o fun g' cur' hh hc=>by cases hh;exact hf2.pro).cells (g:=g4) rfl x _ (Rk acc x hil);rw[uA]at b1 b2;rw[hy]at b1 b2;exact⟨b1,b2⟩
         match R0,CS,fF,HST,iO with
         | .error c,CS,fF,_,iO =>
          obtain rfl:=iO.o c rfl;have aB:=ae fF.symm;have jw:Hd (Calls prog 57 #[.pointer (some ⟨R,0,none⟩),.int .i64 (t:Nat),.string ⟨y1.toArray⟩,.int .i64 (y2:Nat),.bool many] wr.drew fun e w''=>e=.returned (.int .i64 (-1))/\Hd ((∃ns',Dt w'' B g4 R s now 0 (.ok j2) ns' own)/\DFr B g4 wr w'')/\(w''.cell? ⟨g3,x,none⟩=some (.string ⟨y1.toArray⟩)/\w''.cell? ⟨g4,x,none⟩=some (.int .i64 (y2:Nat)))):=by
           refine CS.mono ?_;rintro e w'' ⟨-,p2,p3⟩;obtain⟨q1,q2⟩:=p2 _ rfl;have hf:=hdf.two p3;exact⟨q1,⟨q2,hf⟩,Hy.o w'' hf⟩
          have hlt2:¬(x:Int)<(d:Int):=by omega
          clear hdt hfr hj fF hy hR CS iO hxj Ea hdd hdf hN hml HST hxe;go_wp2
          go_region_held3 (fun u=>u.cell? ⟨g3,x,none⟩=some (.string ⟨y1.toArray⟩)/\u.cell? ⟨g4,x,none⟩=some (.int .i64 (y2:Nat))) ((first|assumption|go_keep)) (first|(go_at_call 57;refine jw.o.mono ?_;rintro e w7 ⟨rfl,hall,hcl⟩))
          obtain⟨⟨ns',hd7⟩,jY⟩:=hall.o;have HD7:=ae hd7;have ry:=ae jY;obtain⟨k1,k2⟩:=hcl;clear hd7 jY hall a1 a2 c5;go_wp2_with (go_at_call 58;refine(zX B g4 R s now 0 ns' own j2 _ HD7.o 5 (by decide) y2).mono ?_;rintro e w8 ⟨rfl,hd8,xg⟩);refine bodyPost_ret (results_none rfl _ _ _) rfl ?_;rw[dR.o,aB.o];exact⟨rfl,fun d hh=>(by cases hh),fun c' hh=>(by have hh:(Except.error (5,y2):Rs Sd)=.error c':=hh;injection hh with hh;subst hh;exact⟨now,hd8.fq.toP D9.o⟩),xh.o.two (((uN.o.two ry.o).two xg).toP D9.o)⟩
         | .ok (t1,m1),CS,fF,HST,_ =>
          have aB:Hd (way many own (acc.drop (x+1)) t1 m1=Sw):=by
           show _=_;rw[List.drop_eq_nil_of_le (by have:=HN.o;omega)];exact fF
          have akl:=HST.o t1 m1 rfl;have jw:Hd (Calls prog 57 #[.pointer (some ⟨R,0,none⟩),.int .i64 (t:Nat),.string ⟨y1.toArray⟩,.int .i64 (y2:Nat),.bool many] wr.drew fun e w''=>e=.returned (.int .i64 (t1:Nat))/\Hd (Dt w'' B g4 R s now 0 (.ok j2) m1 own/\DFr B g4 wr w'')/\(w''.cell? ⟨g3,x,none⟩=some (.string ⟨y1.toArray⟩)/\w''.cell? ⟨g4,x,none⟩=some (.int .i64 (y2:Nat)))):=by
           refine CS.mono ?_;rintro e w'' ⟨p1,-,p3⟩;obtain⟨q1,q2⟩:=p1 _ _ rfl;have hf:=hdf.two p3;exact⟨q1,⟨q2,hf⟩,Hy.o w'' hf⟩
          have hlt2:¬(x:Int)<(d:Int):=by omega
          have hnt:¬(t1:Int)<0:=by omega
          clear hdt hfr hj fF hy hR CS hxj Ea hdd hdf HST hxe;go_wp2
          go_region_held3 (fun u=>u.cell? ⟨g3,x,none⟩=some (.string ⟨y1.toArray⟩)/\u.cell? ⟨g4,x,none⟩=some (.int .i64 (y2:Nat))) ((first|assumption|go_keep)) (first|(go_at_call 57;refine jw.o.mono ?_;rintro e w7 ⟨rfl,hall,hcl⟩))
          obtain⟨hd7,jY⟩:=hall.o;have HD7:=ae hd7;have ry:=ae jY;clear hd7 jY hall a1 a2 c5 hcl;go_wp2;go_roundw
          case rel=>exact⟨x+1,t1,m1,by go_num,rfl,by omega,fun h=>absurd h (by omega),akl,HD7.o,aB.o,uN.o.two ry.o⟩
          case measure=>simp[intOf];omega
       ·have hxe:x=d+1:=by omega
        have hg1:decide ((x:Int)<((d+1:Nat):Int))=false:=by simp;omega
        have hg2:¬(x:Int)<((d+1:Nat):Int):=by omega
        have aB:Hd (Sw=.ok (t,m)):=by
         rw[List.drop_eq_nil_of_le (by have:=HN.o;omega)]at fF;exact fF.symm
        obtain⟨O2,oc2,v2,e1,e2,e3,e4,e5,hdO,hfO⟩:=hdt.owns t Ea;have HDO:=ae hdO;have yG:=ae hfO;obtain⟨L,hL⟩:=zN (m.length);rw[hL]at e1 Ea;clear hdt hfr fF hdO hfO hxj hL hxe;go_wp2;refine bodyPost_end (results_none rfl _ _ _) rfl ?_;rw[dR.o,aB.o];exact⟨rfl,fun d hh=>(by have hh:(Except.ok ⟨j2,m,t :: own,t⟩:Rs Sd)=.ok d:=hh;injection hh with hh;subst hh;exact HDO.o.toP D9.o),fun c' hh=>(by cases hh),xh.o.two ((uN.o.two yG.o).toP D9.o)⟩
end Go.Proofs.YtbcfhgpfgdbjgaaGreatDoor
