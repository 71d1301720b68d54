import Derived.Test.YtnnbgjaphfhibaaGreatDoorE32
set_option linter.all false
set_option maxRecDepth 100000
set_option maxHeartbeats 0
open Go.Proofs.Tryz
namespace Go.Proofs.YtnnbgjaphfhibaaGreatDoor
open Go.RowKit Go.Maps Go.WideMaps Go.Joins
theorem ah3:(prog.info? 9).map (fun i=>(i.zero,i.size,i.bytes))=some (some (.string ⟨#[]⟩),1,16):=by kernel_rfl
theorem ah4(s:ByteArray):∀u∈[Value.string s],u.oneCell'=true:=by
 intro u hu;rw[List.mem_singleton.1 hu];rfl
theorem ah5(n:Nat):∀u∈[Value.int .i64 (n:Nat)],u.oneCell'=true:=by
 intro u hu;rw[List.mem_singleton.1 hu];rfl
def mm(l:List UInt8)(many:Bool)(q:Rs Nat):Rs Nat:=if many=true then(q.bind fun i=>must l i 93).bind fun i=>must l i 93 else q.bind fun i=>must l i 93
theorem Y3(l:List UInt8)(many:Bool)(c:Int × Nat):mm l many (.error c)=.error c:=by cases many<;>rfl
theorem ah6(l:List UInt8)(i:Nat)(ns:List Tn)(own:List Nat)(now:Nat)(many:Bool)(hm:decide (nx l (i+1)=91)=many)(c:Int × Nat)(h:ik l (l.length+1) (if many=true then i+2 else i+1) []=.error c):iF l ⟨i,ns,own,now⟩=.error c:=by
 rw[Bo l i ns own now many hm,h]
theorem ah7(l:List UInt8)(i:Nat)(ns:List Tn)(own:List Nat)(now:Nat)(many:Bool)(hm:decide (nx l (i+1)=91)=many)(ks:List (List UInt8 × Nat))(j:Nat)(h:ik l (l.length+1) (if many=true then i+2 else i+1) []=.ok (ks,j)) :
  (∀c,mm l many (.ok j)=.error c->iF l ⟨i,ns,own,now⟩=.error c)/\(∀j2,mm l many (.ok j)=.ok j2->iF l ⟨i,ns,own,now⟩=Bl j2 own (way many own ks 0 ns)):=by
 rw[Bo l i ns own now many hm,h];have e:mm l many (.ok j)=if many=true then(must l j 93).bind (fun i=>must l i 93) else must l j 93:=rfl;rw[e];simp only[]
 cases must l j 93 with
 | error d =>
  have e2:(if many=true then(Except.error d:Rs Nat).bind (fun i=>must l i 93) else .error d)=.error d:=by cases many<;>rfl
  rw[e2];exact⟨fun c hc=>(by cases hc;rfl),fun j2 hc=>(by cases hc)⟩
 | ok j1 =>
  have e2:(if many=true then(Except.ok j1:Rs Nat).bind (fun i=>must l i 93) else .ok j1)=(if many=true then must l j1 93 else .ok j1):=rfl;rw[e2];simp only[]
  cases (if many=true then must l j1 93 else .ok j1:Rs Nat) with
  | error d=>exact⟨fun c hc=>(by cases hc;rfl),fun j2 hc=>(by cases hc)⟩
  | ok j2=>exact⟨fun c hc=>(by cases hc),fun j3 hc=>(by cases hc;rfl)⟩
def q3:Rs (List UInt8 × Nat)->Rs Nat
 | .error e=>.error e
 | .ok (_,j)=>.ok j
theorem ah8{i M R:Nat}{s:ByteArray}{L O:Value}{now de:Nat}{g:Rs (List UInt8 × Nat)}{w:World}{e:Ending}{w':World}(h:Vo i M R s L O now de g w e w'):∃t:List UInt8,e=.returned (.tuple #[.string ⟨t.toArray⟩,.int .i64 (i:Nat)])/\Ds w' R s L O now de (q3 g)/\(∀k j,g=.ok (k,j)->t=k)/\w.grownBy w' (some R):=by
 match g,h with
 | .error (c,p),h =>
  obtain⟨⟨t,-,h1⟩,h2⟩:=h.2.1 c p rfl;exact⟨t,h1,h2,fun k j hh=>(by cases hh),h.2.2⟩
 | .ok (k,j),h =>
  obtain⟨h1,h2⟩:=h.1 k j rfl;exact⟨k,h1,h2,fun k' j' hh=>(by cases hh;rfl),h.2.2⟩
def Qz(l:List UInt8)(f:Nat)(acc:List (List UInt8 × Nat))(p:Nat):Rs (List UInt8 × Nat)->Rs (List (List UInt8 × Nat) × Nat)
 | .error e=>.error e
 | .ok (k,j)=>if nx l (bl l j)=46 then ik l f (bl l j+1) (acc++[(k,p)]) else .ok (acc++[(k,p)],bl l j)
theorem ah9(l:List UInt8)(f i:Nat)(acc:List (List UInt8 × Nat)):ik l (f+1) i acc=Qz l f acc (bl l i) (dm l (bl l i)):=by
 rw[AX]
 cases dm l (bl l i) with
 | error e=>rfl
 | ok q=>rfl
theorem Ds.err{w:World}{R:Nat}{s:ByteArray}{L O:Value}{now de i:Nat}(h:Ds w R s L O now de (.ok i)):w.cell? ⟨R,5,none⟩=some (.int .i64 0)/\w.cell? ⟨R,1,none⟩=some (.int .i64 (i:Nat))/\(∀k,w.frozen? ⟨R,k,none⟩=false):=⟨h.2.cells.2.2.2.2.2.1,h.2.cells.2.1,h.2.cells.2.2.2.2.2.2.2.2⟩
theorem Ds.to{w:World}{R:Nat}{s:ByteArray}{L O:Value}{now de i:Nat}(h:Ds w R s L O now de (.ok i))(j:Nat)(hj:j<=s.size):Ds (w.setCell ⟨R,1,none⟩ (.int .i64 (j:Nat))) R s L O now de (.ok j):=⟨hj,h.2.setI j⟩
theorem aia(many:Bool)(B P R:Nat)(s:ByteArray)(now de j:Nat)(ns:List Tn)(own:List Nat)(t:Nat)(k:List UInt8)(p:Nat)(w:World)(h:Dt w B P R s now de (.ok j) ns own)(W:WF ns own)(ht:t<ns.length)(hsz:ns.length<=900000) :
  Calls prog 81 #[.pointer (some ⟨R,0,none⟩),.int .i64 (t:Nat),.string ⟨k.toArray⟩,.int .i64 (p:Nat),.bool many] w (I5 B P R s now de (.ok j) ns own (if many=true then fO ns t k p else gV ns own t k p) w):=by
 cases many with
 | true=>exact afI B P R s now de j ns own t k p w h W ht hsz
 | false=>exact afJ B P R s now de j ns own t k p w h W ht hsz
theorem aib{many:Bool}{ns:List Tn}{own:List Nat}{t p:Nat}{k:List UInt8}{c:Int × Nat}(h:(if many=true then fO ns t k p else gV ns own t k p)=.error c):c=(5,p):=by
 cases many with
 | true=>exact agy h
 | false=>exact agx h
theorem aic{many:Bool}{ns ns':List Tn}{own:List Nat}{t t' p:Nat}{k:List UInt8}(J:Jt ns own t)(h:(if many=true then fO ns t k p else gV ns own t k p)=.ok (t',ns')):t'<ns'.length:=by
 cases many with
 | true=>exact(TD J h).1.lt
 | false=>exact(TC J h).1.lt
theorem aid:PI:=by
 intro B P R s now i ns own w h hPB hs hx LI;have hl:s.data.toList.length=s.size:=by simp
 have HT0:=ae h;obtain⟨hb1,hb2,hb3⟩:=h.base;obtain⟨a1,a2,N,c,O,oc,xs,ks,a3,a4,a5,a6⟩:=h;obtain⟨LV,Y4⟩:=zN (Value.slice (some ⟨N,0,none⟩) ns.length c);obtain⟨OV,Y5⟩:=zN (Value.slice (some ⟨O,0,none⟩) ns.length oc);rw[Y4,Y5]at a6;have CM:=ae (fun(q:Rs Nat) (c:Int) w (hc:0<=c) (h:Ds w R s LV OV now 0 q)=>Ll R s LV OV now 0 q c hc w h (by omega));have CI:=ae (fun(q:Rs Nat) (c:Int) w (hc:0<=c) (h:Ds w R s LV OV now 0 q)=>tH R s LV OV now 0 q c hc w h (by omega));have CB:=ae (fun(q:Rs Nat) w (h:Ds w R s LV OV now 0 q)=>SC R s LV OV now 0 q w h (by omega));have CK:=ae (fun k w (h:Ds w R s LV OV now 0 (.ok k))=>Vp R s LV OV now 0 k w h.2 h.1 (by omega));have fP:Hd (∀k,k<=s.size->k<=bl s.data.toList k/\bl s.data.toList k<=s.size):=fun k hk=>by rw[<-hl];exact jR _ k (by omega)
 have jU:Hd (∀k x j,k<=s.size->dm s.data.toList k=.ok (x,j)->k<j/\j<=s.size):=fun k x j a b=>by
  have:=wU s.data.toList k x j (by omega) b;omega
 have bP:Hd (∀k,nx s.data.toList k=46->k<s.size):=fun k a=>by
  have:=aY (l:=s.data.toList) (i:=k) (by rw[a];decide);omega
 have hil:i<s.size:=by
  have:=aY (l:=s.data.toList) (i:=i) (by rw[hx];decide);omega
 have Y6:Hd (Calls prog 56 #[.pointer (some ⟨R,0,none⟩),.int .u8 91] w fun e w'=>e=.returned (.tuple #[])/\Ds w' R s LV OV now 0 (.ok (i+1))/\w.grownBy w' (some R)):=by
  have:=CM.o (.ok i) 91 w (by decide) a6;have e:(Except.bind (.ok i) fun i=>must s.data.toList i 91:Rs Nat)=.ok (i+1):=by show must _ i 91=_;unfold must;rw[if_pos hx]
  rw[e]at this;exact this
 obtain⟨many,hm⟩:=zN (decide (nx s.data.toList (i+1)=91));have Y7:Hd (∀w,Ds w R s LV OV now 0 (.ok (i+1))->Calls prog 52 #[.pointer (some ⟨R,0,none⟩),.int .u8 91] w fun e w'=>e=.returned (.bool many)/\w.grownBy w' none):=fun w h=>by
  have:=CI.o (.ok (i+1)) 91 w (by decide) h;rw[show iU s.data.toList (.ok (i+1)) 91=many from hm]at this;exact this
 have HI2:Hd (many=true->i+2<=s.size):=fun e=>by
  rw[e]at hm;have:=aY (l:=s.data.toList) (i:=i+1) (by rw[of_decide_eq_true hm];decide);omega
 obtain⟨G,hG⟩:=zN (iF s.data.toList ⟨i,ns,own,now⟩);obtain⟨S,hS⟩:=zN (ik s.data.toList (s.data.toList.length+1) (if many=true then i+2 else i+1) []);have gX:Hd (∀c,S=.error c->G=.error c):=fun c hc=>by
  show G=_;rw[<-hG];exact ah6 _ i ns own now many hm c (hS.trans hc)
 have oG:Hd (∀ks j,S=.ok (ks,j)->(∀c,mm s.data.toList many (.ok j)=.error c->G=.error c)/\(∀j2,mm s.data.toList many (.ok j)=.ok j2->G=Bl j2 own (way many own ks 0 ns))):=fun ks j hc=>by
  rw[<-hG];exact ah7 _ i ns own now many hm ks j (hS.trans hc)
 have HHO:Hd (∀ks j,S=.ok (ks,j)->(∀x∈ks,x.1.length<=s.size)/\0<ks.length/\ks.length<=s.size):=fun ks j hc=>by
  have hi0:(if many=true then i+2 else i+1)<=s.data.toList.length:=by
   have:=HI2.o
   cases many with
   | true=>have:=this rfl;simp only[if_true];omega
   | false=>simp only[Bool.false_eq_true,if_false];omega
  obtain⟨b1,b2,b3,b4⟩:=Ji s.data.toList _ _ _ _ _ hi0 (fun x hx=>absurd hx (by simp)) (hS.trans hc);simp only[List.length_nil]at b2 b3;exact⟨fun x hx=>by have:=b1 x hx;omega,by omega,by omega⟩
 rw[hG];have HS:=ae hS;have BO:=ae LI;have BP:=ae hPB;have wV:Hd (B<=w.heap.size/\P<w.heap.size/\R<w.heap.size):=⟨hb1,hb2,hb3⟩;have fG:=ae a6;obtain⟨i0,aie,hii⟩:=Option.map_eq_some_iff.1 ah3;simp only[Prod.mk.injEq]at hii;obtain⟨hz0,hz1,hzb⟩:=hii;obtain⟨j0,hj0,hjj⟩:=Option.map_eq_some_iff.1 MS;simp only[Prod.mk.injEq]at hjj;obtain⟨hy0,hy1,hyb⟩:=hjj;clear hG hS LI hPB a1 a2 a3 a4 a5 a6 Y4 Y5 hx hm hb1 hb2 hb3;go_enter func53,ntmps53
 go_upto_if 15 with(first|(go_at_call 56;refine Y6.o.mono ?_;rintro e w1 ⟨rfl,hd1,hg1⟩)|(go_at_call 52;refine(Y7.o _ hd1).mono ?_;rintro e w2 ⟨rfl,hg2⟩))
 have HD2:=ae (hd1.grow hg2);have HG2:=ae (aG hg1 hg2);clear hd1 hg1 hg2 Y6 Y7
 go_cut [] from 11 (fun wx=>Ds wx R s LV OV now 0 (.ok (if many=true then i+2 else i+1))/\w.grownBy wx (some R))
 case first =>
  obtain⟨-,c1,cf⟩:=HD2.o.err;have cf1:=cf 1;clear cf
  cases many with
  | true =>
   have HD3:Hd (Ds (w2.setCell ⟨R,1,none⟩ (.int .i64 (((i+1:Nat):Int)+1))) R s LV OV now 0 (.ok (i+2))):=HD2.o.to (i+2) (HI2.o rfl);go_wp2;go_meet;exact⟨HD3.o,aS HG2.o 1 _⟩
  | false =>
   go_wp2;go_meet;exact⟨HD2.o,HG2.o⟩
 case rest =>
  obtain⟨hd3,hg3⟩:=hcut;have hi0:=hd3.1;obtain⟨i2,hi2⟩:=zN ((if many=true then i+2 else i+1));rw[hi2]at HS hd3 hi0;have HD3:=ae hd3;have aK:=ae hg3;clear hd3 hg3 hi2 HD2 HG2;go_wp2;go_loopw [3,4,5] (fun v3 v4 v5 wr=>∃(q:Rs Nat) (acc:List (List UInt8 × Nat)),Ds wr R s LV OV now 0 q/\w.grownBy wr (some R)/\wr.ownsRow w.heap.size 9 1 v3 acc.length (uC acc)/\wr.ownsRow w.heap.size 3 1 v4 acc.length (uD acc)/\acc.length<=100001/\((v5=.bool true/\∃(kx f:Nat),q=.ok kx/\s.size-kx<f/\ik s.data.toList f kx acc=S/\acc.length<=kx)\/(v5=.bool false/\((∃kx,q=.ok kx/\S=.ok (acc,kx))\/∃c,q=.error c/\S=.error c)))) (fun _ _ v5 wr=>match v5 with | .bool true=>s.size+2-(match wr.cell? ⟨R,1,none⟩ with|some (.int _ k)=>k.toNat|_=>0)|_=>0)
  case atStart=>exact⟨.ok i2,[],HD3.o,aK.o,World.ownsRow_nil _ _ _ _,World.ownsRow_nil _ _ _ _,by simp,Or.inl ⟨rfl,i2,s.data.toList.length+1,rfl,by omega,HS.o,by simp⟩⟩
  case round =>
   obtain⟨q,acc,hds,hg,hk,hp,hal,hor⟩:=hrel
   rcases hor with⟨rfl,kx,f,rfl,hf,hhd,hak⟩|⟨rfl,hor⟩
   ·-- a key more
    obtain⟨f,rfl⟩:∃f',f=f'+1:=⟨f-1,by omega⟩;rw[ah9]at hhd;obtain⟨c5,c1,cf⟩:=hds.err;have hkx:=hds.1;have ig:Hd ((match wr.cell? ⟨R,1,none⟩ with|some (.int _ k)=>k.toNat|_=>0)=kx):=by show _=_;rw[c1];simp
    have HG:=ae hg;have HK:=ae hk;have HP:=ae hp;have HDk:=ae hds;have C1:=CB.o (.ok kx) wr hds;obtain⟨b1,b2⟩:=fP.o kx hkx;obtain⟨jb,hjb⟩:=zN (bl s.data.toList kx);have e1:(Except.bind (.ok kx) fun i=>.ok (bl s.data.toList i):Rs Nat)=.ok jb:=by show Except.ok _=_;rw[hjb]
    rw[e1]at C1;rw[hjb]at hhd b1 b2;have y9:=ae C1;have C2:=CK.o jb;have K2:=jU.o jb;obtain⟨KR,kS⟩:=zN (dm s.data.toList jb);rw[kS]at C2 hhd K2;have C2':=ae C2;have vK:=ae hhd;have iV:=ae (fun x j (hh:KR=.ok (x,j))=>K2 x j b2 hh);clear hds hg hk hp hhd C1 C2 K2 hjb kS e1 c1 cf;go_wp2_with (first|(go_at_call 51;refine y9.o.mono ?_));rintro e w2 ⟨rfl,hd2,hg2⟩;have HD2:=ae hd2;have HG2:=ae (dK HG.o hg2);obtain⟨x1,x2,x3,hdd⟩:=HDk.o.dd;have aif:=ae (bZ HK.o fun g' cur' hh hc=>hg2.block g' (aB hc) (by simp only[ne_eq,Option.some.injEq];exact aO hc hdd (by decide)));have aig:=ae (bZ HP.o fun g' cur' hh hc=>hg2.block g' (aB hc) (by simp only[ne_eq,Option.some.injEq];exact aO hc hdd (by decide)));clear hd2 hg2 hdd c5;go_wp2_with (go_at_call 79;refine(C2'.o _ HD2.o).mono ?_);intro e w3 hdk
    obtain⟨t,rfl,hd3,hkt,hg3⟩:=ah8 hdk;have aK:=ae (dK HG2.o hg3);obtain⟨x1,x2,x3,hdd⟩:=HD2.o.dd;have hk3:=bZ aif.o fun g' cur' hh hc=>hg3.block g' (aB hc) (by simp only[ne_eq,Option.some.injEq];exact aO hc hdd (by decide))
    have hp3:=bZ aig.o fun g' cur' hh hc=>hg3.block g' (aB hc) (by simp only[ne_eq,Option.some.injEq];exact aO hc hdd (by decide))
    have uz:=ae hp3;have x9:=ae hd3;have JV:=ae hkt;have hz3:=aK.o.size;clear hdk hd3 hkt hg3 hdd hp3;go_wp2_with (first|(at_builtin;refine wpList_append_lies _ rfl _ _ 31 rfl w.heap.size 9 i0 _ 1 16 underlying31 aie hz0 hz1 hzb rfl (by decide) _ _ _ rfl (hk3.alloc _) _ 1 1 [.string ⟨t.toArray⟩] rfl rfl (World.news_of_block (heap_alloc_new _ _)) (ah4 _) (by decide) (by unfold maxLen;omega) (by omega) (by simp;omega) _ rfl ?_));intro g4 cap4 w4 hown4 hgrow4 hat4 hlt4;have HD4:=ae ((x9.o.grow (World.grownBy_alloc w3 (.cells #[.string ⟨t.toArray⟩] 9) none)).app (hk3.alloc _) hgrow4 (by decide));have eX:=ae (NW (aG aK.o (World.grownBy_alloc w3 (.cells #[.string ⟨t.toArray⟩] 9) none)) hgrow4 (fun b hb=>(bH hk3 hb).1));have FM:w4.ownsRow w.heap.size 3 1 u4 acc.length (uD acc):=bZ (uz.o.alloc (.cells #[.string ⟨t.toArray⟩] 9)) fun g' cur' hh hc=>hgrow4.block g' (aB hc) (fun e=>by
     obtain⟨-,cc,hcc⟩:=bH (hk3.alloc (.cells #[.string ⟨t.toArray⟩] 9)) e.symm;exact aO hc hcc (by decide) rfl)
    have nO:=ae hown4;have IR:=eX.o.size;clear hown4 hgrow4 hat4 hlt4 hk3;go_wp2_with (first|(at_builtin;refine wpList_append_lies _ rfl _ _ 43 rfl w.heap.size 3 j0 _ 1 8 underlying43 hj0 hy0 hy1 hyb rfl (by decide) _ _ _ rfl (FM.alloc _) _ 1 1 [.int .i64 (jb:Nat)] rfl rfl (World.news_of_block (heap_alloc_new _ _)) (ah5 _) (by decide) (by unfold maxLen;omega) (by omega) (by simp;omega) _ rfl ?_));intro g5 cap5 w5 hown5 hgrow5 hat5 hlt5;have HD5:=ae ((HD4.o.grow (World.grownBy_alloc w4 (.cells #[.int .i64 (jb:Nat)] 3) none)).app (FM.alloc _) hgrow5 (by decide));have iK:=ae (NW (aG eX.o (World.grownBy_alloc w4 (.cells #[.int .i64 (jb:Nat)] 3) none)) hgrow5 (fun b hb=>(bH FM hb).1));have vP:Hd (w5.ownsRow w.heap.size 9 1 (.slice (some ⟨g4,0,none⟩) (acc.length+1) cap4) (acc.length+1) (uC acc++[.string ⟨t.toArray⟩])):=bZ (nO.o.alloc (.cells #[.int .i64 (jb:Nat)] 3)) fun g' cur' hh hc=>hgrow5.block g' (aB hc) (fun e=>by
     obtain⟨-,cc,hcc⟩:=bH (FM.alloc (.cells #[.int .i64 (jb:Nat)] 3)) e.symm;exact aO hc hcc (by decide) rfl)
    have HP5:=ae hown5;clear hown5 hgrow5 hat5 hlt5 FM;obtain⟨q4,hq4⟩:=zN (((q3 KR).bind fun i=>.ok (bl s.data.toList i):Rs Nat));have C6:=CB.o (q3 KR) w5 HD5.o;rw[hq4]at C6;have OQ:=ae C6;have C7:=CI.o q4 46;obtain⟨b,hb⟩:=zN (iU s.data.toList q4 46);rw[hb]at C7;have NZ:=ae (fun w (h:Ds w R s LV OV now 0 q4)=>C7 w (by decide) h);have wI:=ae hq4;have HB4:=ae hb;clear C6 C7 hq4 hb;go_wp2_with (first|(go_at_call 51;refine OQ.o.mono ?_));rintro e w6 ⟨rfl,hd6,eY⟩;have HD6:=ae hd6;have mD:=ae (dK iK.o eY);obtain⟨x1,x2,x3,hdd⟩:=HD5.o.dd;have HK6:=ae (bZ vP.o fun g' cur' hh hc=>eY.block g' (aB hc) (by simp only[ne_eq,Option.some.injEq];exact aO hc hdd (by decide)));have Bj:=ae (bZ HP5.o fun g' cur' hh hc=>eY.block g' (aB hc) (by simp only[ne_eq,Option.some.injEq];exact aO hc hdd (by decide)))
    clear hd6 eY hdd;go_wp2_with (go_at_call 52;refine(NZ.o _ HD6.o).mono ?_);rintro e w7 ⟨rfl,lT⟩;have HD7:=ae (HD6.o.grow lT);have o6:=ae (aG mD.o lT);have nM:Hd ((acc++[(t,jb)]).length=acc.length+1):=by show _=_;simp
    have Y8:Hd (w7.ownsRow w.heap.size 9 1 (.slice (some ⟨g4,0,none⟩) (acc.length+1) cap4) (acc++[(t,jb)]).length (uC (acc++[(t,jb)]))):=by
     show World.ownsRow _ _ _ _ _ _ _;rw[nM.o,agz];exact bZ HK6.o fun g' cur' hh hc=>lT.block g' (aB hc) (by simp)
    have uA:Hd (w7.ownsRow w.heap.size 3 1 (.slice (some ⟨g5,0,none⟩) (acc.length+1) cap5) (acc++[(t,jb)]).length (uD (acc++[(t,jb)]))):=by
     show World.ownsRow _ _ _ _ _ _ _;rw[nM.o,agA];exact bZ Bj.o fun g' cur' hh hc=>lT.block g' (aB hc) (by simp)
    clear lT
    cases b with
    | true =>
     obtain⟨kk,j,kS⟩:∃kk j,KR=.ok (kk,j):=by
      match KR,wI with
      | .error e,wI =>
       have h1:(Except.error e:Rs Nat)=q4:=wI.o;have h2:=HB4.o;rw[<-h1]at h2
       cases h2
      | .ok (kk,j),_=>exact⟨kk,j,rfl⟩
     have ht:=JV.o kk j kS;obtain⟨k1,k2⟩:=iV.o kk j kS;have hh:=vK.o;have hq:=wI.o;have hb:=HB4.o;rw[kS]at hh hq;have hq':(Except.ok (bl s.data.toList j):Rs Nat)=q4:=hq;rw[<-hq']at hb;have hb':=of_decide_eq_true hb;have hh':ik s.data.toList f (bl s.data.toList j+1) (acc++[(kk,jb)])=S:=by
      have e:Qz s.data.toList f acc jb (.ok (kk,j))=ik s.data.toList f (bl s.data.toList j+1) (acc++[(kk,jb)]):=if_pos hb';rw[<-e];exact hh
     obtain⟨d1,d2⟩:=fP.o j k2;have d3:=bP.o _ hb';obtain⟨j7,Eh⟩:=zN (bl s.data.toList j);rw[Eh]at hq' hh' d1 d2 d3;rw[<-ht]at hh';have HHK:=ae hh';have FN:=HD7.o;rw[<-hq']at FN;obtain⟨-,c1,cf⟩:=FN.err;have cf1:=cf 1;have FO:Hd (Ds (w7.setCell ⟨R,1,none⟩ (.int .i64 ((j7:Int)+1))) R s LV OV now 0 (.ok (j7+1))):=FN.to (j7+1) (by omega);obtain⟨x1,x2,x3,hdd⟩:=FN.dd;have HK9:Hd ((w7.setCell ⟨R,1,none⟩ (.int .i64 ((j7:Int)+1))).ownsRow w.heap.size 9 1 (.slice (some ⟨g4,0,none⟩) (acc.length+1) cap4) (acc++[(t,jb)]).length (uC (acc++[(t,jb)]))):=bZ Y8.o fun g' cur' hh hc=>heap_setCell_other _ _ _ _ (aO hc hdd (by decide))
     have HP9:Hd ((w7.setCell ⟨R,1,none⟩ (.int .i64 ((j7:Int)+1))).ownsRow w.heap.size 3 1 (.slice (some ⟨g5,0,none⟩) (acc.length+1) cap5) (acc++[(t,jb)]).length (uD (acc++[(t,jb)]))):=bZ uA.o fun g' cur' hh hc=>heap_setCell_other _ _ _ _ (aO hc hdd (by decide))
     clear kS ht hh hq hb hq' hb' hh' Eh FN cf hdd;go_wp2;go_roundw
     case rel=>exact⟨.ok (j7+1),acc++[(t,jb)],FO.o,aS o6.o 1 _,HK9.o,HP9.o,by rw[nM.o];omega,Or.inl ⟨rfl,j7+1,f,rfl,by omega,HHK.o,by rw[nM.o];omega⟩⟩
     case measure =>
      rw[ig.o,FO.o.err.2.1];simp;omega
    | false =>
     have vS:Hd ((∃kx,q4=.ok kx/\S=.ok (acc++[(t,jb)],kx))\/∃c,q4=.error c/\S=.error c):=by
      match KR,wI,vK,JV with
      | .error e,wI,vK,_=>exact Or.inr ⟨e,wI.o.symm,vK.o.symm⟩
      | .ok (kk,j),wI,vK,JV =>
       have ht:=JV.o kk j rfl;have hq:(Except.ok (bl s.data.toList j):Rs Nat)=q4:=wI.o;have hb:=HB4.o;rw[<-hq]at hb;have hb':=of_decide_eq_false hb;refine Or.inl ⟨_,hq.symm,?_⟩;have e:Qz s.data.toList f acc jb (.ok (kk,j))=.ok (acc++[(kk,jb)],bl s.data.toList j):=if_neg hb';rw[ht,<-e];exact vK.o.symm
     go_wp2;go_roundw
     case rel=>exact⟨q4,acc++[(t,jb)],HD7.o,o6.o,Y8.o,uA.o,by rw[nM.o];omega,Or.inr ⟨rfl,vS.o⟩⟩
     case measure =>
      rw[ig.o];simp;omega
   ·-- no more keys
    obtain⟨o3,k3,rfl⟩:=mG hk;obtain⟨o4,k4,rfl⟩:=mG hp;have HDq:=ae hds;have HG:=ae hg;have HK:=ae hk;have HP:=ae hp;have vS:=ae hor;have Y9:=ae (CM.o q 93 wr (by decide) hds);have QA:=ae (fun w (h:Ds w R s LV OV now 0 (q.bind fun i=>must s.data.toList i 93))=>CM.o _ 93 w (by decide) h);have nI:Hd (mm s.data.toList many q=if many=true then(q.bind fun i=>must s.data.toList i 93).bind (fun i=>must s.data.toList i 93) else q.bind fun i=>must s.data.toList i 93):=rfl;obtain⟨qA,Za⟩:=zN ((q.bind fun i=>must s.data.toList i 93:Rs Nat));rw[Za]at Y9 QA nI;obtain⟨qB,Zb⟩:=zN ((qA.bind fun i=>must s.data.toList i 93:Rs Nat));rw[Zb]at QA nI;obtain⟨q5,hq5⟩:=zN (mm s.data.toList many q);have uG:=ae hq5;rw[hq5]at nI;obtain⟨n,hn⟩:=zN (acc.length);have HN:=ae hn;rw[hn]at HK HP hal ⊢;clear hds hg hk hp hor Za Zb hq5 hn
    go_upto_if 60 with(first|(go_at_call 56;refine Y9.o.mono ?_;rintro e w2 ⟨rfl,hd2,hg2⟩))
    have HD2:=ae hd2;have HG2:=ae (dK HG.o hg2);obtain⟨x1,x2,x3,hdd⟩:=HDq.o.dd;have iV:=ae (bZ HK.o fun g' cur' hh hc=>hg2.block g' (aB hc) (by simp only[ne_eq,Option.some.injEq];exact aO hc hdd (by decide)));have HP2:=ae (bZ HP.o fun g' cur' hh hc=>hg2.block g' (aB hc) (by simp only[ne_eq,Option.some.injEq];exact aO hc hdd (by decide)));clear hd2 hg2 hdd
    go_cut [] from 58 (fun wx=>Ds wx R s LV OV now 0 q5/\w.grownBy wx (some R)/\wx.ownsRow w.heap.size 9 1 (.slice o3 n k3) n (uC acc)/\wx.ownsRow w.heap.size 3 1 (.slice o4 n k4) n (uD acc))
    case first =>
     cases many with
     | true =>
      have HE:Hd (q5=qB):=nI.o;go_wp2_with (go_at_call 56;refine(QA.o _ HD2.o).mono ?_;rintro e w3 ⟨rfl,hd3,hg3⟩);go_meet;rw[HE.o];obtain⟨x1,x2,x3,hdd⟩:=HD2.o.dd;exact⟨hd3,dK HG2.o hg3,bZ iV.o fun g' cur' hh hc=>hg3.block g' (aB hc) (by simp only[ne_eq,Option.some.injEq];exact aO hc hdd (by decide)),bZ HP2.o fun g' cur' hh hc=>hg3.block g' (aB hc) (by simp only[ne_eq,Option.some.injEq];exact aO hc hdd (by decide))⟩
     | false =>
      have HE:Hd (q5=qA):=nI.o;go_wp2;go_meet;rw[HE.o];exact⟨HD2.o,HG2.o,iV.o,HP2.o⟩
    case rest =>
     obtain⟨hd5,hg5,hk5,FP⟩:=hcut;obtain⟨hB1,hB2,hB3⟩:=wV.o;have vY:Hd (DFr B P w wc):=by
      have hT:=HT0.o;obtain⟨z1,z2,-⟩:=hT;exact rZ fG.o z1 z2 hB2 hg5
     match q5,hd5,uG with
     | .error c,hd5,uG =>
      have bf:Hd (G=.error c):=by
       rcases vS.o with⟨kx,e1,e2⟩|⟨c',e1,e2⟩
       ·have:=uG.o;rw[e1]at this;exact(oG.o _ _ e2).1 c this
       ·have:=uG.o;rw[e1,Y3]at this
        cases this
        exact gX.o _ e2
      have yg:Hd (Fq wc B P R s now 0 c):=by
       have hT:=HT0.o;obtain⟨z1,z2,-⟩:=hT;exact⟨LV,OV,hd5,z1,z2,Nat.lt_of_lt_of_le hB2 hg5.size⟩
      obtain⟨-,c5,z5⟩:=yg.o.now;obtain⟨e1,he1⟩:=zN c.1;rw[he1]at c5 z5;clear hd5 hg5 hk5 FP he1 hB1 hB2 hB3;go_wp2;go_loopw [9] (fun v9 wr=>v9=.int .i64 0/\wr=wc) (fun _ _=>0)
      case atStart=>exact⟨rfl,rfl⟩
      case round =>
       obtain⟨rfl,rfl⟩:=hrel
       by_cases hn0:0<n
       ·have hlt1:decide ((0:Int)<(n:Int))=true:=by simp;omega
        have hlt2:(0:Int)<(n:Int):=by omega
        go_wp2;refine bodyPost_end (results_none rfl _ _ _) rfl ?_;rw[bf.o];exact⟨rfl,fun d hh=>(by cases hh),fun c' hh=>(by injection hh with hh;subst hh;exact⟨now,yg.o⟩),vY.o⟩
       ·have hlt1:decide ((0:Int)<(n:Int))=false:=by simp;omega
        have hlt2:¬(0:Int)<(n:Int):=by omega
        go_wp2;refine bodyPost_end (results_none rfl _ _ _) rfl ?_;rw[bf.o];exact⟨rfl,fun d hh=>(by cases hh),fun c' hh=>(by injection hh with hh;subst hh;exact⟨now,yg.o⟩),vY.o⟩
     | .ok j2,hd5,uG =>
      obtain⟨kx,hqk,QB⟩:∃kx,q=.ok kx/\S=.ok (acc,kx):=by
       rcases vS.o with h|⟨c',e1,e2⟩
       ·exact h
       ·have:=uG.o;rw[e1,Y3]at this
        cases this
      have hmm:=uG.o;rw[hqk]at hmm;have hG2:=(oG.o _ _ QB).2 j2 hmm;obtain⟨hkl,BL,hns⟩:=HHO.o _ _ QB;obtain⟨Sw,hSw⟩:=zN (way many own acc 0 ns);rw[hSw]at hG2;have fJ:=ae hG2;have HSW:=ae hSw;have hnn:=HN.o;rw[hnn]at BL hns;obtain⟨g3,c3,h3v,-,-⟩:=hk5.form BL;obtain⟨g4,c4,h4v,-,-⟩:=FP.form BL;injection h3v with h3o _ h3c
      injection h4v with h4o _ h4c
      subst h3o h3c h4o h4c;obtain⟨Zc,cu4,Zd⟩:=bH FP (g:=g4) rfl;have Ep:Hd (Dt wc B g4 R s now 0 (.ok j2) ns own):=HT0.o.places hg5 (fun L O hd=>by obtain⟨rfl,rfl⟩:=Ds.uni hd fG.o;exact hd5) Zc (aB Zd);have AC:=ae hk5;have QC:=ae FP;obtain⟨d,hd⟩:∃d,n=d+1:=⟨n-1,by omega⟩;subst hd;have HJ:Hd (Jt ns own 0):=⟨BO.o.jt.wf,BO.o.jt.wt,nZ BO.o.rt (by omega),BO.o.rt⟩;have HNN:Hd (ns.length<=300000):=by have h1:=BO.o.nn;have h2:=BO.o.le;simp only[]at h1 h2;show _<=_;omega
      have HW1:Hd (∀i (hi:i<acc.length) t m,i+1<acc.length->way many own (acc.drop i) t m=match gz m t acc[i].1 acc[i].2 with | .error e=>.error e | .ok (t1,ns1)=>way many own (acc.drop (i+1)) t1 ns1):=fun i hi t m h2=>by
       rw[List.drop_eq_getElem_cons hi,List.drop_eq_getElem_cons h2];exact Dj many own acc[i].1 acc[i].2 acc[i+1] _ t m
      have HW0:Hd (∀i (hi:i<acc.length) t m,i+1=acc.length->way many own (acc.drop i) t m=if many=true then fO m t acc[i].1 acc[i].2 else gV m own t acc[i].1 acc[i].2):=fun i hi t m h2=>by
       rw[List.drop_eq_getElem_cons hi,List.drop_eq_nil_of_le (by omega)];exact Aa many own acc[i].1 acc[i].2 t m
      clear hd5 hg5 hk5 FP hqk QB hmm hG2 hkl hSw Zc Zd hB1 hB2 hB3 hnn;go_wp2;go_loopw [8,9] (fun v8 v9 wr=>∃(x t:Nat) (m:List Tn),v9=.int .i64 (x:Nat)/\v8=.int .i64 (t:Nat)/\x<=d+1/\(x<=d->Jt m own t/\m.length<=ns.length+x)/\t<m.length/\Dt wr B g4 R s now 0 (.ok j2) m own/\way many own (acc.drop x) t m=Sw/\DFr B g4 wc wr) (fun _ v9 _=>d+1-(intOf v9).toNat)
      case atStart=>exact⟨0,0,ns,rfl,rfl,Nat.zero_le _,fun _=>⟨HJ.o,Nat.le_refl _⟩,HJ.o.lt,Ep.o,HSW.o,DFr.refl _⟩
      case round =>
       obtain⟨x,t,m,rfl,rfl,hx,hxj,BQ,hdt,gG,hfr⟩:=hrel;obtain⟨-,-,c5,-⟩:=hdt.cells;have HDm:=ae hdt;have uo:=ae hfr
       by_cases hxd:x<=d
       ·obtain⟨hj,hml⟩:=hxj hxd;have hil:x<acc.length:=by have:=HN.o;omega
        have a1:=(bZ AC.o fun g' cur' hh hc=>hfr.oth _ _ _ _ hc (by decide) (by decide) (by decide) (by decide)).cells (g:=g3) rfl x _ (PG acc x hil);have a2:=(bZ QC.o fun g' cur' hh hc=>by cases hh;exact hfr.pro).cells (g:=g4) rfl x _ (PH acc x hil);rw[nC]at a1 a2;have hx1:x<d+1:=by omega
        have hg1:decide ((x:Int)<((d+1:Nat):Int))=true:=by simp;omega
        have hg2:(x:Int)<((d+1:Nat):Int):=by omega
        have hN:=HNN.o;obtain⟨hdd,hdf⟩:=hdt.drew 1
        by_cases hlt:x<d
        ·rw[HW1.o x hil t m (by have:=HN.o;omega)]at gG;have CS:=aeV B g4 R s now 0 j2 m own t acc[x].1 acc[x].2 wr.drew hdd hj.wf hj.wt hj.lt (by omega);have HST:=ae (fun t1 m1 (hs:gz m t acc[x].1 acc[x].2=.ok (t1,m1))=>Di hj hs);have jw:=ae (fun c (hc:gz m t acc[x].1 acc[x].2=.error c)=>agw hc);obtain⟨y,hy⟩:=zN (acc[x]);rw[hy]at a1 a2 CS gG HST jw;obtain⟨R0,hR⟩:=zN (gz m t y.1 y.2);rw[hR]at CS gG HST jw;obtain⟨y1,y2⟩:=y;simp only[]at a1 a2 CS gG HST jw;have FQ:Hd (∀w'',DFr B g4 wr w''->w''.cell? ⟨g3,x,none⟩=some (.string ⟨y1.toArray⟩)/\w''.cell? ⟨g4,x,none⟩=some (.int .i64 (y2:Nat))):=fun w'' hf=>by
          have hf2:=hfr.two hf;have b1:=(bZ AC.o fun g' cur' hh hc=>hf2.oth _ _ _ _ hc (by decide) (by decide) (by decide) (by decide)).cells (g:=g3) rfl x _ (PG acc x hil);have b2:=(bZ QC.o fun g' cur' hh hc=>by cases hh;exact hf2.pro).cells (g:=g4) rfl x _ (PH acc x hil);rw[nC]at b1 b2;rw[hy]at b1 b2;exact⟨b1,b2⟩
         match R0,CS,gG,HST,jw with
         | .error c,CS,gG,_,jw =>
          obtain rfl:=jw.o c rfl;have az:Hd (Sw=.error (5,y2)):=gG.symm;have ny:Hd (Calls prog 80 #[.pointer (some ⟨R,0,none⟩),.int .i64 (t:Nat),.string ⟨y1.toArray⟩,.int .i64 (y2:Nat)] wr.drew fun e w''=>e=.returned (.int .i64 (-1))/\Hd ((∃ns',Dt w'' B g4 R s now 0 (.ok j2) ns' own)/\DFr B g4 wr w'')/\(w''.cell? ⟨g3,x,none⟩=some (.string ⟨y1.toArray⟩)/\w''.cell? ⟨g4,x,none⟩=some (.int .i64 (y2:Nat)))):=by
           refine CS.mono ?_;rintro e w'' ⟨-,p2,p3⟩;obtain⟨q1,q2⟩:=p2 _ rfl;have hf:=hdf.two p3;exact⟨q1,⟨q2,hf⟩,FQ.o w'' hf⟩
          have hlt2:(x:Int)<(d:Int):=by omega
          clear hdt hfr hj gG hy hR CS jw hxj BQ hdd hdf hN hml HST;go_wp2
          go_region_held3 (fun u=>u.cell? ⟨g3,x,none⟩=some (.string ⟨y1.toArray⟩)/\u.cell? ⟨g4,x,none⟩=some (.int .i64 (y2:Nat))) ((first|assumption|go_keep)) (first|(go_at_call 80;refine ny.o.mono ?_;rintro e w7 ⟨rfl,hall,hcl⟩))
          obtain⟨⟨ns',hd7⟩,jY⟩:=hall.o;have HD7:=ae hd7;have qI:=ae jY;obtain⟨k1,k2⟩:=hcl;clear hd7 jY hall a1 a2 c5;go_wp2_with (go_at_call 82;refine(zi B g4 R s now 0 ns' own j2 _ HD7.o 5 (by decide) y2).mono ?_;rintro e w8 ⟨rfl,hd8,vU⟩);refine bodyPost_ret (results_none rfl _ _ _) rfl ?_;rw[fJ.o,az.o];exact⟨rfl,fun d hh=>(by cases hh),fun c' hh=>(by have hh:(Except.error (5,y2):Rs Sd)=.error c':=hh;injection hh with hh;subst hh;exact⟨now,hd8.fq.toP BP.o⟩),vY.o.two (((uo.o.two qI.o).two vU).toP BP.o)⟩
         | .ok (t1,m1),CS,gG,HST,_ =>
          have az:Hd (way many own (acc.drop (x+1)) t1 m1=Sw):=gG;obtain⟨j1,-,j3⟩:=HST.o t1 m1 rfl;have rG:=ae j1;clear j1;have ny:Hd (Calls prog 80 #[.pointer (some ⟨R,0,none⟩),.int .i64 (t:Nat),.string ⟨y1.toArray⟩,.int .i64 (y2:Nat)] wr.drew fun e w''=>e=.returned (.int .i64 (t1:Nat))/\Hd (Dt w'' B g4 R s now 0 (.ok j2) m1 own/\DFr B g4 wr w'')/\(w''.cell? ⟨g3,x,none⟩=some (.string ⟨y1.toArray⟩)/\w''.cell? ⟨g4,x,none⟩=some (.int .i64 (y2:Nat)))):=by
           refine CS.mono ?_;rintro e w'' ⟨p1,-,p3⟩;obtain⟨q1,q2⟩:=p1 _ _ rfl;have hf:=hdf.two p3;exact⟨q1,⟨q2,hf⟩,FQ.o w'' hf⟩
          have hlt2: (x:Int)<(d:Int):=by omega
          have hnt:¬(t1:Int)<0:=by omega
          clear hdt hfr hj gG hy hR CS hxj BQ hdd hdf HST;go_wp2
          go_region_held3 (fun u=>u.cell? ⟨g3,x,none⟩=some (.string ⟨y1.toArray⟩)/\u.cell? ⟨g4,x,none⟩=some (.int .i64 (y2:Nat))) ((first|assumption|go_keep)) (first|(go_at_call 80;refine ny.o.mono ?_;rintro e w7 ⟨rfl,hall,hcl⟩))
          obtain⟨hd7,jY⟩:=hall.o;have HD7:=ae hd7;have qI:=ae jY;clear hd7 jY hall a1 a2 c5 hcl;go_wp2;go_roundw
          case rel=>exact⟨x+1,t1,m1,by go_num,rfl,by omega,fun _=>⟨rG.o,by omega⟩,rG.o.lt,HD7.o,az.o,uo.o.two qI.o⟩
          case measure=>simp[intOf];omega
        ·have hxe:x=d:=by omega
         rw[HW0.o x hil t m (by have:=HN.o;omega)]at gG;have CS:=aia many B g4 R s now 0 j2 m own t acc[x].1 acc[x].2 wr.drew hdd hj.wf hj.lt (by omega);have HST:=ae (fun t1 m1 (hs:(if many=true then fO m t acc[x].1 acc[x].2 else gV m own t acc[x].1 acc[x].2)=.ok (t1,m1))=>aic hj hs);have jw:=ae (fun c (hc:(if many=true then fO m t acc[x].1 acc[x].2 else gV m own t acc[x].1 acc[x].2)=.error c)=>aib hc);obtain⟨y,hy⟩:=zN (acc[x]);rw[hy]at a1 a2 CS gG HST jw;obtain⟨R0,hR⟩:=zN ((if many=true then fO m t y.1 y.2 else gV m own t y.1 y.2));rw[hR]at CS gG HST jw;obtain⟨y1,y2⟩:=y;simp only[]at a1 a2 CS gG HST jw;have FQ:Hd (∀w'',DFr B g4 wr w''->w''.cell? ⟨g3,x,none⟩=some (.string ⟨y1.toArray⟩)/\w''.cell? ⟨g4,x,none⟩=some (.int .i64 (y2:Nat))):=fun w'' hf=>by
          have hf2:=hfr.two hf;have b1:=(bZ AC.o fun g' cur' hh hc=>hf2.oth _ _ _ _ hc (by decide) (by decide) (by decide) (by decide)).cells (g:=g3) rfl x _ (PG acc x hil);have b2:=(bZ QC.o fun g' cur' hh hc=>by cases hh;exact hf2.pro).cells (g:=g4) rfl x _ (PH acc x hil);rw[nC]at b1 b2;rw[hy]at b1 b2;exact⟨b1,b2⟩
         match R0,CS,gG,HST,jw with
         | .error c,CS,gG,_,jw =>
          obtain rfl:=jw.o c rfl;have az:=ae gG.symm;have ny:Hd (Calls prog 81 #[.pointer (some ⟨R,0,none⟩),.int .i64 (t:Nat),.string ⟨y1.toArray⟩,.int .i64 (y2:Nat),.bool many] wr.drew fun e w''=>e=.returned (.int .i64 (-1))/\Hd ((∃ns',Dt w'' B g4 R s now 0 (.ok j2) ns' own)/\DFr B g4 wr w'')/\(w''.cell? ⟨g3,x,none⟩=some (.string ⟨y1.toArray⟩)/\w''.cell? ⟨g4,x,none⟩=some (.int .i64 (y2:Nat)))):=by
           refine CS.mono ?_;rintro e w'' ⟨-,p2,p3⟩;obtain⟨q1,q2⟩:=p2 _ rfl;have hf:=hdf.two p3;exact⟨q1,⟨q2,hf⟩,FQ.o w'' hf⟩
          have hlt2:¬(x:Int)<(d:Int):=by omega
          clear hdt hfr hj gG hy hR CS jw hxj BQ hdd hdf hN hml HST hxe;go_wp2
          go_region_held3 (fun u=>u.cell? ⟨g3,x,none⟩=some (.string ⟨y1.toArray⟩)/\u.cell? ⟨g4,x,none⟩=some (.int .i64 (y2:Nat))) ((first|assumption|go_keep)) (first|(go_at_call 81;refine ny.o.mono ?_;rintro e w7 ⟨rfl,hall,hcl⟩))
          obtain⟨⟨ns',hd7⟩,jY⟩:=hall.o;have HD7:=ae hd7;have qI:=ae jY;obtain⟨k1,k2⟩:=hcl;clear hd7 jY hall a1 a2 c5;go_wp2_with (go_at_call 82;refine(zi B g4 R s now 0 ns' own j2 _ HD7.o 5 (by decide) y2).mono ?_;rintro e w8 ⟨rfl,hd8,vU⟩);refine bodyPost_ret (results_none rfl _ _ _) rfl ?_;rw[fJ.o,az.o];exact⟨rfl,fun d hh=>(by cases hh),fun c' hh=>(by have hh:(Except.error (5,y2):Rs Sd)=.error c':=hh;injection hh with hh;subst hh;exact⟨now,hd8.fq.toP BP.o⟩),vY.o.two (((uo.o.two qI.o).two vU).toP BP.o)⟩
         | .ok (t1,m1),CS,gG,HST,_ =>
          have az:Hd (way many own (acc.drop (x+1)) t1 m1=Sw):=by
           show _=_;rw[List.drop_eq_nil_of_le (by have:=HN.o;omega)];exact gG
          have aih:=HST.o t1 m1 rfl;have ny:Hd (Calls prog 81 #[.pointer (some ⟨R,0,none⟩),.int .i64 (t:Nat),.string ⟨y1.toArray⟩,.int .i64 (y2:Nat),.bool many] wr.drew fun e w''=>e=.returned (.int .i64 (t1:Nat))/\Hd (Dt w'' B g4 R s now 0 (.ok j2) m1 own/\DFr B g4 wr w'')/\(w''.cell? ⟨g3,x,none⟩=some (.string ⟨y1.toArray⟩)/\w''.cell? ⟨g4,x,none⟩=some (.int .i64 (y2:Nat)))):=by
           refine CS.mono ?_;rintro e w'' ⟨p1,-,p3⟩;obtain⟨q1,q2⟩:=p1 _ _ rfl;have hf:=hdf.two p3;exact⟨q1,⟨q2,hf⟩,FQ.o w'' hf⟩
          have hlt2:¬(x:Int)<(d:Int):=by omega
          have hnt:¬(t1:Int)<0:=by omega
          clear hdt hfr hj gG hy hR CS hxj BQ hdd hdf HST hxe;go_wp2
          go_region_held3 (fun u=>u.cell? ⟨g3,x,none⟩=some (.string ⟨y1.toArray⟩)/\u.cell? ⟨g4,x,none⟩=some (.int .i64 (y2:Nat))) ((first|assumption|go_keep)) (first|(go_at_call 81;refine ny.o.mono ?_;rintro e w7 ⟨rfl,hall,hcl⟩))
          obtain⟨hd7,jY⟩:=hall.o;have HD7:=ae hd7;have qI:=ae jY;clear hd7 jY hall a1 a2 c5 hcl;go_wp2;go_roundw
          case rel=>exact⟨x+1,t1,m1,by go_num,rfl,by omega,fun h=>absurd h (by omega),aih,HD7.o,az.o,uo.o.two qI.o⟩
          case measure=>simp[intOf];omega
       ·have hxe:x=d+1:=by omega
        have hg1:decide ((x:Int)<((d+1:Nat):Int))=false:=by simp;omega
        have hg2:¬(x:Int)<((d+1:Nat):Int):=by omega
        have az:Hd (Sw=.ok (t,m)):=by
         rw[List.drop_eq_nil_of_le (by have:=HN.o;omega)]at gG;exact gG.symm
        obtain⟨O2,oc2,v2,e1,e2,e3,e4,e5,Ze,Zf⟩:=hdt.owns t BQ;have HDO:=ae Ze;have xO:=ae Zf;obtain⟨L,hL⟩:=zN (m.length);rw[hL]at e1 BQ;clear hdt hfr gG Ze Zf hxj hL hxe;go_wp2;refine bodyPost_end (results_none rfl _ _ _) rfl ?_;rw[fJ.o,az.o];exact⟨rfl,fun d hh=>(by have hh:(Except.ok ⟨j2,m,t :: own,t⟩:Rs Sd)=.ok d:=hh;injection hh with hh;subst hh;exact HDO.o.toP BP.o),fun c' hh=>(by cases hh),vY.o.two ((uo.o.two xO.o).toP BP.o)⟩
end Go.Proofs.YtnnbgjaphfhibaaGreatDoor
