import Derived.Test.YtnnbgjaphfhibaaGreatDoorN41
import Derived.Test.YtnnbgjaphfhibaaGreatDoorN39
import Derived.Deep.Cut
set_option linter.unusedVariables false
set_option linter.unusedSimpArgs false
set_option maxRecDepth 100000
set_option maxHeartbeats 6400000
open Go.Proofs.Tryz
namespace Go.Proofs.YtnnbgjaphfhibaaGreatDoor
open Go.RowKit Go.Maps Go.WideMaps Go.Joins
theorem aeD:(prog.info? 9).map (fun i=>(i.zero,i.size,i.bytes))=some (some (.string ⟨#[]⟩),1,16):=by kernel_rfl
theorem aeE(s:ByteArray):∀u∈[Value.string s],u.oneCell'=true:=by
 intro u hu;rw[List.mem_singleton.1 hu];rfl
theorem aeF(n:Nat):∀u∈[Value.int .i64 (n:Nat)],u.oneCell'=true:=by
 intro u hu;rw[List.mem_singleton.1 hu];rfl
def mm(l:List UInt8)(many:Bool)(q:Rs Nat):Rs Nat:=if many=true then(q.bind fun i=>must l i 93).bind fun i=>must l i 93 else q.bind fun i=>must l i 93
theorem VL(l:List UInt8)(many:Bool)(c:Int × Nat):mm l many (.error c)=.error c:=by cases many<;>rfl
theorem aeG(l:List UInt8)(i:Nat)(ns:List Tn)(own:List Nat)(now:Nat)(many:Bool)(hm:decide (nx l (i+1)=91)=many)(c:Int × Nat)(h:fF l (l.length+1) (if many=true then i+2 else i+1) []=.error c):fQ l ⟨i,ns,own,now⟩=.error c:=by
 rw[Cf l i ns own now many hm,h]
theorem aeH(l:List UInt8)(i:Nat)(ns:List Tn)(own:List Nat)(now:Nat)(many:Bool)(hm:decide (nx l (i+1)=91)=many)(ks:List (List UInt8 × Nat))(j:Nat)(h:fF l (l.length+1) (if many=true then i+2 else i+1) []=.ok (ks,j)) :
  (∀c,mm l many (.ok j)=.error c->fQ l ⟨i,ns,own,now⟩=.error c)/\(∀j2,mm l many (.ok j)=.ok j2->fQ l ⟨i,ns,own,now⟩=wJ j2 own (way many own ks 0 ns)):=by
 rw[Cf l i ns own now many hm,h];have e:mm l many (.ok j)=if many=true then(must l j 93).bind (fun i=>must l i 93) else must l j 93:=rfl;rw[e];simp only[]
 cases must l j 93 with
 | error d =>
  have e2:(if many=true then(Except.error d:Rs Nat).bind (fun i=>must l i 93) else .error d)=.error d:=by cases many<;>rfl
  rw[e2];exact⟨fun c hc=>(by cases hc;rfl),fun j2 hc=>(by cases hc)⟩
 | ok j1 =>
  have e2:(if many=true then(Except.ok j1:Rs Nat).bind (fun i=>must l i 93) else .ok j1)=(if many=true then must l j1 93 else .ok j1):=rfl;rw[e2];simp only[]
  cases (if many=true then must l j1 93 else .ok j1:Rs Nat) with
  | error d=>exact⟨fun c hc=>(by cases hc;rfl),fun j2 hc=>(by cases hc)⟩
  | ok j2=>exact⟨fun c hc=>(by cases hc),fun j3 hc=>(by cases hc;rfl)⟩
def q3:Rs (List UInt8 × Nat)->Rs Nat
 | .error e=>.error e
 | .ok (_,j)=>.ok j
theorem aeI{i M R:Nat}{s:ByteArray}{L O:Value}{now de:Nat}{g:Rs (List UInt8 × Nat)}{w:World}{e:Ending}{w':World}(h:Gu i M R s L O now de g w e w'):∃t:List UInt8,e=.returned (.tuple #[.string ⟨t.toArray⟩,.int .i64 (i:Nat)])/\Ds w' R s L O now de (q3 g)/\(∀k j,g=.ok (k,j)->t=k)/\w.grownBy w' (some R):=by
 match g,h with
 | .error (c,p),h =>
  obtain⟨⟨t,-,h1⟩,h2⟩:=h.2.1 c p rfl;exact⟨t,h1,h2,fun k j hh=>(by cases hh),h.2.2⟩
 | .ok (k,j),h =>
  obtain⟨h1,h2⟩:=h.1 k j rfl;exact⟨k,h1,h2,fun k' j' hh=>(by cases hh;rfl),h.2.2⟩
def Ij(l:List UInt8)(f:Nat)(acc:List (List UInt8 × Nat))(p:Nat):Rs (List UInt8 × Nat)->Rs (List (List UInt8 × Nat) × Nat)
 | .error e=>.error e
 | .ok (k,j)=>if nx l (bl l j)=46 then fF l f (bl l j+1) (acc++[(k,p)]) else .ok (acc++[(k,p)],bl l j)
theorem aeJ(l:List UInt8)(f i:Nat)(acc:List (List UInt8 × Nat)):fF l (f+1) i acc=Ij l f acc (bl l i) (bW l (bl l i)):=by
 rw[BV]
 cases bW l (bl l i) with
 | error e=>rfl
 | ok q=>rfl
theorem Ds.err{w:World}{R:Nat}{s:ByteArray}{L O:Value}{now de i:Nat}(h:Ds w R s L O now de (.ok i)):w.cell? ⟨R,5,none⟩=some (.int .i64 0)/\w.cell? ⟨R,1,none⟩=some (.int .i64 (i:Nat))/\(∀k,w.frozen? ⟨R,k,none⟩=false):=⟨h.2.cells.2.2.2.2.2.1,h.2.cells.2.1,h.2.cells.2.2.2.2.2.2.2.2⟩
theorem Ds.to{w:World}{R:Nat}{s:ByteArray}{L O:Value}{now de i:Nat}(h:Ds w R s L O now de (.ok i))(j:Nat)(hj:j<=s.size):Ds (w.setCell ⟨R,1,none⟩ (.int .i64 (j:Nat))) R s L O now de (.ok j):=⟨hj,h.2.setI j⟩
theorem aeK(many:Bool)(B P R:Nat)(s:ByteArray)(now de j:Nat)(ns:List Tn)(own:List Nat)(t:Nat)(k:List UInt8)(p:Nat)(w:World)(h:Dt w B P R s now de (.ok j) ns own)(W:WF ns own)(ht:t<ns.length)(hsz:ns.length<=900000) :
  Calls prog 81 #[.pointer (some ⟨R,0,none⟩),.int .i64 (t:Nat),.string ⟨k.toArray⟩,.int .i64 (p:Nat),.bool many] w (Hl B P R s now de (.ok j) ns own (if many=true then fK ns t k p else fJ ns own t k p) w):=by
 cases many with
 | true=>exact acO B P R s now de j ns own t k p w h W ht hsz
 | false=>exact acP B P R s now de j ns own t k p w h W ht hsz
theorem aeL{many:Bool}{ns:List Tn}{own:List Nat}{t p:Nat}{k:List UInt8}{c:Int × Nat}(h:(if many=true then fK ns t k p else fJ ns own t k p)=.error c):c=(5,p):=by
 cases many with
 | true=>exact adD h
 | false=>exact adC h
theorem aeM{many:Bool}{ns ns':List Tn}{own:List Nat}{t t' p:Nat}{k:List UInt8}(J:Jt ns own t)(h:(if many=true then fK ns t k p else fJ ns own t k p)=.ok (t',ns')):t'<ns'.length:=by
 cases many with
 | true=>exact(PE J h).1.lt
 | false=>exact(PD J h).1.lt
theorem aeN:NW:=by
 intro B P R s now i ns own w h hPB hs hx LI;have hl:s.data.toList.length=s.size:=by simp
 have HT0:Hd (Dt w B P R s now 0 (.ok i) ns own):=h;obtain⟨hb1,hb2,hb3⟩:=h.base;obtain⟨a1,a2,N,c,O,oc,xs,ks,a3,a4,a5,a6⟩:=h;obtain⟨LV,VM⟩:∃V,Value.slice (some ⟨N,0,none⟩) ns.length c=V:=⟨_,rfl⟩;obtain⟨OV,VN⟩:∃V,Value.slice (some ⟨O,0,none⟩) ns.length oc=V:=⟨_,rfl⟩;rw[VM,VN]at a6;have CM:Hd (∀(q:Rs Nat) (c:Int) w,0<=c->Ds w R s LV OV now 0 q->Calls prog 56 #[.pointer (some ⟨R,0,none⟩),.int .u8 c] w fun e w'=>e=.returned (.tuple #[])/\Ds w' R s LV OV now 0 (q.bind fun i=>must s.data.toList i c)/\w.grownBy w' (some R)):=fun q c w hc h=>I7 R s LV OV now 0 q c hc w h (by omega)
 have CI:Hd (∀(q:Rs Nat) (c:Int) w,0<=c->Ds w R s LV OV now 0 q->Calls prog 52 #[.pointer (some ⟨R,0,none⟩),.int .u8 c] w fun e w'=>e=.returned (.bool (ed s.data.toList q c))/\w.grownBy w' none):=fun q c w hc h=>rG R s LV OV now 0 q c hc w h (by omega)
 have CB:Hd (∀(q:Rs Nat) w,Ds w R s LV OV now 0 q->Calls prog 51 #[.pointer (some ⟨R,0,none⟩)] w fun e w'=>e=.returned (.tuple #[])/\Ds w' R s LV OV now 0 (q.bind fun i=>.ok (bl s.data.toList i))/\w.grownBy w' (some R)):=fun q w h=>PV R s LV OV now 0 q w h (by omega)
 have CK:Hd (∀k w,Ds w R s LV OV now 0 (.ok k)->Calls prog 79 #[.pointer (some ⟨R,0,none⟩)] w (Gu k (4*s.size+4) R s LV OV now 0 (bW s.data.toList k) w)):=fun k w h=>TG R s LV OV now 0 k w h.2 h.1 (by omega)
 have fP:Hd (∀k,k<=s.size->k<=bl s.data.toList k/\bl s.data.toList k<=s.size):=fun k hk=>by rw[<-hl];exact jA _ k (by omega)
 have jD:Hd (∀k x j,k<=s.size->bW s.data.toList k=.ok (x,j)->k<j/\j<=s.size):=fun k x j a b=>by
  have:=uZ s.data.toList k x j (by omega) b;omega
 have cZ:Hd (∀k,nx s.data.toList k=46->k<s.size):=fun k a=>by
  have:=bu (l:=s.data.toList) (i:=k) (by rw[a];decide);omega
 have hil:i<s.size:=by
  have:=bu (l:=s.data.toList) (i:=i) (by rw[hx];decide);omega
 have VO:Hd (Calls prog 56 #[.pointer (some ⟨R,0,none⟩),.int .u8 91] w fun e w'=>e=.returned (.tuple #[])/\Ds w' R s LV OV now 0 (.ok (i+1))/\w.grownBy w' (some R)):=by
  have:=CM.o (.ok i) 91 w (by decide) a6;have e:(Except.bind (.ok i) fun i=>must s.data.toList i 91:Rs Nat)=.ok (i+1):=by show must _ i 91=_;unfold must;rw[if_pos hx]
  rw[e]at this;exact this
 obtain⟨many,hm⟩:∃b,decide (nx s.data.toList (i+1)=91)=b:=⟨_,rfl⟩;have VP:Hd (∀w,Ds w R s LV OV now 0 (.ok (i+1))->Calls prog 52 #[.pointer (some ⟨R,0,none⟩),.int .u8 91] w fun e w'=>e=.returned (.bool many)/\w.grownBy w' none):=fun w h=>by
  have:=CI.o (.ok (i+1)) 91 w (by decide) h;rw[show ed s.data.toList (.ok (i+1)) 91=many from hm]at this;exact this
 have HI2:Hd (many=true->i+2<=s.size):=fun e=>by
  rw[e]at hm;have:=bu (l:=s.data.toList) (i:=i+1) (by rw[of_decide_eq_true hm];decide);omega
 obtain⟨G,hG⟩:=zN (fQ s.data.toList ⟨i,ns,own,now⟩);obtain⟨S,hS⟩:=zN (fF s.data.toList (s.data.toList.length+1) (if many=true then i+2 else i+1) []);have gu:Hd (∀c,S=.error c->G=.error c):=fun c hc=>by
  show G=_;rw[<-hG];exact aeG _ i ns own now many hm c (hS.trans hc)
 have nN:Hd (∀ks j,S=.ok (ks,j)->(∀c,mm s.data.toList many (.ok j)=.error c->G=.error c)/\(∀j2,mm s.data.toList many (.ok j)=.ok j2->G=wJ j2 own (way many own ks 0 ns))):=fun ks j hc=>by
  rw[<-hG];exact aeH _ i ns own now many hm ks j (hS.trans hc)
 have HHO:Hd (∀ks j,S=.ok (ks,j)->(∀x∈ks,x.1.length<=s.size)/\0<ks.length/\ks.length<=s.size):=fun ks j hc=>by
  have hi0:(if many=true then i+2 else i+1)<=s.data.toList.length:=by
   have:=HI2.o
   cases many with
   | true=>have:=this rfl;simp only[if_true];omega
   | false=>simp only[Bool.false_eq_true,if_false];omega
  obtain⟨b1,b2,b3,b4⟩:=G6 s.data.toList _ _ _ _ _ hi0 (fun x hx=>absurd hx (by simp)) (hS.trans hc);simp only[List.length_nil]at b2 b3;exact⟨fun x hx=>by have:=b1 x hx;omega,by omega,by omega⟩
 rw[hG];have HS:Hd (fF s.data.toList (s.data.toList.length+1) (if many=true then i+2 else i+1) []=S):=hS;have zM:Hd (Li s.data.toList ⟨i,ns,own,now⟩):=LI;have zO:Hd (P<B):=hPB;have yQ:Hd (B<=w.heap.size/\P<w.heap.size/\R<w.heap.size):=⟨hb1,hb2,hb3⟩;have eU:Hd (Ds w R s LV OV now 0 (.ok i)):=a6;obtain⟨i0,aeO,hii⟩:=Option.map_eq_some_iff.1 aeD;simp only[Prod.mk.injEq]at hii;obtain⟨hz0,hz1,hzb⟩:=hii;obtain⟨j0,hj0,hjj⟩:=Option.map_eq_some_iff.1 Jv;simp only[Prod.mk.injEq]at hjj;obtain⟨hy0,hy1,hyb⟩:=hjj;clear hG hS LI hPB a1 a2 a3 a4 a5 a6 VM VN hx hm hb1 hb2 hb3;go_enter func53,ntmps53
 go_upto_if 15 with(first|(go_at_call 56;refine VO.o.mono ?_;rintro e w1 ⟨rfl,hd1,hg1⟩)|(go_at_call 52;refine(VP.o _ hd1).mono ?_;rintro e w2 ⟨rfl,hg2⟩))
 have HD2:Hd (Ds w2 R s LV OV now 0 (.ok (i+1))):=hd1.grow hg2;have HG2:Hd (w.grownBy w2 (some R)):=aF hg1 hg2;clear hd1 hg1 hg2 VO VP
 go_cut [] from 11 (fun wx=>Ds wx R s LV OV now 0 (.ok (if many=true then i+2 else i+1))/\w.grownBy wx (some R))
 case first =>
  obtain⟨-,c1,cf⟩:=HD2.o.err;have cf1:=cf 1;clear cf
  cases many with
  | true =>
   have HD3:Hd (Ds (w2.setCell ⟨R,1,none⟩ (.int .i64 (((i+1:Nat):Int)+1))) R s LV OV now 0 (.ok (i+2))):=HD2.o.to (i+2) (HI2.o rfl);go_wp2;go_meet;exact⟨HD3.o,aV HG2.o 1 _⟩
  | false =>
   go_wp2;go_meet;exact⟨HD2.o,HG2.o⟩
 case rest =>
  obtain⟨hd3,hg3⟩:=hcut;have hi0:(if many=true then i+2 else i+1)<=s.size:=hd3.1;obtain⟨i2,hi2⟩:=zN ((if many=true then i+2 else i+1));rw[hi2]at HS hd3 hi0;have HD3:Hd (Ds wc R s LV OV now 0 (.ok i2)):=hd3;have aO:Hd (w.grownBy wc (some R)):=hg3;clear hd3 hg3 hi2 HD2 HG2;go_wp2;go_loopw [3,4,5] (fun v3 v4 v5 wr=>∃(q:Rs Nat) (acc:List (List UInt8 × Nat)),Ds wr R s LV OV now 0 q/\w.grownBy wr (some R)/\wr.ownsRow w.heap.size 9 1 v3 acc.length (kQ acc)/\wr.ownsRow w.heap.size 3 1 v4 acc.length (kF acc)/\acc.length<=100001/\((v5=.bool true/\∃(kx f:Nat),q=.ok kx/\s.size-kx<f/\fF s.data.toList f kx acc=S/\acc.length<=kx)\/(v5=.bool false/\((∃kx,q=.ok kx/\S=.ok (acc,kx))\/∃c,q=.error c/\S=.error c)))) (fun _ _ v5 wr=>match v5 with | .bool true=>s.size+2-(match wr.cell? ⟨R,1,none⟩ with|some (.int _ k)=>k.toNat|_=>0)|_=>0)
  case atStart=>exact⟨.ok i2,[],HD3.o,aO.o,World.ownsRow_nil _ _ _ _,World.ownsRow_nil _ _ _ _,by simp,Or.inl ⟨rfl,i2,s.data.toList.length+1,rfl,by omega,HS.o,by simp⟩⟩
  case round =>
   obtain⟨q,acc,hds,hg,hk,hp,hal,hor⟩:=hrel
   rcases hor with⟨rfl,kx,f,rfl,hf,hhd,hak⟩|⟨rfl,hor⟩
   ·-- a key more
    obtain⟨f,rfl⟩:∃f',f=f'+1:=⟨f-1,by omega⟩;rw[aeJ]at hhd;obtain⟨c5,c1,cf⟩:=hds.err;have hkx:kx<=s.size:=hds.1;have gI:Hd ((match wr.cell? ⟨R,1,none⟩ with|some (.int _ k)=>k.toNat|_=>0)=kx):=by show _=_;rw[c1];simp
    have HG:Hd (w.grownBy wr (some R)):=hg;have HK:Hd (wr.ownsRow w.heap.size 9 1 u3 acc.length (kQ acc)):=hk;have HP:Hd (wr.ownsRow w.heap.size 3 1 u4 acc.length (kF acc)):=hp;have HDk:Hd (Ds wr R s LV OV now 0 (.ok kx)):=hds;have C1:=CB.o (.ok kx) wr hds;obtain⟨b1,b2⟩:=fP.o kx hkx;obtain⟨jb,hjb⟩:=zN (bl s.data.toList kx);have e1:(Except.bind (.ok kx) fun i=>.ok (bl s.data.toList i):Rs Nat)=.ok jb:=by show Except.ok _=_;rw[hjb]
    rw[e1]at C1;rw[hjb]at hhd b1 b2;have xQ:Hd (Calls prog 51 #[.pointer (some ⟨R,0,none⟩)] wr fun e w'=>e=.returned (.tuple #[])/\Ds w' R s LV OV now 0 (.ok jb)/\wr.grownBy w' (some R)):=C1;have C2:=CK.o jb;have K2:=jD.o jb;obtain⟨KR,kz⟩:=zN (bW s.data.toList jb);rw[kz]at C2 hhd K2;have C2':Hd (∀w,Ds w R s LV OV now 0 (.ok jb)->Calls prog 79 #[.pointer (some ⟨R,0,none⟩)] w (Gu jb (4*s.size+4) R s LV OV now 0 KR w)):=C2;have uw:Hd (Ij s.data.toList f acc jb KR=S):=hhd;have iL:Hd (∀x j,KR=.ok (x,j)->jb<j/\j<=s.size):=fun x j hh=>K2 x j b2 hh
    clear hds hg hk hp hhd C1 C2 K2 hjb kz e1 c1 cf;go_wp2_with (first|(go_at_call 51;refine xQ.o.mono ?_));rintro e w2 ⟨rfl,hd2,hg2⟩;have HD2:Hd (Ds w2 R s LV OV now 0 (.ok jb)):=hd2;have HG2:Hd (w.grownBy w2 (some R)):=dH HG.o hg2;obtain⟨x1,x2,x3,hdd⟩:=HDk.o.dd;have aeP:Hd (w2.ownsRow w.heap.size 9 1 u3 acc.length (kQ acc)):=bK HK.o fun g' cur' hh hc=>hg2.block g' (aA hc) (by simp only[ne_eq,Option.some.injEq];exact aP hc hdd (by decide))
    have aeQ:Hd (w2.ownsRow w.heap.size 3 1 u4 acc.length (kF acc)):=bK HP.o fun g' cur' hh hc=>hg2.block g' (aA hc) (by simp only[ne_eq,Option.some.injEq];exact aP hc hdd (by decide))
    clear hd2 hg2 hdd c5;go_wp2_with (first|(go_at_call 79;refine(C2'.o _ HD2.o).mono ?_));intro e w3 hdk;obtain⟨t,rfl,hd3,hkt,hg3⟩:=aeI hdk;have aO:Hd (w.grownBy w3 (some R)):=dH HG2.o hg3;obtain⟨x1,x2,x3,hdd⟩:=HD2.o.dd;have hk3:w3.ownsRow w.heap.size 9 1 u3 acc.length (kQ acc):=bK aeP.o fun g' cur' hh hc=>hg3.block g' (aA hc) (by simp only[ne_eq,Option.some.injEq];exact aP hc hdd (by decide))
    have hp3:w3.ownsRow w.heap.size 3 1 u4 acc.length (kF acc):=bK aeQ.o fun g' cur' hh hc=>hg3.block g' (aA hc) (by simp only[ne_eq,Option.some.injEq];exact aP hc hdd (by decide))
    have sN:Hd (w3.ownsRow w.heap.size 3 1 u4 acc.length (kF acc)):=hp3;have wO:Hd (Ds w3 R s LV OV now 0 (q3 KR)):=hd3;have Ik:Hd (∀k j,KR=.ok (k,j)->t=k):=hkt;have hz3:w.heap.size<=w3.heap.size:=aO.o.size;clear hdk hd3 hkt hg3 hdd hp3;go_wp2_with (first|(at_builtin;refine wpList_append_lies _ rfl _ _ 31 rfl w.heap.size 9 i0 _ 1 16 underlying31 aeO hz0 hz1 hzb rfl (by decide) _ _ _ rfl (hk3.alloc _) _ 1 1 [.string ⟨t.toArray⟩] rfl rfl (World.news_of_block (heap_alloc_new _ _)) (aeE _) (by decide) (by unfold maxLen;omega) (by omega) (by simp;omega) _ rfl ?_));intro g4 cap4 w4 hown4 hgrow4 hat4 hlt4;have HD4:Hd (Ds w4 R s LV OV now 0 (q3 KR)):=(wO.o.grow (World.grownBy_alloc w3 (.cells #[.string ⟨t.toArray⟩] 9) none)).app (hk3.alloc _) hgrow4 (by decide);have dQ:Hd (w.grownBy w4 (some R)):=LW (aF aO.o (World.grownBy_alloc w3 (.cells #[.string ⟨t.toArray⟩] 9) none)) hgrow4 (fun b hb=>(bn hk3 hb).1)
    have DW:w4.ownsRow w.heap.size 3 1 u4 acc.length (kF acc):=bK (sN.o.alloc (.cells #[.string ⟨t.toArray⟩] 9)) fun g' cur' hh hc=>hgrow4.block g' (aA hc) (fun e=>by
     obtain⟨-,cc,hcc⟩:=bn (hk3.alloc (.cells #[.string ⟨t.toArray⟩] 9)) e.symm;exact aP hc hcc (by decide) rfl)
    have mW:Hd (w4.ownsRow w.heap.size 9 1 (.slice (some ⟨g4,0,none⟩) (acc.length+1) cap4) (acc.length+1) (kQ acc++[.string ⟨t.toArray⟩])):=hown4;have xI:w.heap.size<=w4.heap.size:=dQ.o.size;clear hown4 hgrow4 hat4 hlt4 hk3;go_wp2_with (first|(at_builtin;refine wpList_append_lies _ rfl _ _ 43 rfl w.heap.size 3 j0 _ 1 8 underlying43 hj0 hy0 hy1 hyb rfl (by decide) _ _ _ rfl (DW.alloc _) _ 1 1 [.int .i64 (jb:Nat)] rfl rfl (World.news_of_block (heap_alloc_new _ _)) (aeF _) (by decide) (by unfold maxLen;omega) (by omega) (by simp;omega) _ rfl ?_));intro g5 cap5 w5 hown5 hgrow5 hat5 hlt5;have HD5:Hd (Ds w5 R s LV OV now 0 (q3 KR)):=(HD4.o.grow (World.grownBy_alloc w4 (.cells #[.int .i64 (jb:Nat)] 3) none)).app (DW.alloc _) hgrow5 (by decide);have gQ:Hd (w.grownBy w5 (some R)):=LW (aF dQ.o (World.grownBy_alloc w4 (.cells #[.int .i64 (jb:Nat)] 3) none)) hgrow5 (fun b hb=>(bn DW hb).1)
    have uu:Hd (w5.ownsRow w.heap.size 9 1 (.slice (some ⟨g4,0,none⟩) (acc.length+1) cap4) (acc.length+1) (kQ acc++[.string ⟨t.toArray⟩])):=bK (mW.o.alloc (.cells #[.int .i64 (jb:Nat)] 3)) fun g' cur' hh hc=>hgrow5.block g' (aA hc) (fun e=>by
     obtain⟨-,cc,hcc⟩:=bn (DW.alloc (.cells #[.int .i64 (jb:Nat)] 3)) e.symm;exact aP hc hcc (by decide) rfl)
    have HP5:Hd (w5.ownsRow w.heap.size 3 1 (.slice (some ⟨g5,0,none⟩) (acc.length+1) cap5) (acc.length+1) (kF acc++[.int .i64 (jb:Nat)])):=hown5;clear hown5 hgrow5 hat5 hlt5 DW;obtain⟨q4,hq4⟩:=zN (((q3 KR).bind fun i=>.ok (bl s.data.toList i):Rs Nat));have C6:=CB.o (q3 KR) w5 HD5.o;rw[hq4]at C6;have LU:Hd (Calls prog 51 #[.pointer (some ⟨R,0,none⟩)] w5 fun e w'=>e=.returned (.tuple #[])/\Ds w' R s LV OV now 0 q4/\w5.grownBy w' (some R)):=C6;have C7:=CI.o q4 46;obtain⟨b,hb⟩:=zN (ed s.data.toList q4 46);rw[hb]at C7;have LZ:Hd (∀w,Ds w R s LV OV now 0 q4->Calls prog 52 #[.pointer (some ⟨R,0,none⟩),.int .u8 46] w fun e w'=>e=.returned (.bool b)/\w.grownBy w' none):=fun w h=>C7 w (by decide) h
    have uN:Hd (((q3 KR).bind fun i=>.ok (bl s.data.toList i):Rs Nat)=q4):=hq4;have HB4:Hd (ed s.data.toList q4 46=b):=hb;clear C6 C7 hq4 hb;go_wp2_with (first|(go_at_call 51;refine LU.o.mono ?_));rintro e w6 ⟨rfl,hd6,eu⟩;have HD6:Hd (Ds w6 R s LV OV now 0 q4):=hd6;have lK:Hd (w.grownBy w6 (some R)):=dH gQ.o eu;obtain⟨x1,x2,x3,hdd⟩:=HD5.o.dd;have HK6:Hd (w6.ownsRow w.heap.size 9 1 (.slice (some ⟨g4,0,none⟩) (acc.length+1) cap4) (acc.length+1) (kQ acc++[.string ⟨t.toArray⟩])):=bK uu.o fun g' cur' hh hc=>eu.block g' (aA hc) (by simp only[ne_eq,Option.some.injEq];exact aP hc hdd (by decide))
    have zt:Hd (w6.ownsRow w.heap.size 3 1 (.slice (some ⟨g5,0,none⟩) (acc.length+1) cap5) (acc.length+1) (kF acc++[.int .i64 (jb:Nat)])):=bK HP5.o fun g' cur' hh hc=>eu.block g' (aA hc) (by simp only[ne_eq,Option.some.injEq];exact aP hc hdd (by decide))
    clear hd6 eu hdd;go_wp2_with (go_at_call 52;refine(LZ.o _ HD6.o).mono ?_);rintro e w7 ⟨rfl,kX⟩;have HD7:Hd (Ds w7 R s LV OV now 0 q4):=HD6.o.grow kX;have oC:Hd (w.grownBy w7 (some R)):=aF lK.o kX;have mV:Hd ((acc++[(t,jb)]).length=acc.length+1):=by show _=_;simp
    have VQ:Hd (w7.ownsRow w.heap.size 9 1 (.slice (some ⟨g4,0,none⟩) (acc.length+1) cap4) (acc++[(t,jb)]).length (kQ (acc++[(t,jb)]))):=by
     show World.ownsRow _ _ _ _ _ _ _;rw[mV.o,adE];exact bK HK6.o fun g' cur' hh hc=>kX.block g' (aA hc) (by simp)
    have sO:Hd (w7.ownsRow w.heap.size 3 1 (.slice (some ⟨g5,0,none⟩) (acc.length+1) cap5) (acc++[(t,jb)]).length (kF (acc++[(t,jb)]))):=by
     show World.ownsRow _ _ _ _ _ _ _;rw[mV.o,adF];exact bK zt.o fun g' cur' hh hc=>kX.block g' (aA hc) (by simp)
    clear kX
    cases b with
    | true =>
     obtain⟨kk,j,kz⟩:∃kk j,KR=.ok (kk,j):=by
      match KR,uN with
      | .error e,uN =>
       have h1:(Except.error e:Rs Nat)=q4:=uN.o;have h2:=HB4.o;rw[<-h1]at h2
       cases h2
      | .ok (kk,j),_=>exact⟨kk,j,rfl⟩
     have ht:=Ik.o kk j kz;obtain⟨k1,k2⟩:=iL.o kk j kz;have hh:=uw.o;have hq:=uN.o;have hb:=HB4.o;rw[kz]at hh hq;have hq':(Except.ok (bl s.data.toList j):Rs Nat)=q4:=hq;rw[<-hq']at hb;have hb':nx s.data.toList (bl s.data.toList j)=46:=of_decide_eq_true hb;have hh':fF s.data.toList f (bl s.data.toList j+1) (acc++[(kk,jb)])=S:=by
      have e:Ij s.data.toList f acc jb (.ok (kk,j))=fF s.data.toList f (bl s.data.toList j+1) (acc++[(kk,jb)]):=if_pos hb';rw[<-e];exact hh
     obtain⟨d1,d2⟩:=fP.o j k2;have d3:=cZ.o _ hb';obtain⟨j7,BZ⟩:=zN (bl s.data.toList j);rw[BZ]at hq' hh' d1 d2 d3;rw[<-ht]at hh';have HHK:Hd (fF s.data.toList f (j7+1) (acc++[(t,jb)])=S):=hh';have DX:=HD7.o;rw[<-hq']at DX;obtain⟨-,c1,cf⟩:=DX.err;have cf1:=cf 1;have DY:Hd (Ds (w7.setCell ⟨R,1,none⟩ (.int .i64 ((j7:Int)+1))) R s LV OV now 0 (.ok (j7+1))):=DX.to (j7+1) (by omega);obtain⟨x1,x2,x3,hdd⟩:=DX.dd;have HK9:Hd ((w7.setCell ⟨R,1,none⟩ (.int .i64 ((j7:Int)+1))).ownsRow w.heap.size 9 1 (.slice (some ⟨g4,0,none⟩) (acc.length+1) cap4) (acc++[(t,jb)]).length (kQ (acc++[(t,jb)]))):=bK VQ.o fun g' cur' hh hc=>heap_setCell_other _ _ _ _ (aP hc hdd (by decide))
     have HP9:Hd ((w7.setCell ⟨R,1,none⟩ (.int .i64 ((j7:Int)+1))).ownsRow w.heap.size 3 1 (.slice (some ⟨g5,0,none⟩) (acc.length+1) cap5) (acc++[(t,jb)]).length (kF (acc++[(t,jb)]))):=bK sO.o fun g' cur' hh hc=>heap_setCell_other _ _ _ _ (aP hc hdd (by decide))
     clear kz ht hh hq hb hq' hb' hh' BZ DX cf hdd;go_wp2;go_roundw
     case rel=>exact⟨.ok (j7+1),acc++[(t,jb)],DY.o,aV oC.o 1 _,HK9.o,HP9.o,by rw[mV.o];omega,Or.inl ⟨rfl,j7+1,f,rfl,by omega,HHK.o,by rw[mV.o];omega⟩⟩
     case measure =>
      rw[gI.o,DY.o.err.2.1];simp;omega
    | false =>
     have uy:Hd ((∃kx,q4=.ok kx/\S=.ok (acc++[(t,jb)],kx))\/∃c,q4=.error c/\S=.error c):=by
      match KR,uN,uw,Ik with
      | .error e,uN,uw,_=>exact Or.inr ⟨e,uN.o.symm,uw.o.symm⟩
      | .ok (kk,j),uN,uw,Ik =>
       have ht:=Ik.o kk j rfl;have hq:(Except.ok (bl s.data.toList j):Rs Nat)=q4:=uN.o;have hb:=HB4.o;rw[<-hq]at hb;have hb':¬nx s.data.toList (bl s.data.toList j)=46:=of_decide_eq_false hb;refine Or.inl ⟨_,hq.symm,?_⟩;have e:Ij s.data.toList f acc jb (.ok (kk,j))=.ok (acc++[(kk,jb)],bl s.data.toList j):=if_neg hb';rw[ht,<-e];exact uw.o.symm
     go_wp2;go_roundw
     case rel=>exact⟨q4,acc++[(t,jb)],HD7.o,oC.o,VQ.o,sO.o,by rw[mV.o];omega,Or.inr ⟨rfl,uy.o⟩⟩
     case measure =>
      rw[gI.o];simp;omega
   ·-- no more keys
    obtain⟨o3,k3,rfl⟩:=kV hk;obtain⟨o4,k4,rfl⟩:=kV hp;have HDq:Hd (Ds wr R s LV OV now 0 q):=hds;have HG:Hd (w.grownBy wr (some R)):=hg;have HK:Hd (wr.ownsRow w.heap.size 9 1 (.slice o3 acc.length k3) acc.length (kQ acc)):=hk;have HP:Hd (wr.ownsRow w.heap.size 3 1 (.slice o4 acc.length k4) acc.length (kF acc)):=hp;have uy:Hd ((∃kx,q=.ok kx/\S=.ok (acc,kx))\/∃c,q=.error c/\S=.error c):=hor;have VT:Hd (Calls prog 56 #[.pointer (some ⟨R,0,none⟩),.int .u8 93] wr fun e w'=>e=.returned (.tuple #[])/\Ds w' R s LV OV now 0 (q.bind fun i=>must s.data.toList i 93)/\wr.grownBy w' (some R)):=CM.o q 93 wr (by decide) hds;have Oe:Hd (∀w,Ds w R s LV OV now 0 (q.bind fun i=>must s.data.toList i 93)->Calls prog 56 #[.pointer (some ⟨R,0,none⟩),.int .u8 93] w fun e w'=>e=.returned (.tuple #[])/\Ds w' R s LV OV now 0 ((q.bind fun i=>must s.data.toList i 93).bind fun i=>must s.data.toList i 93)/\w.grownBy w' (some R)):=fun w h=>CM.o _ 93 w (by decide) h
    have mG:Hd (mm s.data.toList many q=if many=true then(q.bind fun i=>must s.data.toList i 93).bind (fun i=>must s.data.toList i 93) else q.bind fun i=>must s.data.toList i 93):=rfl;obtain⟨qA,VU⟩:=zN ((q.bind fun i=>must s.data.toList i 93:Rs Nat));rw[VU]at VT Oe mG;obtain⟨qB,VV⟩:=zN ((qA.bind fun i=>must s.data.toList i 93:Rs Nat));rw[VV]at Oe mG;obtain⟨q5,hq5⟩:=zN (mm s.data.toList many q);have yx:Hd (mm s.data.toList many q=q5):=hq5;rw[hq5]at mG;obtain⟨n,hn⟩:=zN (acc.length);have HN:Hd (acc.length=n):=hn;rw[hn]at HK HP hal ⊢;clear hds hg hk hp hor VU VV hq5 hn
    go_upto_if 60 with(first|(go_at_call 56;refine VT.o.mono ?_;rintro e w2 ⟨rfl,hd2,hg2⟩))
    have HD2:Hd (Ds w2 R s LV OV now 0 qA):=hd2;have HG2:Hd (w.grownBy w2 (some R)):=dH HG.o hg2;obtain⟨x1,x2,x3,hdd⟩:=HDq.o.dd;have iL:Hd (w2.ownsRow w.heap.size 9 1 (.slice o3 n k3) n (kQ acc)):=bK HK.o fun g' cur' hh hc=>hg2.block g' (aA hc) (by simp only[ne_eq,Option.some.injEq];exact aP hc hdd (by decide))
    have HP2:Hd (w2.ownsRow w.heap.size 3 1 (.slice o4 n k4) n (kF acc)):=bK HP.o fun g' cur' hh hc=>hg2.block g' (aA hc) (by simp only[ne_eq,Option.some.injEq];exact aP hc hdd (by decide))
    clear hd2 hg2 hdd
    go_cut [] from 58 (fun wx=>Ds wx R s LV OV now 0 q5/\w.grownBy wx (some R)/\wx.ownsRow w.heap.size 9 1 (.slice o3 n k3) n (kQ acc)/\wx.ownsRow w.heap.size 3 1 (.slice o4 n k4) n (kF acc))
    case first =>
     cases many with
     | true =>
      have HE:Hd (q5=qB):=mG.o;go_wp2_with (go_at_call 56;refine(Oe.o _ HD2.o).mono ?_;rintro e w3 ⟨rfl,hd3,hg3⟩);go_meet;rw[HE.o];obtain⟨x1,x2,x3,hdd⟩:=HD2.o.dd;exact⟨hd3,dH HG2.o hg3,bK iL.o fun g' cur' hh hc=>hg3.block g' (aA hc) (by simp only[ne_eq,Option.some.injEq];exact aP hc hdd (by decide)),bK HP2.o fun g' cur' hh hc=>hg3.block g' (aA hc) (by simp only[ne_eq,Option.some.injEq];exact aP hc hdd (by decide))⟩
     | false =>
      have HE:Hd (q5=qA):=mG.o;go_wp2;go_meet;rw[HE.o];exact⟨HD2.o,HG2.o,iL.o,HP2.o⟩
    case rest =>
     obtain⟨hd5,hg5,hk5,DZ⟩:=hcut;obtain⟨hB1,hB2,hB3⟩:=yQ.o;have uC:Hd (DFr B P w wc):=by
      have hT:=HT0.o;obtain⟨z1,z2,-⟩:=hT;exact qV eU.o z1 z2 hB2 hg5
     match q5,hd5,yx with
     | .error c,hd5,yx =>
      have bC:Hd (G=.error c):=by
       rcases uy.o with⟨kx,e1,e2⟩|⟨c',e1,e2⟩
       ·have:=yx.o;rw[e1]at this;exact(nN.o _ _ e2).1 c this
       ·have:=yx.o;rw[e1,VL]at this
        cases this
        exact gu.o _ e2
      have wW:Hd (Fq wc B P R s now 0 c):=by
       have hT:=HT0.o;obtain⟨z1,z2,-⟩:=hT;exact⟨LV,OV,hd5,z1,z2,Nat.lt_of_lt_of_le hB2 hg5.size⟩
      obtain⟨-,c5,z5⟩:=wW.o.now;obtain⟨e1,he1⟩:∃x,c.1=x:=⟨_,rfl⟩;rw[he1]at c5 z5;clear hd5 hg5 hk5 DZ he1 hB1 hB2 hB3;go_wp2;go_loopw [9] (fun v9 wr=>v9=.int .i64 0/\wr=wc) (fun _ _=>0)
      case atStart=>exact⟨rfl,rfl⟩
      case round =>
       obtain⟨rfl,rfl⟩:=hrel
       by_cases hn0:0<n
       ·have hlt1:decide ((0:Int)<(n:Int))=true:=by simp;omega
        have hlt2:(0:Int)<(n:Int):=by omega
        go_wp2;refine bodyPost_end (results_none rfl _ _ _) rfl ?_;rw[bC.o];exact⟨rfl,fun d hh=>(by cases hh),fun c' hh=>(by injection hh with hh;subst hh;exact⟨now,wW.o⟩),uC.o⟩
       ·have hlt1:decide ((0:Int)<(n:Int))=false:=by simp;omega
        have hlt2:¬(0:Int)<(n:Int):=by omega
        go_wp2;refine bodyPost_end (results_none rfl _ _ _) rfl ?_;rw[bC.o];exact⟨rfl,fun d hh=>(by cases hh),fun c' hh=>(by injection hh with hh;subst hh;exact⟨now,wW.o⟩),uC.o⟩
     | .ok j2,hd5,yx =>
      obtain⟨kx,hqk,Og⟩:∃kx,q=.ok kx/\S=.ok (acc,kx):=by
       rcases uy.o with h|⟨c',e1,e2⟩
       ·exact h
       ·have:=yx.o;rw[e1,VL]at this
        cases this
      have hmm:=yx.o;rw[hqk]at hmm;have hG2:=(nN.o _ _ Og).2 j2 hmm;obtain⟨hkl,zI,hns⟩:=HHO.o _ _ Og;obtain⟨Sw,hSw⟩:=zN (way many own acc 0 ns);rw[hSw]at hG2;have gV:Hd (G=wJ j2 own Sw):=hG2;have HSW:Hd (way many own acc 0 ns=Sw):=hSw;have hnn:=HN.o;rw[hnn]at zI hns;obtain⟨g3,c3,h3v,-,-⟩:=hk5.form zI;obtain⟨g4,c4,h4v,-,-⟩:=DZ.form zI;injection h3v with h3o _ h3c
      injection h4v with h4o _ h4c
      subst h3o h3c h4o h4c;obtain⟨VW,cu4,VY⟩:=bn DZ (g:=g4) rfl;have BD:Hd (Dt wc B g4 R s now 0 (.ok j2) ns own):=HT0.o.places hg5 (fun L O hd=>by obtain⟨rfl,rfl⟩:=Ds.uni hd eU.o;exact hd5) VW (aA VY);have y8:Hd (wc.ownsRow w.heap.size 9 1 (.slice (some ⟨g3,0,none⟩) n k3) n (kQ acc)):=hk5;have Oh:Hd (wc.ownsRow w.heap.size 3 1 (.slice (some ⟨g4,0,none⟩) n k4) n (kF acc)):=DZ;obtain⟨d,hd⟩:∃d,n=d+1:=⟨n-1,by omega⟩;subst hd;have HJ:Hd (Jt ns own 0):=⟨zM.o.jt.wf,zM.o.jt.wt,nz zM.o.rt (by omega),zM.o.rt⟩;have HNN:Hd (ns.length<=300000):=by have h1:=zM.o.nn;have h2:=zM.o.le;simp only[]at h1 h2;show _<=_;omega
      have HW1:Hd (∀i (hi:i<acc.length) t m,i+1<acc.length->way many own (acc.drop i) t m=match fD m t acc[i].1 acc[i].2 with | .error e=>.error e | .ok (t1,ns1)=>way many own (acc.drop (i+1)) t1 ns1):=fun i hi t m h2=>by
       rw[List.drop_eq_getElem_cons hi,List.drop_eq_getElem_cons h2];exact Aj many own acc[i].1 acc[i].2 acc[i+1] _ t m
      have HW0:Hd (∀i (hi:i<acc.length) t m,i+1=acc.length->way many own (acc.drop i) t m=if many=true then fK m t acc[i].1 acc[i].2 else fJ m own t acc[i].1 acc[i].2):=fun i hi t m h2=>by
       rw[List.drop_eq_getElem_cons hi,List.drop_eq_nil_of_le (by omega)];exact Ai many own acc[i].1 acc[i].2 t m
      clear hd5 hg5 hk5 DZ hqk Og hmm hG2 hkl hSw VW VY hB1 hB2 hB3 hnn;go_wp2;go_loopw [8,9] (fun v8 v9 wr=>∃(x t:Nat) (m:List Tn),v9=.int .i64 (x:Nat)/\v8=.int .i64 (t:Nat)/\x<=d+1/\(x<=d->Jt m own t/\m.length<=ns.length+x)/\t<m.length/\Dt wr B g4 R s now 0 (.ok j2) m own/\way many own (acc.drop x) t m=Sw/\DFr B g4 wc wr) (fun _ v9 _=>d+1-(intOf v9).toNat)
      case atStart=>exact⟨0,0,ns,rfl,rfl,Nat.zero_le _,fun _=>⟨HJ.o,Nat.le_refl _⟩,HJ.o.lt,BD.o,HSW.o,DFr.refl _⟩
      case round =>
       obtain⟨x,t,m,rfl,rfl,hx,hxj,zQ,hdt,fV,hfr⟩:=hrel;obtain⟨-,-,c5,-⟩:=hdt.cells;have HDm:Hd (Dt wr B g4 R s now 0 (.ok j2) m own):=hdt;have sD:Hd (DFr B g4 wc wr):=hfr
       by_cases hxd:x<=d
       ·obtain⟨hj,hml⟩:=hxj hxd;have hil:x<acc.length:=by have:=HN.o;omega
        have a1:=(bK y8.o fun g' cur' hh hc=>hfr.oth _ _ _ _ hc (by decide) (by decide) (by decide) (by decide)).cells (g:=g3) rfl x _ (NE acc x hil);have a2:=(bK Oh.o fun g' cur' hh hc=>by cases hh;exact hfr.pro).cells (g:=g4) rfl x _ (NF acc x hil);rw[mr]at a1 a2;have hx1:x<d+1:=by omega
        have hg1:decide ((x:Int)<((d+1:Nat):Int))=true:=by simp;omega
        have hg2:(x:Int)<((d+1:Nat):Int):=by omega
        have hN:=HNN.o;obtain⟨hdd,hdf⟩:=hdt.drew 1
        by_cases hlt:x<d
        ·rw[HW1.o x hil t m (by have:=HN.o;omega)]at fV;have CS:=acN B g4 R s now 0 j2 m own t acc[x].1 acc[x].2 wr.drew hdd hj.wf hj.wt hj.lt (by omega);have HST:Hd (∀t1 m1,fD m t acc[x].1 acc[x].2=.ok (t1,m1)->Jt m1 own t1/\m.length<=m1.length/\m1.length<=m.length+1):=fun t1 m1 hs=>Ah hj hs
         have iZ:Hd (∀c,fD m t acc[x].1 acc[x].2=.error c->c=(5,acc[x].2)):=fun c hc=>adB hc
         obtain⟨y,hy⟩:=zN (acc[x]);rw[hy]at a1 a2 CS fV HST iZ;obtain⟨R0,hR⟩:=zN (fD m t y.1 y.2);rw[hR]at CS fV HST iZ;obtain⟨y1,y2⟩:=y;simp only[]at a1 a2 CS fV HST iZ;have yz:Hd (∀w'',DFr B g4 wr w''->w''.cell? ⟨g3,x,none⟩=some (.string ⟨y1.toArray⟩)/\w''.cell? ⟨g4,x,none⟩=some (.int .i64 (y2:Nat))):=fun w'' hf=>by
          have hf2:=hfr.two hf;have b1:=(bK y8.o fun g' cur' hh hc=>hf2.oth _ _ _ _ hc (by decide) (by decide) (by decide) (by decide)).cells (g:=g3) rfl x _ (NE acc x hil);have b2:=(bK Oh.o fun g' cur' hh hc=>by cases hh;exact hf2.pro).cells (g:=g4) rfl x _ (NF acc x hil);rw[mr]at b1 b2;rw[hy]at b1 b2;exact⟨b1,b2⟩
         match R0,CS,fV,HST,iZ with
         | .error c,CS,fV,_,iZ =>
          obtain rfl:=iZ.o c rfl;have az:Hd (Sw=.error (5,y2)):=fV.symm;have jC:Hd (Calls prog 80 #[.pointer (some ⟨R,0,none⟩),.int .i64 (t:Nat),.string ⟨y1.toArray⟩,.int .i64 (y2:Nat)] wr.drew fun e w''=>e=.returned (.int .i64 (-1))/\Hd ((∃ns',Dt w'' B g4 R s now 0 (.ok j2) ns' own)/\DFr B g4 wr w'')/\(w''.cell? ⟨g3,x,none⟩=some (.string ⟨y1.toArray⟩)/\w''.cell? ⟨g4,x,none⟩=some (.int .i64 (y2:Nat)))):=by
           refine CS.mono ?_;rintro e w'' ⟨-,p2,p3⟩;obtain⟨q1,q2⟩:=p2 _ rfl;have hf:=hdf.two p3;exact⟨q1,⟨q2,hf⟩,yz.o w'' hf⟩
          have hlt2:(x:Int)<(d:Int):=by omega
          clear hdt hfr hj fV hy hR CS iZ hxj zQ hdd hdf hN hml HST;go_wp2
          go_region_held3 (fun u=>u.cell? ⟨g3,x,none⟩=some (.string ⟨y1.toArray⟩)/\u.cell? ⟨g4,x,none⟩=some (.int .i64 (y2:Nat))) ((first|assumption|go_keep)) (first|(go_at_call 80;refine jC.o.mono ?_;rintro e w7 ⟨rfl,hall,hcl⟩))
          obtain⟨⟨ns',hd7⟩,jG⟩:=hall.o;have HD7:Hd (Dt w7 B g4 R s now 0 (.ok j2) ns' own):=hd7;have pO:Hd (DFr B g4 wr w7):=jG;obtain⟨k1,k2⟩:=hcl;clear hd7 jG hall a1 a2 c5;go_wp2_with (go_at_call 82;refine(xW B g4 R s now 0 ns' own j2 _ HD7.o 5 (by decide) y2).mono ?_;rintro e w8 ⟨rfl,hd8,uB⟩);refine bodyPost_ret (results_none rfl _ _ _) rfl ?_;rw[gV.o,az.o];exact⟨rfl,fun d hh=>(by cases hh),fun c' hh=>(by have hh:(Except.error (5,y2):Rs Sd)=.error c':=hh;injection hh with hh;subst hh;exact⟨now,hd8.fq.toP zO.o⟩),uC.o.two (((sD.o.two pO.o).two uB).toP zO.o)⟩
         | .ok (t1,m1),CS,fV,HST,_ =>
          have az:Hd (way many own (acc.drop (x+1)) t1 m1=Sw):=fV;obtain⟨j1,-,j3⟩:=HST.o t1 m1 rfl;have qL:Hd (Jt m1 own t1):=j1;clear j1;have jC:Hd (Calls prog 80 #[.pointer (some ⟨R,0,none⟩),.int .i64 (t:Nat),.string ⟨y1.toArray⟩,.int .i64 (y2:Nat)] wr.drew fun e w''=>e=.returned (.int .i64 (t1:Nat))/\Hd (Dt w'' B g4 R s now 0 (.ok j2) m1 own/\DFr B g4 wr w'')/\(w''.cell? ⟨g3,x,none⟩=some (.string ⟨y1.toArray⟩)/\w''.cell? ⟨g4,x,none⟩=some (.int .i64 (y2:Nat)))):=by
           refine CS.mono ?_;rintro e w'' ⟨p1,-,p3⟩;obtain⟨q1,q2⟩:=p1 _ _ rfl;have hf:=hdf.two p3;exact⟨q1,⟨q2,hf⟩,yz.o w'' hf⟩
          have hlt2: (x:Int)<(d:Int):=by omega
          have hnt:¬(t1:Int)<0:=by omega
          clear hdt hfr hj fV hy hR CS hxj zQ hdd hdf HST;go_wp2
          go_region_held3 (fun u=>u.cell? ⟨g3,x,none⟩=some (.string ⟨y1.toArray⟩)/\u.cell? ⟨g4,x,none⟩=some (.int .i64 (y2:Nat))) ((first|assumption|go_keep)) (first|(go_at_call 80;refine jC.o.mono ?_;rintro e w7 ⟨rfl,hall,hcl⟩))
          obtain⟨hd7,jG⟩:=hall.o;have HD7:Hd (Dt w7 B g4 R s now 0 (.ok j2) m1 own):=hd7;have pO:Hd (DFr B g4 wr w7):=jG;clear hd7 jG hall a1 a2 c5 hcl;go_wp2;go_roundw
          case rel=>exact⟨x+1,t1,m1,by go_num,rfl,by omega,fun _=>⟨qL.o,by omega⟩,qL.o.lt,HD7.o,az.o,sD.o.two pO.o⟩
          case measure=>simp[intOf];omega
        ·have hxe:x=d:=by omega
         rw[HW0.o x hil t m (by have:=HN.o;omega)]at fV;have CS:=aeK many B g4 R s now 0 j2 m own t acc[x].1 acc[x].2 wr.drew hdd hj.wf hj.lt (by omega);have HST:Hd (∀t1 m1,(if many=true then fK m t acc[x].1 acc[x].2 else fJ m own t acc[x].1 acc[x].2)=.ok (t1,m1)->t1<m1.length):=fun t1 m1 hs=>aeM hj hs
         have iZ:Hd (∀c,(if many=true then fK m t acc[x].1 acc[x].2 else fJ m own t acc[x].1 acc[x].2)=.error c->c=(5,acc[x].2)):=fun c hc=>aeL hc
         obtain⟨y,hy⟩:=zN (acc[x]);rw[hy]at a1 a2 CS fV HST iZ;obtain⟨R0,hR⟩:=zN ((if many=true then fK m t y.1 y.2 else fJ m own t y.1 y.2));rw[hR]at CS fV HST iZ;obtain⟨y1,y2⟩:=y;simp only[]at a1 a2 CS fV HST iZ;have yz:Hd (∀w'',DFr B g4 wr w''->w''.cell? ⟨g3,x,none⟩=some (.string ⟨y1.toArray⟩)/\w''.cell? ⟨g4,x,none⟩=some (.int .i64 (y2:Nat))):=fun w'' hf=>by
          have hf2:=hfr.two hf;have b1:=(bK y8.o fun g' cur' hh hc=>hf2.oth _ _ _ _ hc (by decide) (by decide) (by decide) (by decide)).cells (g:=g3) rfl x _ (NE acc x hil);have b2:=(bK Oh.o fun g' cur' hh hc=>by cases hh;exact hf2.pro).cells (g:=g4) rfl x _ (NF acc x hil);rw[mr]at b1 b2;rw[hy]at b1 b2;exact⟨b1,b2⟩
         match R0,CS,fV,HST,iZ with
         | .error c,CS,fV,_,iZ =>
          obtain rfl:=iZ.o c rfl;have az:Hd (Sw=.error (5,y2)):=fV.symm;have jC:Hd (Calls prog 81 #[.pointer (some ⟨R,0,none⟩),.int .i64 (t:Nat),.string ⟨y1.toArray⟩,.int .i64 (y2:Nat),.bool many] wr.drew fun e w''=>e=.returned (.int .i64 (-1))/\Hd ((∃ns',Dt w'' B g4 R s now 0 (.ok j2) ns' own)/\DFr B g4 wr w'')/\(w''.cell? ⟨g3,x,none⟩=some (.string ⟨y1.toArray⟩)/\w''.cell? ⟨g4,x,none⟩=some (.int .i64 (y2:Nat)))):=by
           refine CS.mono ?_;rintro e w'' ⟨-,p2,p3⟩;obtain⟨q1,q2⟩:=p2 _ rfl;have hf:=hdf.two p3;exact⟨q1,⟨q2,hf⟩,yz.o w'' hf⟩
          have hlt2:¬(x:Int)<(d:Int):=by omega
          clear hdt hfr hj fV hy hR CS iZ hxj zQ hdd hdf hN hml HST hxe;go_wp2
          go_region_held3 (fun u=>u.cell? ⟨g3,x,none⟩=some (.string ⟨y1.toArray⟩)/\u.cell? ⟨g4,x,none⟩=some (.int .i64 (y2:Nat))) ((first|assumption|go_keep)) (first|(go_at_call 81;refine jC.o.mono ?_;rintro e w7 ⟨rfl,hall,hcl⟩))
          obtain⟨⟨ns',hd7⟩,jG⟩:=hall.o;have HD7:Hd (Dt w7 B g4 R s now 0 (.ok j2) ns' own):=hd7;have pO:Hd (DFr B g4 wr w7):=jG;obtain⟨k1,k2⟩:=hcl;clear hd7 jG hall a1 a2 c5;go_wp2_with (go_at_call 82;refine(xW B g4 R s now 0 ns' own j2 _ HD7.o 5 (by decide) y2).mono ?_;rintro e w8 ⟨rfl,hd8,uB⟩);refine bodyPost_ret (results_none rfl _ _ _) rfl ?_;rw[gV.o,az.o];exact⟨rfl,fun d hh=>(by cases hh),fun c' hh=>(by have hh:(Except.error (5,y2):Rs Sd)=.error c':=hh;injection hh with hh;subst hh;exact⟨now,hd8.fq.toP zO.o⟩),uC.o.two (((sD.o.two pO.o).two uB).toP zO.o)⟩
         | .ok (t1,m1),CS,fV,HST,_ =>
          have az:Hd (way many own (acc.drop (x+1)) t1 m1=Sw):=by
           show _=_;rw[List.drop_eq_nil_of_le (by have:=HN.o;omega)];exact fV
          have aeR:t1<m1.length:=HST.o t1 m1 rfl;have jC:Hd (Calls prog 81 #[.pointer (some ⟨R,0,none⟩),.int .i64 (t:Nat),.string ⟨y1.toArray⟩,.int .i64 (y2:Nat),.bool many] wr.drew fun e w''=>e=.returned (.int .i64 (t1:Nat))/\Hd (Dt w'' B g4 R s now 0 (.ok j2) m1 own/\DFr B g4 wr w'')/\(w''.cell? ⟨g3,x,none⟩=some (.string ⟨y1.toArray⟩)/\w''.cell? ⟨g4,x,none⟩=some (.int .i64 (y2:Nat)))):=by
           refine CS.mono ?_;rintro e w'' ⟨p1,-,p3⟩;obtain⟨q1,q2⟩:=p1 _ _ rfl;have hf:=hdf.two p3;exact⟨q1,⟨q2,hf⟩,yz.o w'' hf⟩
          have hlt2:¬(x:Int)<(d:Int):=by omega
          have hnt:¬(t1:Int)<0:=by omega
          clear hdt hfr hj fV hy hR CS hxj zQ hdd hdf HST hxe;go_wp2
          go_region_held3 (fun u=>u.cell? ⟨g3,x,none⟩=some (.string ⟨y1.toArray⟩)/\u.cell? ⟨g4,x,none⟩=some (.int .i64 (y2:Nat))) ((first|assumption|go_keep)) (first|(go_at_call 81;refine jC.o.mono ?_;rintro e w7 ⟨rfl,hall,hcl⟩))
          obtain⟨hd7,jG⟩:=hall.o;have HD7:Hd (Dt w7 B g4 R s now 0 (.ok j2) m1 own):=hd7;have pO:Hd (DFr B g4 wr w7):=jG;clear hd7 jG hall a1 a2 c5 hcl;go_wp2;go_roundw
          case rel=>exact⟨x+1,t1,m1,by go_num,rfl,by omega,fun h=>absurd h (by omega),aeR,HD7.o,az.o,sD.o.two pO.o⟩
          case measure=>simp[intOf];omega
       ·have hxe:x=d+1:=by omega
        have hg1:decide ((x:Int)<((d+1:Nat):Int))=false:=by simp;omega
        have hg2:¬(x:Int)<((d+1:Nat):Int):=by omega
        have az:Hd (Sw=.ok (t,m)):=by
         rw[List.drop_eq_nil_of_le (by have:=HN.o;omega)]at fV;exact fV.symm
        obtain⟨O2,oc2,v2,e1,e2,e3,e4,e5,VZ,V4⟩:=hdt.owns t zQ;have HDO:Hd (Dt ((wr.setCell ⟨O2,t,none⟩ (.bool true)).setCell ⟨R,4,none⟩ (.int .i64 (t:Nat))) B g4 R s t 0 (.ok j2) m (t :: own)):=VZ;have vZ:Hd (DFr B g4 wr ((wr.setCell ⟨O2,t,none⟩ (.bool true)).setCell ⟨R,4,none⟩ (.int .i64 (t:Nat)))):=V4;obtain⟨L,hL⟩:=zN (m.length);rw[hL]at e1 zQ;clear hdt hfr fV VZ V4 hxj hL hxe;go_wp2;refine bodyPost_end (results_none rfl _ _ _) rfl ?_;rw[gV.o,az.o];exact⟨rfl,fun d hh=>(by have hh:(Except.ok ⟨j2,m,t :: own,t⟩:Rs Sd)=.ok d:=hh;injection hh with hh;subst hh;exact HDO.o.toP zO.o),fun c' hh=>(by cases hh),uC.o.two ((sD.o.two vZ.o).toP zO.o)⟩
end Go.Proofs.YtnnbgjaphfhibaaGreatDoor
