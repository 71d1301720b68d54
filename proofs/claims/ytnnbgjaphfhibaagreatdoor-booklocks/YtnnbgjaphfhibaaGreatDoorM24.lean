import Derived.Test.YtnnbgjaphfhibaaGreatDoorM22
import Derived.Test.YtnnbgjaphfhibaaGreatDoorM23
import Derived.Deep.Cut
import Derived.Test.YtnnbgjaphfhibaaGreatDoorM17
import Derived.Test.YtnnbgjaphfhibaaGreatDoorM19
import Derived.Test.YtnnbgjaphfhibaaGreatDoorM06
import Derived.Test.YtnnbgjaphfhibaaGreatDoorM03
set_option linter.unusedVariables false
set_option linter.unusedSimpArgs false
set_option maxRecDepth 100000
set_option maxHeartbeats 6400000
open Go.Proofs.Tryz
namespace Go.Proofs.YtnnbgjaphfhibaaGreatDoor
open Go.RowKit Go.Maps Go.WideMaps Go.Joins
theorem adH:(prog.info? 9).map (fun i=>(i.zero,i.size,i.bytes))=some (some (.string ⟨#[]⟩),1,16):=by kernel_rfl
theorem adI(s:ByteArray):∀u∈[Value.string s],u.oneCell'=true:=by
 intro u hu;rw[List.mem_singleton.1 hu];rfl
theorem adJ(n:Nat):∀u∈[Value.int .i64 (n:Nat)],u.oneCell'=true:=by
 intro u hu;rw[List.mem_singleton.1 hu];rfl
def mm(l:List UInt8)(many:Bool)(q:Rs Nat):Rs Nat:=if many=true then(q.bind fun i=>must l i 93).bind fun i=>must l i 93 else q.bind fun i=>must l i 93
theorem Vz(l:List UInt8)(many:Bool)(c:Int × Nat):mm l many (.error c)=.error c:=by cases many<;>rfl
theorem adK(l:List UInt8)(i:Nat)(ns:List Tn)(own:List Nat)(now:Nat)(many:Bool)(hm:decide (nx l (i+1)=91)=many)(c:Int × Nat)(h:fP l (l.length+1) (if many=true then i+2 else i+1) []=.error c):gI l ⟨i,ns,own,now⟩=.error c:=by
 rw[Dj l i ns own now many hm,h]
theorem adL(l:List UInt8)(i:Nat)(ns:List Tn)(own:List Nat)(now:Nat)(many:Bool)(hm:decide (nx l (i+1)=91)=many)(ks:List (List UInt8 × Nat))(j:Nat)(h:fP l (l.length+1) (if many=true then i+2 else i+1) []=.ok (ks,j)) :
  (∀c,mm l many (.ok j)=.error c->gI l ⟨i,ns,own,now⟩=.error c)/\(∀j2,mm l many (.ok j)=.ok j2->gI l ⟨i,ns,own,now⟩=wM j2 own (way many own ks 0 ns)):=by
 rw[Dj l i ns own now many hm,h];have e:mm l many (.ok j)=if many=true then(must l j 93).bind (fun i=>must l i 93) else must l j 93:=rfl;rw[e];simp only[]
 cases must l j 93 with
 | error d =>
  have e2:(if many=true then(Except.error d:Rs Nat).bind (fun i=>must l i 93) else .error d)=.error d:=by cases many<;>rfl
  rw[e2];exact⟨fun c hc=>(by cases hc;rfl),fun j2 hc=>(by cases hc)⟩
 | ok j1 =>
  have e2:(if many=true then(Except.ok j1:Rs Nat).bind (fun i=>must l i 93) else .ok j1)=(if many=true then must l j1 93 else .ok j1):=rfl;rw[e2];simp only[]
  cases (if many=true then must l j1 93 else .ok j1:Rs Nat) with
  | error d=>exact⟨fun c hc=>(by cases hc;rfl),fun j2 hc=>(by cases hc)⟩
  | ok j2=>exact⟨fun c hc=>(by cases hc),fun j3 hc=>(by cases hc;rfl)⟩
def q3:Rs (List UInt8 × Nat)->Rs Nat
 | .error e=>.error e
 | .ok (_,j)=>.ok j
theorem adM{i M R:Nat}{s:ByteArray}{L O:Value}{now de:Nat}{g:Rs (List UInt8 × Nat)}{w:World}{e:Ending}{w':World}(h:FW i M R s L O now de g w e w'):∃t:List UInt8,e=.returned (.tuple #[.string ⟨t.toArray⟩,.int .i64 (i:Nat)])/\Ds w' R s L O now de (q3 g)/\(∀k j,g=.ok (k,j)->t=k)/\w.grownBy w' (some R):=by
 match g,h with
 | .error (c,p),h =>
  obtain⟨⟨t,-,h1⟩,h2⟩:=h.2.1 c p rfl;exact⟨t,h1,h2,fun k j hh=>(by cases hh),h.2.2⟩
 | .ok (k,j),h =>
  obtain⟨h1,h2⟩:=h.1 k j rfl;exact⟨k,h1,h2,fun k' j' hh=>(by cases hh;rfl),h.2.2⟩
def IB(l:List UInt8)(f:Nat)(acc:List (List UInt8 × Nat))(p:Nat):Rs (List UInt8 × Nat)->Rs (List (List UInt8 × Nat) × Nat)
 | .error e=>.error e
 | .ok (k,j)=>if nx l (bl l j)=46 then fP l f (bl l j+1) (acc++[(k,p)]) else .ok (acc++[(k,p)],bl l j)
theorem adN(l:List UInt8)(f i:Nat)(acc:List (List UInt8 × Nat)):fP l (f+1) i acc=IB l f acc (bl l i) (bY l (bl l i)):=by
 rw[Df]
 cases bY l (bl l i) with
 | error e=>rfl
 | ok q=>rfl
theorem Ds.err{w:World}{R:Nat}{s:ByteArray}{L O:Value}{now de i:Nat}(h:Ds w R s L O now de (.ok i)):w.cell? ⟨R,5,none⟩=some (.int .i64 0)/\w.cell? ⟨R,1,none⟩=some (.int .i64 (i:Nat))/\(∀k,w.frozen? ⟨R,k,none⟩=false):=⟨h.2.cells.2.2.2.2.2.1,h.2.cells.2.1,h.2.cells.2.2.2.2.2.2.2.2⟩
theorem Ds.to{w:World}{R:Nat}{s:ByteArray}{L O:Value}{now de i:Nat}(h:Ds w R s L O now de (.ok i))(j:Nat)(hj:j<=s.size):Ds (w.setCell ⟨R,1,none⟩ (.int .i64 (j:Nat))) R s L O now de (.ok j):=⟨hj,h.2.setI j⟩
theorem adO(many:Bool)(B P R:Nat)(s:ByteArray)(now de j:Nat)(ns:List Tn)(own:List Nat)(t:Nat)(k:List UInt8)(p:Nat)(w:World)(h:Dt w B P R s now de (.ok j) ns own)(W:WF ns own)(ht:t<ns.length)(hsz:ns.length<=900000) :
  Calls prog 81 #[.pointer (some ⟨R,0,none⟩),.int .i64 (t:Nat),.string ⟨k.toArray⟩,.int .i64 (p:Nat),.bool many] w (Ih B P R s now de (.ok j) ns own (if many=true then gp ns t k p else gm ns own t k p) w):=by
 cases many with
 | true=>exact acG B P R s now de j ns own t k p w h W ht hsz
 | false=>exact acH B P R s now de j ns own t k p w h W ht hsz
theorem adP{many:Bool}{ns:List Tn}{own:List Nat}{t p:Nat}{k:List UInt8}{c:Int × Nat}(h:(if many=true then gp ns t k p else gm ns own t k p)=.error c):c=(5,p):=by
 cases many with
 | true=>exact adE h
 | false=>exact adD h
theorem adQ{many:Bool}{ns ns':List Tn}{own:List Nat}{t t' p:Nat}{k:List UInt8}(J:Jt ns own t)(h:(if many=true then gp ns t k p else gm ns own t k p)=.ok (t',ns')):t'<ns'.length:=by
 cases many with
 | true=>exact(Qz J h).1.lt
 | false=>exact(Qy J h).1.lt
theorem adR:NR:=by
 intro B P R s now i ns own w h hPB hs hx LI;have hl:s.data.toList.length=s.size:=by simp
 have HT0:Hd (Dt w B P R s now 0 (.ok i) ns own):=h;obtain⟨hb1,hb2,hb3⟩:=h.base;obtain⟨a1,a2,N,c,O,oc,xs,ks,a3,a4,a5,a6⟩:=h;obtain⟨LV,VA⟩:∃V,Value.slice (some ⟨N,0,none⟩) ns.length c=V:=⟨_,rfl⟩;obtain⟨OV,VC⟩:∃V,Value.slice (some ⟨O,0,none⟩) ns.length oc=V:=⟨_,rfl⟩;rw[VA,VC]at a6;have CM:Hd (∀(q:Rs Nat) (c:Int) w,0<=c->Ds w R s LV OV now 0 q->Calls prog 56 #[.pointer (some ⟨R,0,none⟩),.int .u8 c] w fun e w'=>e=.returned (.tuple #[])/\Ds w' R s LV OV now 0 (q.bind fun i=>must s.data.toList i c)/\w.grownBy w' (some R)):=fun q c w hc h=>J7 R s LV OV now 0 q c hc w h (by omega)
 have CI:Hd (∀(q:Rs Nat) (c:Int) w,0<=c->Ds w R s LV OV now 0 q->Calls prog 52 #[.pointer (some ⟨R,0,none⟩),.int .u8 c] w fun e w'=>e=.returned (.bool (eU s.data.toList q c))/\w.grownBy w' none):=fun q c w hc h=>rX R s LV OV now 0 q c hc w h (by omega)
 have CB:Hd (∀(q:Rs Nat) w,Ds w R s LV OV now 0 q->Calls prog 51 #[.pointer (some ⟨R,0,none⟩)] w fun e w'=>e=.returned (.tuple #[])/\Ds w' R s LV OV now 0 (q.bind fun i=>.ok (bl s.data.toList i))/\w.grownBy w' (some R)):=fun q w h=>QI R s LV OV now 0 q w h (by omega)
 have CK:Hd (∀k w,Ds w R s LV OV now 0 (.ok k)->Calls prog 79 #[.pointer (some ⟨R,0,none⟩)] w (FW k (4*s.size+4) R s LV OV now 0 (bY s.data.toList k) w)):=fun k w h=>Ru R s LV OV now 0 k w h.2 h.1 (by omega)
 have fQ:Hd (∀k,k<=s.size->k<=bl s.data.toList k/\bl s.data.toList k<=s.size):=fun k hk=>by rw[<-hl];exact jP _ k (by omega)
 have jR:Hd (∀k x j,k<=s.size->bY s.data.toList k=.ok (x,j)->k<j/\j<=s.size):=fun k x j a b=>by
  have:=ww s.data.toList k x j (by omega) b;omega
 have cZ:Hd (∀k,nx s.data.toList k=46->k<s.size):=fun k a=>by
  have:=bH (l:=s.data.toList) (i:=k) (by rw[a];decide);omega
 have hil:i<s.size:=by
  have:=bH (l:=s.data.toList) (i:=i) (by rw[hx];decide);omega
 have VD:Hd (Calls prog 56 #[.pointer (some ⟨R,0,none⟩),.int .u8 91] w fun e w'=>e=.returned (.tuple #[])/\Ds w' R s LV OV now 0 (.ok (i+1))/\w.grownBy w' (some R)):=by
  have:=CM.o (.ok i) 91 w (by decide) a6;have e:(Except.bind (.ok i) fun i=>must s.data.toList i 91:Rs Nat)=.ok (i+1):=by show must _ i 91=_;unfold must;rw[if_pos hx]
  rw[e]at this;exact this
 obtain⟨many,hm⟩:∃b,decide (nx s.data.toList (i+1)=91)=b:=⟨_,rfl⟩;have VE:Hd (∀w,Ds w R s LV OV now 0 (.ok (i+1))->Calls prog 52 #[.pointer (some ⟨R,0,none⟩),.int .u8 91] w fun e w'=>e=.returned (.bool many)/\w.grownBy w' none):=fun w h=>by
  have:=CI.o (.ok (i+1)) 91 w (by decide) h;rw[show eU s.data.toList (.ok (i+1)) 91=many from hm]at this;exact this
 have HI2:Hd (many=true->i+2<=s.size):=fun e=>by
  rw[e]at hm;have:=bH (l:=s.data.toList) (i:=i+1) (by rw[of_decide_eq_true hm];decide);omega
 obtain⟨G,hG⟩:=zN (gI s.data.toList ⟨i,ns,own,now⟩);obtain⟨S,hS⟩:=zN (fP s.data.toList (s.data.toList.length+1) (if many=true then i+2 else i+1) []);have gX:Hd (∀c,S=.error c->G=.error c):=fun c hc=>by
  show G=_;rw[<-hG];exact adK _ i ns own now many hm c (hS.trans hc)
 have nS:Hd (∀ks j,S=.ok (ks,j)->(∀c,mm s.data.toList many (.ok j)=.error c->G=.error c)/\(∀j2,mm s.data.toList many (.ok j)=.ok j2->G=wM j2 own (way many own ks 0 ns))):=fun ks j hc=>by
  rw[<-hG];exact adL _ i ns own now many hm ks j (hS.trans hc)
 have HHO:Hd (∀ks j,S=.ok (ks,j)->(∀x∈ks,x.1.length<=s.size)/\0<ks.length/\ks.length<=s.size):=fun ks j hc=>by
  have hi0:(if many=true then i+2 else i+1)<=s.data.toList.length:=by
   have:=HI2.o
   cases many with
   | true=>have:=this rfl;simp only[if_true];omega
   | false=>simp only[Bool.false_eq_true,if_false];omega
  obtain⟨b1,b2,b3,b4⟩:=G6 s.data.toList _ _ _ _ _ hi0 (fun x hx=>absurd hx (by simp)) (hS.trans hc);simp only[List.length_nil]at b2 b3;exact⟨fun x hx=>by have:=b1 x hx;omega,by omega,by omega⟩
 rw[hG];have HS:Hd (fP s.data.toList (s.data.toList.length+1) (if many=true then i+2 else i+1) []=S):=hS;have zZ:Hd (Li s.data.toList ⟨i,ns,own,now⟩):=LI;have Aa:Hd (P<B):=hPB;have zh:Hd (B<=w.heap.size/\P<w.heap.size/\R<w.heap.size):=⟨hb1,hb2,hb3⟩;have fC:Hd (Ds w R s LV OV now 0 (.ok i)):=a6;obtain⟨i0,adS,hii⟩:=Option.map_eq_some_iff.1 adH;simp only[Prod.mk.injEq]at hii;obtain⟨hz0,hz1,hzb⟩:=hii;obtain⟨j0,hj0,hjj⟩:=Option.map_eq_some_iff.1 KU;simp only[Prod.mk.injEq]at hjj;obtain⟨hy0,hy1,hyb⟩:=hjj;clear hG hS LI hPB a1 a2 a3 a4 a5 a6 VA VC hx hm hb1 hb2 hb3;go_enter func53,ntmps53
 go_upto_if 15 with(first|(go_at_call 56;refine VD.o.mono ?_;rintro e w1 ⟨rfl,hd1,hg1⟩)|(go_at_call 52;refine(VE.o _ hd1).mono ?_;rintro e w2 ⟨rfl,hg2⟩))
 have HD2:Hd (Ds w2 R s LV OV now 0 (.ok (i+1))):=hd1.grow hg2;have HG2:Hd (w.grownBy w2 (some R)):=aG hg1 hg2;clear hd1 hg1 hg2 VD VE
 go_cut [] from 11 (fun wx=>Ds wx R s LV OV now 0 (.ok (if many=true then i+2 else i+1))/\w.grownBy wx (some R))
 case first =>
  obtain⟨-,c1,cf⟩:=HD2.o.err;have cf1:=cf 1;clear cf
  cases many with
  | true =>
   have HD3:Hd (Ds (w2.setCell ⟨R,1,none⟩ (.int .i64 (((i+1:Nat):Int)+1))) R s LV OV now 0 (.ok (i+2))):=HD2.o.to (i+2) (HI2.o rfl);go_wp2;go_meet;exact⟨HD3.o,aQ HG2.o 1 _⟩
  | false =>
   go_wp2;go_meet;exact⟨HD2.o,HG2.o⟩
 case rest =>
  obtain⟨hd3,hg3⟩:=hcut;have hi0:(if many=true then i+2 else i+1)<=s.size:=hd3.1;obtain⟨i2,hi2⟩:=zN ((if many=true then i+2 else i+1));rw[hi2]at HS hd3 hi0;have HD3:Hd (Ds wc R s LV OV now 0 (.ok i2)):=hd3;have aK:Hd (w.grownBy wc (some R)):=hg3;clear hd3 hg3 hi2 HD2 HG2;go_wp2;go_loopw [3,4,5] (fun v3 v4 v5 wr=>∃(q:Rs Nat) (acc:List (List UInt8 × Nat)),Ds wr R s LV OV now 0 q/\w.grownBy wr (some R)/\wr.ownsRow w.heap.size 9 1 v3 acc.length (lw acc)/\wr.ownsRow w.heap.size 3 1 v4 acc.length (kS acc)/\acc.length<=100001/\((v5=.bool true/\∃(kx f:Nat),q=.ok kx/\s.size-kx<f/\fP s.data.toList f kx acc=S/\acc.length<=kx)\/(v5=.bool false/\((∃kx,q=.ok kx/\S=.ok (acc,kx))\/∃c,q=.error c/\S=.error c)))) (fun _ _ v5 wr=>match v5 with | .bool true=>s.size+2-(match wr.cell? ⟨R,1,none⟩ with|some (.int _ k)=>k.toNat|_=>0)|_=>0)
  case atStart=>exact⟨.ok i2,[],HD3.o,aK.o,World.ownsRow_nil _ _ _ _,World.ownsRow_nil _ _ _ _,by simp,Or.inl ⟨rfl,i2,s.data.toList.length+1,rfl,by omega,HS.o,by simp⟩⟩
  case round =>
   obtain⟨q,acc,hds,hg,hk,hp,hal,hor⟩:=hrel
   rcases hor with⟨rfl,kx,f,rfl,hf,hhd,hak⟩|⟨rfl,hor⟩
   ·-- a key more
    obtain⟨f,rfl⟩:∃f',f=f'+1:=⟨f-1,by omega⟩;rw[adN]at hhd;obtain⟨c5,c1,cf⟩:=hds.err;have hkx:kx<=s.size:=hds.1;have gK:Hd ((match wr.cell? ⟨R,1,none⟩ with|some (.int _ k)=>k.toNat|_=>0)=kx):=by show _=_;rw[c1];simp
    have HG:Hd (w.grownBy wr (some R)):=hg;have HK:Hd (wr.ownsRow w.heap.size 9 1 u3 acc.length (lw acc)):=hk;have HP:Hd (wr.ownsRow w.heap.size 3 1 u4 acc.length (kS acc)):=hp;have HDk:Hd (Ds wr R s LV OV now 0 (.ok kx)):=hds;have C1:=CB.o (.ok kx) wr hds;obtain⟨b1,b2⟩:=fQ.o kx hkx;obtain⟨jb,hjb⟩:=zN (bl s.data.toList kx);have e1:(Except.bind (.ok kx) fun i=>.ok (bl s.data.toList i):Rs Nat)=.ok jb:=by show Except.ok _=_;rw[hjb]
    rw[e1]at C1;rw[hjb]at hhd b1 b2;have yj:Hd (Calls prog 51 #[.pointer (some ⟨R,0,none⟩)] wr fun e w'=>e=.returned (.tuple #[])/\Ds w' R s LV OV now 0 (.ok jb)/\wr.grownBy w' (some R)):=C1;have C2:=CK.o jb;have K2:=jR.o jb;obtain⟨KR,kQ⟩:=zN (bY s.data.toList jb);rw[kQ]at C2 hhd K2;have C2':Hd (∀w,Ds w R s LV OV now 0 (.ok jb)->Calls prog 79 #[.pointer (some ⟨R,0,none⟩)] w (FW jb (4*s.size+4) R s LV OV now 0 KR w)):=C2;have uA:Hd (IB s.data.toList f acc jb KR=S):=hhd;have eY:Hd (∀x j,KR=.ok (x,j)->jb<j/\j<=s.size):=fun x j hh=>K2 x j b2 hh
    clear hds hg hk hp hhd C1 C2 K2 hjb kQ e1 c1 cf;go_wp2_with (first|(go_at_call 51;refine yj.o.mono ?_));rintro e w2 ⟨rfl,hd2,hg2⟩;have HD2:Hd (Ds w2 R s LV OV now 0 (.ok jb)):=hd2;have HG2:Hd (w.grownBy w2 (some R)):=dH HG.o hg2;obtain⟨x1,x2,x3,hdd⟩:=HDk.o.dd;have adT:Hd (w2.ownsRow w.heap.size 9 1 u3 acc.length (lw acc)):=bP HK.o fun g' cur' hh hc=>hg2.block g' (aB hc) (by simp only[ne_eq,Option.some.injEq];exact aP hc hdd (by decide))
    have adU:Hd (w2.ownsRow w.heap.size 3 1 u4 acc.length (kS acc)):=bP HP.o fun g' cur' hh hc=>hg2.block g' (aB hc) (by simp only[ne_eq,Option.some.injEq];exact aP hc hdd (by decide))
    clear hd2 hg2 hdd c5;go_wp2_with (first|(go_at_call 79;refine(C2'.o _ HD2.o).mono ?_));intro e w3 hdk;obtain⟨t,rfl,hd3,hkt,hg3⟩:=adM hdk;have aK:Hd (w.grownBy w3 (some R)):=dH HG2.o hg3;obtain⟨x1,x2,x3,hdd⟩:=HD2.o.dd;have hk3:w3.ownsRow w.heap.size 9 1 u3 acc.length (lw acc):=bP adT.o fun g' cur' hh hc=>hg3.block g' (aB hc) (by simp only[ne_eq,Option.some.injEq];exact aP hc hdd (by decide))
    have hp3:w3.ownsRow w.heap.size 3 1 u4 acc.length (kS acc):=bP adU.o fun g' cur' hh hc=>hg3.block g' (aB hc) (by simp only[ne_eq,Option.some.injEq];exact aP hc hdd (by decide))
    have sQ:Hd (w3.ownsRow w.heap.size 3 1 u4 acc.length (kS acc)):=hp3;have xk:Hd (Ds w3 R s LV OV now 0 (q3 KR)):=hd3;have IC:Hd (∀k j,KR=.ok (k,j)->t=k):=hkt;have hz3:w.heap.size<=w3.heap.size:=aK.o.size;clear hdk hd3 hkt hg3 hdd hp3;go_wp2_with (first|(at_builtin;refine wpList_append_lies _ rfl _ _ 31 rfl w.heap.size 9 i0 _ 1 16 underlying31 adS hz0 hz1 hzb rfl (by decide) _ _ _ rfl (hk3.alloc _) _ 1 1 [.string ⟨t.toArray⟩] rfl rfl (World.news_of_block (heap_alloc_new _ _)) (adI _) (by decide) (by unfold maxLen;omega) (by omega) (by simp;omega) _ rfl ?_));intro g4 cap4 w4 hown4 hgrow4 hat4 hlt4;have HD4:Hd (Ds w4 R s LV OV now 0 (q3 KR)):=(xk.o.grow (World.grownBy_alloc w3 (.cells #[.string ⟨t.toArray⟩] 9) none)).app (hk3.alloc _) hgrow4 (by decide);have dS:Hd (w.grownBy w4 (some R)):=MH (aG aK.o (World.grownBy_alloc w3 (.cells #[.string ⟨t.toArray⟩] 9) none)) hgrow4 (fun b hb=>(bz hk3 hb).1)
    have Ea:w4.ownsRow w.heap.size 3 1 u4 acc.length (kS acc):=bP (sQ.o.alloc (.cells #[.string ⟨t.toArray⟩] 9)) fun g' cur' hh hc=>hgrow4.block g' (aB hc) (fun e=>by
     obtain⟨-,cc,hcc⟩:=bz (hk3.alloc (.cells #[.string ⟨t.toArray⟩] 9)) e.symm;exact aP hc hcc (by decide) rfl)
    have mO:Hd (w4.ownsRow w.heap.size 9 1 (.slice (some ⟨g4,0,none⟩) (acc.length+1) cap4) (acc.length+1) (lw acc++[.string ⟨t.toArray⟩])):=hown4;have xB:w.heap.size<=w4.heap.size:=dS.o.size;clear hown4 hgrow4 hat4 hlt4 hk3;go_wp2_with (first|(at_builtin;refine wpList_append_lies _ rfl _ _ 43 rfl w.heap.size 3 j0 _ 1 8 underlying43 hj0 hy0 hy1 hyb rfl (by decide) _ _ _ rfl (Ea.alloc _) _ 1 1 [.int .i64 (jb:Nat)] rfl rfl (World.news_of_block (heap_alloc_new _ _)) (adJ _) (by decide) (by unfold maxLen;omega) (by omega) (by simp;omega) _ rfl ?_));intro g5 cap5 w5 hown5 hgrow5 hat5 hlt5;have HD5:Hd (Ds w5 R s LV OV now 0 (q3 KR)):=(HD4.o.grow (World.grownBy_alloc w4 (.cells #[.int .i64 (jb:Nat)] 3) none)).app (Ea.alloc _) hgrow5 (by decide);have iy:Hd (w.grownBy w5 (some R)):=MH (aG dS.o (World.grownBy_alloc w4 (.cells #[.int .i64 (jb:Nat)] 3) none)) hgrow5 (fun b hb=>(bz Ea hb).1)
    have uf:Hd (w5.ownsRow w.heap.size 9 1 (.slice (some ⟨g4,0,none⟩) (acc.length+1) cap4) (acc.length+1) (lw acc++[.string ⟨t.toArray⟩])):=bP (mO.o.alloc (.cells #[.int .i64 (jb:Nat)] 3)) fun g' cur' hh hc=>hgrow5.block g' (aB hc) (fun e=>by
     obtain⟨-,cc,hcc⟩:=bz (Ea.alloc (.cells #[.int .i64 (jb:Nat)] 3)) e.symm;exact aP hc hcc (by decide) rfl)
    have HP5:Hd (w5.ownsRow w.heap.size 3 1 (.slice (some ⟨g5,0,none⟩) (acc.length+1) cap5) (acc.length+1) (kS acc++[.int .i64 (jb:Nat)])):=hown5;clear hown5 hgrow5 hat5 hlt5 Ea;obtain⟨q4,hq4⟩:=zN (((q3 KR).bind fun i=>.ok (bl s.data.toList i):Rs Nat));have C6:=CB.o (q3 KR) w5 HD5.o;rw[hq4]at C6;have MG:Hd (Calls prog 51 #[.pointer (some ⟨R,0,none⟩)] w5 fun e w'=>e=.returned (.tuple #[])/\Ds w' R s LV OV now 0 q4/\w5.grownBy w' (some R)):=C6;have C7:=CI.o q4 46;obtain⟨b,hb⟩:=zN (eU s.data.toList q4 46);rw[hb]at C7;have MJ:Hd (∀w,Ds w R s LV OV now 0 q4->Calls prog 52 #[.pointer (some ⟨R,0,none⟩),.int .u8 46] w fun e w'=>e=.returned (.bool b)/\w.grownBy w' none):=fun w h=>C7 w (by decide) h
    have uQ:Hd (((q3 KR).bind fun i=>.ok (bl s.data.toList i):Rs Nat)=q4):=hq4;have HB4:Hd (eU s.data.toList q4 46=b):=hb;clear C6 C7 hq4 hb;go_wp2_with (first|(go_at_call 51;refine MG.o.mono ?_));rintro e w6 ⟨rfl,hd6,dK⟩;have HD6:Hd (Ds w6 R s LV OV now 0 q4):=hd6;have kX:Hd (w.grownBy w6 (some R)):=dH iy.o dK;obtain⟨x1,x2,x3,hdd⟩:=HD5.o.dd;have HK6:Hd (w6.ownsRow w.heap.size 9 1 (.slice (some ⟨g4,0,none⟩) (acc.length+1) cap4) (acc.length+1) (lw acc++[.string ⟨t.toArray⟩])):=bP uf.o fun g' cur' hh hc=>dK.block g' (aB hc) (by simp only[ne_eq,Option.some.injEq];exact aP hc hdd (by decide))
    have zK:Hd (w6.ownsRow w.heap.size 3 1 (.slice (some ⟨g5,0,none⟩) (acc.length+1) cap5) (acc.length+1) (kS acc++[.int .i64 (jb:Nat)])):=bP HP5.o fun g' cur' hh hc=>dK.block g' (aB hc) (by simp only[ne_eq,Option.some.injEq];exact aP hc hdd (by decide))
    clear hd6 dK hdd;go_wp2_with (go_at_call 52;refine(MJ.o _ HD6.o).mono ?_);rintro e w7 ⟨rfl,lK⟩;have HD7:Hd (Ds w7 R s LV OV now 0 q4):=HD6.o.grow lK;have oJ:Hd (w.grownBy w7 (some R)):=aG kX.o lK;have nH:Hd ((acc++[(t,jb)]).length=acc.length+1):=by show _=_;simp
    have VF:Hd (w7.ownsRow w.heap.size 9 1 (.slice (some ⟨g4,0,none⟩) (acc.length+1) cap4) (acc++[(t,jb)]).length (lw (acc++[(t,jb)]))):=by
     show World.ownsRow _ _ _ _ _ _ _;rw[nH.o,adF];exact bP HK6.o fun g' cur' hh hc=>lK.block g' (aB hc) (by simp)
    have sS:Hd (w7.ownsRow w.heap.size 3 1 (.slice (some ⟨g5,0,none⟩) (acc.length+1) cap5) (acc++[(t,jb)]).length (kS (acc++[(t,jb)]))):=by
     show World.ownsRow _ _ _ _ _ _ _;rw[nH.o,adG];exact bP zK.o fun g' cur' hh hc=>lK.block g' (aB hc) (by simp)
    clear lK
    cases b with
    | true =>
     obtain⟨kk,j,kQ⟩:∃kk j,KR=.ok (kk,j):=by
      match KR,uQ with
      | .error e,uQ =>
       have h1:(Except.error e:Rs Nat)=q4:=uQ.o;have h2:=HB4.o;rw[<-h1]at h2
       cases h2
      | .ok (kk,j),_=>exact⟨kk,j,rfl⟩
     have ht:=IC.o kk j kQ;obtain⟨k1,k2⟩:=eY.o kk j kQ;have hh:=uA.o;have hq:=uQ.o;have hb:=HB4.o;rw[kQ]at hh hq;have hq':(Except.ok (bl s.data.toList j):Rs Nat)=q4:=hq;rw[<-hq']at hb;have hb':nx s.data.toList (bl s.data.toList j)=46:=of_decide_eq_true hb;have hh':fP s.data.toList f (bl s.data.toList j+1) (acc++[(kk,jb)])=S:=by
      have e:IB s.data.toList f acc jb (.ok (kk,j))=fP s.data.toList f (bl s.data.toList j+1) (acc++[(kk,jb)]):=if_pos hb';rw[<-e];exact hh
     obtain⟨d1,d2⟩:=fQ.o j k2;have d3:=cZ.o _ hb';obtain⟨j7,Di⟩:=zN (bl s.data.toList j);rw[Di]at hq' hh' d1 d2 d3;rw[<-ht]at hh';have HHK:Hd (fP s.data.toList f (j7+1) (acc++[(t,jb)])=S):=hh';have Eb:=HD7.o;rw[<-hq']at Eb;obtain⟨-,c1,cf⟩:=Eb.err;have cf1:=cf 1;have Ec:Hd (Ds (w7.setCell ⟨R,1,none⟩ (.int .i64 ((j7:Int)+1))) R s LV OV now 0 (.ok (j7+1))):=Eb.to (j7+1) (by omega);obtain⟨x1,x2,x3,hdd⟩:=Eb.dd;have HK9:Hd ((w7.setCell ⟨R,1,none⟩ (.int .i64 ((j7:Int)+1))).ownsRow w.heap.size 9 1 (.slice (some ⟨g4,0,none⟩) (acc.length+1) cap4) (acc++[(t,jb)]).length (lw (acc++[(t,jb)]))):=bP VF.o fun g' cur' hh hc=>heap_setCell_other _ _ _ _ (aP hc hdd (by decide))
     have HP9:Hd ((w7.setCell ⟨R,1,none⟩ (.int .i64 ((j7:Int)+1))).ownsRow w.heap.size 3 1 (.slice (some ⟨g5,0,none⟩) (acc.length+1) cap5) (acc++[(t,jb)]).length (kS (acc++[(t,jb)]))):=bP sS.o fun g' cur' hh hc=>heap_setCell_other _ _ _ _ (aP hc hdd (by decide))
     clear kQ ht hh hq hb hq' hb' hh' Di Eb cf hdd;go_wp2;go_roundw
     case rel=>exact⟨.ok (j7+1),acc++[(t,jb)],Ec.o,aQ oJ.o 1 _,HK9.o,HP9.o,by rw[nH.o];omega,Or.inl ⟨rfl,j7+1,f,rfl,by omega,HHK.o,by rw[nH.o];omega⟩⟩
     case measure =>
      rw[gK.o,Ec.o.err.2.1];simp;omega
    | false =>
     have uK:Hd ((∃kx,q4=.ok kx/\S=.ok (acc++[(t,jb)],kx))\/∃c,q4=.error c/\S=.error c):=by
      match KR,uQ,uA,IC with
      | .error e,uQ,uA,_=>exact Or.inr ⟨e,uQ.o.symm,uA.o.symm⟩
      | .ok (kk,j),uQ,uA,IC =>
       have ht:=IC.o kk j rfl;have hq:(Except.ok (bl s.data.toList j):Rs Nat)=q4:=uQ.o;have hb:=HB4.o;rw[<-hq]at hb;have hb':¬nx s.data.toList (bl s.data.toList j)=46:=of_decide_eq_false hb;refine Or.inl ⟨_,hq.symm,?_⟩;have e:IB s.data.toList f acc jb (.ok (kk,j))=.ok (acc++[(kk,jb)],bl s.data.toList j):=if_neg hb';rw[ht,<-e];exact uA.o.symm
     go_wp2;go_roundw
     case rel=>exact⟨q4,acc++[(t,jb)],HD7.o,oJ.o,VF.o,sS.o,by rw[nH.o];omega,Or.inr ⟨rfl,uK.o⟩⟩
     case measure =>
      rw[gK.o];simp;omega
   ·-- no more keys
    obtain⟨o3,k3,rfl⟩:=lL hk;obtain⟨o4,k4,rfl⟩:=lL hp;have HDq:Hd (Ds wr R s LV OV now 0 q):=hds;have HG:Hd (w.grownBy wr (some R)):=hg;have HK:Hd (wr.ownsRow w.heap.size 9 1 (.slice o3 acc.length k3) acc.length (lw acc)):=hk;have HP:Hd (wr.ownsRow w.heap.size 3 1 (.slice o4 acc.length k4) acc.length (kS acc)):=hp;have uK:Hd ((∃kx,q=.ok kx/\S=.ok (acc,kx))\/∃c,q=.error c/\S=.error c):=hor;have VG:Hd (Calls prog 56 #[.pointer (some ⟨R,0,none⟩),.int .u8 93] wr fun e w'=>e=.returned (.tuple #[])/\Ds w' R s LV OV now 0 (q.bind fun i=>must s.data.toList i 93)/\wr.grownBy w' (some R)):=CM.o q 93 wr (by decide) hds;have Og:Hd (∀w,Ds w R s LV OV now 0 (q.bind fun i=>must s.data.toList i 93)->Calls prog 56 #[.pointer (some ⟨R,0,none⟩),.int .u8 93] w fun e w'=>e=.returned (.tuple #[])/\Ds w' R s LV OV now 0 ((q.bind fun i=>must s.data.toList i 93).bind fun i=>must s.data.toList i 93)/\w.grownBy w' (some R)):=fun w h=>CM.o _ 93 w (by decide) h
    have nC:Hd (mm s.data.toList many q=if many=true then(q.bind fun i=>must s.data.toList i 93).bind (fun i=>must s.data.toList i 93) else q.bind fun i=>must s.data.toList i 93):=rfl;obtain⟨qA,VH⟩:=zN ((q.bind fun i=>must s.data.toList i 93:Rs Nat));rw[VH]at VG Og nC;obtain⟨qB,VI⟩:=zN ((qA.bind fun i=>must s.data.toList i 93:Rs Nat));rw[VI]at Og nC;obtain⟨q5,hq5⟩:=zN (mm s.data.toList many q);have yE:Hd (mm s.data.toList many q=q5):=hq5;rw[hq5]at nC;obtain⟨n,hn⟩:=zN (acc.length);have HN:Hd (acc.length=n):=hn;rw[hn]at HK HP hal ⊢;clear hds hg hk hp hor VH VI hq5 hn
    go_upto_if 60 with(first|(go_at_call 56;refine VG.o.mono ?_;rintro e w2 ⟨rfl,hd2,hg2⟩))
    have HD2:Hd (Ds w2 R s LV OV now 0 qA):=hd2;have HG2:Hd (w.grownBy w2 (some R)):=dH HG.o hg2;obtain⟨x1,x2,x3,hdd⟩:=HDq.o.dd;have eY:Hd (w2.ownsRow w.heap.size 9 1 (.slice o3 n k3) n (lw acc)):=bP HK.o fun g' cur' hh hc=>hg2.block g' (aB hc) (by simp only[ne_eq,Option.some.injEq];exact aP hc hdd (by decide))
    have HP2:Hd (w2.ownsRow w.heap.size 3 1 (.slice o4 n k4) n (kS acc)):=bP HP.o fun g' cur' hh hc=>hg2.block g' (aB hc) (by simp only[ne_eq,Option.some.injEq];exact aP hc hdd (by decide))
    clear hd2 hg2 hdd
    go_cut [] from 58 (fun wx=>Ds wx R s LV OV now 0 q5/\w.grownBy wx (some R)/\wx.ownsRow w.heap.size 9 1 (.slice o3 n k3) n (lw acc)/\wx.ownsRow w.heap.size 3 1 (.slice o4 n k4) n (kS acc))
    case first =>
     cases many with
     | true =>
      have HE:Hd (q5=qB):=nC.o;go_wp2_with (go_at_call 56;refine(Og.o _ HD2.o).mono ?_;rintro e w3 ⟨rfl,hd3,hg3⟩);go_meet;rw[HE.o];obtain⟨x1,x2,x3,hdd⟩:=HD2.o.dd;exact⟨hd3,dH HG2.o hg3,bP eY.o fun g' cur' hh hc=>hg3.block g' (aB hc) (by simp only[ne_eq,Option.some.injEq];exact aP hc hdd (by decide)),bP HP2.o fun g' cur' hh hc=>hg3.block g' (aB hc) (by simp only[ne_eq,Option.some.injEq];exact aP hc hdd (by decide))⟩
     | false =>
      have HE:Hd (q5=qA):=nC.o;go_wp2;go_meet;rw[HE.o];exact⟨HD2.o,HG2.o,eY.o,HP2.o⟩
    case rest =>
     obtain⟨hd5,hg5,hk5,Ed⟩:=hcut;obtain⟨hB1,hB2,hB3⟩:=zh.o;have uO:Hd (DFr B P w wc):=by
      have hT:=HT0.o;obtain⟨z1,z2,-⟩:=hT;exact ry fC.o z1 z2 hB2 hg5
     match q5,hd5,yE with
     | .error c,hd5,yE =>
      have bJ:Hd (G=.error c):=by
       rcases uK.o with⟨kx,e1,e2⟩|⟨c',e1,e2⟩
       ·have:=yE.o;rw[e1]at this;exact(nS.o _ _ e2).1 c this
       ·have:=yE.o;rw[e1,Vz]at this
        cases this
        exact gX.o _ e2
      have xm:Hd (Fq wc B P R s now 0 c):=by
       have hT:=HT0.o;obtain⟨z1,z2,-⟩:=hT;exact⟨LV,OV,hd5,z1,z2,Nat.lt_of_lt_of_le hB2 hg5.size⟩
      obtain⟨-,c5,z5⟩:=xm.o.now;obtain⟨e1,he1⟩:∃x,c.1=x:=⟨_,rfl⟩;rw[he1]at c5 z5;clear hd5 hg5 hk5 Ed he1 hB1 hB2 hB3;go_wp2;go_loopw [9] (fun v9 wr=>v9=.int .i64 0/\wr=wc) (fun _ _=>0)
      case atStart=>exact⟨rfl,rfl⟩
      case round =>
       obtain⟨rfl,rfl⟩:=hrel
       by_cases hn0:0<n
       ·have hlt1:decide ((0:Int)<(n:Int))=true:=by simp;omega
        have hlt2:(0:Int)<(n:Int):=by omega
        go_wp2;refine bodyPost_end (results_none rfl _ _ _) rfl ?_;rw[bJ.o];exact⟨rfl,fun d hh=>(by cases hh),fun c' hh=>(by injection hh with hh;subst hh;exact⟨now,xm.o⟩),uO.o⟩
       ·have hlt1:decide ((0:Int)<(n:Int))=false:=by simp;omega
        have hlt2:¬(0:Int)<(n:Int):=by omega
        go_wp2;refine bodyPost_end (results_none rfl _ _ _) rfl ?_;rw[bJ.o];exact⟨rfl,fun d hh=>(by cases hh),fun c' hh=>(by injection hh with hh;subst hh;exact⟨now,xm.o⟩),uO.o⟩
     | .ok j2,hd5,yE =>
      obtain⟨kx,hqk,Oh⟩:∃kx,q=.ok kx/\S=.ok (acc,kx):=by
       rcases uK.o with h|⟨c',e1,e2⟩
       ·exact h
       ·have:=yE.o;rw[e1,Vz]at this
        cases this
      have hmm:=yE.o;rw[hqk]at hmm;have hG2:=(nS.o _ _ Oh).2 j2 hmm;obtain⟨hkl,zS,hns⟩:=HHO.o _ _ Oh;obtain⟨Sw,hSw⟩:=zN (way many own acc 0 ns);rw[hSw]at hG2;have iD:Hd (G=wM j2 own Sw):=hG2;have HSW:Hd (way many own acc 0 ns=Sw):=hSw;have hnn:=HN.o;rw[hnn]at zS hns;obtain⟨g3,c3,h3v,-,-⟩:=hk5.form zS;obtain⟨g4,c4,h4v,-,-⟩:=Ed.form zS;injection h3v with h3o _ h3c
      injection h4v with h4o _ h4c
      subst h3o h3c h4o h4c;obtain⟨VJ,cu4,VK⟩:=bz Ed (g:=g4) rfl;have HDt:Hd (Dt wc B g4 R s now 0 (.ok j2) ns own):=HT0.o.places hg5 (fun L O hd=>by obtain⟨rfl,rfl⟩:=Ds.uni hd fC.o;exact hd5) VJ (aB VK);have zx:Hd (wc.ownsRow w.heap.size 9 1 (.slice (some ⟨g3,0,none⟩) n k3) n (lw acc)):=hk5;have Oi:Hd (wc.ownsRow w.heap.size 3 1 (.slice (some ⟨g4,0,none⟩) n k4) n (kS acc)):=Ed;obtain⟨d,hd⟩:∃d,n=d+1:=⟨n-1,by omega⟩;subst hd;have HJ:Hd (Jt ns own 0):=⟨zZ.o.jt.wf,zZ.o.jt.wt,nM zZ.o.rt (by omega),zZ.o.rt⟩;have HNN:Hd (ns.length<=300000):=by have h1:=zZ.o.nn;have h2:=zZ.o.le;simp only[]at h1 h2;show _<=_;omega
      have HW1:Hd (∀i (hi:i<acc.length) t m,i+1<acc.length->way many own (acc.drop i) t m=match fO m t acc[i].1 acc[i].2 with | .error e=>.error e | .ok (t1,ns1)=>way many own (acc.drop (i+1)) t1 ns1):=fun i hi t m h2=>by
       rw[List.drop_eq_getElem_cons hi,List.drop_eq_getElem_cons h2];exact A8 many own acc[i].1 acc[i].2 acc[i+1] _ t m
      have HW0:Hd (∀i (hi:i<acc.length) t m,i+1=acc.length->way many own (acc.drop i) t m=if many=true then gp m t acc[i].1 acc[i].2 else gm m own t acc[i].1 acc[i].2):=fun i hi t m h2=>by
       rw[List.drop_eq_getElem_cons hi,List.drop_eq_nil_of_le (by omega)];exact A7 many own acc[i].1 acc[i].2 t m
      clear hd5 hg5 hk5 Ed hqk Oh hmm hG2 hkl hSw VJ VK hB1 hB2 hB3 hnn;go_wp2;go_loopw [8,9] (fun v8 v9 wr=>∃(x t:Nat) (m:List Tn),v9=.int .i64 (x:Nat)/\v8=.int .i64 (t:Nat)/\x<=d+1/\(x<=d->Jt m own t/\m.length<=ns.length+x)/\t<m.length/\Dt wr B g4 R s now 0 (.ok j2) m own/\way many own (acc.drop x) t m=Sw/\DFr B g4 wc wr) (fun _ v9 _=>d+1-(intOf v9).toNat)
      case atStart=>exact⟨0,0,ns,rfl,rfl,Nat.zero_le _,fun _=>⟨HJ.o,Nat.le_refl _⟩,HJ.o.lt,HDt.o,HSW.o,DFr.refl _⟩
      case round =>
       obtain⟨x,t,m,rfl,rfl,hx,hxj,Ac,hdt,gQ,hfr⟩:=hrel;obtain⟨-,-,c5,-⟩:=hdt.cells;have HDm:Hd (Dt wr B g4 R s now 0 (.ok j2) m own):=hdt;have sK:Hd (DFr B g4 wc wr):=hfr
       by_cases hxd:x<=d
       ·obtain⟨hj,hml⟩:=hxj hxd;have hil:x<acc.length:=by have:=HN.o;omega
        have a1:=(bP zx.o fun g' cur' hh hc=>hfr.oth _ _ _ _ hc (by decide) (by decide) (by decide) (by decide)).cells (g:=g3) rfl x _ (Oc acc x hil);have a2:=(bP Oi.o fun g' cur' hh hc=>by cases hh;exact hfr.pro).cells (g:=g4) rfl x _ (Oe acc x hil);rw[ni]at a1 a2;have hx1:x<d+1:=by omega
        have hg1:decide ((x:Int)<((d+1:Nat):Int))=true:=by simp;omega
        have hg2:(x:Int)<((d+1:Nat):Int):=by omega
        have hN:=HNN.o;obtain⟨hdd,hdf⟩:=hdt.drew 1
        by_cases hlt:x<d
        ·rw[HW1.o x hil t m (by have:=HN.o;omega)]at gQ;have CS:=acF B g4 R s now 0 j2 m own t acc[x].1 acc[x].2 wr.drew hdd hj.wf hj.wt hj.lt (by omega);have HST:Hd (∀t1 m1,fO m t acc[x].1 acc[x].2=.ok (t1,m1)->Jt m1 own t1/\m.length<=m1.length/\m1.length<=m.length+1):=fun t1 m1 hs=>AZ hj hs
         have jo:Hd (∀c,fO m t acc[x].1 acc[x].2=.error c->c=(5,acc[x].2)):=fun c hc=>adC hc
         obtain⟨y,hy⟩:=zN (acc[x]);rw[hy]at a1 a2 CS gQ HST jo;obtain⟨R0,hR⟩:=zN (fO m t y.1 y.2);rw[hR]at CS gQ HST jo;obtain⟨y1,y2⟩:=y;simp only[]at a1 a2 CS gQ HST jo;have yF:Hd (∀w'',DFr B g4 wr w''->w''.cell? ⟨g3,x,none⟩=some (.string ⟨y1.toArray⟩)/\w''.cell? ⟨g4,x,none⟩=some (.int .i64 (y2:Nat))):=fun w'' hf=>by
          have hf2:=hfr.two hf;have b1:=(bP zx.o fun g' cur' hh hc=>hf2.oth _ _ _ _ hc (by decide) (by decide) (by decide) (by decide)).cells (g:=g3) rfl x _ (Oc acc x hil);have b2:=(bP Oi.o fun g' cur' hh hc=>by cases hh;exact hf2.pro).cells (g:=g4) rfl x _ (Oe acc x hil);rw[ni]at b1 b2;rw[hy]at b1 b2;exact⟨b1,b2⟩
         match R0,CS,gQ,HST,jo with
         | .error c,CS,gQ,_,jo =>
          obtain rfl:=jo.o c rfl;have az:Hd (Sw=.error (5,y2)):=gQ.symm;have jQ:Hd (Calls prog 80 #[.pointer (some ⟨R,0,none⟩),.int .i64 (t:Nat),.string ⟨y1.toArray⟩,.int .i64 (y2:Nat)] wr.drew fun e w''=>e=.returned (.int .i64 (-1))/\Hd ((∃ns',Dt w'' B g4 R s now 0 (.ok j2) ns' own)/\DFr B g4 wr w'')/\(w''.cell? ⟨g3,x,none⟩=some (.string ⟨y1.toArray⟩)/\w''.cell? ⟨g4,x,none⟩=some (.int .i64 (y2:Nat)))):=by
           refine CS.mono ?_;rintro e w'' ⟨-,p2,p3⟩;obtain⟨q1,q2⟩:=p2 _ rfl;have hf:=hdf.two p3;exact⟨q1,⟨q2,hf⟩,yF.o w'' hf⟩
          have hlt2:(x:Int)<(d:Int):=by omega
          clear hdt hfr hj gQ hy hR CS jo hxj Ac hdd hdf hN hml HST;go_wp2
          go_region_held3 (fun u=>u.cell? ⟨g3,x,none⟩=some (.string ⟨y1.toArray⟩)/\u.cell? ⟨g4,x,none⟩=some (.int .i64 (y2:Nat))) ((first|assumption|go_keep)) (first|(go_at_call 80;refine jQ.o.mono ?_;rintro e w7 ⟨rfl,hall,hcl⟩))
          obtain⟨⟨ns',hd7⟩,jT⟩:=hall.o;have HD7:Hd (Dt w7 B g4 R s now 0 (.ok j2) ns' own):=hd7;have qg:Hd (DFr B g4 wr w7):=jT;obtain⟨k1,k2⟩:=hcl;clear hd7 jT hall a1 a2 c5;go_wp2_with (go_at_call 82;refine(yA B g4 R s now 0 ns' own j2 _ HD7.o 5 (by decide) y2).mono ?_;rintro e w8 ⟨rfl,hd8,uN⟩);refine bodyPost_ret (results_none rfl _ _ _) rfl ?_;rw[iD.o,az.o];exact⟨rfl,fun d hh=>(by cases hh),fun c' hh=>(by have hh:(Except.error (5,y2):Rs Sd)=.error c':=hh;injection hh with hh;subst hh;exact⟨now,hd8.fq.toP Aa.o⟩),uO.o.two (((sK.o.two qg.o).two uN).toP Aa.o)⟩
         | .ok (t1,m1),CS,gQ,HST,_ =>
          have az:Hd (way many own (acc.drop (x+1)) t1 m1=Sw):=gQ;obtain⟨j1,-,j3⟩:=HST.o t1 m1 rfl;have qF:Hd (Jt m1 own t1):=j1;clear j1;have jQ:Hd (Calls prog 80 #[.pointer (some ⟨R,0,none⟩),.int .i64 (t:Nat),.string ⟨y1.toArray⟩,.int .i64 (y2:Nat)] wr.drew fun e w''=>e=.returned (.int .i64 (t1:Nat))/\Hd (Dt w'' B g4 R s now 0 (.ok j2) m1 own/\DFr B g4 wr w'')/\(w''.cell? ⟨g3,x,none⟩=some (.string ⟨y1.toArray⟩)/\w''.cell? ⟨g4,x,none⟩=some (.int .i64 (y2:Nat)))):=by
           refine CS.mono ?_;rintro e w'' ⟨p1,-,p3⟩;obtain⟨q1,q2⟩:=p1 _ _ rfl;have hf:=hdf.two p3;exact⟨q1,⟨q2,hf⟩,yF.o w'' hf⟩
          have hlt2: (x:Int)<(d:Int):=by omega
          have hnt:¬(t1:Int)<0:=by omega
          clear hdt hfr hj gQ hy hR CS hxj Ac hdd hdf HST;go_wp2
          go_region_held3 (fun u=>u.cell? ⟨g3,x,none⟩=some (.string ⟨y1.toArray⟩)/\u.cell? ⟨g4,x,none⟩=some (.int .i64 (y2:Nat))) ((first|assumption|go_keep)) (first|(go_at_call 80;refine jQ.o.mono ?_;rintro e w7 ⟨rfl,hall,hcl⟩))
          obtain⟨hd7,jT⟩:=hall.o;have HD7:Hd (Dt w7 B g4 R s now 0 (.ok j2) m1 own):=hd7;have qg:Hd (DFr B g4 wr w7):=jT;clear hd7 jT hall a1 a2 c5 hcl;go_wp2;go_roundw
          case rel=>exact⟨x+1,t1,m1,by go_num,rfl,by omega,fun _=>⟨qF.o,by omega⟩,qF.o.lt,HD7.o,az.o,sK.o.two qg.o⟩
          case measure=>simp[intOf];omega
        ·have hxe:x=d:=by omega
         rw[HW0.o x hil t m (by have:=HN.o;omega)]at gQ;have CS:=adO many B g4 R s now 0 j2 m own t acc[x].1 acc[x].2 wr.drew hdd hj.wf hj.lt (by omega);have HST:Hd (∀t1 m1,(if many=true then gp m t acc[x].1 acc[x].2 else gm m own t acc[x].1 acc[x].2)=.ok (t1,m1)->t1<m1.length):=fun t1 m1 hs=>adQ hj hs
         have jo:Hd (∀c,(if many=true then gp m t acc[x].1 acc[x].2 else gm m own t acc[x].1 acc[x].2)=.error c->c=(5,acc[x].2)):=fun c hc=>adP hc
         obtain⟨y,hy⟩:=zN (acc[x]);rw[hy]at a1 a2 CS gQ HST jo;obtain⟨R0,hR⟩:=zN ((if many=true then gp m t y.1 y.2 else gm m own t y.1 y.2));rw[hR]at CS gQ HST jo;obtain⟨y1,y2⟩:=y;simp only[]at a1 a2 CS gQ HST jo;have yF:Hd (∀w'',DFr B g4 wr w''->w''.cell? ⟨g3,x,none⟩=some (.string ⟨y1.toArray⟩)/\w''.cell? ⟨g4,x,none⟩=some (.int .i64 (y2:Nat))):=fun w'' hf=>by
          have hf2:=hfr.two hf;have b1:=(bP zx.o fun g' cur' hh hc=>hf2.oth _ _ _ _ hc (by decide) (by decide) (by decide) (by decide)).cells (g:=g3) rfl x _ (Oc acc x hil);have b2:=(bP Oi.o fun g' cur' hh hc=>by cases hh;exact hf2.pro).cells (g:=g4) rfl x _ (Oe acc x hil);rw[ni]at b1 b2;rw[hy]at b1 b2;exact⟨b1,b2⟩
         match R0,CS,gQ,HST,jo with
         | .error c,CS,gQ,_,jo =>
          obtain rfl:=jo.o c rfl;have az:Hd (Sw=.error (5,y2)):=gQ.symm;have jQ:Hd (Calls prog 81 #[.pointer (some ⟨R,0,none⟩),.int .i64 (t:Nat),.string ⟨y1.toArray⟩,.int .i64 (y2:Nat),.bool many] wr.drew fun e w''=>e=.returned (.int .i64 (-1))/\Hd ((∃ns',Dt w'' B g4 R s now 0 (.ok j2) ns' own)/\DFr B g4 wr w'')/\(w''.cell? ⟨g3,x,none⟩=some (.string ⟨y1.toArray⟩)/\w''.cell? ⟨g4,x,none⟩=some (.int .i64 (y2:Nat)))):=by
           refine CS.mono ?_;rintro e w'' ⟨-,p2,p3⟩;obtain⟨q1,q2⟩:=p2 _ rfl;have hf:=hdf.two p3;exact⟨q1,⟨q2,hf⟩,yF.o w'' hf⟩
          have hlt2:¬(x:Int)<(d:Int):=by omega
          clear hdt hfr hj gQ hy hR CS jo hxj Ac hdd hdf hN hml HST hxe;go_wp2
          go_region_held3 (fun u=>u.cell? ⟨g3,x,none⟩=some (.string ⟨y1.toArray⟩)/\u.cell? ⟨g4,x,none⟩=some (.int .i64 (y2:Nat))) ((first|assumption|go_keep)) (first|(go_at_call 81;refine jQ.o.mono ?_;rintro e w7 ⟨rfl,hall,hcl⟩))
          obtain⟨⟨ns',hd7⟩,jT⟩:=hall.o;have HD7:Hd (Dt w7 B g4 R s now 0 (.ok j2) ns' own):=hd7;have qg:Hd (DFr B g4 wr w7):=jT;obtain⟨k1,k2⟩:=hcl;clear hd7 jT hall a1 a2 c5;go_wp2_with (go_at_call 82;refine(yA B g4 R s now 0 ns' own j2 _ HD7.o 5 (by decide) y2).mono ?_;rintro e w8 ⟨rfl,hd8,uN⟩);refine bodyPost_ret (results_none rfl _ _ _) rfl ?_;rw[iD.o,az.o];exact⟨rfl,fun d hh=>(by cases hh),fun c' hh=>(by have hh:(Except.error (5,y2):Rs Sd)=.error c':=hh;injection hh with hh;subst hh;exact⟨now,hd8.fq.toP Aa.o⟩),uO.o.two (((sK.o.two qg.o).two uN).toP Aa.o)⟩
         | .ok (t1,m1),CS,gQ,HST,_ =>
          have az:Hd (way many own (acc.drop (x+1)) t1 m1=Sw):=by
           show _=_;rw[List.drop_eq_nil_of_le (by have:=HN.o;omega)];exact gQ
          have adV:t1<m1.length:=HST.o t1 m1 rfl;have jQ:Hd (Calls prog 81 #[.pointer (some ⟨R,0,none⟩),.int .i64 (t:Nat),.string ⟨y1.toArray⟩,.int .i64 (y2:Nat),.bool many] wr.drew fun e w''=>e=.returned (.int .i64 (t1:Nat))/\Hd (Dt w'' B g4 R s now 0 (.ok j2) m1 own/\DFr B g4 wr w'')/\(w''.cell? ⟨g3,x,none⟩=some (.string ⟨y1.toArray⟩)/\w''.cell? ⟨g4,x,none⟩=some (.int .i64 (y2:Nat)))):=by
           refine CS.mono ?_;rintro e w'' ⟨p1,-,p3⟩;obtain⟨q1,q2⟩:=p1 _ _ rfl;have hf:=hdf.two p3;exact⟨q1,⟨q2,hf⟩,yF.o w'' hf⟩
          have hlt2:¬(x:Int)<(d:Int):=by omega
          have hnt:¬(t1:Int)<0:=by omega
          clear hdt hfr hj gQ hy hR CS hxj Ac hdd hdf HST hxe;go_wp2
          go_region_held3 (fun u=>u.cell? ⟨g3,x,none⟩=some (.string ⟨y1.toArray⟩)/\u.cell? ⟨g4,x,none⟩=some (.int .i64 (y2:Nat))) ((first|assumption|go_keep)) (first|(go_at_call 81;refine jQ.o.mono ?_;rintro e w7 ⟨rfl,hall,hcl⟩))
          obtain⟨hd7,jT⟩:=hall.o;have HD7:Hd (Dt w7 B g4 R s now 0 (.ok j2) m1 own):=hd7;have qg:Hd (DFr B g4 wr w7):=jT;clear hd7 jT hall a1 a2 c5 hcl;go_wp2;go_roundw
          case rel=>exact⟨x+1,t1,m1,by go_num,rfl,by omega,fun h=>absurd h (by omega),adV,HD7.o,az.o,sK.o.two qg.o⟩
          case measure=>simp[intOf];omega
       ·have hxe:x=d+1:=by omega
        have hg1:decide ((x:Int)<((d+1:Nat):Int))=false:=by simp;omega
        have hg2:¬(x:Int)<((d+1:Nat):Int):=by omega
        have az:Hd (Sw=.ok (t,m)):=by
         rw[List.drop_eq_nil_of_le (by have:=HN.o;omega)]at gQ;exact gQ.symm
        obtain⟨O2,oc2,v2,e1,e2,e3,e4,e5,VL,VM⟩:=hdt.owns t Ac;have HDO:Hd (Dt ((wr.setCell ⟨O2,t,none⟩ (.bool true)).setCell ⟨R,4,none⟩ (.int .i64 (t:Nat))) B g4 R s t 0 (.ok j2) m (t :: own)):=VL;have wY:Hd (DFr B g4 wr ((wr.setCell ⟨O2,t,none⟩ (.bool true)).setCell ⟨R,4,none⟩ (.int .i64 (t:Nat)))):=VM;obtain⟨L,hL⟩:=zN (m.length);rw[hL]at e1 Ac;clear hdt hfr gQ VL VM hxj hL hxe;go_wp2;refine bodyPost_end (results_none rfl _ _ _) rfl ?_;rw[iD.o,az.o];exact⟨rfl,fun d hh=>(by have hh:(Except.ok ⟨j2,m,t :: own,t⟩:Rs Sd)=.ok d:=hh;injection hh with hh;subst hh;exact HDO.o.toP Aa.o),fun c' hh=>(by cases hh),uO.o.two ((sK.o.two wY.o).toP Aa.o)⟩
open Go.RowKit Go.Maps Go.WideMaps Go.Joins
structure SpF(b0 b1:Nat)(w w':World):Prop where
 os:w'.os=w.os
 tape:w'.tape=w.tape
 output:w'.output=w.output
 size:w.heap.size<=w'.heap.size
 block:∀b,(b<b0\/b1<=b)->w'.heap[b]?=w.heap[b]?
theorem SpF.refl(b0 b1:Nat)(w:World):SpF b0 b1 w w:=⟨rfl,rfl,rfl,Nat.le_refl _,fun _ _=>rfl⟩
theorem SpF.set{b0 b1:Nat}{w w':World}(h:SpF b0 b1 w w'){g:Nat}(h0:b0<=g)(h1:g<b1)(o:Nat)(v:Value):SpF b0 b1 w (w'.setCell ⟨g,o,none⟩ v) :=
 ⟨h.os,h.tape,h.output,by have:=h.size;simpa [World.setCell] using this,fun b hb=>(heap_setCell_other w' _ b v (by simp only[];omega)).trans (h.block b hb)⟩
theorem SpF.below{b0 b1:Nat}{w w':World}(h:SpF b0 b1 w w'):Below b0 w w':=⟨h.os,h.tape,h.output,h.size,fun k hk=>h.block k (Or.inl hk)⟩
structure SpL(w:World)(b0 b1 N n i:Nat)(ks:Nat->Value)(ls:Nat->Nat):Prop where
 lo:b0<=N
 hi:N<b1
 row:∃cur,w.heap[N]?=some (.cells cur 64 (0,0))/\n*6<=cur.size/\∀j,i<=j->j<n->cur[j*6+4]?=some (ks j)
 kid:∀j,j<n->∃o c,ks j=.slice o (ls j) c/\ls j<=1000000/\(0<ls j->∃g cur,o=some ⟨g,0,none⟩/\b0<=g/\g<b1/\w.heap[g]?=some (.cells cur 3 (0,0))/\ls j<=cur.size)
section
variable {w:World} {b0 b1 N n i:Nat} {ks:Nat->Value} {ls:Nat->Nat}
theorem SpL.next(h:SpL w b0 b1 N n i ks ls):SpL w b0 b1 N n (i+1) ks ls:=by
 obtain⟨cur,h1,h2,h3⟩:=h.row;exact⟨h.lo,h.hi,⟨cur,h1,h2,fun j hj hn=>h3 j (by omega) hn⟩,h.kid⟩
theorem SpL.cell(h:SpL w b0 b1 N n i ks ls)(o:Nat)(ho:o<i*6)(v:Value):SpL (w.setCell ⟨N,o,none⟩ v) b0 b1 N n i ks ls:=by
 obtain⟨cur,h1,h2,h3⟩:=h.row;refine⟨h.lo,h.hi,⟨cur.setIfInBounds o v,block_setCell h1 v,by simpa using h2,fun j hj hn=>?_⟩,fun j hj=>?_⟩
 ·rw[Array.getElem?_setIfInBounds_ne (by omega)];exact h3 j hj hn
 ·obtain⟨oo,c,e,hm,hh⟩:=h.kid j hj;refine⟨oo,c,e,hm,fun hp=>?_⟩;obtain⟨g,cu,e1,e2,e3,e4,e5⟩:=hh hp;exact⟨g,cu,e1,e2,e3,(heap_setCell_other _ _ _ _ (aP e4 h1 (by decide))).trans e4,e5⟩
theorem SpL.kidc(h:SpL w b0 b1 N n i ks ls){g:Nat}{cu:Array Value}(hg:w.heap[g]?=some (.cells cu 3 (0,0)))(o:Nat)(v:Value):SpL (w.setCell ⟨g,o,none⟩ v) b0 b1 N n i ks ls:=by
 obtain⟨cur,h1,h2,h3⟩:=h.row;refine⟨h.lo,h.hi,⟨cur,(heap_setCell_other _ _ _ _ (aP h1 hg (by decide))).trans h1,h2,h3⟩,fun j hj=>?_⟩;obtain⟨oo,c,e,hm,hh⟩:=h.kid j hj;refine⟨oo,c,e,hm,fun hp=>?_⟩;obtain⟨g',cu',e1,e2,e3,e4,e5⟩:=hh hp
 by_cases hgg:g'=g
 ·subst hgg;rw[hg]at e4
  cases e4
  exact⟨g',_,e1,e2,e3,block_setCell hg v,by simpa using e5⟩
 ·exact⟨g',cu',e1,e2,e3,(heap_setCell_other _ _ _ _ hgg).trans e4,e5⟩
theorem SpL.at(h:SpL w b0 b1 N n i ks ls)(j:Nat)(hj:i<=j)(hn:j<n):w.cell? ⟨N,j*6+4,none⟩=some (ks j)/\∀k,w.frozen? ⟨N,k,none⟩=false:=by
 obtain⟨cur,h1,h2,h3⟩:=h.row;exact⟨by rw[af h1];exact h3 j hj hn,fun k=>Lib.frozen_of_heap h1 k⟩
theorem SpL.any(h:SpL w b0 b1 N n i ks ls)(o:Nat)(ho:o<n*6):∃v,w.cell? ⟨N,o,none⟩=some v:=by
 obtain⟨cur,h1,h2,h3⟩:=h.row;exact⟨cur[o]'(by omega),by rw[af h1];exact Array.getElem?_eq_getElem (by omega)⟩
end
theorem DtD.spf{w w':World}{B P:Nat}{ns:List Tn}{m:Nat}{own:List Nat}{LV OV:Value}{xs:List Value}{ks:Nat->Value}{b0 b1:Nat}(h:DtD w B P ns m own LV OV xs ks)(hf:SpF b0 b1 w w')(hB:b1<=B):DtD w' B P ns m own LV OV xs ks :=
 ⟨bP h.row fun g cur hh _=>hf.block g (Or.inr (by have:=(bz h.row hh).1;omega)),h.cel,fun i hi=>bP (h.kid i hi) fun g cur hh _=>hf.block g (Or.inr (by have:=(bz (h.kid i hi) hh).1;omega)),h.apart,bP h.owr fun g cur hh _=>hf.block g (Or.inr (by have:=(bz h.owr hh).1;omega)),h.far,Nat.lt_of_lt_of_le h.hP hf.size⟩
open Go.RowKit Go.Maps
theorem Oj{a b:ByteArray}(h:a=b):(a.toList == b.toList)=true:=by rw[h];simp
theorem Ee{a b:ByteArray}(h:¬a=b):(a.toList == b.toList)=false:=by
 cases hb:(a.toList == b.toList) with
 | false=>rfl
 | true =>
  exfalso;apply h;have h2:a.toList=b.toList:=by simpa using hb
  rw[Lib.toList_data,Lib.toList_data]at h2;apply ByteArray.ext;exact Array.ext' h2
theorem adW{w:World}{o:Option Addr}{c:Nat}{L:List ByteArray}(h:TxS w (.slice o L.length c) L){i:Nat}(hi:i<L.length):∃a,o=some a/\L.length<=c/\∀j (hj:j<L.length),w.cell? (a.add j)=some (.string L[j]):=by
 rcases h with⟨h1,h2⟩|⟨a,cap,h1,h2,h3⟩
 ·rw[h2]at hi;simp at hi
 ·cases h1
  exact⟨a,rfl,h2,h3⟩
theorem adX(o:Option Addr)(n c:Nat)(x:ByteArray)(L:List ByteArray)(w:World)(hn:n=L.length)(h:TxS w (.slice o n c) L)(hL:L.length<=1048576) :
  Calls prog 93 #[.slice o n c,.string x] w fun e w'=>∃k:Int,e=.returned (.int .i64 k)/\w.grownBy w' none/\(0<=k↔L.any (fun y=>decide (y=x))=true):=by
 subst hn;have H1:Hd (TxS w (.slice o L.length c) L):=h;have HN:Hd ((L.take L.length).any (fun y=>decide (y=x))=false->L.any (fun y=>decide (y=x))=false):=fun h=>by rwa [List.take_length]at h
 clear h;go_enter func93,ntmps93;go_wp2;go_loopw [8] (fun vi wr=>∃i:Nat,vi=.int .i64 i/\i<=L.length/\(L.take i).any (fun y=>decide (y=x))=false/\w.grownBy wr none) (fun vi _=>L.length-(intOf vi).toNat)
 case atStart=>exact⟨0,rfl,Nat.zero_le _,rfl,ax _ _⟩
 case round =>
  obtain⟨i,rfl,hi,hf,hg⟩:=hrel;have HF:Hd ((L.take i).any (fun y=>decide (y=x))=false):=hf;have HG:Hd (w.grownBy wr none):=hg
  by_cases hlt:i<L.length
  ·obtain⟨a,rfl,hcv,hat⟩:=adW (H1.o.grow hg) hlt;have e0:=hat i hlt;obtain⟨y,hy⟩:=zN (L[i]);rw[hy]at e0;have HY:Hd (L[i]=y):=hy;clear hf hg hat hy
   by_cases hxy:x=y
   ·have q:=Oj hxy;have HT:Hd (L.any (fun y=>decide (y=x))=true):=by
     show _=_;rw[List.any_eq_true];exact⟨L[i],List.getElem_mem _,by rw[HY.o];simp[hxy]⟩
    clear hxy;go_wp2;go_ret;exact⟨(i:Int),rfl,HG.o,fun _=>HT.o,fun _=>by omega⟩
   ·have q:=Ee hxy;have HT:Hd ((L.take (i+1)).any (fun y=>decide (y=x))=false):=by
     show _=_;rw[List.take_succ_eq_append_getElem hlt,List.any_append,HF.o,HY.o];simp;exact fun e=>hxy e.symm
    clear hxy;go_wp2;exact⟨⟨i+1,by go_num,by omega,HT.o,HG.o⟩,by simp[intOf];omega⟩
  ·have hil:i=L.length:=by omega
   have HT:Hd (L.any (fun y=>decide (y=x))=false):=HN.o (by rw[<-hil];exact hf);clear hf hg hil hi;go_wp2;go_ret;exact⟨-1,rfl,HG.o,fun h=>by omega,fun h=>by rw[HT.o]at h;cases h⟩
theorem adY(o:Option Addr)(n c:Nat)(x:ByteArray)(L:List ByteArray)(w:World)(hn:n=L.length)(h:TxS w (.slice o n c) L)(hL:L.length<=1048576) :
  Calls prog 61 #[.slice o n c,.string x] w fun e w'=>e=.returned (.bool (L.any (fun y=>decide (y=x))))/\w.grownBy w' none:=by
 have CI:Hd (Calls prog 93 #[.slice o n c,.string x] w fun e w'=>∃k:Int,e=.returned (.int .i64 k)/\w.grownBy w' none/\(0<=k↔L.any (fun y=>decide (y=x))=true)):=adX o n c x L w hn h hL;obtain⟨q,hq⟩:=zN (L.any (fun y=>decide (y=x)));rw[hq]at CI ⊢;clear h hq hL hn
 cases q with
 | true =>
  have CJ:Hd (Calls prog 93 #[.slice o n c,.string x] w fun e w'=>(∃k:Int,e=.returned (.int .i64 k)/\0<=k)/\w.grownBy w' none):=CI.o.mono fun e w' ⟨k,h1,h2,h3⟩=>⟨⟨k,h1,h3.2 rfl⟩,h2⟩
  clear CI;go_enter func61,ntmps61;go_wp2_with (go_at_call 93;refine CJ.o.mono ?_);rintro e w1 ⟨⟨k,rfl,hk⟩,hg⟩;go_wp2;go_ret;exact⟨bV (by first|rfl|(simp;done)|(simp;omega)),hg⟩
 | false =>
  have CJ:Hd (Calls prog 93 #[.slice o n c,.string x] w fun e w'=>(∃k:Int,e=.returned (.int .i64 k)/\k<0)/\w.grownBy w' none):=CI.o.mono fun e w' ⟨k,h1,h2,h3⟩=>⟨⟨k,h1,Int.not_le.1 fun h=>by have:=h3.1 h;cases this⟩,h2⟩
  clear CI;go_enter func61,ntmps61;go_wp2_with (go_at_call 93;refine CJ.o.mono ?_);rintro e w1 ⟨⟨k,rfl,hk⟩,hg⟩;go_wp2;go_ret;exact⟨bV (by first|rfl|(simp;done)|(simp;omega)),hg⟩
theorem adZ(s:ByteArray)(w:World)(hs:s.size<2 ^ 62):Calls prog 59 #[.string s] w fun e w'=>e=.returned (.bool (okV s))/\w.grownBy w' none:=by
 have CR:Hd (∀w,Calls prog 90 #[.string s] w fun e w'=>(∃(x1 x2 x3:Int) (x4 x5:ByteArray) (k:Int),e=.returned (.tuple #[.agg #[.int .i64 x1,.int .i64 x2,.int .i64 x3,.string x4,.string x5],.int .i64 (kH s.data.toList).1,.int .i64 k]))/\w.grownBy w' none):=fun w=>(parse_any s w hs).mono fun e w' ⟨h1,h2⟩=>⟨⟨_,_,_,_,_,_,h1⟩,h2⟩
 unfold okV;obtain⟨E,hE⟩:=zN ((kH s.data.toList).1);rw[hE]at CR ⊢;clear hE;have hd:decide (E=0)=(E == 0):=by rw[Bool.eq_iff_iff];simp
 rw[hd];clear hd;go_enter func59,ntmps59;go_wp2_with (go_at_call 90;refine(CR.o _).mono ?_);rintro e w1 ⟨⟨x1,x2,x3,x4,x5,k,rfl⟩,hg⟩
 cases hz:(E == 0) with
 | true =>
  go_wp2;go_ret;exact⟨bV hz.symm,dw hg _⟩
 | false =>
  go_wp2;go_ret;exact⟨bV hz.symm,dw hg _⟩
open Go.RowKit
def EntI(L:List En)(n:ByteArray)(c:Int):Prop:=(c=-1/\aZ L n=false)\/∃j,∃hj:j<L.length,c=(j:Int)/\L[j].nm=n/\aZ (L.take j) n=false
theorem EntI.neg{L:List En}{n:ByteArray}{c:Int}(h:EntI L n c):c<0↔aZ L n=false:=by
 rcases h with⟨rfl,h⟩|⟨j,hj,rfl,h1,h2⟩
 ·exact⟨fun _=>h,fun _=>by omega⟩
 ·refine⟨fun h=>by omega,fun h=>?_⟩;have:=JO L n L.length j hj hj h1;rw[List.take_length,h]at this
  cases this
theorem EntI.lt{L:List En}{i:Nat}(hi:i<L.length){c:Int}(h:EntI L L[i].nm c):c<(i:Int)↔aZ (L.take i) L[i].nm=true:=by
 rcases h with⟨rfl,h⟩|⟨j,hj,rfl,h1,h2⟩
 ·have:=JO L L[i].nm L.length i hi hi rfl;rw[List.take_length,h]at this
  cases this
 ·refine⟨fun h=>JO L _ i j hj (by omega) h1,fun h=>?_⟩;apply Classical.byContradiction;intro hn;rw[Yp L _ i j (by omega) h]at h2
  cases h2
theorem Ol{w:World}{o:Option Addr}{c:Nat}{L:List En}(h:EnS w (.slice o L.length c) L){i:Nat}(hi:i<L.length):∃a,o=some a/\L.length<=c/\∀j (hj:j<L.length),EnAt w (a.add (j*4)) L[j]:=by
 rcases h with⟨h1,h2⟩|⟨a,cap,h1,h2,h3⟩
 ·rw[h2]at hi;simp at hi
 ·cases h1
  exact⟨a,rfl,h2,h3⟩
theorem ad1(v:Value)(L:List En)(n:ByteArray)(w:World)(h:EnS w v L)(hL:L.length<=1048576) :
  Calls prog 35 #[v,.string n] w fun e w'=>∃c:Int,e=.returned (.int .i64 c)/\EntI L n c/\w.grownBy w' none:=by
 have H1:Hd (EnS w v L):=h;obtain⟨o,c,rfl⟩:=xA h;clear h;go_enter func35,ntmps35;go_wp2;go_loopw [5] (fun vi wr=>∃i:Nat,vi=.int .i64 i/\i<=L.length/\aZ (L.take i) n=false/\w.grownBy wr none) (fun vi _=>L.length-(intOf vi).toNat)
 case atStart=>exact⟨0,rfl,Nat.zero_le _,rfl,ax _ _⟩
 case round =>
  obtain⟨i,rfl,hi,hf,hg⟩:=hrel;have HF:Hd (aZ (L.take i) n=false):=hf;have HG:Hd (w.grownBy wr none):=hg
  by_cases hlt:i<L.length
  ·obtain⟨a,rfl,hcv,hat⟩:=Ol (H1.o.grow hg) hlt;have e0:=(hat i hlt).1;obtain⟨y,hy⟩:=zN (L[i].nm);rw[hy]at e0;have HY:Hd (L[i].nm=y):=hy;clear hf hg hat hy
   by_cases hxy:y=n
   ·have q:=Oj hxy;have HT:Hd (EntI L n (i:Int)):=Or.inr ⟨i,hlt,rfl,HY.o.trans hxy,HF.o⟩;clear hxy;go_wp2;go_ret;exact⟨(i:Int),rfl,HT.o,HG.o⟩
   ·have q:=Ee hxy;have HT:Hd (aZ (L.take (i+1)) n=false):=by
     show _=_;rw[JM L n i hlt,HF.o,HY.o];simp[hxy]
    clear hxy;go_wp2;exact⟨⟨i+1,by go_num,by omega,HT.o,HG.o⟩,by simp[intOf];omega⟩
  ·have hil:i=L.length:=by omega
   have HT:Hd (EntI L n (-1)):=Or.inl ⟨rfl,by rw[hil,List.take_length]at hf;exact hf⟩;clear hf hg hil hi;go_wp2;go_ret;exact⟨-1,rfl,HT.o,HG.o⟩
end Go.Proofs.YtnnbgjaphfhibaaGreatDoor
