import Derived.Test.YtmkjelchiacogaaGreatDoorM07
set_option linter.unusedVariables false
set_option linter.unusedSimpArgs false
set_option maxRecDepth 100000
set_option maxHeartbeats 6400000
open Go.Proofs.Tryz
namespace Go.Proofs.YtmkjelchiacogaaGreatDoor
open Go.RowKit Go.Maps Go.WideMaps Go.Joins
def lF(l:List (List UInt8 × Nat)):List Value:=l.flatMap fun x=>[.string ⟨x.1.toArray⟩,.int .i64 (x.2:Nat)]
theorem Ro:∀(l:List (List UInt8 × Nat)) (i:Nat) (hi:i<l.length),(lF l)[i*2]?=some (.string ⟨l[i].1.toArray⟩)/\(lF l)[i*2+1]?=some (.int .i64 (l[i].2:Nat))
 | a :: r,0,_=>⟨rfl,rfl⟩
 | a :: r,i+1,hi=>by
  have:=Ro r i (by simpa using hi);have e:lF (a :: r)=.string ⟨a.1.toArray⟩ :: .int .i64 (a.2:Nat) :: lF r:=rfl;rw[e,show(i+1)*2=i*2+1+1 by omega];exact this
theorem aaF(l:List (List UInt8 × Nat))(x:List UInt8 × Nat):lF (l++[x])=lF l++[.string ⟨x.1.toArray⟩,.int .i64 (x.2:Nat)]:=by
 unfold lF;rw[List.flatMap_append];rfl
theorem aaG{w:World}{B g c n:Nat}{l:List (List UInt8 × Nat)}(h:w.ownsRow B 196 2 (.slice (some ⟨g,0,none⟩) n c) n (lF l))(hn:l.length=n):KyR w g l/\n<=c:=by
 rcases h.2 with⟨h1,-⟩|⟨g',cap,cur,h1,-,h3,h4,-,h6,h7⟩
 ·cases h1
 ·cases h1
  refine⟨⟨cur,h3,fun i hi=>?_⟩,h4⟩;obtain⟨a,b⟩:=Ro l i hi;rw[<-h7]at a b;rw[List.getElem?_take_of_lt (by omega),Array.getElem?_toList]at a b;exact⟨a,b⟩
theorem aaH:(prog.info? 196).map (fun i=>(i.zero,i.size,i.bytes))=some (some (.agg #[.string ⟨#[]⟩,.int .i64 0]),2,24):=by kernel_rfl
theorem zI(l:List UInt8)(f i:Nat)(acc:List (List UInt8 × Nat)):iD l (f+1) i acc=match eG l (bl l i) with | .error e=>.error e | .ok (k,j)=>if nx l (bl l j)=46 then iD l f (bl l j+1) (acc++[(k,bl l i)]) else .ok (acc++[(k,bl l i)],bl l j):=rfl
theorem JS{w W w3:World}{r q:Option Nat}(h:w.grownBy W r)(hg:W.grownBy w3 q)(hq:∀b,q=some b->w.heap.size<=b):w.grownBy w3 r :=
 ⟨hg.os.trans h.os,hg.tape.trans h.tape,hg.output.trans h.output,Nat.le_trans h.size hg.size,fun k hk hn=>(hg.block k (Nat.lt_of_lt_of_le hk h.size) (fun e=>by have:=hq k e.symm;omega)).trans (h.block k hk hn)⟩
def Gp(R:Nat)(s:ByteArray)(T:Nat)(E:Int->TypeId × Value)(g:Rs (List (List UInt8 × Nat) × Nat))(w:World)(e:Ending)(w':World):Prop :=
 (∀l j,g=.ok (l,j)->∃b c,e=.returned (.tuple #[.slice (some ⟨b,0,none⟩) l.length c,.nilIface])/\KyR w' b l/\l.length<=c/\Rd w' R s j T)/\(∀c p,g=.error (c,p)->∃F,e=.returned (.tuple #[.slice none 0 0,.iface 104 (.pointer (some ⟨F,0,none⟩))])/\aF w' (.iface 104 (.pointer (some ⟨F,0,none⟩))) E c p)/\w.grownBy w' (some R)
theorem aaI(x:List UInt8 × Nat):∀u∈([.string ⟨x.1.toArray⟩,.int .i64 (x.2:Nat)]:List Value),u.oneCell'=true:=by
 intro u hu;simp only[List.mem_cons,List.not_mem_nil,or_false]at hu
 rcases hu with rfl|rfl<;>rfl
theorem aaJ(R:Nat)(s:ByteArray)(i T B:Nat)(E:Int->TypeId × Value)(w:World)(h:Rd w R s i T)(hi:i<=s.size)(hs:s.size<=100000)(G:Gl w B E)(hR:B<=R)(hBw:B<=w.heap.size) :
  Calls prog 117 #[.pointer (some ⟨R,0,none⟩)] w (Gp R s T E (iD s.data.toList (s.data.toList.length+1) i []) w):=by
 have CN:Hd (∀k w,Rd w R s k T->k<=s.size->Calls prog 74 #[.pointer (some ⟨R,0,none⟩)] w fun e w'=>e=.returned (.int .i64 (nx s.data.toList k))/\w.grownBy w' none):=fun k w h1 h2=>mr R s k T w h1 h2 (by omega)
 have CS:Hd (∀k w,Rd w R s k T->k<=s.size->Calls prog 73 #[.pointer (some ⟨R,0,none⟩)] w fun e w'=>e=.returned (.tuple #[])/\Rd w' R s (bl s.data.toList k) T/\w.grownBy w' (some R)):=fun k w h1 h2=>Fp R s k T w h1 h2 (by omega)
 have CK:Hd (∀k w',Rd w' R s k T->k<=s.size->w.grownBy w' (some R)->Calls prog 121 #[.pointer (some ⟨R,0,none⟩)] w' (Gh R s T E k (eG s.data.toList k) w')):=fun k w' h1 h2 hg=>QV R s k T B E w' h1 h2 (by omega) (G.gb hg hR hBw) hR (Nat.le_trans hBw hg.size)
 have hl:s.data.toList.length=s.size:=by simp
 have fP:Hd (∀k,k<=s.size->k<=bl s.data.toList k/\bl s.data.toList k<=s.size):=fun k hk=>by rw[<-hl];exact lh _ k (by omega)
 have nI:Hd (∀k x j,k<=s.size->eG s.data.toList k=.ok (x,j)->k<j/\j<=s.size):=fun k x j a b=>by
  have:=zD s.data.toList k x j (by omega) b;omega
 have dE:Hd (∀k,nx s.data.toList k=46->k<s.size):=fun k a=>by
  have:=cZ (l:=s.data.toList) (i:=k) (by rw[a];decide);omega
 obtain⟨i0,hi0,hii⟩:=Option.map_eq_some_iff.1 aaH;simp only[Prod.mk.injEq]at hii;obtain⟨hz0,hz1,hzb⟩:=hii;obtain⟨S,hS⟩:=zN (iD s.data.toList (s.data.toList.length+1) i []);have HS:Hd (iD s.data.toList (s.data.toList.length+1) i []=S):=hS;rw[hS];have H0:Hd (Rd w R s i T):=h;clear h G hS;go_enter func117,ntmps117;go_wp2;go_loopw [2,3,4] (fun v2 v3 v4 wr=>v2=.slice none 0 0/\v3=.nilIface/\∃(kx f:Nat) (acc:List (List UInt8 × Nat)),Rd wr R s kx T/\kx<=s.size/\wr.ownsRow w.heap.size 196 2 v4 acc.length (lF acc)/\w.grownBy wr (some R)/\s.size-kx<f/\iD s.data.toList f kx acc=S/\acc.length<=kx) (fun _ _ _ wr=>s.size-(match wr.cell? ⟨R,1,none⟩ with|some (.int _ k)=>k.toNat|_=>0))
 case atStart=>exact⟨rfl,rfl,i,s.data.toList.length+1,[],H0.o,hi,World.ownsRow_nil _ _ _ _,ai _ _,by omega,HS.o,by simp⟩
 case round =>
  obtain⟨rfl,rfl,kx,f,acc,hrd,hk,hown,hg,hf,hhd,hac⟩:=hrel;obtain⟨f,rfl⟩:∃f',f=f'+1:=⟨f-1,by omega⟩;rw[zI]at hhd;have jJ:Hd (Rd wr R s kx T):=hrd;have jZ:Hd (w.grownBy wr (some R)):=hg;have HOW:Hd (wr.ownsRow w.heap.size 196 2 u4 acc.length (lF acc)):=hown;have jB:Hd ((match wr.cell? ⟨R,1,none⟩ with|some (.int _ k)=>k.toNat|_=>0)=kx):=by show _=_;rw[hrd.cells.2.1];simp
  have C1:=CS.o kx wr hrd hk;obtain⟨b1,b2⟩:=fP.o kx hk;obtain⟨j0,hj0⟩:=zN (bl s.data.toList kx);rw[hj0]at C1 hhd b1 b2;have BJ:Hd (Calls prog 73 #[.pointer (some ⟨R,0,none⟩)] wr fun e w'=>e=.returned (.tuple #[])/\Rd w' R s j0 T/\wr.grownBy w' (some R)):=C1;have xU:=nI.o j0;have JU:=CK.o j0;obtain⟨KR,qP⟩:=zN (eG s.data.toList j0);rw[qP]at xU JU hhd;have Rq:Hd (_=S):=hhd;have aaK:Hd (∀x j,j0<=s.size->KR=.ok (x,j)->j0<j/\j<=s.size):=xU;have aaL:Hd (∀w',Rd w' R s j0 T->j0<=s.size->w.grownBy w' (some R)->Calls prog 121 #[.pointer (some ⟨R,0,none⟩)] w' (Gh R s T E j0 KR w')):=JU;clear hrd hown hg hhd C1 xU JU hj0 qP;go_wp2_with (first|(go_at_call 73;refine BJ.o.mono ?_));rintro e w2 ⟨rfl,hr2,hg2⟩;have HR2:Hd (Rd w2 R s j0 T):=hr2;have HG2:Hd (w.grownBy w2 (some R)):=kK jZ.o hg2;have aaM:Hd (w2.ownsRow w.heap.size 196 2 u4 acc.length (lF acc)):=bW HOW.o fun g' cur' hh hc=>hg2.block g' (aA hc) (by simp only[ne_eq,Option.some.injEq];exact aY hc jJ.o (by decide))
  clear hr2 hg2;go_wp2_with (go_at_call 121;refine(aaL.o _ HR2.o b2 HG2.o).mono ?_);rintro e w3 ⟨p1,p2,p3⟩;have aQ:Hd (w.grownBy w3 (some R)):=kK HG2.o p3
  cases KR with
  | error ec =>
   obtain⟨ec1,ec2⟩:=ec;obtain⟨ka,kb,v,rfl,F,rfl,hF⟩:=p2 ec1 ec2 rfl;have aZ:Hd (aF w3 (.iface 104 (.pointer (some ⟨F,0,none⟩))) E ec1 ec2):=⟨F,rfl,hF⟩;have aj:Hd (S=.error (ec1,ec2)):=Rq.o.symm;clear p1 p2 p3 hF;have uo:Hd (w.grownBy (w3.alloc (.cells #[.string ka,.int .i64 kb] 196)) (some R)):=aI aQ.o (World.grownBy_alloc _ _ none);have lm:Hd (aF (w3.alloc (.cells #[.string ka,.int .i64 kb] 196)) (.iface 104 (.pointer (some ⟨F,0,none⟩))) E ec1 ec2):=FaultV.grow aZ.o (World.grownBy_alloc _ _ none);go_wp2;refine bodyPost_ret (results_tmp2 (t:=2) (u:=3) rfl _ _ _) rfl ?_;rw[aj.o];exact⟨fun l j hh=>(by cases hh),fun c p hh=>(by cases hh;exact⟨F,rfl,lm.o⟩),uo.o⟩
  | ok q =>
   obtain⟨kk,j⟩:=q;obtain⟨rfl,hr3⟩:=p1 kk j rfl;obtain⟨k1,k2⟩:=aaK.o kk j b2 rfl;have hown3:w3.ownsRow w.heap.size 196 2 u4 acc.length (lF acc):=bW aaM.o fun g' cur' hh hc=>p3.block g' (aA hc) (by simp only[ne_eq,Option.some.injEq];exact aY hc HR2.o (by decide))
   have HR3:Hd (Rd w3 R s j T):=hr3;have hnb:=heap_alloc_new (w3.alloc (.cells #[.string ⟨kk.toArray⟩,.int .i64 (j0:Nat)] 196)) (.cells #[.string ⟨kk.toArray⟩,.int .i64 (j0:Nat)] 196);rw[World.size_alloc]at hnb;have Jo:Hd (((w3.alloc (.cells #[.string ⟨kk.toArray⟩,.int .i64 (j0:Nat)] 196)).alloc (.cells #[.string ⟨kk.toArray⟩,.int .i64 (j0:Nat)] 196)).heap[w3.heap.size+1]?=some (.cells #[.string ⟨kk.toArray⟩,.int .i64 (j0:Nat)] 196 (0,0))):=hnb;have hsz3:w.heap.size<=w3.heap.size:=aQ.o.size;have hone:=aaI (kk,j0)
   try simp only[]at hone
   clear p1 p2 p3 hr3 hnb;go_wp2_with (first|(at_builtin;refine wpList_append_lies _ rfl _ _ 191 rfl w.heap.size 196 i0 _ 2 24 underlying191 hi0 hz0 hz1 hzb rfl (by decide) u4 acc.length (lF acc) rfl ((hown3.alloc _).alloc _) ⟨w3.heap.size+1,0,none⟩ 1 1 [.string ⟨kk.toArray⟩,.int .i64 (j0:Nat)] rfl rfl (World.news_of_block Jo.o) hone (by omega) (by unfold maxLen;omega) (by omega) (by simp;omega) _ rfl ?_));intro g cap w6 hown6 hgrow hat hlt6;have iE:=(HR3.o.grow (World.grownBy_alloc w3 (.cells #[.string ⟨kk.toArray⟩,.int .i64 (j0:Nat)] 196) none)).grow (World.grownBy_alloc _ (.cells #[.string ⟨kk.toArray⟩,.int .i64 (j0:Nat)] 196) none);have hown5:=(hown3.alloc (.cells #[.string ⟨kk.toArray⟩,.int .i64 (j0:Nat)] 196)).alloc (.cells #[.string ⟨kk.toArray⟩,.int .i64 (j0:Nat)] 196);have fG:Hd (Rd w6 R s j T):=(hgrow.block R (aA iE) (fun e=>by
    obtain⟨-,cc,hcc⟩:=dV hown5 e.symm;exact aY iE hcc (by decide) rfl)).trans iE
   have lS:Hd (w.grownBy w6 (some R)):=JS (aI (aI aQ.o (World.grownBy_alloc _ _ none)) (World.grownBy_alloc _ _ none)) hgrow (fun b hb=>(dV hown5 hb).1);have aaN:Hd (w6.ownsRow w.heap.size 196 2 (.slice (some ⟨g,0,none⟩) (acc.length+1) cap) (acc.length+1) (lF (acc++[(kk,j0)]))):=by
    show World.ownsRow _ _ _ _ _ _ _;rw[aaF];exact hown6
   have C7:=CS.o j w6 fG.o k2;obtain⟨d1,d2⟩:=fP.o j k2;have BL:=Rq.o
   try simp only[]at BL
   obtain⟨j7,Rt⟩:=zN (bl s.data.toList j);rw[Rt]at C7 d1 d2 BL;have C7':Hd (Calls prog 73 #[.pointer (some ⟨R,0,none⟩)] w6 fun e w'=>e=.returned (.tuple #[])/\Rd w' R s j7 T/\w6.grownBy w' (some R)):=C7;have Ru:Hd (nx s.data.toList j7=46->j7<s.size):=dE.o j7;have C8:Hd (∀w',Rd w' R s j7 T->Calls prog 74 #[.pointer (some ⟨R,0,none⟩)] w' fun e w''=>e=.returned (.int .i64 (nx s.data.toList j7))/\w'.grownBy w'' none):=fun w' hh=>CN.o j7 w' hh d2
   obtain⟨y,hy⟩:=zN (nx s.data.toList j7);rw[hy]at BL Ru C8;have Rw:Hd (_=S):=BL;clear hown6 hgrow hat hlt6 iE hown5 hown3 C7 BL Rt hy hone hsz3;go_wp2_with (first|(go_at_call 73;refine C7'.o.mono ?_));rintro e w7 ⟨rfl,Rx,fU⟩;have lw:Hd (Rd w7 R s j7 T):=Rx;have uq:Hd (w.grownBy w7 (some R)):=kK lS.o fU;have aaO:Hd (w7.ownsRow w.heap.size 196 2 (.slice (some ⟨g,0,none⟩) (acc.length+1) cap) (acc.length+1) (lF (acc++[(kk,j0)]))):=bW aaN.o fun g' cur' hh hc=>fU.block g' (aA hc) (by simp only[ne_eq,Option.some.injEq];exact aY hc fG.o (by decide))
   clear Rx fU;go_wp2_with (go_at_call 74;refine(C8.o _ lw.o).mono ?_);rintro e w8 ⟨rfl,nJ⟩;have mJ:Hd (Rd w8 R s j7 T):=lw.o.grow nJ;have zq:Hd (w.grownBy w8 (some R)):=aI uq.o nJ;have Ry:Hd (w8.ownsRow w.heap.size 196 2 (.slice (some ⟨g,0,none⟩) (acc.length+1) cap) (acc.length+1) (lF (acc++[(kk,j0)]))):=bW aaO.o fun g' cur' hh hc=>nJ.block g' (aA hc) (by simp)
   clear nJ;have vO:Hd ((acc++[(kk,j0)]).length=acc.length+1):=by show _=_;simp
   by_cases c46:y=46
   ·have e46:(y != 46)=false:=by simp[c46]
    have hjl:=Ru.o c46;have gU:Hd (iD s.data.toList f (j7+1) (acc++[(kk,j0)])=S):=by
     have:=Rw.o;rw[if_pos c46]at this;exact this
    obtain⟨-,r1,-,rf⟩:=mJ.o.cells;have rf1:=rf 1;have Rz:Hd (Rd (w8.setCell ⟨R,1,none⟩ (.int .i64 ((j7:Int)+1))) R s (j7+1) T):=mJ.o.set (j7+1);have HO9:Hd ((w8.setCell ⟨R,1,none⟩ (.int .i64 ((j7:Int)+1))).ownsRow w.heap.size 196 2 (.slice (some ⟨g,0,none⟩) (acc.length+1) cap) (acc++[(kk,j0)]).length (lF (acc++[(kk,j0)]))):=by
     show World.ownsRow _ _ _ _ _ _ _;rw[vO.o];exact bW Ry.o fun g' cur' hh hc=>heap_setCell_other _ _ _ _ (aY hc mJ.o (by decide))
    clear c46 rf;go_wp2;go_roundw
    case rel=>exact⟨rfl,rfl,j7+1,f,acc++[(kk,j0)],Rz.o,by omega,HO9.o,dD zq.o 1 _,by omega,gU.o,by rw[vO.o];omega⟩
    case measure =>
     rw[jB.o,Rz.o.cells.2.1];simp;omega
   ·have e46:(y != 46)=true:=by simp[c46]
    have aj:Hd (S=.ok (acc++[(kk,j0)],j7)):=by
     have:=Rw.o;rw[if_neg c46]at this;exact this.symm
    clear c46;go_wp2;refine bodyPost_ret (results_tmp2 (t:=2) (u:=3) rfl _ _ _) rfl ?_;rw[aj.o];obtain⟨hky,hcp⟩:=aaG Ry.o vO.o;exact⟨fun l j hh=>(by cases hh;exact⟨g,cap,by rw[vO.o];rfl,hky,by rw[vO.o];exact hcp,mJ.o⟩),fun c p hh=>(by cases hh),zq.o⟩
open Go.RowKit Go.Maps Go.WideMaps Go.Joins
theorem aaP(l:List UInt8):∀(f i:Nat) (c:Int) (p:Nat),gap l f i=.error (c,p)->c=2:=by
 intro f
 induction f with
 | zero=>intro i c p h;cases h;rfl
 | succ f ih =>
  intro i c p h;rw[FC]at h;split at h
  ·cases h;rfl
  ·split at h
   ·exact ih _ c p h
   ·cases h
def Gq(B R T:Nat)(s:ByteArray)(E:Int->TypeId × Value)(own:List Nat)(now:Nat)(m:List Tn)(g:Rs Nat)(w:World)(e:Ending)(w':World):Prop:=(∀j,g=.ok j->e=.returned .nilIface/\Rd w' R s j T/\Tr w' B T m own now)/\(∀c p,g=.error (c,p)->∃F,e=.returned (.iface 104 (.pointer (some ⟨F,0,none⟩)))/\aF w' (.iface 104 (.pointer (some ⟨F,0,none⟩))) E c p)/\Below B w w'
theorem aaQ(B R T:Nat)(s:ByteArray)(E:Int->TypeId × Value)(own:List Nat)(now i:Nat)(m:List Tn)(w:World)(h:Rd w R s i T)(ht:Tr w B T m own now)(G:Gl w B E)(hR:B<=R)(hi:i<=s.size)(hs:s.size<=100000) :
  Calls prog 206 #[.pointer (some ⟨R,0,none⟩)] w (Gq B R T s E own now m (gap s.data.toList (s.data.toList.length+1) i) w) :=
 (Zq R s i T (E 2).1 (E 2).2 w h hi (by omega) G.es.te (zF G.lo hR).te).mono fun e w' ⟨h1,h2,h3⟩=>⟨fun j hj=>⟨(h1 j hj).1,(h1 j hj).2,ht.keepR h h3⟩,fun c p hp=>by
  have hc:=aaP _ _ _ _ _ hp;subst hc;obtain⟨v,e1,F,rfl,hF⟩:=h2 2 p hp;exact⟨F,e1,F,rfl,hF⟩,iP h3 hR ht.base⟩
def uw(B R T:Nat)(s:ByteArray)(E:Int->TypeId × Value)(own:List Nat)(now:Nat)(m:List Tn)(r:Rs Nat)(w:World)(e:Ending)(w':World):Prop:=(∀j,r=.ok j->e=.returned .nilIface/\Rd w' R s j T/\Tr w' B T m own now)/\(∀c p,r=.error (c,p)->∃F,e=.returned (.iface 104 (.pointer (some ⟨F,0,none⟩)))/\aF w' (.iface 104 (.pointer (some ⟨F,0,none⟩))) E c p)/\Below B w w'
theorem RD(B R T:Nat)(s:ByteArray)(E:Int->TypeId × Value)(own:List Nat)(now i:Nat)(c:Int)(hc:0<=c)(m:List Tn)(w:World)(h:Rd w R s i T)(ht:Tr w B T m own now)(G:Gl w B E)(hR:B<=R)(hi:i<=s.size)(hs:s.size<=100000) :
  Calls prog 79 #[.pointer (some ⟨R,0,none⟩),.int .i64 c] w (uw B R T s E own now m (must s.data.toList i c) w) :=
 (Jf R s i T c (E 2).1 (E 2).2 w h hi (by omega) hc G.es.te).mono fun e w' ⟨h1,h2,h3⟩=>by
  unfold must
  by_cases hx:nx s.data.toList i=c
  ·rw[if_pos hx];exact⟨fun j hj=>(by cases hj;exact⟨(h1 hx).1,(h1 hx).2,ht.keepR h h3⟩),fun c p hp=>(by cases hp),iP h3 hR ht.base⟩
  ·rw[if_neg hx];obtain⟨⟨v,e1,F,rfl,hF⟩,-⟩:=h2 hx;exact⟨fun j hj=>(by cases hj),fun c p hp=>(by cases hp;exact⟨F,e1,F,rfl,hF⟩),iP h3 hR ht.base⟩
theorem aaR(l:List UInt8)(f i up d:Nat)(ns:List Tn):lst l (f+1) i up d ns =
  match gap l (l.length+1) i with
  | .error e=>.error e
  | .ok j =>
   if nx l j=93 then(match must l j 93 with | .error e=>.error e | .ok q=>.ok (q,ns))
   else match val l f j up [] j d ns with
    | .error e=>.error e
    | .ok (j1,ns1)=>match gap l (l.length+1) j1 with
     | .error e=>.error e
     | .ok j2=>if nx l j2=44 then lst l f (j2+1) up d ns1 else(match must l j2 93 with | .error e=>.error e | .ok q=>.ok (q,ns1)):=by
 rw[zG]
 cases gap l (l.length+1) i with
 | error e=>rfl
 | ok j =>
  simp only[]
  by_cases h:nx l j=93
  ·rw[if_pos h,if_pos h];unfold must;rw[if_pos h]
  ·rw[if_neg h,if_neg h]
   cases val l f j up [] j d ns with
   | error e=>rfl
   | ok q =>
    obtain⟨j1,ns1⟩:=q;simp only[]
    cases gap l (l.length+1) j1 with
    | error e=>rfl
    | ok j2 =>
     simp only[]
     by_cases h4:nx l j2=44
     ·rw[if_pos h4,if_pos h4]
     ·rw[if_neg h4,if_neg h4];unfold must
      by_cases h9:nx l j2=93
      ·rw[if_pos h9,if_pos h9]
      ·rw[if_neg h9,if_neg h9]
theorem aaS{B R T:Nat}{s:ByteArray}{E:Int->TypeId × Value}{own:List Nat}{now:Nat}{c:Int}{p:Nat}{w w':World}{e:Ending}(h:qO B R T s E own now (.error (c,p)) w e w'):∃F,e=.returned (.iface 104 (.pointer (some ⟨F,0,none⟩)))/\aF w' (.iface 104 (.pointer (some ⟨F,0,none⟩))) E c p:=by
 obtain⟨v,e1,F,rfl,hF⟩:=h.2.1 c p rfl;exact⟨F,e1,F,rfl,hF⟩
structure Lk(B R T:Nat)(s:ByteArray)(own:List Nat)(now i up:Nat)(ns:List Tn)(w:World)(kx:Nat)(m:List Tn)(wr:World):Prop where
 rd:Rd wr R s kx T
 tr:Tr wr B T m own now
 wf:WF m own
 wt:WT m
 ul:up<m.length
 kd:ag m up=1
 le:kx<=s.size
 nn:m.length+i+1<=ns.length+kx
 be:Below B w wr
theorem Lk.gb{B R T:Nat}{s:ByteArray}{own:List Nat}{now i up:Nat}{ns:List Tn}{w:World}{kx:Nat}{m:List Tn}{wr w':World}(h:Lk B R T s own now i up ns w kx m wr)(hg:wr.grownBy w' none):Lk B R T s own now i up ns w kx m w':=⟨h.rd.grow hg,h.tr.gb hg,h.wf,h.wt,h.ul,h.kd,h.le,h.nn,h.be.trans (kQ hg h.tr.base)⟩
theorem Lk.to{B R T:Nat}{s:ByteArray}{own:List Nat}{now i up:Nat}{ns:List Tn}{w:World}{kx j:Nat}{m:List Tn}{wr w':World}(h:Lk B R T s own now i up ns w kx m wr)(hr:Rd w' R s j T)(ht:Tr w' B T m own now)(hb:Below B wr w')(h1:kx<=j)(h2:j<=s.size):Lk B R T s own now i up ns w j m w':=⟨hr,ht,h.wf,h.wt,h.ul,h.kd,h2,by have:=h.nn;omega,h.be.trans hb⟩
theorem Lk.ad{B R T:Nat}{s:ByteArray}{own:List Nat}{now i up:Nat}{ns:List Tn}{w:World}{kx j:Nat}{m m1:List Tn}{wr w':World}(h:Lk B R T s own now i up ns w kx m wr)(A:Ad m m1 own kx j s.size)(hr:Rd w' R s j T)(ht:Tr w' B T m1 own now)(hb:Below B wr w'):Lk B R T s own now i up ns w j m1 w':=⟨hr,ht,A.wf,A.wt,Nat.lt_of_lt_of_le h.ul A.lo,(A.kd up h.ul).trans h.kd,A.en,by have:=h.nn;have:=A.hi;omega,h.be.trans hb⟩
theorem aaT(F:Nat)(IH:∀f,f<F->BI f):Rn F:=by
 intro B R T s E own now i up d ns w h htr G hR hi hs W V hu h1 hd hsz hF;have hl:s.data.toList.length=s.size:=by simp
 have CG:Hd (∀kx m wr,Lk B R T s own now i up ns w kx m wr->Calls prog 206 #[.pointer (some ⟨R,0,none⟩)] wr (Gq B R T s E own now m (gap s.data.toList (s.data.toList.length+1) kx) wr)):=fun kx m wr L=>aaQ B R T s E own now kx m wr L.rd L.tr (G.bel L.be) hR L.le hs
 have CN:Hd (∀kx m wr,Lk B R T s own now i up ns w kx m wr->Calls prog 74 #[.pointer (some ⟨R,0,none⟩)] wr fun e w'=>e=.returned (.int .i64 (nx s.data.toList kx))/\wr.grownBy w' none):=fun kx m wr L=>mr R s kx T wr L.rd L.le (by omega)
 have CT:Hd (∀kx m wr,Lk B R T s own now i up ns w kx m wr->Calls prog 79 #[.pointer (some ⟨R,0,none⟩),.int .i64 93] wr (uw B R T s E own now m (must s.data.toList kx 93) wr)):=fun kx m wr L=>RD B R T s E own now kx 93 (by decide) m wr L.rd L.tr (G.bel L.be) hR L.le hs
 have CV:Hd (∀f kx m wr,f<F->2*(s.size-kx)+1<=f->Lk B R T s own now i up ns w kx m wr->Calls prog 123 #[.pointer (some ⟨R,0,none⟩),.int .i64 (up:Nat),.agg #[.string ⟨#[]⟩,.int .i64 (kx:Nat)],.int .i64 (d:Nat)] wr (qO B R T s E own now (val s.data.toList f kx up [] kx d m) wr)):=fun f kx m wr hf hkf L=>IH f hf B R T s E own now kx up [] kx d m wr L.rd L.tr (G.bel L.be) hR L.le hs L.wf L.wt L.ul (by rw[L.kd];decide) (fun e=>by rw[L.kd]at e;exact absurd e (by decide)) (by simp) hd (by have:=L.nn;have:=L.le;omega) hkf
 have HVO:Hd (∀f kx m j1 m1,kx<=s.size->WF m own->WT m->up<m.length->ag m up=1->val s.data.toList f kx up [] kx d m=.ok (j1,m1)->Ad m m1 own kx j1 s.size):=fun f kx m j1 m1 a1 a2 a3 a4 a5 a6=>by
  have:=(JJ s.data.toList own f).1 kx up [] kx d m j1 m1 (by omega) a2 a3 a4 (by rw[a5];decide) a6;rw[hl]at this;exact this
 have BM:Hd (∀kx j,kx<=s.size->gap s.data.toList (s.data.toList.length+1) kx=.ok j->kx<=j/\j<=s.size):=fun kx j a b=>by
  have:=BD s.data.toList _ kx j (by omega) b;omega
 have gU:Hd (∀kx,nx s.data.toList kx=44->kx<s.size):=fun kx a=>by
  have:=cZ (l:=s.data.toList) (i:=kx) (by rw[a];decide);omega
 have HST:Hd (∀f kx m,lst s.data.toList (f+1) kx up d m=_):=fun f kx m=>aaR s.data.toList f kx up d m
 obtain⟨S,hS⟩:=zN (lst s.data.toList F (i+1) up d ns);have HS:Hd (lst s.data.toList F (i+1) up d ns=S):=hS;rw[hS];obtain⟨-,r1,-,rf⟩:=h.cells;have rf1:=rf 1;have hset:Rd (w.setCell ⟨R,1,none⟩ (.int .i64 ((i:Int)+1))) R s (i+1) T:=h.set (i+1);have JV:Hd (Lk B R T s own now i up ns w (i+1) ns (w.setCell ⟨R,1,none⟩ (.int .i64 ((i:Int)+1)))):=⟨hset,htr.keepR h (jL w R 1 _),W,V,hu,h1,by omega,by omega,vN (Below.refl _ _) hR 1 _⟩;clear h htr G W V hu h1 hS rf hset IH;go_enter func169,ntmps169;go_wp2;go_loopw [] (fun wr=>∃(kx f:Nat) (m:List Tn),Lk B R T s own now i up ns w kx m wr/\2*(s.size-kx)+2<=f/\f<=F/\lst s.data.toList f kx up d m=S) (fun wr=>s.size-(match wr.cell? ⟨R,1,none⟩ with|some (.int _ k)=>k.toNat|_=>0))
 case atStart=>exact⟨i+1,F,ns,JV.o,by omega,Nat.le_refl _,HS.o⟩
 case round =>
  obtain⟨kx,f,m,hL,hf,hfF,JW⟩:=hrel;obtain⟨f,rfl⟩:∃f',f=f'+1:=⟨f-1,by omega⟩;rw[HST.o]at JW;have Gs:Hd (_=S):=JW;have HL:Hd (Lk B R T s own now i up ns w kx m wr):=hL;have C1:=CG.o kx m wr hL;have jB:Hd ((match wr.cell? ⟨R,1,none⟩ with|some (.int _ k)=>k.toNat|_=>0)=kx):=by show _=_;rw[hL.rd.cells.2.1];simp
  have aB:=BM.o kx;obtain⟨g0,hg0⟩:=zN (gap s.data.toList (s.data.toList.length+1) kx);rw[hg0]at C1 Gs aB;have BJ:Hd (Calls prog 206 #[.pointer (some ⟨R,0,none⟩)] wr (Gq B R T s E own now m g0 wr)):=C1;have uy:Hd (∀j,kx<=s.size->g0=.ok j->kx<=j/\j<=s.size):=aB;clear hL JW C1 aB hg0;go_wp2_with (go_at_call 206;refine BJ.o.mono ?_);rintro e w2 ⟨p1,p2,p3⟩
  cases g0 with
  | error ec =>
   obtain⟨ec1,ec2⟩:=ec;obtain⟨Fb,rfl,nK⟩:=p2 ec1 ec2 rfl;have fF:Hd (aF w2 (.iface 104 (.pointer (some ⟨Fb,0,none⟩))) E ec1 ec2):=nK;have aj:Hd (S=.error (ec1,ec2)):=Gs.o.symm;have dN:Hd (Below B w w2):=HL.o.be.trans p3;clear p1 p2 p3 nK;go_wp2;refine bodyPost_ret (results_tmp (t:=6) rfl _ _ _) rfl ?_;rw[aj.o];exact⟨fun j ns hh=>(by cases hh),fun c p hh=>(by cases hh;exact⟨_,rfl,fF.o⟩),dN.o⟩
  | ok j0 =>
   obtain⟨rfl,hr2,ht2⟩:=p1 j0 rfl;obtain⟨gj1,gj2⟩:=uy.o j0 HL.o.le rfl;have HL2:Hd (Lk B R T s own now i up ns w j0 m w2):=HL.o.to hr2 ht2 p3 gj1 gj2;have C2:Hd (Calls prog 74 #[.pointer (some ⟨R,0,none⟩)] w2 fun e w'=>e=.returned (.int .i64 (nx s.data.toList j0))/\w2.grownBy w' none):=CN.o j0 m w2 HL2.o;have zJ:=Gs.o;simp only[]at zJ;have qQ:=CT.o j0 m;have JX:=CV.o f j0 m;have JY:=HVO.o f j0 m;obtain⟨V0,hV0⟩:=zN (val s.data.toList f j0 up [] j0 d m);obtain⟨MU,iQ⟩:=zN (must s.data.toList j0 93);rw[iQ]at zJ qQ;rw[hV0]at zJ JX JY;obtain⟨x,hx⟩:=zN (nx s.data.toList j0);rw[hx]at C2 zJ;have oJ:Hd (_=S):=zJ;have uz:Hd (∀wr,Lk B R T s own now i up ns w j0 m wr->Calls prog 79 #[.pointer (some ⟨R,0,none⟩),.int .i64 93] wr (uw B R T s E own now m MU wr)):=qQ;have CV3:Hd (∀wr,Lk B R T s own now i up ns w j0 m wr->Calls prog 123 #[.pointer (some ⟨R,0,none⟩),.int .i64 (up:Nat),.agg #[.string ⟨#[]⟩,.int .i64 (j0:Nat)],.int .i64 (d:Nat)] wr (qO B R T s E own now V0 wr)):=fun wr L=>JX wr (by omega) (by omega) L
   have aaU:Hd (∀j1 m1,V0=.ok (j1,m1)->Ad m m1 own j0 j1 s.size):=fun j1 m1 e=>JY j1 m1 gj2 HL2.o.wf HL2.o.wt HL2.o.ul HL2.o.kd e
   clear p1 p2 p3 hr2 ht2 Gs zJ qQ JX JY hV0 iQ hx uy;go_wp2_with (go_at_call 74;refine C2.o.mono ?_);rintro e w3 ⟨rfl,hg3⟩;have yc:Hd (Lk B R T s own now i up ns w j0 m w3):=HL2.o.gb hg3;clear hg3
   by_cases c93:x=93
   ·have e93:(x == 93)=true:=by simp[c93]
    have yg:Hd ((match (generalizing:=false) MU with | .error e=>.error e | .ok q=>.ok (q,m))=S):=by
     have:=oJ.o;rw[if_pos c93]at this;exact this
    clear c93;go_wp2_with (go_at_call 79;refine(uz.o _ yc.o).mono ?_);rintro e w4 ⟨q1,q2,q3⟩
    cases MU with
    | error ec =>
     obtain⟨ec1,ec2⟩:=ec;obtain⟨Fb,rfl,nK⟩:=q2 ec1 ec2 rfl;have fF:Hd (aF w4 (.iface 104 (.pointer (some ⟨Fb,0,none⟩))) E ec1 ec2):=nK;have aj:Hd (S=.error (ec1,ec2)):=yg.o.symm;have dN:Hd (Below B w w4):=yc.o.be.trans q3;clear q1 q2 q3 nK;go_wp2;refine bodyPost_ret (results_tmp (t:=6) rfl _ _ _) rfl ?_;rw[aj.o];exact⟨fun j ns hh=>(by cases hh),fun c p hh=>(by cases hh;exact⟨_,rfl,fF.o⟩),dN.o⟩
    | ok jq =>
     obtain⟨rfl,hrq,BN⟩:=q1 jq rfl;have JZ:Hd (Rd w4 R s jq T):=hrq;have J5:Hd (Tr w4 B T m own now):=BN;have aj:Hd (S=.ok (jq,m)):=yg.o.symm;have dN:Hd (Below B w w4):=yc.o.be.trans q3;clear q1 q2 q3 hrq BN;go_wp2;refine bodyPost_ret (results_tmp (t:=6) rfl _ _ _) rfl ?_;rw[aj.o];exact⟨fun j ns hh=>(by cases hh;exact⟨rfl,JZ.o,J5.o⟩),fun c p hh=>(by cases hh),dN.o⟩
   ·have e93:(x == 93)=false:=by simp[c93]
    have J6:=oJ.o;rw[if_neg c93]at J6;have BO:Hd (_=S):=J6;clear J6;obtain⟨-,r1c,-,-⟩:=yc.o.rd.cells;clear c93 oJ;go_wp2_with (go_at_call 123;refine(CV3.o _ yc.o).mono ?_);intro e w4 hq
    cases V0 with
    | error ec =>
     obtain⟨ec1,ec2⟩:=ec;obtain⟨Fb,rfl,nK⟩:=aaS hq;have fF:Hd (aF w4 (.iface 104 (.pointer (some ⟨Fb,0,none⟩))) E ec1 ec2):=nK;have aj:Hd (S=.error (ec1,ec2)):=BO.o.symm;have dN:Hd (Below B w w4):=yc.o.be.trans hq.2.2;clear hq nK r1c;go_wp2;refine bodyPost_ret (results_tmp (t:=6) rfl _ _ _) rfl ?_;rw[aj.o];exact⟨fun j ns hh=>(by cases hh),fun c p hh=>(by cases hh;exact⟨_,rfl,fF.o⟩),dN.o⟩
    | ok jm =>
     obtain⟨j1,m1⟩:=jm;obtain⟨rfl,hr4,pK⟩:=hq.1 j1 m1 rfl;have A:=aaU.o j1 m1 rfl;have hA1:=A.fw;have hA2:=A.en;have Gt:Hd (Lk B R T s own now i up ns w j1 m1 w4):=yc.o.ad A hr4 pK hq.2.2;have C5:=CG.o j1 m1 w4 Gt.o;have lQ:=BM.o j1;have vP:=BO.o;simp only[]at vP;obtain⟨g1,hg1⟩:=zN (gap s.data.toList (s.data.toList.length+1) j1);rw[hg1]at C5 lQ vP;have uA:Hd (Calls prog 206 #[.pointer (some ⟨R,0,none⟩)] w4 (Gq B R T s E own now m1 g1 w4)):=C5;have RF:Hd (∀j,j1<=s.size->g1=.ok j->j1<=j/\j<=s.size):=lQ;have J7:Hd (_=S):=vP;clear C5 lQ vP hg1 hq hr4 pK A r1c BO;go_wp2_with (go_at_call 206;refine uA.o.mono ?_);rintro e w5 ⟨p1,p2,p3⟩
     cases g1 with
     | error ec =>
      obtain⟨ec1,ec2⟩:=ec;obtain⟨Fb,rfl,nK⟩:=p2 ec1 ec2 rfl;have fF:Hd (aF w5 (.iface 104 (.pointer (some ⟨Fb,0,none⟩))) E ec1 ec2):=nK;have aj:Hd (S=.error (ec1,ec2)):=J7.o.symm;have dN:Hd (Below B w w5):=Gt.o.be.trans p3;clear p1 p2 p3 nK;go_wp2;refine bodyPost_ret (results_tmp (t:=6) rfl _ _ _) rfl ?_;rw[aj.o];exact⟨fun j ns hh=>(by cases hh),fun c p hh=>(by cases hh;exact⟨_,rfl,fF.o⟩),dN.o⟩
     | ok j2 =>
      obtain⟨rfl,iE,vS⟩:=p1 j2 rfl;obtain⟨hj1,hj2⟩:=RF.o j2 Gt.o.le rfl;have RG:Hd (Lk B R T s own now i up ns w j2 m1 w5):=Gt.o.to iE vS p3 hj1 hj2;have C6:Hd (Calls prog 74 #[.pointer (some ⟨R,0,none⟩)] w5 fun e w'=>e=.returned (.int .i64 (nx s.data.toList j2))/\w5.grownBy w' none):=CN.o j2 m1 w5 RG.o;have BP:=J7.o;simp only[]at BP;have J8:=CT.o j2 m1;have RH:Hd (nx s.data.toList j2=44->j2<s.size):=gU.o j2;obtain⟨MU,iQ⟩:=zN (must s.data.toList j2 93);rw[iQ]at BP J8;obtain⟨y,hy⟩:=zN (nx s.data.toList j2);rw[hy]at C6 BP RH;have RI:Hd (_=S):=BP;have aaV:Hd (∀wr,Lk B R T s own now i up ns w j2 m1 wr->Calls prog 79 #[.pointer (some ⟨R,0,none⟩),.int .i64 93] wr (uw B R T s E own now m1 MU wr)):=J8;clear p1 p2 p3 iE vS BP J8 iQ hy J7 RF;go_wp2_with (go_at_call 74;refine C6.o.mono ?_)
      rintro e w6 ⟨rfl,bG⟩;have vU:Hd (Lk B R T s own now i up ns w j2 m1 w6):=RG.o.gb bG;clear bG
      by_cases c44:y=44
      ·have e44:(y != 44)=false:=by simp[c44]
       have hjl:=RH.o c44;have aaW:Hd (lst s.data.toList f (j2+1) up d m1=S):=by
        have:=RI.o;rw[if_pos c44]at this;exact this
       obtain⟨-,r16,-,rf6⟩:=vU.o.rd.cells;have rf61:=rf6 1;have RJ:Hd (Rd (w6.setCell ⟨R,1,none⟩ (.int .i64 ((j2:Int)+1))) R s (j2+1) T):=vU.o.rd.set (j2+1);have aaX:Hd (Lk B R T s own now i up ns w (j2+1) m1 (w6.setCell ⟨R,1,none⟩ (.int .i64 ((j2:Int)+1)))):=vU.o.to RJ.o (vU.o.tr.keepR vU.o.rd (jL w6 R 1 _)) (vN (Below.refl _ _) hR 1 _) (by omega) (by omega);clear c44 rf6;go_wp2;refine⟨⟨j2+1,f,m1,aaX.o,by omega,by omega,aaW.o⟩,?_⟩;rw[jB.o,RJ.o.cells.2.1];simp;omega
      ·have e44:(y != 44)=true:=by simp[c44]
       have yg:Hd ((match (generalizing:=false) MU with | .error e=>.error e | .ok q=>.ok (q,m1))=S):=by
        have:=RI.o;rw[if_neg c44]at this;exact this
       clear c44;go_wp2_with (go_at_call 79;refine(aaV.o _ vU.o).mono ?_);rintro e w7 ⟨q1,q2,q3⟩
       cases MU with
       | error ec =>
        obtain⟨ec1,ec2⟩:=ec;obtain⟨Fb,rfl,nK⟩:=q2 ec1 ec2 rfl;have fF:Hd (aF w7 (.iface 104 (.pointer (some ⟨Fb,0,none⟩))) E ec1 ec2):=nK;have aj:Hd (S=.error (ec1,ec2)):=yg.o.symm;have dN:Hd (Below B w w7):=vU.o.be.trans q3;clear q1 q2 q3 nK;go_wp2;refine bodyPost_ret (results_tmp (t:=6) rfl _ _ _) rfl ?_;rw[aj.o];exact⟨fun j ns hh=>(by cases hh),fun c p hh=>(by cases hh;exact⟨_,rfl,fF.o⟩),dN.o⟩
       | ok jq =>
        obtain⟨rfl,hrq,BN⟩:=q1 jq rfl;have JZ:Hd (Rd w7 R s jq T):=hrq;have J5:Hd (Tr w7 B T m1 own now):=BN;have aj:Hd (S=.ok (jq,m1)):=yg.o.symm;have dN:Hd (Below B w w7):=vU.o.be.trans q3;clear q1 q2 q3 hrq BN;go_wp2;refine bodyPost_ret (results_tmp (t:=6) rfl _ _ _) rfl ?_;rw[aj.o];exact⟨fun j ns hh=>(by cases hh;exact⟨rfl,JZ.o,J5.o⟩),fun c p hh=>(by cases hh),dN.o⟩
open Go.RowKit Go.Maps Go.WideMaps Go.Joins
theorem aaY(d:Nat)(h:d<=8):IntKind.i64.wrap ((d:Int)+1)=(d:Int)+1:=by
 rw[IntKind.wrap_i64];omega
theorem aaZ{B R T:Nat}{s:ByteArray}{E:Int->TypeId × Value}{own:List Nat}{now:Nat}{r:Rs (Nat × List Tn)}{w w' w'':World}{e:Ending}(hb:Below B w w')(h:qO B R T s E own now r w' e w''):∃v,e=.returned v/\Hd (qO B R T s E own now r w (.returned v) w''):=by
 cases r with
 | error ec =>
  obtain⟨c,p⟩:=ec;obtain⟨v,rfl,hv⟩:=h.2.1 c p rfl;exact⟨v,rfl,fun j ns hh=>(by cases hh),fun c p hh=>(by cases hh;exact⟨v,rfl,hv⟩),hb.trans h.2.2⟩
 | ok q =>
  obtain⟨j,ns⟩:=q;obtain⟨rfl,h1,h2⟩:=h.1 j ns rfl;exact⟨_,rfl,fun j ns hh=>(by cases hh;exact⟨rfl,h1,h2⟩),fun c p hh=>(by cases hh),hb.trans h.2.2⟩
theorem aa0(F:Nat)(IH:Rn F):BI (F+1):=by
 intro B R T s E own now i up k p d ns w h htr G hR hi hs W V hu h2 hfree hk hd hsz hF;have hB:B<=w.heap.size:=htr.base;have hl:s.data.toList.length=s.size:=by simp
 have CN:Hd (∀k w,Rd w R s k T->k<=s.size->Calls prog 74 #[.pointer (some ⟨R,0,none⟩)] w fun e w'=>e=.returned (.int .i64 (nx s.data.toList k))/\w.grownBy w' none):=fun k w h1 h2=>mr R s k T w h1 h2 (by omega)
 have CD:Hd (∀c w,Calls prog 120 #[.int .i64 c] w fun e w'=>e=.returned (.bool (ay c))/\w'=w):=Fj;have CA:Hd (∀(kd:Int) w',Tr w' B T ns own now->Calls prog 166 #[.pointer (some ⟨T,0,none⟩),.int .i64 (up:Nat),.int .i64 kd,.agg #[.string ⟨k.toArray⟩,.int .i64 (p:Nat)]] w' (qI B T ns own now up ⟨kd,k,[],0,[],p⟩ w')):=fun kd w' h'=>zg B T ns own now up kd k p w' h' W hu hfree (by omega) hk
 have CH:Hd (∀w',Below B w w'->Rd w' R s i T->Calls prog 125 #[.pointer (some ⟨R,0,none⟩)] w' fun e w''=>(∃v,e=.returned v/\aF w'' v E 2 i)/\w'.grownBy w'' none):=fun w' hb hr=>(uU R s i T (E 2).1 (E 2).2 w' hr (G.bel hb).es.te).mono fun e w'' h=>h
 have CW:Hd (∀w,Calls prog 165 #[.iface (E 4).1 (E 4).2,.int .i64 (i:Nat)] w fun e w'=>(∃v,e=.returned v/\aF w' v E 4 i)/\w.grownBy w' none):=fun w=>rZ i (E 4).1 (E 4).2 w
 have CQ:Hd (nx s.data.toList i=34->∀w',Below B w w'->Rd w' R s i T->Calls prog 163 #[.pointer (some ⟨R,0,none⟩)] w' (FT R s T E (str s.data.toList (s.data.toList.length+1) (i+1) []) w')):=fun hx w' hb hr=>QD R s i T E w' hr (by have:=cZ (l:=s.data.toList) (i:=i) (by rw[hx];decide);omega) (by omega) (G.bel hb).es (zF G.lo hR) (G.bel hb).tabs (by have:=G.t3;omega) (by have:=G.t4;omega)
 have CI:Hd ((nx s.data.toList i=43\/nx s.data.toList i=45\/ay (nx s.data.toList i)=true)->∀w',Below B w w'->Rd w' R s i T->Calls prog 167 #[.pointer (some ⟨R,0,none⟩)] w' (AZ R s T E (jR s.data.toList i) w')):=fun hx w' hb hr=>aaE R s i T E w' hr (by omega) (G.bel hb).es (zF G.lo hR) (by rcases hx with h|h|h;exact Or.inr (Or.inl h);exact Or.inr (Or.inr h);exact Or.inl h)
 have CT:Hd (∀w',Below B w w'->Rd w' R s i T->Calls prog 168 #[.pointer (some ⟨R,0,none⟩)] w' (AZ R s T E (mg s.data.toList i) w')):=fun w' hb hr=>Zu R s i T E w' hr hi (by omega) (G.bel hb).es (zF G.lo hR)
 have CL:Hd (nx s.data.toList i=91->¬d=8->∀w',Below B w w'->Rd w' R s i T->Tr w' B T (addN ns up ⟨1,k,[],0,[],p⟩) own now->Calls prog 169 #[.pointer (some ⟨R,0,none⟩),.int .i64 (ns.length:Nat),.int .i64 ((d+1:Nat):Int)] w' (qO B R T s E own now (lst s.data.toList F (i+1) ns.length (d+1) (addN ns up ⟨1,k,[],0,[],p⟩)) w')):=fun hx hd8 w' hb hr ht=>by
  have hlt:i<s.size:=by have:=cZ (l:=s.data.toList) (i:=i) (by rw[hx];decide);omega
  have A:=BF (i:=i) (j:=i+1) (n:=s.size) (x:=⟨1,k,[],0,[],p⟩) W V hu h2 rfl (fun e=>absurd (show(1:Int)=2 from e) (by decide)) (by omega) (by omega);exact IH B R T s E own now i ns.length (d+1) _ w' hr ht (G.bel hb) hR hlt hs A.wf A.wt (by rw[bV];omega) (by rw[eH ns up _ hu,if_pos rfl]) (by omega) (by rw[bV];omega) (by omega)
 have zK:Hd (∀w',Below B w w'->w'.cell? ⟨2,0,none⟩=some (.iface (E 4).1 (E 4).2)):=fun w' hb=>(G.bel hb).es.ma
 have RN:=x9 s.data.toList F i up k p d ns;have HV:Hd (val s.data.toList (F+1) i up k p d ns=_):=RN;obtain⟨S,hS⟩:=zN (val s.data.toList (F+1) i up k p d ns);rw[hS]at HV ⊢;obtain⟨SQ,BB⟩:=zN (str s.data.toList (s.data.toList.length+1) (i+1) []);obtain⟨SI,RP⟩:=zN (jR s.data.toList i);obtain⟨SU,RQ⟩:=zN (mg s.data.toList i);rw[BB]at CQ HV;rw[RP]at CI HV;rw[RQ]at CT HV;have gy:w.grownBy (w.alloc (.cells #[.string ⟨k.toArray⟩,.int .i64 (p:Nat)] 196)) none:=World.grownBy_alloc w _ none;have dZ:=heap_alloc_new w (.cells #[.string ⟨k.toArray⟩,.int .i64 (p:Nat)] 196);obtain⟨K,oI⟩:=zN (w.heap.size);rw[oI]at dZ;obtain⟨w1,hw1⟩:=zN (w.alloc (.cells #[.string ⟨k.toArray⟩,.int .i64 (p:Nat)] 196));rw[hw1]at gy dZ;have H1:Hd (Rd w1 R s i T):=h.grow gy;have C1:Hd (Calls prog 74 #[.pointer (some ⟨R,0,none⟩)] w1 fun e w'=>e=.returned (.int .i64 (nx s.data.toList i))/\w1.grownBy w' none):=CN.o i w1 H1.o hi
 obtain⟨x,hx⟩:=zN (nx s.data.toList i);rw[hx]at C1 HV CQ CI CL;have aB:Hd (w.grownBy w1 none):=gy;have kR:Hd (w1.heap[K]?=some (.cells #[.string ⟨k.toArray⟩,.int .i64 (p:Nat)] 196 (0,0))):=dZ;have mO:Hd (Tr w B T ns own now):=htr;clear RN hS BB RP RQ gy dZ hx h htr G W V h2 hfree IH;go_enter func123,ntmps123;go_wp2_with (go_at_call 74;refine C1.o.mono ?_);rintro e w2 ⟨rfl,hg2⟩;have HG2:Hd (w.grownBy w2 none):=af aB.o hg2;have HR2:Hd (Rd w2 R s i T):=H1.o.grow hg2;have eY:Hd (w2.heap[K]?=some (.cells #[.string ⟨k.toArray⟩,.int .i64 (p:Nat)] 196 (0,0))):=jl kR.o hg2;have HT2:Hd (Tr w2 B T ns own now):=mO.o.gb HG2.o;obtain⟨-,r1,r2,-⟩:=HR2.o.cells;obtain⟨k0,k1,-⟩:=gQ eY.o;clear hg2
 by_cases c34:x=34
 ·have aa1:(x == 34)=true:=by simp[c34]
  have RU:=CQ.o c34;have JD:Hd (∀w',Below B w w'->Rd w' R s i T->Calls prog 163 #[.pointer (some ⟨R,0,none⟩)] w' (FT R s T E SQ w')):=RU;have sO:Hd (S=match (generalizing:=false) SQ with | .error e=>.error e | .ok (t,j)=>.ok (j,addN ns up ⟨3,k,t,0,[],p⟩)):=(by show _=_;rw[HV.o,if_pos c34];try rfl);clear c34 RU HV CI CT CL;go_upto_region 3 with fail
  go_cut [10] from 24 (fun v wx=>v=.int .i64 (ns.length:Nat)/\Tr wx B T (addN ns up ⟨3,k,[],0,[],p⟩) own now/\Rd wx R s i T/\Below B w wx)
  case first =>
   go_region_with (first|(go_at_call 166;refine(CA.o 3 _ (HT2.o.gb (kP w2))).mono ?_;rintro e w3 ⟨rfl,ht3,hf3⟩))
   all_goals (
    go_wp2_with fail;go_meet;exact⟨rfl,ht3,Rd.fr (w:=w2.drew) HR2.o hf3,(kQ HG2.o hB).trans (Below.trans (kQ (kP w2) (Nat.le_trans hB HG2.o.size)) hf3.bel)⟩)
  case rest =>
   obtain⟨rfl,ht3,hr3,hb3⟩:=hcut;have HT3:Hd (Tr wc B T (addN ns up ⟨3,k,[],0,[],p⟩) own now):=ht3;have HB3:Hd (Below B w wc):=hb3;have HR3:Hd (Rd wc R s i T):=hr3;clear ht3 hr3 hb3 r1 r2 k0 k1;go_wp2_with (go_at_call 163;refine(JD.o _ HB3.o HR3.o).mono ?_);rintro e w4 ⟨p1,p2,p3⟩;have HT4:Hd (Tr w4 B T (addN ns up ⟨3,k,[],0,[],p⟩) own now):=HT3.o.keepR HR3.o p3;have HB4:Hd (Below B w w4):=HB3.o.trans (iP p3 hR HT3.o.base);obtain⟨N,cc,t0,⟨cs,hN⟩,hBN,n2,n3,s2,s3⟩:=HT4.o.last;have HN:Hd (w4.heap[N]?=some (.cells cs 90 (0,0))):=hN;have hnf:w4.frozen? ⟨N,ns.length*6+2,none⟩=false:=Lib.frozen_of_heap hN _;have BQ:Hd (∀t:List UInt8,Tr (w4.setCell ⟨N,ns.length*6+2,none⟩ (.string ⟨t.toArray⟩)) B T (addN ns up ⟨3,k,t,0,[],p⟩) own now):=s2;have hnl:ns.length<ns.length+1:=by omega
   cases SQ with
   | error ec =>
    obtain⟨ec1,ec2⟩:=ec;obtain⟨v,rfl,hv,jj,hjj⟩:=p2 ec1 ec2 rfl;obtain⟨-,-,hrr,-⟩:=hjj.cells;have aZ:Hd (aF w4 v E ec1 ec2):=hv;have aj:Hd (S=.error (ec1,ec2)):=sO.o;clear p1 p2 p3 hv hN s2 s3 hjj;go_wp2;refine bodyPost_ret (results_tmp (t:=8) rfl _ _ _) rfl ?_;rw[aj.o];exact⟨fun j ns hh=>(by cases hh),fun c p hh=>(by cases hh;exact⟨v,rfl,JR aZ.o HN.o⟩),vN HB4.o hBN _ _⟩
   | ok q =>
    obtain⟨tx,j⟩:=q;obtain⟨rfl,hr4⟩:=p1 tx j rfl;have HR4:Hd (Rd w4 R s j T):=hr4;obtain⟨-,-,hrr,-⟩:=hr4.cells;have aj:Hd (S=.ok (j,addN ns up ⟨3,k,tx,0,[],p⟩)):=sO.o;clear p1 p2 p3 hr4 hN s2 s3;go_wp2;refine bodyPost_ret (results_tmp (t:=8) rfl _ _ _) rfl ?_;rw[aj.o];exact⟨fun j ns hh=>(by cases hh;exact⟨rfl,HR4.o.node HN.o,BQ.o tx⟩),fun c p hh=>(by cases hh),vN HB4.o hBN _ _⟩
 ·have aa1:(x == 34)=false:=by simp[c34]
  have kM:Hd (S=if x=43\/x=45\/ay x=true then(match (generalizing:=false) SI with | .error e=>.error e | .ok (n,j)=>.ok (j,addN ns up ⟨4,k,[],n,[],p⟩)) else if x=116\/x=102 then(match (generalizing:=false) SU with | .error e=>.error e | .ok (n,j)=>.ok (j,addN ns up ⟨5,k,[],n,[],p⟩)) else if x=91 then(if d=8 then .error (4,i) else lst s.data.toList F (i+1) ns.length (d+1) (addN ns up ⟨1,k,[],0,[],p⟩)) else .error (2,i)):=(by show _=_;rw[HV.o,if_neg c34];try rfl);clear c34 HV CQ;obtain⟨bI,RX⟩:=zN (decide (x=43\/x=45\/ay x=true));have zL:Hd (decide (x=43\/x=45\/ay x=true)=bI):=RX;clear RX;go_upto_region 7 with fail
  go_cut [48] from 49 (fun v wx=>v=.bool bI/\wx=w2)
  case first =>
   by_cases a1:x=43
   ·have e1:(x == 43)=true:=by simp[a1]
    have e2:bI=true:=by rw[<-zL.o];simp[a1]
    subst e2;clear a1;go_wp2;go_meet;exact⟨rfl,rfl⟩
   ·have e1:(x == 43)=false:=by simp[a1]
    by_cases a2:x=45
    ·have e3:(x == 45)=true:=by simp[a2]
     have e2:bI=true:=by rw[<-zL.o];simp[a2]
     subst e2;clear a1 a2;go_wp2;go_meet;exact⟨rfl,rfl⟩
    ·have e3:(x == 45)=false:=by simp[a2]
     have Bg:Hd (∀w,Calls prog 120 #[.int .i64 x] w fun e w'=>e=.returned (.bool (ay x))/\w'=w):=fun w=>CD.o x w
     have e2:ay x=bI:=by rw[<-zL.o];simp[a1,a2]
     rw[e2]at Bg;clear a1 a2 e2;go_wp2_with (go_at_call 120;refine(Bg.o _).mono ?_;rintro e w' ⟨rfl,rfl⟩);go_meet;exact⟨rfl,rfl⟩
  case rest =>
   obtain⟨rfl,rfl⟩:=hcut;obtain⟨w2,hw2⟩:∃w2,w2=wc:=⟨_,rfl⟩;subst hw2
   cases bI with
   | true =>
    have hI:=of_decide_eq_true zL.o;have CI2:Hd (∀w',Below B w w'->Rd w' R s i T->Calls prog 167 #[.pointer (some ⟨R,0,none⟩)] w' (AZ R s T E SI w')):=CI.o hI;have sO:Hd (S=match (generalizing:=false) SI with | .error e=>.error e | .ok (n,j)=>.ok (j,addN ns up ⟨4,k,[],n,[],p⟩)):=(by show _=_;rw[kM.o,if_pos hI];try rfl);clear hI CI CT CL kM;go_upto_region 8 with fail
    go_cut [13] from 59 (fun v wx=>v=.int .i64 (ns.length:Nat)/\Tr wx B T (addN ns up ⟨4,k,[],0,[],p⟩) own now/\Rd wx R s i T/\Below B w wx)
    case first =>
     go_region_with (first|(go_at_call 166;refine(CA.o 4 _ (HT2.o.gb (kP w2))).mono ?_;rintro e w3 ⟨rfl,ht3,hf3⟩))
     all_goals (
      go_wp2_with fail;go_meet;exact⟨rfl,ht3,Rd.fr (w:=w2.drew) HR2.o hf3,(kQ HG2.o hB).trans (Below.trans (kQ (kP w2) (Nat.le_trans hB HG2.o.size)) hf3.bel)⟩)
    case rest =>
     obtain⟨rfl,ht3,hr3,hb3⟩:=hcut;have HT3:Hd (Tr wc B T (addN ns up ⟨4,k,[],0,[],p⟩) own now):=ht3;have HB3:Hd (Below B w wc):=hb3;have HR3:Hd (Rd wc R s i T):=hr3;clear ht3 hr3 hb3 r1 r2 k0 k1;go_wp2_with (go_at_call 167;refine(CI2.o _ HB3.o HR3.o).mono ?_);rintro e w4 ⟨p1,p2,p3⟩;have HT4:Hd (Tr w4 B T (addN ns up ⟨4,k,[],0,[],p⟩) own now):=HT3.o.keepR HR3.o p3;have HB4:Hd (Below B w w4):=HB3.o.trans (iP p3 hR HT3.o.base);obtain⟨N,cc,t0,⟨cs,hN⟩,hBN,n2,n3,s2,s3⟩:=HT4.o.last;have HN:Hd (w4.heap[N]?=some (.cells cs 90 (0,0))):=hN;have hnf:w4.frozen? ⟨N,ns.length*6+3,none⟩=false:=Lib.frozen_of_heap hN _;have BQ:Hd (∀t:Int,Tr (w4.setCell ⟨N,ns.length*6+3,none⟩ (.int .i64 t)) B T (addN ns up ⟨4,k,[],t,[],p⟩) own now):=s3;have hnl:ns.length<ns.length+1:=by omega
     cases SI with
     | error ec =>
      obtain⟨ec1,ec2⟩:=ec;obtain⟨v,rfl,hv,jj,hjj⟩:=p2 ec1 ec2 rfl;obtain⟨-,-,hrr,-⟩:=hjj.cells;have aZ:Hd (aF w4 v E ec1 ec2):=hv;have aj:Hd (S=.error (ec1,ec2)):=sO.o;clear p1 p2 p3 hv hN s2 s3 hjj;go_wp2;refine bodyPost_ret (results_tmp (t:=8) rfl _ _ _) rfl ?_;rw[aj.o];exact⟨fun j ns hh=>(by cases hh),fun c p hh=>(by cases hh;exact⟨v,rfl,JR aZ.o HN.o⟩),vN HB4.o hBN _ _⟩
     | ok q =>
      obtain⟨tx,j⟩:=q;obtain⟨rfl,hr4⟩:=p1 tx j rfl;have HR4:Hd (Rd w4 R s j T):=hr4;obtain⟨-,-,hrr,-⟩:=hr4.cells;have aj:Hd (S=.ok (j,addN ns up ⟨4,k,[],tx,[],p⟩)):=sO.o;clear p1 p2 p3 hr4 hN s2 s3;go_wp2;refine bodyPost_ret (results_tmp (t:=8) rfl _ _ _) rfl ?_;rw[aj.o];exact⟨fun j ns hh=>(by cases hh;exact⟨rfl,HR4.o.node HN.o,BQ.o tx⟩),fun c p hh=>(by cases hh),vN HB4.o hBN _ _⟩
   | false =>
    have hI:=of_decide_eq_false zL.o;have pO:Hd (S=if x=116\/x=102 then(match (generalizing:=false) SU with | .error e=>.error e | .ok (n,j)=>.ok (j,addN ns up ⟨5,k,[],n,[],p⟩)) else if x=91 then(if d=8 then .error (4,i) else lst s.data.toList F (i+1) ns.length (d+1) (addN ns up ⟨1,k,[],0,[],p⟩)) else .error (2,i)):=(by show _=_;rw[kM.o,if_neg hI];try rfl);clear hI kM CI zL;obtain⟨bU,RY⟩:=zN (decide (x=116\/x=102));have BR:Hd (decide (x=116\/x=102)=bU):=RY;clear RY;go_upto_region 12 with fail
    go_cut [83] from 84 (fun v wx=>v=.bool bU/\wx=w2)
    case first =>
     by_cases a1:x=116
     ·have e1:(x == 116)=true:=by simp[a1]
      have e2:bU=true:=by rw[<-BR.o];simp[a1]
      subst e2;clear a1;go_wp2;go_meet;exact⟨rfl,rfl⟩
     ·have e1:(x == 116)=false:=by simp[a1]
      have e2:(x == 102)=bU:=by rw[<-BR.o];by_cases h:x=102<;>simp[a1,h]
      clear a1;go_wp2;go_meet;exact⟨rfl,rfl⟩
    case rest =>
     obtain⟨rfl,rfl⟩:=hcut;obtain⟨w2,hw2⟩:∃w2,w2=wc:=⟨_,rfl⟩;subst hw2
     cases bU with
     | true =>
      have hU:=of_decide_eq_true BR.o;have sO:Hd (S=match (generalizing:=false) SU with | .error e=>.error e | .ok (n,j)=>.ok (j,addN ns up ⟨5,k,[],n,[],p⟩)):=(by show _=_;rw[pO.o,if_pos hU];try rfl);clear hU CL pO;go_upto_region 13 with fail
      go_cut [16] from 90 (fun v wx=>v=.int .i64 (ns.length:Nat)/\Tr wx B T (addN ns up ⟨5,k,[],0,[],p⟩) own now/\Rd wx R s i T/\Below B w wx)
      case first =>
       go_region_with (first|(go_at_call 166;refine(CA.o 5 _ (HT2.o.gb (kP w2))).mono ?_;rintro e w3 ⟨rfl,ht3,hf3⟩))
       all_goals (
        go_wp2_with fail;go_meet;exact⟨rfl,ht3,Rd.fr (w:=w2.drew) HR2.o hf3,(kQ HG2.o hB).trans (Below.trans (kQ (kP w2) (Nat.le_trans hB HG2.o.size)) hf3.bel)⟩)
      case rest =>
       obtain⟨rfl,ht3,hr3,hb3⟩:=hcut;have HT3:Hd (Tr wc B T (addN ns up ⟨5,k,[],0,[],p⟩) own now):=ht3;have HB3:Hd (Below B w wc):=hb3;have HR3:Hd (Rd wc R s i T):=hr3;clear ht3 hr3 hb3 r1 r2 k0 k1;go_wp2_with (go_at_call 168;refine(CT.o _ HB3.o HR3.o).mono ?_);rintro e w4 ⟨p1,p2,p3⟩;have HT4:Hd (Tr w4 B T (addN ns up ⟨5,k,[],0,[],p⟩) own now):=HT3.o.keepR HR3.o p3;have HB4:Hd (Below B w w4):=HB3.o.trans (iP p3 hR HT3.o.base);obtain⟨N,cc,t0,⟨cs,hN⟩,hBN,n2,n3,s2,s3⟩:=HT4.o.last;have HN:Hd (w4.heap[N]?=some (.cells cs 90 (0,0))):=hN;have hnf:w4.frozen? ⟨N,ns.length*6+3,none⟩=false:=Lib.frozen_of_heap hN _;have BQ:Hd (∀t:Int,Tr (w4.setCell ⟨N,ns.length*6+3,none⟩ (.int .i64 t)) B T (addN ns up ⟨5,k,[],t,[],p⟩) own now):=s3;have hnl:ns.length<ns.length+1:=by omega
       cases SU with
       | error ec =>
        obtain⟨ec1,ec2⟩:=ec;obtain⟨v,rfl,hv,jj,hjj⟩:=p2 ec1 ec2 rfl;obtain⟨-,-,hrr,-⟩:=hjj.cells;have aZ:Hd (aF w4 v E ec1 ec2):=hv;have aj:Hd (S=.error (ec1,ec2)):=sO.o;clear p1 p2 p3 hv hN s2 s3 hjj;go_wp2;refine bodyPost_ret (results_tmp (t:=8) rfl _ _ _) rfl ?_;rw[aj.o];exact⟨fun j ns hh=>(by cases hh),fun c p hh=>(by cases hh;exact⟨v,rfl,JR aZ.o HN.o⟩),vN HB4.o hBN _ _⟩
       | ok q =>
        obtain⟨tx,j⟩:=q;obtain⟨rfl,hr4⟩:=p1 tx j rfl;have HR4:Hd (Rd w4 R s j T):=hr4;obtain⟨-,-,hrr,-⟩:=hr4.cells;have aj:Hd (S=.ok (j,addN ns up ⟨5,k,[],tx,[],p⟩)):=sO.o;clear p1 p2 p3 hr4 hN s2 s3;go_wp2;refine bodyPost_ret (results_tmp (t:=8) rfl _ _ _) rfl ?_;rw[aj.o];exact⟨fun j ns hh=>(by cases hh;exact⟨rfl,HR4.o.node HN.o,BQ.o tx⟩),fun c p hh=>(by cases hh),vN HB4.o hBN _ _⟩
     | false =>
      have hU:=of_decide_eq_false BR.o;have ja:Hd (S=if x=91 then(if d=8 then .error (4,i) else lst s.data.toList F (i+1) ns.length (d+1) (addN ns up ⟨1,k,[],0,[],p⟩)) else .error (2,i)):=(by show _=_;rw[pO.o,if_neg hU];try rfl);clear hU pO CT BR;have HB2:Hd (Below B w w2):=kQ HG2.o hB
      by_cases c91:x=91
      ·have e91:(x == 91)=true:=by simp[c91]
       by_cases d8:d=8
       ·have e8:((d:Int) == 8)=true:=by simp[d8]
        have aj:Hd (S=.error (4,i)):=by show _=_;rw[ja.o,if_pos c91,if_pos d8]
        have hma:=zK.o w2 HB2.o;have J9:=CW.o;obtain⟨ty,hty⟩:=zN ((E 4).1);obtain⟨pv,hpv⟩:=zN ((E 4).2);rw[hty,hpv]at hma J9;have mQ:Hd (∀w,Calls prog 165 #[.iface ty pv,.int .i64 (i:Nat)] w fun e w'=>(∃v,e=.returned v/\aF w' v E 4 i)/\w.grownBy w' none):=J9;clear J9 CW zK hty hpv c91 d8 CL ja;go_wp2;go_region_with (first|(go_at_call 165;refine(mQ.o _).mono ?_;rintro e w5 ⟨⟨v,rfl,hv⟩,hg5⟩))
        all_goals (
         go_wp2;refine bodyPost_ret (results_tmp (t:=8) rfl _ _ _) rfl ?_;rw[aj.o];exact⟨fun j ns hh=>(by cases hh),fun c p hh=>(by cases hh;exact⟨v,rfl,hv⟩),HB2.o.trans ((kQ (kP w2) (Nat.le_trans hB HG2.o.size)).trans (kQ hg5 (Nat.le_trans hB HG2.o.size)))⟩)
       ·have e8:((d:Int) == 8)=false:=by rw[beq_eq_false_iff_ne];omega
        have aj:Hd (S=lst s.data.toList F (i+1) ns.length (d+1) (addN ns up ⟨1,k,[],0,[],p⟩)):=by show _=_;rw[ja.o,if_pos c91,if_neg d8]
        have qN:=CL.o c91 d8;obtain⟨SL,zM⟩:=zN (lst s.data.toList F (i+1) ns.length (d+1) (addN ns up ⟨1,k,[],0,[],p⟩));rw[zM]at aj qN;have Gu:Hd (∀w',Below B w w'->Rd w' R s i T->Tr w' B T (addN ns up ⟨1,k,[],0,[],p⟩) own now->Calls prog 169 #[.pointer (some ⟨R,0,none⟩),.int .i64 (ns.length:Nat),.int .i64 ((d:Int)+1)] w' (qO B R T s E own now SL w')):=qN;clear qN CL ja c91 d8 zM;have gV:Hd (w2.grownBy w2.drew none):=kP w2;have RZ:Hd (Tr w2.drew B T ns own now):=HT2.o.gb gV.o;have bH:Hd (Rd w2.drew R s i T):=HR2.o;have zl:Hd (Below B w w2.drew):=HB2.o.trans (kQ gV.o (Nat.le_trans hB HG2.o.size));have vG:Hd (Calls prog 166 #[.pointer (some ⟨T,0,none⟩),.int .i64 (up:Nat),.int .i64 1,.agg #[.string ⟨k.toArray⟩,.int .i64 (p:Nat)]] w2.drew fun e w'=>e=.returned (.int .i64 (ns.length:Nat))/\Hd (Tr w' B T (addN ns up ⟨1,k,[],0,[],p⟩) own now/\Rd w' R s i T/\Below B w w')):=(CA.o 1 _ RZ.o).mono fun e w' ⟨a,b,c⟩=>⟨a,b,bH.o.fr c,zl.o.trans c.bel⟩
        have CL3:Hd (∀w',Hd (Tr w' B T (addN ns up ⟨1,k,[],0,[],p⟩) own now/\Rd w' R s i T/\Below B w w')->Calls prog 169 #[.pointer (some ⟨R,0,none⟩),.int .i64 (ns.length:Nat),.int .i64 (IntKind.i64.wrap ((d:Int)+1))] w' fun e w''=>∃v,e=.returned v/\Hd (qO B R T s E own now SL w (.returned v) w'')):=fun w' hh=>by
         have hwd:IntKind.i64.wrap ((d:Int)+1)=(d:Int)+1:=aaY d hd;rw[hwd];exact(Gu.o w' hh.o.2.2 hh.o.2.1 hh.o.1).mono fun e w'' hq=>aaZ hh.o.2.2 hq
        clear CA Gu CN CD CH CW zK gV RZ bH zl HT2 HR2 HG2 HB2 aB kR mO eY H1 C1;go_wp2;go_region_with (first|(go_at_call 166;refine vG.o.mono ?_;rintro e w3 ⟨rfl,h3⟩)|(go_at_call 169;refine(CL3.o _ h3).mono ?_;rintro e w5 ⟨v,rfl,hv⟩))
        all_goals (
         go_wp2;refine bodyPost_ret (results_tmp (t:=8) rfl _ _ _) rfl ?_;rw[aj.o];exact hv.o)
      ·have e91:(x == 91)=false:=by simp[c91]
       have aj:Hd (S=.error (2,i)):=by show _=_;rw[ja.o,if_neg c91]
       clear c91 CL ja;go_wp2_with (go_at_call 125;refine(CH.o _ HB2.o HR2.o).mono ?_;rintro e w5 ⟨⟨v,rfl,hv⟩,hg5⟩);refine bodyPost_ret (results_tmp (t:=8) rfl _ _ _) rfl ?_;rw[aj.o];exact⟨fun j ns hh=>(by cases hh),fun c p hh=>(by cases hh;exact⟨v,rfl,hv⟩),HB2.o.trans (kQ hg5 (Nat.le_trans hB HG2.o.size))⟩
theorem aa2:BI 0:=by
 intro B R T s E own now i up k p d ns w _ _ _ _ _ _ _ _ _ _ _ _ _ _ hF;omega
theorem Ko:∀F:Nat,∀f,f<=F->BI f
 | 0,f,h=>by
  have:f=0:=by omega
  subst this;exact aa2
 | F+1,f,h=>by
  by_cases he:f<=F
  ·exact Ko F f he
  ·have:f=F+1:=by omega
   subst this;exact aa0 F (aaT F fun f hf=>Ko F f (by omega))
theorem aa3(f:Nat):BI f:=Ko f f (Nat.le_refl _)
end Go.Proofs.YtmkjelchiacogaaGreatDoor
