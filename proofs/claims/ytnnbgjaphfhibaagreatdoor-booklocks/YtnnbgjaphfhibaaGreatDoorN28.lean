import Derived.Test.YtnnbgjaphfhibaaGreatDoorN19
set_option linter.unusedVariables false
set_option linter.unusedSimpArgs false
set_option maxRecDepth 100000
set_option maxHeartbeats 6400000
open Go.Proofs.Tryz
namespace Go.Proofs.YtnnbgjaphfhibaaGreatDoor
open Go.RowKit Go.Maps Go.WideMaps Go.Joins
def lw(l:List (List UInt8 × Nat)):List Value:=l.flatMap fun x=>[.string ⟨x.1.toArray⟩,.int .i64 (x.2:Nat)]
theorem Un:∀(l:List (List UInt8 × Nat)) (i:Nat) (hi:i<l.length),(lw l)[i*2]?=some (.string ⟨l[i].1.toArray⟩)/\(lw l)[i*2+1]?=some (.int .i64 (l[i].2:Nat))
 | a :: r,0,_=>⟨rfl,rfl⟩
 | a :: r,i+1,hi=>by
  have:=Un r i (by simpa using hi);have e:lw (a :: r)=.string ⟨a.1.toArray⟩ :: .int .i64 (a.2:Nat) :: lw r:=rfl;rw[e,show(i+1)*2=i*2+1+1 by omega];exact this
theorem abB(l:List (List UInt8 × Nat))(x:List UInt8 × Nat):lw (l++[x])=lw l++[.string ⟨x.1.toArray⟩,.int .i64 (x.2:Nat)]:=by
 unfold lw;rw[List.flatMap_append];rfl
theorem abC{w:World}{B g c n:Nat}{l:List (List UInt8 × Nat)}(h:w.ownsRow B 213 2 (.slice (some ⟨g,0,none⟩) n c) n (lw l))(hn:l.length=n):KyR w g l/\n<=c:=by
 rcases h.2 with⟨h1,-⟩|⟨g',cap,cur,h1,-,h3,h4,-,h6,h7⟩
 ·cases h1
 ·cases h1
  refine⟨⟨cur,h3,fun i hi=>?_⟩,h4⟩;obtain⟨a,b⟩:=Un l i hi;rw[<-h7]at a b;rw[List.getElem?_take_of_lt (by omega),Array.getElem?_toList]at a b;exact⟨a,b⟩
theorem abD:(prog.info? 213).map (fun i=>(i.zero,i.size,i.bytes))=some (some (.agg #[.string ⟨#[]⟩,.int .i64 0]),2,24):=by kernel_rfl
theorem BV(l:List UInt8)(f i:Nat)(acc:List (List UInt8 × Nat)):fF l (f+1) i acc=match bW l (bl l i) with | .error e=>.error e | .ok (k,j)=>if nx l (bl l j)=46 then fF l f (bl l j+1) (acc++[(k,bl l i)]) else .ok (acc++[(k,bl l i)],bl l j):=rfl
theorem LW{w W w3:World}{r q:Option Nat}(h:w.grownBy W r)(hg:W.grownBy w3 q)(hq:∀b,q=some b->w.heap.size<=b):w.grownBy w3 r :=
 ⟨hg.os.trans h.os,hg.tape.trans h.tape,hg.output.trans h.output,Nat.le_trans h.size hg.size,fun k hk hn=>(hg.block k (Nat.lt_of_lt_of_le hk h.size) (fun e=>by have:=hq k e.symm;omega)).trans (h.block k hk hn)⟩
def GR(R:Nat)(s:ByteArray)(T:Nat)(E:Int->TypeId × Value)(g:Rs (List (List UInt8 × Nat) × Nat))(w:World)(e:Ending)(w':World):Prop :=
 (∀l j,g=.ok (l,j)->∃b c,e=.returned (.tuple #[.slice (some ⟨b,0,none⟩) l.length c,.nilIface])/\KyR w' b l/\l.length<=c/\Rd w' R s j T)/\(∀c p,g=.error (c,p)->∃F,e=.returned (.tuple #[.slice none 0 0,.iface 130 (.pointer (some ⟨F,0,none⟩))])/\aS w' (.iface 130 (.pointer (some ⟨F,0,none⟩))) E c p)/\w.grownBy w' (some R)
theorem abE(x:List UInt8 × Nat):∀u∈([.string ⟨x.1.toArray⟩,.int .i64 (x.2:Nat)]:List Value),u.oneCell'=true:=by
 intro u hu;simp only[List.mem_cons,List.not_mem_nil,or_false]at hu
 rcases hu with rfl|rfl<;>rfl
theorem abG(R:Nat)(s:ByteArray)(i T B:Nat)(E:Int->TypeId × Value)(w:World)(h:Rd w R s i T)(hi:i<=s.size)(hs:s.size<=100000)(G:Gl w B E)(hR:B<=R)(hBw:B<=w.heap.size) :
  Calls prog 148 #[.pointer (some ⟨R,0,none⟩)] w (GR R s T E (fF s.data.toList (s.data.toList.length+1) i []) w):=by
 have CN:Hd (∀k w,Rd w R s k T->k<=s.size->Calls prog 104 #[.pointer (some ⟨R,0,none⟩)] w fun e w'=>e=.returned (.int .i64 (nx s.data.toList k))/\w.grownBy w' none):=fun k w h1 h2=>l7 R s k T w h1 h2 (by omega)
 have CS:Hd (∀k w,Rd w R s k T->k<=s.size->Calls prog 103 #[.pointer (some ⟨R,0,none⟩)] w fun e w'=>e=.returned (.tuple #[])/\Rd w' R s (bl s.data.toList k) T/\w.grownBy w' (some R)):=fun k w h1 h2=>Eu R s k T w h1 h2 (by omega)
 have CK:Hd (∀k w',Rd w' R s k T->k<=s.size->w.grownBy w' (some R)->Calls prog 152 #[.pointer (some ⟨R,0,none⟩)] w' (FV R s T E k (bW s.data.toList k) w')):=fun k w' h1 h2 hg=>RG R s k T B E w' h1 h2 (by omega) (G.gb hg hR hBw) hR (Nat.le_trans hBw hg.size)
 have hl:s.data.toList.length=s.size:=by simp
 have fP:Hd (∀k,k<=s.size->k<=bl s.data.toList k/\bl s.data.toList k<=s.size):=fun k hk=>by rw[<-hl];exact jA _ k (by omega)
 have jD:Hd (∀k x j,k<=s.size->bW s.data.toList k=.ok (x,j)->k<j/\j<=s.size):=fun k x j a b=>by
  have:=uZ s.data.toList k x j (by omega) b;omega
 have cZ:Hd (∀k,nx s.data.toList k=46->k<s.size):=fun k a=>by
  have:=bu (l:=s.data.toList) (i:=k) (by rw[a];decide);omega
 obtain⟨i0,hi0,hii⟩:=Option.map_eq_some_iff.1 abD;simp only[Prod.mk.injEq]at hii;obtain⟨hz0,hz1,hzb⟩:=hii;obtain⟨S,hS⟩:=zN (fF s.data.toList (s.data.toList.length+1) i []);have HS:Hd (fF s.data.toList (s.data.toList.length+1) i []=S):=hS;rw[hS];have H0:Hd (Rd w R s i T):=h;clear h G hS;go_enter func148,ntmps148;go_wp2;go_loopw [2,3,4] (fun v2 v3 v4 wr=>v2=.slice none 0 0/\v3=.nilIface/\∃(kx f:Nat) (acc:List (List UInt8 × Nat)),Rd wr R s kx T/\kx<=s.size/\wr.ownsRow w.heap.size 213 2 v4 acc.length (lw acc)/\w.grownBy wr (some R)/\s.size-kx<f/\fF s.data.toList f kx acc=S/\acc.length<=kx) (fun _ _ _ wr=>s.size-(match wr.cell? ⟨R,1,none⟩ with|some (.int _ k)=>k.toNat|_=>0))
 case atStart=>exact⟨rfl,rfl,i,s.data.toList.length+1,[],H0.o,hi,World.ownsRow_nil _ _ _ _,ak _ _,by omega,HS.o,by simp⟩
 case round =>
  obtain⟨rfl,rfl,kx,f,acc,hrd,hk,hown,hg,hf,hhd,hac⟩:=hrel;obtain⟨f,rfl⟩:∃f',f=f'+1:=⟨f-1,by omega⟩;rw[BV]at hhd;have kJ:Hd (Rd wr R s kx T):=hrd;have jI:Hd (w.grownBy wr (some R)):=hg;have HOW:Hd (wr.ownsRow w.heap.size 213 2 u4 acc.length (lw acc)):=hown;have gI:Hd ((match wr.cell? ⟨R,1,none⟩ with|some (.int _ k)=>k.toNat|_=>0)=kx):=by show _=_;rw[hrd.cells.2.1];simp
  have C1:=CS.o kx wr hrd hk;obtain⟨b1,b2⟩:=fP.o kx hk;obtain⟨j0,hj0⟩:=zN (bl s.data.toList kx);rw[hj0]at C1 hhd b1 b2;have xQ:Hd (Calls prog 103 #[.pointer (some ⟨R,0,none⟩)] wr fun e w'=>e=.returned (.tuple #[])/\Rd w' R s j0 T/\wr.grownBy w' (some R)):=C1;have xK:=jD.o j0;have LY:=CK.o j0;obtain⟨KR,kz⟩:=zN (bW s.data.toList j0);rw[kz]at xK LY hhd;have uw:Hd (_=S):=hhd;have abH:Hd (∀x j,j0<=s.size->KR=.ok (x,j)->j0<j/\j<=s.size):=xK;have abI:Hd (∀w',Rd w' R s j0 T->j0<=s.size->w.grownBy w' (some R)->Calls prog 152 #[.pointer (some ⟨R,0,none⟩)] w' (FV R s T E j0 KR w')):=LY;clear hrd hown hg hhd C1 xK LY hj0 kz;go_wp2_with (first|(go_at_call 103;refine xQ.o.mono ?_));rintro e w2 ⟨rfl,hr2,hg2⟩;have HR2:Hd (Rd w2 R s j0 T):=hr2;have HG2:Hd (w.grownBy w2 (some R)):=dH jI.o hg2;have abJ:Hd (w2.ownsRow w.heap.size 213 2 u4 acc.length (lw acc)):=bK HOW.o fun g' cur' hh hc=>hg2.block g' (aA hc) (by simp only[ne_eq,Option.some.injEq];exact aP hc kJ.o (by decide))
  clear hr2 hg2;go_wp2_with (go_at_call 152;refine(abI.o _ HR2.o b2 HG2.o).mono ?_);rintro e w3 ⟨p1,p2,p3⟩;have aO:Hd (w.grownBy w3 (some R)):=dH HG2.o p3
  cases KR with
  | error ec =>
   obtain⟨ec1,ec2⟩:=ec;obtain⟨ka,kb,v,rfl,F,rfl,hF⟩:=p2 ec1 ec2 rfl;have dS:Hd (aS w3 (.iface 130 (.pointer (some ⟨F,0,none⟩))) E ec1 ec2):=⟨F,rfl,hF⟩;have az:Hd (S=.error (ec1,ec2)):=uw.o.symm;clear p1 p2 p3 hF;have dO:Hd (w.grownBy (w3.alloc (.cells #[.string ka,.int .i64 kb] 213)) (some R)):=aF aO.o (World.grownBy_alloc _ _ none);have bH:Hd (aS (w3.alloc (.cells #[.string ka,.int .i64 kb] 213)) (.iface 130 (.pointer (some ⟨F,0,none⟩))) E ec1 ec2):=FaultV.grow dS.o (World.grownBy_alloc _ _ none);go_wp2;refine bodyPost_ret (results_tmp2 (t:=2) (u:=3) rfl _ _ _) rfl ?_;rw[az.o];exact⟨fun l j hh=>(by cases hh),fun c p hh=>(by cases hh;exact⟨F,rfl,bH.o⟩),dO.o⟩
  | ok q =>
   obtain⟨kk,j⟩:=q;obtain⟨rfl,hr3⟩:=p1 kk j rfl;obtain⟨k1,k2⟩:=abH.o kk j b2 rfl;have hown3:w3.ownsRow w.heap.size 213 2 u4 acc.length (lw acc):=bK abJ.o fun g' cur' hh hc=>p3.block g' (aA hc) (by simp only[ne_eq,Option.some.injEq];exact aP hc HR2.o (by decide))
   have HR3:Hd (Rd w3 R s j T):=hr3;have hnb:=heap_alloc_new (w3.alloc (.cells #[.string ⟨kk.toArray⟩,.int .i64 (j0:Nat)] 213)) (.cells #[.string ⟨kk.toArray⟩,.int .i64 (j0:Nat)] 213);rw[World.size_alloc]at hnb;have IZ:Hd (((w3.alloc (.cells #[.string ⟨kk.toArray⟩,.int .i64 (j0:Nat)] 213)).alloc (.cells #[.string ⟨kk.toArray⟩,.int .i64 (j0:Nat)] 213)).heap[w3.heap.size+1]?=some (.cells #[.string ⟨kk.toArray⟩,.int .i64 (j0:Nat)] 213 (0,0))):=hnb;have hsz3:w.heap.size<=w3.heap.size:=aO.o.size;have hone:=abE (kk,j0)
   try simp only[]at hone
   clear p1 p2 p3 hr3 hnb;go_wp2_with (first|(at_builtin;refine wpList_append_lies _ rfl _ _ 208 rfl w.heap.size 213 i0 _ 2 24 underlying208 hi0 hz0 hz1 hzb rfl (by decide) u4 acc.length (lw acc) rfl ((hown3.alloc _).alloc _) ⟨w3.heap.size+1,0,none⟩ 1 1 [.string ⟨kk.toArray⟩,.int .i64 (j0:Nat)] rfl rfl (World.news_of_block IZ.o) hone (by omega) (by unfold maxLen;omega) (by omega) (by simp;omega) _ rfl ?_));intro g cap w6 hown6 hgrow hat hlt6;have pz:=(HR3.o.grow (World.grownBy_alloc w3 (.cells #[.string ⟨kk.toArray⟩,.int .i64 (j0:Nat)] 213) none)).grow (World.grownBy_alloc _ (.cells #[.string ⟨kk.toArray⟩,.int .i64 (j0:Nat)] 213) none);have hown5:=(hown3.alloc (.cells #[.string ⟨kk.toArray⟩,.int .i64 (j0:Nat)] 213)).alloc (.cells #[.string ⟨kk.toArray⟩,.int .i64 (j0:Nat)] 213);have nD:Hd (Rd w6 R s j T):=(hgrow.block R (aA pz) (fun e=>by
    obtain⟨-,cc,hcc⟩:=bn hown5 e.symm;exact aP pz hcc (by decide) rfl)).trans pz
   have lK:Hd (w.grownBy w6 (some R)):=LW (aF (aF aO.o (World.grownBy_alloc _ _ none)) (World.grownBy_alloc _ _ none)) hgrow (fun b hb=>(bn hown5 hb).1);have abK:Hd (w6.ownsRow w.heap.size 213 2 (.slice (some ⟨g,0,none⟩) (acc.length+1) cap) (acc.length+1) (lw (acc++[(kk,j0)]))):=by
    show World.ownsRow _ _ _ _ _ _ _;rw[abB];exact hown6
   have C7:=CS.o j w6 nD.o k2;obtain⟨d1,d2⟩:=fP.o j k2;have BX:=uw.o
   try simp only[]at BX
   obtain⟨j7,BZ⟩:=zN (bl s.data.toList j);rw[BZ]at C7 d1 d2 BX;have LZ:Hd (Calls prog 103 #[.pointer (some ⟨R,0,none⟩)] w6 fun e w'=>e=.returned (.tuple #[])/\Rd w' R s j7 T/\w6.grownBy w' (some R)):=C7;have Uo:Hd (nx s.data.toList j7=46->j7<s.size):=cZ.o j7;have C8:Hd (∀w',Rd w' R s j7 T->Calls prog 104 #[.pointer (some ⟨R,0,none⟩)] w' fun e w''=>e=.returned (.int .i64 (nx s.data.toList j7))/\w'.grownBy w'' none):=fun w' hh=>CN.o j7 w' hh d2
   obtain⟨y,hy⟩:=zN (nx s.data.toList j7);rw[hy]at BX Uo C8;have Ur:Hd (_=S):=BX;clear hown6 hgrow hat hlt6 pz hown5 hown3 C7 BX BZ hy hone hsz3;go_wp2_with (first|(go_at_call 103;refine LZ.o.mono ?_));rintro e w7 ⟨rfl,Ut,kX⟩;have vJ:Hd (Rd w7 R s j7 T):=Ut;have oC:Hd (w.grownBy w7 (some R)):=dH lK.o kX;have abL:Hd (w7.ownsRow w.heap.size 213 2 (.slice (some ⟨g,0,none⟩) (acc.length+1) cap) (acc.length+1) (lw (acc++[(kk,j0)]))):=bK abK.o fun g' cur' hh hc=>kX.block g' (aA hc) (by simp only[ne_eq,Option.some.injEq];exact aP hc nD.o (by decide))
   clear Ut kX;go_wp2_with (go_at_call 104;refine(C8.o _ vJ.o).mono ?_);rintro e w8 ⟨rfl,nJ⟩;have uf:Hd (Rd w8 R s j7 T):=vJ.o.grow nJ;have Fg:Hd (w.grownBy w8 (some R)):=aF oC.o nJ;have Uu:Hd (w8.ownsRow w.heap.size 213 2 (.slice (some ⟨g,0,none⟩) (acc.length+1) cap) (acc.length+1) (lw (acc++[(kk,j0)]))):=bK abL.o fun g' cur' hh hc=>nJ.block g' (aA hc) (by simp)
   clear nJ;have mV:Hd ((acc++[(kk,j0)]).length=acc.length+1):=by show _=_;simp
   by_cases c46:y=46
   ·have e46:(y != 46)=false:=by simp[c46]
    have hjl:=Uo.o c46;have gX:Hd (fF s.data.toList f (j7+1) (acc++[(kk,j0)])=S):=by
     have:=Ur.o;rw[if_pos c46]at this;exact this
    obtain⟨-,r1,-,rf⟩:=uf.o.cells;have rf1:=rf 1;have Uw:Hd (Rd (w8.setCell ⟨R,1,none⟩ (.int .i64 ((j7:Int)+1))) R s (j7+1) T):=uf.o.set (j7+1);have HO9:Hd ((w8.setCell ⟨R,1,none⟩ (.int .i64 ((j7:Int)+1))).ownsRow w.heap.size 213 2 (.slice (some ⟨g,0,none⟩) (acc.length+1) cap) (acc++[(kk,j0)]).length (lw (acc++[(kk,j0)]))):=by
     show World.ownsRow _ _ _ _ _ _ _;rw[mV.o];exact bK Uu.o fun g' cur' hh hc=>heap_setCell_other _ _ _ _ (aP hc uf.o (by decide))
    clear c46 rf;go_wp2;go_roundw
    case rel=>exact⟨rfl,rfl,j7+1,f,acc++[(kk,j0)],Uw.o,by omega,HO9.o,aV Fg.o 1 _,by omega,gX.o,by rw[mV.o];omega⟩
    case measure =>
     rw[gI.o,Uw.o.cells.2.1];simp;omega
   ·have e46:(y != 46)=true:=by simp[c46]
    have az:Hd (S=.ok (acc++[(kk,j0)],j7)):=by
     have:=Ur.o;rw[if_neg c46]at this;exact this.symm
    clear c46;go_wp2;refine bodyPost_ret (results_tmp2 (t:=2) (u:=3) rfl _ _ _) rfl ?_;rw[az.o];obtain⟨hky,hcp⟩:=abC Uu.o mV.o;exact⟨fun l j hh=>(by cases hh;exact⟨g,cap,by rw[mV.o];rfl,hky,by rw[mV.o];exact hcp,uf.o⟩),fun c p hh=>(by cases hh),Fg.o⟩
end Go.Proofs.YtnnbgjaphfhibaaGreatDoor
