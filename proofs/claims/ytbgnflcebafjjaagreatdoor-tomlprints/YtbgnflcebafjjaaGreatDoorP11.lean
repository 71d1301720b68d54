import Derived.Test.YtbgnflcebafjjaaGreatDoorP10
import Derived.Test.YtbgnflcebafjjaaGreatDoorP02
namespace Go.Proofs.YtbgnflcebafjjaaGreatDoor
open Go.RowKit Go.Maps Go.WideMaps Go.Joins
set_option linter.unusedVariables false
def kyC (l:List (List UInt8 × Nat)):List Value:=l.flatMap fun x=>[.string ⟨x.1.toArray⟩,.int .i64 (x.2:Nat)]
theorem kyC_at:∀(l:List (List UInt8 × Nat)) (i:Nat) (hi:i < l.length),(kyC l)[i * 2]?=some (.string ⟨l[i].1.toArray⟩)/\(kyC l)[i * 2+1]?=some (.int .i64 (l[i].2:Nat))
 | a :: r,0,_=>⟨rfl,rfl⟩
 | a :: r,i+1,hi=>by
  have:=kyC_at r i (by simpa using hi)
  have e:kyC (a :: r)=.string ⟨a.1.toArray⟩ :: .int .i64 (a.2:Nat) :: kyC r:=rfl
  rw [e,show (i+1) * 2=i * 2+1+1 by omega]
  exact this
theorem kyC_app (l:List (List UInt8 × Nat)) (x:List UInt8 × Nat):kyC (l++[x])=kyC l++[.string ⟨x.1.toArray⟩,.int .i64 (x.2:Nat)]:=by
 unfold kyC
 rw [List.flatMap_append];rfl
theorem kyR_own {w:World} {B g c n:Nat} {l:List (List UInt8 × Nat)} (h:w.ownsRow B 133 2 (.slice (some ⟨g,0,none⟩) n c) n (kyC l)) (hn:l.length=n):KyR w g l/\n<=c:=by
 rcases h.2 with ⟨h1,-⟩ | ⟨g',cap,cur,h1,-,h3,h4,-,h6,h7⟩
 ·cases h1
 ·cases h1
  refine ⟨⟨cur,h3,fun i hi=>?_⟩,h4⟩
  obtain ⟨a,b⟩:=kyC_at l i hi
  rw [<-h7] at a b
  rw [List.getElem?_take_of_lt (by omega),Array.getElem?_toList] at a b
  exact ⟨a,b⟩
theorem infoKey:(Tryz.prog.info? 133).map (fun i=>(i.zero,i.size,i.bytes))=some (some (.agg #[.string ⟨#[]⟩,.int .i64 0]),2,24):=by kernel_rfl
theorem hdK_step (l:List UInt8) (f i:Nat) (acc:List (List UInt8 × Nat)):hdK l (f+1) i acc=match rdKey l (bl l i) with | .error e=>.error e | .ok (k,j)=>if nx l (bl l j)=46 then hdK l f (bl l j+1) (acc++[(k,bl l i)]) else .ok (acc++[(k,bl l i)],bl l j):=rfl
theorem gb_row {w W w3:World} {r q:Option Nat} (h:w.grownBy W r) (hg:W.grownBy w3 q) (hq:∀b,q=some b->w.heap.size<=b):w.grownBy w3 r :=
 ⟨hg.os.trans h.os,hg.tape.trans h.tape,hg.output.trans h.output,Nat.le_trans h.size hg.size,fun k hk hn=>(hg.block k (Nat.lt_of_lt_of_le hk h.size) (fun e=>by have:=hq k e.symm;omega)).trans (h.block k hk hn)⟩
def HkPost (R:Nat) (s:ByteArray) (T:Nat) (E:Int->TypeId × Value) (g:Rs (List (List UInt8 × Nat) × Nat)) (w:World) (e:Ending) (w':World):Prop :=
 (∀l j,g=.ok (l,j)->∃b c,e=.returned (.tuple #[.slice (some ⟨b,0,none⟩) l.length c,.nilIface])/\KyR w' b l/\l.length<=c/\Rd w' R s j T)/\(∀c p,g=.error (c,p)->∃F,e=.returned (.tuple #[.slice none 0 0,.iface 65 (.pointer (some ⟨F,0,none⟩))])/\FaultE w' (.iface 65 (.pointer (some ⟨F,0,none⟩))) E c p)/\w.grownBy w' (some R)
theorem key_one (x:List UInt8 × Nat):∀u ∈ ([.string ⟨x.1.toArray⟩,.int .i64 (x.2:Nat)]:List Value),u.oneCell'=true:=by
 intro u hu
 simp only [List.mem_cons,List.not_mem_nil,or_false] at hu
 rcases hu with rfl | rfl <;> rfl
set_option maxRecDepth 100000 in
set_option maxHeartbeats 3200000 in
theorem tKeys_any (R:Nat) (s:ByteArray) (i T B:Nat) (E:Int->TypeId × Value) (w:World) (h:Rd w R s i T) (hi:i<=s.size) (hs:s.size<=100000) (G:Gl w B E) (hR:B<=R) (hBw:B<=w.heap.size) :
  Calls Tryz.prog 71 #[.pointer (some ⟨R,0,none⟩)] w (HkPost R s T E (hdK s.data.toList (s.data.toList.length+1) i []) w):=by
 have CN:Hid (∀k w,Rd w R s k T->k<=s.size->Calls Tryz.prog 40 #[.pointer (some ⟨R,0,none⟩)] w fun e w'=>e=.returned (.int .i64 (nx s.data.toList k))/\w.grownBy w' none):=fun k w h1 h2=>tNext_any R s k T w h1 h2 (by omega)
 have CS:Hid (∀k w,Rd w R s k T->k<=s.size->Calls Tryz.prog 39 #[.pointer (some ⟨R,0,none⟩)] w fun e w'=>e=.returned (.tuple #[])/\Rd w' R s (bl s.data.toList k) T/\w.grownBy w' (some R)):=fun k w h1 h2=>tSkip_any R s k T w h1 h2 (by omega)
 have CK:Hid (∀k w',Rd w' R s k T->k<=s.size->w.grownBy w' (some R)->Calls Tryz.prog 75 #[.pointer (some ⟨R,0,none⟩)] w' (KePost R s T E k (rdKey s.data.toList k) w')):=fun k w' h1 h2 hg=>tKey_any R s k T B E w' h1 h2 (by omega) (G.gb hg hR hBw) hR (Nat.le_trans hBw hg.size)
 have hl:s.data.toList.length=s.size:=by simp
 have HBL:Hid (∀k,k<=s.size->k<=bl s.data.toList k/\bl s.data.toList k<=s.size):=fun k hk=>by rw [<-hl];exact bl_le _ k (by omega)
 have HKO:Hid (∀k x j,k<=s.size->rdKey s.data.toList k=.ok (x,j)->k < j/\j<=s.size):=fun k x j a b=>by
  have:=rdKey_ok s.data.toList k x j (by omega) b
  omega
 have HLT:Hid (∀k,nx s.data.toList k=46->k < s.size):=fun k a=>by
  have:=nx_lt (l:=s.data.toList) (i:=k) (by rw [a];decide)
  omega
 obtain ⟨i0,hi0,hii⟩:=Option.map_eq_some_iff.1 infoKey
 simp only [Prod.mk.injEq] at hii
 obtain ⟨hz0,hz1,hzb⟩:=hii
 obtain ⟨S,hS⟩:∃S,hdK s.data.toList (s.data.toList.length+1) i []=S:=⟨_,rfl⟩
 have HS:Hid (hdK s.data.toList (s.data.toList.length+1) i []=S):=hS
 rw [hS]
 have H0:Hid (Rd w R s i T):=h
 clear h G hS
 go_enter Tryz.func71,Tryz.ntmps71
 go_wp2
 go_loopw [2,3,4] (fun v2 v3 v4 wr=>v2=.slice none 0 0/\v3=.nilIface/\∃(kx f:Nat) (acc:List (List UInt8 × Nat)),Rd wr R s kx T/\kx<=s.size/\wr.ownsRow w.heap.size 133 2 v4 acc.length (kyC acc)/\w.grownBy wr (some R)/\s.size - kx < f/\hdK s.data.toList f kx acc=S/\acc.length<=kx) (fun _ _ _ wr=>s.size - (match wr.cell? ⟨R,1,none⟩ with | some (.int _ k)=>k.toNat | _=>0))
 case atStart=>exact ⟨rfl,rfl,i,s.data.toList.length+1,[],H0.out,hi,World.ownsRow_nil _ _ _ _,gb_refl _ _,by omega,HS.out,by simp⟩
 case round =>
  obtain ⟨rfl,rfl,kx,f,acc,hrd,hk,hown,hg,hf,hhd,hac⟩:=hrel
  obtain ⟨f,rfl⟩:∃f',f=f'+1:=⟨f - 1,by omega⟩
  rw [hdK_step] at hhd
  have HRK:Hid (Rd wr R s kx T):=hrd
  have HGK:Hid (w.grownBy wr (some R)):=hg
  have HOW:Hid (wr.ownsRow w.heap.size 133 2 u4 acc.length (kyC acc)):=hown
  have HME:Hid ((match wr.cell? ⟨R,1,none⟩ with | some (.int _ k)=>k.toNat | _=>0)=kx):=by show _=_;rw [hrd.cells.2.1];simp
  have C1:=CS.out kx wr hrd hk
  obtain ⟨b1,b2⟩:=HBL.out kx hk
  obtain ⟨j0,hj0⟩:∃j0,bl s.data.toList kx=j0:=⟨_,rfl⟩
  rw [hj0] at C1 hhd b1 b2
  have C1':Hid (Calls Tryz.prog 39 #[.pointer (some ⟨R,0,none⟩)] wr fun e w'=>e=.returned (.tuple #[])/\Rd w' R s j0 T/\wr.grownBy w' (some R)):=C1
  have HK0:=HKO.out j0
  have CK0:=CK.out j0
  obtain ⟨KR,hKR⟩:∃KR,rdKey s.data.toList j0=KR:=⟨_,rfl⟩
  rw [hKR] at HK0 CK0 hhd
  have HHD:Hid (_=S):=hhd
  have HK0':Hid (∀x j,j0<=s.size->KR=.ok (x,j)->j0 < j/\j<=s.size):=HK0
  have CK0':Hid (∀w',Rd w' R s j0 T->j0<=s.size->w.grownBy w' (some R)->Calls Tryz.prog 75 #[.pointer (some ⟨R,0,none⟩)] w' (KePost R s T E j0 KR w')):=CK0
  clear hrd hown hg hhd C1 HK0 CK0 hj0 hKR
  go_wp2_with (first | (go_at_call 39;refine C1'.out.mono ?_))
  rintro e w2 ⟨rfl,hr2,hg2⟩
  have HR2:Hid (Rd w2 R s j0 T):=hr2
  have HG2:Hid (w.grownBy w2 (some R)):=gb_two HGK.out hg2
  have HOW2:Hid (w2.ownsRow w.heap.size 133 2 u4 acc.length (kyC acc)):=own_block HOW.out fun g' cur' hh hc=>hg2.block g' (blk_lt hc) (by simp only [ne_eq,Option.some.injEq];exact ne_typ hc HRK.out (by decide))
  clear hr2 hg2
  go_wp2_with (first | (go_at_call 75;refine (CK0'.out _ HR2.out b2 HG2.out).mono ?_))
  rintro e w3 ⟨p1,p2,p3⟩
  have HG3:Hid (w.grownBy w3 (some R)):=gb_two HG2.out p3
  cases KR with
  | error ec =>
   obtain ⟨ec1,ec2⟩:=ec
   obtain ⟨ka,kb,v,rfl,F,rfl,hF⟩:=p2 ec1 ec2 rfl
   have HFV:Hid (FaultE w3 (.iface 65 (.pointer (some ⟨F,0,none⟩))) E ec1 ec2):=⟨F,rfl,hF⟩
   have HSE:Hid (S=.error (ec1,ec2)):=HHD.out.symm
   clear p1 p2 p3 hF
   have HGA:Hid (w.grownBy (w3.alloc (.cells #[.string ka,.int .i64 kb] 133)) (some R)):=gb_more HG3.out (World.grownBy_alloc _ _ none)
   have HFA:Hid (FaultE (w3.alloc (.cells #[.string ka,.int .i64 kb] 133)) (.iface 65 (.pointer (some ⟨F,0,none⟩))) E ec1 ec2):=FaultV.grow HFV.out (World.grownBy_alloc _ _ none)
   go_wp2
   refine bodyPost_ret (results_tmp2 (t:=2) (u:=3) rfl _ _ _) rfl ?_
   rw [HSE.out]
   exact ⟨fun l j hh=>(by cases hh),fun c p hh=>(by cases hh;exact ⟨F,rfl,HFA.out⟩),HGA.out⟩
  | ok q =>
   obtain ⟨kk,j⟩:=q
   obtain ⟨rfl,hr3⟩:=p1 kk j rfl
   obtain ⟨k1,k2⟩:=HK0'.out kk j b2 rfl
   have hown3:w3.ownsRow w.heap.size 133 2 u4 acc.length (kyC acc):=own_block HOW2.out fun g' cur' hh hc=>p3.block g' (blk_lt hc) (by simp only [ne_eq,Option.some.injEq];exact ne_typ hc HR2.out (by decide))
   have HR3:Hid (Rd w3 R s j T):=hr3
   have hnb:=heap_alloc_new (w3.alloc (.cells #[.string ⟨kk.toArray⟩,.int .i64 (j0:Nat)] 133)) (.cells #[.string ⟨kk.toArray⟩,.int .i64 (j0:Nat)] 133)
   rw [World.size_alloc] at hnb
   have HNB:Hid (((w3.alloc (.cells #[.string ⟨kk.toArray⟩,.int .i64 (j0:Nat)] 133)).alloc (.cells #[.string ⟨kk.toArray⟩,.int .i64 (j0:Nat)] 133)).heap[w3.heap.size+1]?=some (.cells #[.string ⟨kk.toArray⟩,.int .i64 (j0:Nat)] 133 (0,0))):=hnb
   have hsz3:w.heap.size<=w3.heap.size:=HG3.out.size
   have hone:=key_one (kk,j0)
   try simp only [] at hone
   clear p1 p2 p3 hr3 hnb
   go_wp2_with (first | (at_builtin;refine wpList_append_lies _ rfl _ _ 128 rfl w.heap.size 133 i0 _ 2 24 Tryz.underlying128 hi0 hz0 hz1 hzb rfl (by decide) u4 acc.length (kyC acc) rfl ((hown3.alloc _).alloc _) ⟨w3.heap.size+1,0,none⟩ 1 1 [.string ⟨kk.toArray⟩,.int .i64 (j0:Nat)] rfl rfl (World.news_of_block HNB.out) hone (by omega) (by unfold maxLen;omega) (by omega) (by simp;omega) _ rfl ?_))
   intro g cap w6 hown6 hgrow hat hlt6
   have hr5:=(HR3.out.grow (World.grownBy_alloc w3 (.cells #[.string ⟨kk.toArray⟩,.int .i64 (j0:Nat)] 133) none)).grow (World.grownBy_alloc _ (.cells #[.string ⟨kk.toArray⟩,.int .i64 (j0:Nat)] 133) none)
   have hown5:=(hown3.alloc (.cells #[.string ⟨kk.toArray⟩,.int .i64 (j0:Nat)] 133)).alloc (.cells #[.string ⟨kk.toArray⟩,.int .i64 (j0:Nat)] 133)
   have HR6:Hid (Rd w6 R s j T):=(hgrow.block R (blk_lt hr5) (fun e=>by
    obtain ⟨-,cc,hcc⟩:=own_typ hown5 e.symm
    exact ne_typ hr5 hcc (by decide) rfl)).trans hr5
   have HG6:Hid (w.grownBy w6 (some R)):=gb_row (gb_more (gb_more HG3.out (World.grownBy_alloc _ _ none)) (World.grownBy_alloc _ _ none)) hgrow (fun b hb=>(own_typ hown5 hb).1)
   have HOW6:Hid (w6.ownsRow w.heap.size 133 2 (.slice (some ⟨g,0,none⟩) (acc.length+1) cap) (acc.length+1) (kyC (acc++[(kk,j0)]))):=by
    show World.ownsRow _ _ _ _ _ _ _
    rw [kyC_app]
    exact hown6
   have C7:=CS.out j w6 HR6.out k2
   obtain ⟨d1,d2⟩:=HBL.out j k2
   have HH2:=HHD.out
   try simp only [] at HH2
   obtain ⟨j7,hj7⟩:∃j7,bl s.data.toList j=j7:=⟨_,rfl⟩
   rw [hj7] at C7 d1 d2 HH2
   have C7':Hid (Calls Tryz.prog 39 #[.pointer (some ⟨R,0,none⟩)] w6 fun e w'=>e=.returned (.tuple #[])/\Rd w' R s j7 T/\w6.grownBy w' (some R)):=C7
   have HN7:Hid (nx s.data.toList j7=46->j7 < s.size):=HLT.out j7
   have C8:Hid (∀w',Rd w' R s j7 T->Calls Tryz.prog 40 #[.pointer (some ⟨R,0,none⟩)] w' fun e w''=>e=.returned (.int .i64 (nx s.data.toList j7))/\w'.grownBy w'' none):=fun w' hh=>CN.out j7 w' hh d2
   obtain ⟨y,hy⟩:∃y,nx s.data.toList j7=y:=⟨_,rfl⟩
   rw [hy] at HH2 HN7 C8
   have HH3:Hid (_=S):=HH2
   clear hown6 hgrow hat hlt6 hr5 hown5 hown3 C7 HH2 hj7 hy hone hsz3
   go_wp2_with (first | (go_at_call 39;refine C7'.out.mono ?_))
   rintro e w7 ⟨rfl,hr7,hg7⟩
   have HR7:Hid (Rd w7 R s j7 T):=hr7
   have HG7:Hid (w.grownBy w7 (some R)):=gb_two HG6.out hg7
   have HOW7:Hid (w7.ownsRow w.heap.size 133 2 (.slice (some ⟨g,0,none⟩) (acc.length+1) cap) (acc.length+1) (kyC (acc++[(kk,j0)]))):=own_block HOW6.out fun g' cur' hh hc=>hg7.block g' (blk_lt hc) (by simp only [ne_eq,Option.some.injEq];exact ne_typ hc HR6.out (by decide))
   clear hr7 hg7
   go_wp2_with (first | (go_at_call 40;refine (C8.out _ HR7.out).mono ?_))
   rintro e w8 ⟨rfl,hg8⟩
   have HR8:Hid (Rd w8 R s j7 T):=HR7.out.grow hg8
   have HG8:Hid (w.grownBy w8 (some R)):=gb_more HG7.out hg8
   have HOW8:Hid (w8.ownsRow w.heap.size 133 2 (.slice (some ⟨g,0,none⟩) (acc.length+1) cap) (acc.length+1) (kyC (acc++[(kk,j0)]))):=own_block HOW7.out fun g' cur' hh hc=>hg8.block g' (blk_lt hc) (by simp)
   clear hg8
   have HAL:Hid ((acc++[(kk,j0)]).length=acc.length+1):=by show _=_;simp
   by_cases c46:y=46
   ·have e46:(y != 46)=false:=by simp [c46]
    have hjl:=HN7.out c46
    have HNX:Hid (hdK s.data.toList f (j7+1) (acc++[(kk,j0)])=S):=by
     have:=HH3.out
     rw [if_pos c46] at this
     exact this
    obtain ⟨-,r1,-,rf⟩:=HR8.out.cells
    have rf1:=rf 1
    have HS9:Hid (Rd (w8.setCell ⟨R,1,none⟩ (.int .i64 ((j7:Int)+1))) R s (j7+1) T):=HR8.out.set (j7+1)
    have HO9:Hid ((w8.setCell ⟨R,1,none⟩ (.int .i64 ((j7:Int)+1))).ownsRow w.heap.size 133 2 (.slice (some ⟨g,0,none⟩) (acc.length+1) cap) (acc++[(kk,j0)]).length (kyC (acc++[(kk,j0)]))):=by
     show World.ownsRow _ _ _ _ _ _ _
     rw [HAL.out]
     exact own_block HOW8.out fun g' cur' hh hc=>heap_setCell_other _ _ _ _ (ne_typ hc HR8.out (by decide))
    clear c46 rf
    go_wp2
    go_roundw
    case rel=>exact ⟨rfl,rfl,j7+1,f,acc++[(kk,j0)],HS9.out,by omega,HO9.out,gb_set HG8.out 1 _,by omega,HNX.out,by rw [HAL.out];omega⟩
    case measure =>
     rw [HME.out,HS9.out.cells.2.1]
     simp
     omega
   ·have e46:(y != 46)=true:=by simp [c46]
    have HSE:Hid (S=.ok (acc++[(kk,j0)],j7)):=by
     have:=HH3.out
     rw [if_neg c46] at this
     exact this.symm
    clear c46
    go_wp2
    refine bodyPost_ret (results_tmp2 (t:=2) (u:=3) rfl _ _ _) rfl ?_
    rw [HSE.out]
    obtain ⟨hky,hcp⟩:=kyR_own HOW8.out HAL.out
    exact ⟨fun l j hh=>(by cases hh;exact ⟨g,cap,by rw [HAL.out];rfl,hky,by rw [HAL.out];exact hcp,HR8.out⟩),fun c p hh=>(by cases hh),HG8.out⟩
end Go.Proofs.YtbgnflcebafjjaaGreatDoor
namespace Go.Proofs.YtbgnflcebafjjaaGreatDoor
open Go.RowKit Go.Joins
set_option linter.unusedVariables false
def Dd (w:World) (R:Nat) (s:ByteArray) (L O:Value) (now de i:Nat) (er:Int) (p:Nat):Prop:=w.heap[R]?=some (.cells #[.string s,.int .i64 (i:Nat),L,O,.int .i64 (now:Nat),.int .i64 er,.int .i64 (p:Nat),.int .i64 (de:Nat)] 51 (0,0))
section
variable {w w':World} {R:Nat} {s:ByteArray} {L O:Value} {now de i:Nat} {er:Int} {p:Nat}
theorem Dd.grow (h:Dd w R s L O now de i er p) (hg:w.grownBy w' none):Dd w' R s L O now de i er p:=(hg.block R (Array.getElem?_eq_some_iff.1 h).1 (by simp)).trans h
theorem Dd.cells (h:Dd w R s L O now de i er p):w.cell? ⟨R,0,none⟩=some (.string s)/\w.cell? ⟨R,1,none⟩=some (.int .i64 (i:Nat))/\w.cell? ⟨R,2,none⟩=some L/\w.cell? ⟨R,3,none⟩=some O/\w.cell? ⟨R,4,none⟩=some (.int .i64 (now:Nat))/\w.cell? ⟨R,5,none⟩=some (.int .i64 er)/\w.cell? ⟨R,6,none⟩=some (.int .i64 (p:Nat))/\w.cell? ⟨R,7,none⟩=some (.int .i64 (de:Nat))/\∀k,w.frozen? ⟨R,k,none⟩=false :=
 ⟨by rw [Lib.cell_of_heap h];rfl,by rw [Lib.cell_of_heap h];rfl,by rw [Lib.cell_of_heap h];rfl,by rw [Lib.cell_of_heap h];rfl,by rw [Lib.cell_of_heap h];rfl,by rw [Lib.cell_of_heap h];rfl,by rw [Lib.cell_of_heap h];rfl,by rw [Lib.cell_of_heap h];rfl,fun k=>Lib.frozen_of_heap h k⟩
theorem Dd.setI (h:Dd w R s L O now de i er p) (j:Nat):Dd (w.setCell ⟨R,1,none⟩ (.int .i64 (j:Nat))) R s L O now de j er p:=block_setCell (i:=1) h _
theorem Dd.setL (h:Dd w R s L O now de i er p) (v:Value):Dd (w.setCell ⟨R,2,none⟩ v) R s v O now de i er p:=block_setCell (i:=2) h _
theorem Dd.setO (h:Dd w R s L O now de i er p) (v:Value):Dd (w.setCell ⟨R,3,none⟩ v) R s L v now de i er p:=block_setCell (i:=3) h _
theorem Dd.setN (h:Dd w R s L O now de i er p) (j:Nat):Dd (w.setCell ⟨R,4,none⟩ (.int .i64 (j:Nat))) R s L O j de i er p:=block_setCell (i:=4) h _
theorem Dd.setE (h:Dd w R s L O now de i er p) (e:Int):Dd (w.setCell ⟨R,5,none⟩ (.int .i64 e)) R s L O now de i e p:=block_setCell (i:=5) h _
theorem Dd.setA (h:Dd w R s L O now de i er p) (j:Nat):Dd (w.setCell ⟨R,6,none⟩ (.int .i64 (j:Nat))) R s L O now de i er j:=block_setCell (i:=6) h _
theorem Dd.setD (h:Dd w R s L O now de i er p) (j:Nat):Dd (w.setCell ⟨R,7,none⟩ (.int .i64 (j:Nat))) R s L O now j i er p:=block_setCell (i:=7) h _
end
def Ds (w:World) (R:Nat) (s:ByteArray) (L O:Value) (now de:Nat) (q:Rs Nat):Prop:=match q with | .ok i=>i<=s.size/\Dd w R s L O now de i 0 0 | .error (c,p)=>c ≠ 0/\∃j,j<=s.size/\Dd w R s L O now de j c p
theorem Ds.grow {w w':World} {R:Nat} {s:ByteArray} {L O:Value} {now de:Nat} {q:Rs Nat} (h:Ds w R s L O now de q) (hg:w.grownBy w' none):Ds w' R s L O now de q:=by
 match q,h with
 | .ok i,h=>exact ⟨h.1,h.2.grow hg⟩
 | .error (c,p),⟨h1,j,h2,h3⟩=>exact ⟨h1,j,h2,h3.grow hg⟩
def isQ (l:List UInt8) (q:Rs Nat) (c:Int):Bool:=match q with | .ok i=>decide (nx l i=c) | .error _=>false
set_option maxRecDepth 100000 in
theorem dFail_no (R:Nat) (s:ByteArray) (L O:Value) (now de i:Nat) (er:Int) (p:Nat) (e:Int) (a:Nat) (w:World) (h:Dd w R s L O now de i er p) (hE:¬ er=0) :
  Calls Tryz.prog 55 #[.pointer (some ⟨R,0,none⟩),.int .i64 e,.int .i64 (a:Nat)] w fun en w'=>en=.returned (.tuple #[])/\w'=w:=by
 obtain ⟨-,-,-,-,-,c5,-,-,-⟩:=h.cells
 have hn:(er == 0)=false:=by simpa using hE
 clear h hE
 go_enter Tryz.func55,Tryz.ntmps55
 go_wp2
 exact bodyPost_end (results_none rfl _ _ _) rfl ⟨rfl,rfl⟩
set_option maxRecDepth 100000 in
theorem dFail_yes (R:Nat) (s:ByteArray) (L O:Value) (now de i:Nat) (e:Int) (a:Nat) (w:World) (h:Dd w R s L O now de i 0 0) :
  Calls Tryz.prog 55 #[.pointer (some ⟨R,0,none⟩),.int .i64 e,.int .i64 (a:Nat)] w fun en w'=>en=.returned (.tuple #[])/\Dd w' R s L O now de i e a/\w.grownBy w' (some R):=by
 obtain ⟨-,-,-,-,-,c5,c6,-,df⟩:=h.cells
 have df5:=df 5
 have df6:=df 6
 have HS:Hid (Dd ((w.setCell ⟨R,5,none⟩ (.int .i64 e)).setCell ⟨R,6,none⟩ (.int .i64 (a:Nat))) R s L O now de i e a):=(h.setE e).setA a
 have HG:Hid (w.grownBy ((w.setCell ⟨R,5,none⟩ (.int .i64 e)).setCell ⟨R,6,none⟩ (.int .i64 (a:Nat))) (some R)):=gb_set (gb_set (gb_refl w (some R)) 5 _) 6 _
 clear h df
 go_enter Tryz.func55,Tryz.ntmps55
 go_wp2
 exact bodyPost_end (results_none rfl _ _ _) rfl ⟨rfl,HS.out,HG.out⟩
set_option maxRecDepth 100000 in
set_option maxHeartbeats 800000 in
theorem dIs_any (R:Nat) (s:ByteArray) (L O:Value) (now de:Nat) (q:Rs Nat) (c:Int) (hc:0<=c) (w:World) (h:Ds w R s L O now de q) (hs:s.size<=1048576) :
  Calls Tryz.prog 27 #[.pointer (some ⟨R,0,none⟩),.int .u8 c] w fun e w'=>e=.returned (.bool (isQ s.data.toList q c))/\w.grownBy w' none:=by
 have hl:s.data.toList.length=s.size:=by simp
 match q,h with
 | .error (k,p),⟨h1,j,h2,h3⟩ =>
  obtain ⟨c0,c1,-,-,-,c5,-,-,-⟩:=h3.cells
  have hn:(k == 0)=false:=by simpa using h1
  have e:isQ s.data.toList (.error (k,p)) c=false:=rfl
  rw [e]
  clear h3 h1 e
  go_enter Tryz.func27,Tryz.ntmps27
  go_wp2
  go_quiet (fail)
  go_wp2
  go_ret
  exact ⟨rfl,⟨rfl,rfl,rfl,Nat.le_refl _,fun _ _ _=>rfl⟩⟩
 | .ok i,⟨h1,h2⟩ =>
  obtain ⟨c0,c1,-,-,-,c5,-,-,-⟩:=h2.cells
  have e:isQ s.data.toList (.ok i) c=decide (nx s.data.toList i=c):=rfl
  rw [e]
  clear h2 e
  by_cases hlt:i < s.size
  ·have hn:nx s.data.toList i=(s[i].toNat:Int):=by rw [nx_at _ _ (by omega)];rfl
   rw [hn]
   obtain ⟨b,hb⟩:∃b,((s[i].toNat:Int) == c)=b:=⟨_,rfl⟩
   have hb2:decide ((s[i].toNat:Int)=c)=b:=by rw [<-hb,Bool.eq_iff_iff];simp
   have hlt':decide ((i:Int) < (s.size:Int))=true:=by simp;omega
   rw [hb2]
   clear hn hb2
   cases b with
   | true =>
    go_enter Tryz.func27,Tryz.ntmps27
    go_wp2
    go_quiet (fail)
    go_wp2
    go_ret
    exact ⟨rfl,⟨rfl,rfl,rfl,Nat.le_refl _,fun _ _ _=>rfl⟩⟩
   | false =>
    go_enter Tryz.func27,Tryz.ntmps27
    go_wp2
    go_quiet (fail)
    go_wp2
    go_ret
    exact ⟨rfl,⟨rfl,rfl,rfl,Nat.le_refl _,fun _ _ _=>rfl⟩⟩
  ·rw [nx_end _ _ (by omega),decide_eq_false (by omega)]
   have hge:decide ((i:Int) < (s.size:Int))=false:=by simp;omega
   go_enter Tryz.func27,Tryz.ntmps27
   go_wp2
   go_quiet (fail)
   go_wp2
   go_ret
   exact ⟨rfl,⟨rfl,rfl,rfl,Nat.le_refl _,fun _ _ _=>rfl⟩⟩
set_option maxRecDepth 100000 in
set_option maxHeartbeats 800000 in
theorem dMust_any (R:Nat) (s:ByteArray) (L O:Value) (now de:Nat) (q:Rs Nat) (c:Int) (hc:0<=c) (w:World) (h:Ds w R s L O now de q) (hs:s.size<=1048576) :
  Calls Tryz.prog 31 #[.pointer (some ⟨R,0,none⟩),.int .u8 c] w fun e w'=>e=.returned (.tuple #[])/\Ds w' R s L O now de (q.bind fun i=>must s.data.toList i c)/\w.grownBy w' (some R):=by
 have hl:s.data.toList.length=s.size:=by simp
 have CI:Hid (Calls Tryz.prog 27 #[.pointer (some ⟨R,0,none⟩),.int .u8 c] w fun e w'=>e=.returned (.bool (isQ s.data.toList q c))/\w.grownBy w' none):=dIs_any R s L O now de q c hc w h hs
 match q,h with
 | .error (k,p),⟨h1,j,h2,h3⟩ =>
  have e:isQ s.data.toList (.error (k,p)) c=false:=rfl
  rw [e] at CI
  have HD:Hid (Dd w R s L O now de j k p):=h3
  have HK:Hid (k ≠ 0):=h1
  have HJ:Hid (j<=s.size):=h2
  clear h3 h1 h2 e
  go_enter Tryz.func31,Tryz.ntmps31
  go_wp2_with (first | (go_at_call 27;refine CI.out.mono ?_))
  rintro e w1 ⟨rfl,hg1⟩
  have HD1:Hid (Dd w1 R s L O now de j k p):=HD.out.grow hg1
  have HG1:Hid (w.grownBy w1 (some R)):=gb_more (gb_refl w (some R)) hg1
  obtain ⟨-,c1,-⟩:=HD1.out.cells
  clear hg1
  go_wp2_with (first | (go_at_call 55;refine (dFail_no R s L O now de j k p _ _ _ HD1.out HK.out).mono ?_;rintro e w2 ⟨rfl,rfl⟩))
  refine bodyPost_ret (results_none rfl _ _ _) rfl ?_
  exact ⟨rfl,⟨HK.out,j,HJ.out,HD1.out⟩,HG1.out⟩
 | .ok i,⟨h1,h2⟩ =>
  have e:isQ s.data.toList (.ok i) c=decide (nx s.data.toList i=c):=rfl
  rw [e] at CI
  have HD:Hid (Dd w R s L O now de i 0 0):=h2
  have HI:Hid (i<=s.size):=h1
  have e2:(Except.bind (.ok i) fun i=>must s.data.toList i c:Rs Nat)=if nx s.data.toList i=c then .ok (i+1) else .error (2,i):=rfl
  rw [e2]
  have HLT:Hid (nx s.data.toList i=c->i < s.size):=fun hn=>by rw [<-hl];exact nx_lt (by omega)
  clear h2 e e2
  by_cases hn:nx s.data.toList i=c
  ·rw [decide_eq_true hn] at CI
   rw [if_pos hn]
   have hlt:=HLT.out hn
   clear hn HLT
   go_enter Tryz.func31,Tryz.ntmps31
   go_wp2_with (first | (go_at_call 27;refine CI.out.mono ?_))
   rintro e w1 ⟨rfl,hg1⟩
   have HD1:Hid (Dd w1 R s L O now de i 0 0):=HD.out.grow hg1
   have HG1:Hid (w.grownBy w1 (some R)):=gb_more (gb_refl w (some R)) hg1
   obtain ⟨-,c1,-,-,-,-,-,-,df⟩:=HD1.out.cells
   have df1:=df 1
   have HS:Hid (Dd (w1.setCell ⟨R,1,none⟩ (.int .i64 ((i:Int)+1))) R s L O now de (i+1) 0 0):=HD1.out.setI (i+1)
   clear hg1 df
   go_wp2
   exact bodyPost_end (results_none rfl _ _ _) rfl ⟨rfl,⟨by omega,HS.out⟩,gb_set HG1.out 1 _⟩
  ·rw [decide_eq_false hn] at CI
   rw [if_neg hn]
   clear hn HLT
   go_enter Tryz.func31,Tryz.ntmps31
   go_wp2_with (first | (go_at_call 27;refine CI.out.mono ?_))
   rintro e w1 ⟨rfl,hg1⟩
   have HD1:Hid (Dd w1 R s L O now de i 0 0):=HD.out.grow hg1
   have HG1:Hid (w.grownBy w1 (some R)):=gb_more (gb_refl w (some R)) hg1
   obtain ⟨-,c1,-⟩:=HD1.out.cells
   clear hg1
   go_wp2_with (first | (go_at_call 55;refine (dFail_yes R s L O now de i 2 i _ HD1.out).mono ?_;rintro e w2 ⟨rfl,h2,h3⟩))
   refine bodyPost_ret (results_none rfl _ _ _) rfl ?_
   exact ⟨rfl,⟨by decide,i,HI.out,h2⟩,gb_two HG1.out h3⟩
end Go.Proofs.YtbgnflcebafjjaaGreatDoor
