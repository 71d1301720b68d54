import Derived.Test.YtbgnflcebafjjaaGreatDoorA08
import Derived.Test.YtbgnflcebafjjaaGreatDoorA02
import Derived.Test.YtbgnflcebafjjaaGreatDoorA04
namespace Go.Proofs.YtbgnflcebafjjaaGreatDoor
open Go.RowKit Go.Maps Go.WideMaps Go.Joins
set_option linter.unusedVariables false
def kyC (l:List (List UInt8 × Nat)):List Value:=l.flatMap fun x=>[.string ⟨x.1.toArray⟩,.int .i64 (x.2:Nat)]
theorem kyC_at:∀(l:List (List UInt8 × Nat)) (i:Nat) (hi:i < l.length),(kyC l)[i * 2]?=some (.string ⟨l[i].1.toArray⟩)/\(kyC l)[i * 2+1]?=some (.int .i64 (l[i].2:Nat))
 | a :: r,0,_=>⟨rfl,rfl⟩
 | a :: r,i+1,hi=>by
  have:=kyC_at r i (by simpa using hi)
  have e:kyC (a :: r)=.string ⟨a.1.toArray⟩ :: .int .i64 (a.2:Nat) :: kyC r:=rfl
  rw [e,show (i+1) * 2=i * 2+1+1 by omega]
  exact this
theorem kyC_app (l:List (List UInt8 × Nat)) (x:List UInt8 × Nat):kyC (l++[x])=kyC l++[.string ⟨x.1.toArray⟩,.int .i64 (x.2:Nat)]:=by
 unfold kyC
 rw [List.flatMap_append];rfl
theorem kyR_own {w:World} {B g c n:Nat} {l:List (List UInt8 × Nat)} (h:w.ownsRow B 133 2 (.slice (some ⟨g,0,none⟩) n c) n (kyC l)) (hn:l.length=n):KyR w g l/\n<=c:=by
 rcases h.2 with ⟨h1,-⟩ | ⟨g',cap,cur,h1,-,h3,h4,-,h6,h7⟩
 ·cases h1
 ·cases h1
  refine ⟨⟨cur,h3,fun i hi=>?_⟩,h4⟩
  obtain ⟨a,b⟩:=kyC_at l i hi
  rw [<-h7] at a b
  rw [List.getElem?_take_of_lt (by omega),Array.getElem?_toList] at a b
  exact ⟨a,b⟩
theorem infoKey:(Tryz.prog.info? 133).map (fun i=>(i.zero,i.size,i.bytes))=some (some (.agg #[.string ⟨#[]⟩,.int .i64 0]),2,24):=by kernel_rfl
theorem hdK_step (l:List UInt8) (f i:Nat) (acc:List (List UInt8 × Nat)):hdK l (f+1) i acc=match rdKey l (bl l i) with | .error e=>.error e | .ok (k,j)=>if nx l (bl l j)=46 then hdK l f (bl l j+1) (acc++[(k,bl l i)]) else .ok (acc++[(k,bl l i)],bl l j):=rfl
theorem gb_row {w W w3:World} {r q:Option Nat} (h:w.grownBy W r) (hg:W.grownBy w3 q) (hq:∀b,q=some b->w.heap.size<=b):w.grownBy w3 r :=
 ⟨hg.os.trans h.os,hg.tape.trans h.tape,hg.output.trans h.output,Nat.le_trans h.size hg.size,fun k hk hn=>(hg.block k (Nat.lt_of_lt_of_le hk h.size) (fun e=>by have:=hq k e.symm;omega)).trans (h.block k hk hn)⟩
def HkPost (R:Nat) (s:ByteArray) (T:Nat) (E:Int->TypeId × Value) (g:Rs (List (List UInt8 × Nat) × Nat)) (w:World) (e:Ending) (w':World):Prop :=
 (∀l j,g=.ok (l,j)->∃b c,e=.returned (.tuple #[.slice (some ⟨b,0,none⟩) l.length c,.nilIface])/\KyR w' b l/\l.length<=c/\Rd w' R s j T)/\(∀c p,g=.error (c,p)->∃F,e=.returned (.tuple #[.slice none 0 0,.iface 65 (.pointer (some ⟨F,0,none⟩))])/\FaultE w' (.iface 65 (.pointer (some ⟨F,0,none⟩))) E c p)/\w.grownBy w' (some R)
theorem key_one (x:List UInt8 × Nat):∀u ∈ ([.string ⟨x.1.toArray⟩,.int .i64 (x.2:Nat)]:List Value),u.oneCell'=true:=by
 intro u hu
 simp only [List.mem_cons,List.not_mem_nil,or_false] at hu
 rcases hu with rfl | rfl <;> rfl
set_option maxRecDepth 100000 in
set_option maxHeartbeats 3200000 in
theorem tKeys_any (R:Nat) (s:ByteArray) (i T B:Nat) (E:Int->TypeId × Value) (w:World) (h:Rd w R s i T) (hi:i<=s.size) (hs:s.size<=100000) (G:Gl w B E) (hR:B<=R) (hBw:B<=w.heap.size) :
  Calls Tryz.prog 71 #[.pointer (some ⟨R,0,none⟩)] w (HkPost R s T E (hdK s.data.toList (s.data.toList.length+1) i []) w):=by
 have CN:Hid (∀k w,Rd w R s k T->k<=s.size->Calls Tryz.prog 40 #[.pointer (some ⟨R,0,none⟩)] w fun e w'=>e=.returned (.int .i64 (nx s.data.toList k))/\w.grownBy w' none):=fun k w h1 h2=>tNext_any R s k T w h1 h2 (by omega)
 have CS:Hid (∀k w,Rd w R s k T->k<=s.size->Calls Tryz.prog 39 #[.pointer (some ⟨R,0,none⟩)] w fun e w'=>e=.returned (.tuple #[])/\Rd w' R s (bl s.data.toList k) T/\w.grownBy w' (some R)):=fun k w h1 h2=>tSkip_any R s k T w h1 h2 (by omega)
 have CK:Hid (∀k w',Rd w' R s k T->k<=s.size->w.grownBy w' (some R)->Calls Tryz.prog 75 #[.pointer (some ⟨R,0,none⟩)] w' (KePost R s T E k (rdKey s.data.toList k) w')):=fun k w' h1 h2 hg=>tKey_any R s k T B E w' h1 h2 (by omega) (G.gb hg hR hBw) hR (Nat.le_trans hBw hg.size)
 have hl:s.data.toList.length=s.size:=by simp
 have HBL:Hid (∀k,k<=s.size->k<=bl s.data.toList k/\bl s.data.toList k<=s.size):=fun k hk=>by rw [<-hl];exact bl_le _ k (by omega)
 have HKO:Hid (∀k x j,k<=s.size->rdKey s.data.toList k=.ok (x,j)->k < j/\j<=s.size):=fun k x j a b=>by
  have:=rdKey_ok s.data.toList k x j (by omega) b
  omega
 have HLT:Hid (∀k,nx s.data.toList k=46->k < s.size):=fun k a=>by
  have:=nx_lt (l:=s.data.toList) (i:=k) (by rw [a];decide)
  omega
 obtain ⟨i0,hi0,hii⟩:=Option.map_eq_some_iff.1 infoKey
 simp only [Prod.mk.injEq] at hii
 obtain ⟨hz0,hz1,hzb⟩:=hii
 obtain ⟨S,hS⟩:∃S,hdK s.data.toList (s.data.toList.length+1) i []=S:=⟨_,rfl⟩
 have HS:Hid (hdK s.data.toList (s.data.toList.length+1) i []=S):=hS
 rw [hS]
 have H0:Hid (Rd w R s i T):=h
 clear h G hS
 go_enter Tryz.func71,Tryz.ntmps71
 go_wp2
 go_loopw [2,3,4] (fun v2 v3 v4 wr=>v2=.slice none 0 0/\v3=.nilIface/\∃(kx f:Nat) (acc:List (List UInt8 × Nat)),Rd wr R s kx T/\kx<=s.size/\wr.ownsRow w.heap.size 133 2 v4 acc.length (kyC acc)/\w.grownBy wr (some R)/\s.size - kx < f/\hdK s.data.toList f kx acc=S/\acc.length<=kx) (fun _ _ _ wr=>s.size - (match wr.cell? ⟨R,1,none⟩ with | some (.int _ k)=>k.toNat | _=>0))
 case atStart=>exact ⟨rfl,rfl,i,s.data.toList.length+1,[],H0.out,hi,World.ownsRow_nil _ _ _ _,gb_refl _ _,by omega,HS.out,by simp⟩
 case round =>
  obtain ⟨rfl,rfl,kx,f,acc,hrd,hk,hown,hg,hf,hhd,hac⟩:=hrel
  obtain ⟨f,rfl⟩:∃f',f=f'+1:=⟨f - 1,by omega⟩
  rw [hdK_step] at hhd
  have HRK:Hid (Rd wr R s kx T):=hrd
  have HGK:Hid (w.grownBy wr (some R)):=hg
  have HOW:Hid (wr.ownsRow w.heap.size 133 2 u4 acc.length (kyC acc)):=hown
  have HME:Hid ((match wr.cell? ⟨R,1,none⟩ with | some (.int _ k)=>k.toNat | _=>0)=kx):=by show _=_;rw [hrd.cells.2.1];simp
  have C1:=CS.out kx wr hrd hk
  obtain ⟨b1,b2⟩:=HBL.out kx hk
  obtain ⟨j0,hj0⟩:∃j0,bl s.data.toList kx=j0:=⟨_,rfl⟩
  rw [hj0] at C1 hhd b1 b2
  have C1':Hid (Calls Tryz.prog 39 #[.pointer (some ⟨R,0,none⟩)] wr fun e w'=>e=.returned (.tuple #[])/\Rd w' R s j0 T/\wr.grownBy w' (some R)):=C1
  have HK0:=HKO.out j0
  have CK0:=CK.out j0
  obtain ⟨KR,hKR⟩:∃KR,rdKey s.data.toList j0=KR:=⟨_,rfl⟩
  rw [hKR] at HK0 CK0 hhd
  have HHD:Hid (_=S):=hhd
  have HK0':Hid (∀x j,j0<=s.size->KR=.ok (x,j)->j0 < j/\j<=s.size):=HK0
  have CK0':Hid (∀w',Rd w' R s j0 T->j0<=s.size->w.grownBy w' (some R)->Calls Tryz.prog 75 #[.pointer (some ⟨R,0,none⟩)] w' (KePost R s T E j0 KR w')):=CK0
  clear hrd hown hg hhd C1 HK0 CK0 hj0 hKR
  go_wp2_with (first | (go_at_call 39;refine C1'.out.mono ?_))
  rintro e w2 ⟨rfl,hr2,hg2⟩
  have HR2:Hid (Rd w2 R s j0 T):=hr2
  have HG2:Hid (w.grownBy w2 (some R)):=gb_two HGK.out hg2
  have HOW2:Hid (w2.ownsRow w.heap.size 133 2 u4 acc.length (kyC acc)):=own_block HOW.out fun g' cur' hh hc=>hg2.block g' (blk_lt hc) (by simp only [ne_eq,Option.some.injEq];exact ne_typ hc HRK.out (by decide))
  clear hr2 hg2
  go_wp2_with (first | (go_at_call 75;refine (CK0'.out _ HR2.out b2 HG2.out).mono ?_))
  rintro e w3 ⟨p1,p2,p3⟩
  have HG3:Hid (w.grownBy w3 (some R)):=gb_two HG2.out p3
  cases KR with
  | error ec =>
   obtain ⟨ec1,ec2⟩:=ec
   obtain ⟨ka,kb,v,rfl,F,rfl,hF⟩:=p2 ec1 ec2 rfl
   have HFV:Hid (FaultE w3 (.iface 65 (.pointer (some ⟨F,0,none⟩))) E ec1 ec2):=⟨F,rfl,hF⟩
   have HSE:Hid (S=.error (ec1,ec2)):=HHD.out.symm
   clear p1 p2 p3 hF
   have HGA:Hid (w.grownBy (w3.alloc (.cells #[.string ka,.int .i64 kb] 133)) (some R)):=gb_more HG3.out (World.grownBy_alloc _ _ none)
   have HFA:Hid (FaultE (w3.alloc (.cells #[.string ka,.int .i64 kb] 133)) (.iface 65 (.pointer (some ⟨F,0,none⟩))) E ec1 ec2):=FaultV.grow HFV.out (World.grownBy_alloc _ _ none)
   go_wp2
   refine bodyPost_ret (results_tmp2 (t:=2) (u:=3) rfl _ _ _) rfl ?_
   rw [HSE.out]
   exact ⟨fun l j hh=>(by cases hh),fun c p hh=>(by cases hh;exact ⟨F,rfl,HFA.out⟩),HGA.out⟩
  | ok q =>
   obtain ⟨kk,j⟩:=q
   obtain ⟨rfl,hr3⟩:=p1 kk j rfl
   obtain ⟨k1,k2⟩:=HK0'.out kk j b2 rfl
   have hown3:w3.ownsRow w.heap.size 133 2 u4 acc.length (kyC acc):=own_block HOW2.out fun g' cur' hh hc=>p3.block g' (blk_lt hc) (by simp only [ne_eq,Option.some.injEq];exact ne_typ hc HR2.out (by decide))
   have HR3:Hid (Rd w3 R s j T):=hr3
   have hnb:=heap_alloc_new (w3.alloc (.cells #[.string ⟨kk.toArray⟩,.int .i64 (j0:Nat)] 133)) (.cells #[.string ⟨kk.toArray⟩,.int .i64 (j0:Nat)] 133)
   rw [World.size_alloc] at hnb
   have HNB:Hid (((w3.alloc (.cells #[.string ⟨kk.toArray⟩,.int .i64 (j0:Nat)] 133)).alloc (.cells #[.string ⟨kk.toArray⟩,.int .i64 (j0:Nat)] 133)).heap[w3.heap.size+1]?=some (.cells #[.string ⟨kk.toArray⟩,.int .i64 (j0:Nat)] 133 (0,0))):=hnb
   have hsz3:w.heap.size<=w3.heap.size:=HG3.out.size
   have hone:=key_one (kk,j0)
   try simp only [] at hone
   clear p1 p2 p3 hr3 hnb
   go_wp2_with (first | (at_builtin;refine wpList_append_lies _ rfl _ _ 128 rfl w.heap.size 133 i0 _ 2 24 Tryz.underlying128 hi0 hz0 hz1 hzb rfl (by decide) u4 acc.length (kyC acc) rfl ((hown3.alloc _).alloc _) ⟨w3.heap.size+1,0,none⟩ 1 1 [.string ⟨kk.toArray⟩,.int .i64 (j0:Nat)] rfl rfl (World.news_of_block HNB.out) hone (by omega) (by unfold maxLen;omega) (by omega) (by simp;omega) _ rfl ?_))
   intro g cap w6 hown6 hgrow hat hlt6
   have hr5:=(HR3.out.grow (World.grownBy_alloc w3 (.cells #[.string ⟨kk.toArray⟩,.int .i64 (j0:Nat)] 133) none)).grow (World.grownBy_alloc _ (.cells #[.string ⟨kk.toArray⟩,.int .i64 (j0:Nat)] 133) none)
   have hown5:=(hown3.alloc (.cells #[.string ⟨kk.toArray⟩,.int .i64 (j0:Nat)] 133)).alloc (.cells #[.string ⟨kk.toArray⟩,.int .i64 (j0:Nat)] 133)
   have HR6:Hid (Rd w6 R s j T):=(hgrow.block R (blk_lt hr5) (fun e=>by
    obtain ⟨-,cc,hcc⟩:=own_typ hown5 e.symm
    exact ne_typ hr5 hcc (by decide) rfl)).trans hr5
   have HG6:Hid (w.grownBy w6 (some R)):=gb_row (gb_more (gb_more HG3.out (World.grownBy_alloc _ _ none)) (World.grownBy_alloc _ _ none)) hgrow (fun b hb=>(own_typ hown5 hb).1)
   have HOW6:Hid (w6.ownsRow w.heap.size 133 2 (.slice (some ⟨g,0,none⟩) (acc.length+1) cap) (acc.length+1) (kyC (acc++[(kk,j0)]))):=by
    show World.ownsRow _ _ _ _ _ _ _
    rw [kyC_app]
    exact hown6
   have C7:=CS.out j w6 HR6.out k2
   obtain ⟨d1,d2⟩:=HBL.out j k2
   have HH2:=HHD.out
   try simp only [] at HH2
   obtain ⟨j7,hj7⟩:∃j7,bl s.data.toList j=j7:=⟨_,rfl⟩
   rw [hj7] at C7 d1 d2 HH2
   have C7':Hid (Calls Tryz.prog 39 #[.pointer (some ⟨R,0,none⟩)] w6 fun e w'=>e=.returned (.tuple #[])/\Rd w' R s j7 T/\w6.grownBy w' (some R)):=C7
   have HN7:Hid (nx s.data.toList j7=46->j7 < s.size):=HLT.out j7
   have C8:Hid (∀w',Rd w' R s j7 T->Calls Tryz.prog 40 #[.pointer (some ⟨R,0,none⟩)] w' fun e w''=>e=.returned (.int .i64 (nx s.data.toList j7))/\w'.grownBy w'' none):=fun w' hh=>CN.out j7 w' hh d2
   obtain ⟨y,hy⟩:∃y,nx s.data.toList j7=y:=⟨_,rfl⟩
   rw [hy] at HH2 HN7 C8
   have HH3:Hid (_=S):=HH2
   clear hown6 hgrow hat hlt6 hr5 hown5 hown3 C7 HH2 hj7 hy hone hsz3
   go_wp2_with (first | (go_at_call 39;refine C7'.out.mono ?_))
   rintro e w7 ⟨rfl,hr7,hg7⟩
   have HR7:Hid (Rd w7 R s j7 T):=hr7
   have HG7:Hid (w.grownBy w7 (some R)):=gb_two HG6.out hg7
   have HOW7:Hid (w7.ownsRow w.heap.size 133 2 (.slice (some ⟨g,0,none⟩) (acc.length+1) cap) (acc.length+1) (kyC (acc++[(kk,j0)]))):=own_block HOW6.out fun g' cur' hh hc=>hg7.block g' (blk_lt hc) (by simp only [ne_eq,Option.some.injEq];exact ne_typ hc HR6.out (by decide))
   clear hr7 hg7
   go_wp2_with (first | (go_at_call 40;refine (C8.out _ HR7.out).mono ?_))
   rintro e w8 ⟨rfl,hg8⟩
   have HR8:Hid (Rd w8 R s j7 T):=HR7.out.grow hg8
   have HG8:Hid (w.grownBy w8 (some R)):=gb_more HG7.out hg8
   have HOW8:Hid (w8.ownsRow w.heap.size 133 2 (.slice (some ⟨g,0,none⟩) (acc.length+1) cap) (acc.length+1) (kyC (acc++[(kk,j0)]))):=own_block HOW7.out fun g' cur' hh hc=>hg8.block g' (blk_lt hc) (by simp)
   clear hg8
   have HAL:Hid ((acc++[(kk,j0)]).length=acc.length+1):=by show _=_;simp
   by_cases c46:y=46
   ·have e46:(y != 46)=false:=by simp [c46]
    have hjl:=HN7.out c46
    have HNX:Hid (hdK s.data.toList f (j7+1) (acc++[(kk,j0)])=S):=by
     have:=HH3.out
     rw [if_pos c46] at this
     exact this
    obtain ⟨-,r1,-,rf⟩:=HR8.out.cells
    have rf1:=rf 1
    have HS9:Hid (Rd (w8.setCell ⟨R,1,none⟩ (.int .i64 ((j7:Int)+1))) R s (j7+1) T):=HR8.out.set (j7+1)
    have HO9:Hid ((w8.setCell ⟨R,1,none⟩ (.int .i64 ((j7:Int)+1))).ownsRow w.heap.size 133 2 (.slice (some ⟨g,0,none⟩) (acc.length+1) cap) (acc++[(kk,j0)]).length (kyC (acc++[(kk,j0)]))):=by
     show World.ownsRow _ _ _ _ _ _ _
     rw [HAL.out]
     exact own_block HOW8.out fun g' cur' hh hc=>heap_setCell_other _ _ _ _ (ne_typ hc HR8.out (by decide))
    clear c46 rf
    go_wp2
    go_roundw
    case rel=>exact ⟨rfl,rfl,j7+1,f,acc++[(kk,j0)],HS9.out,by omega,HO9.out,gb_set HG8.out 1 _,by omega,HNX.out,by rw [HAL.out];omega⟩
    case measure =>
     rw [HME.out,HS9.out.cells.2.1]
     simp
     omega
   ·have e46:(y != 46)=true:=by simp [c46]
    have HSE:Hid (S=.ok (acc++[(kk,j0)],j7)):=by
     have:=HH3.out
     rw [if_neg c46] at this
     exact this.symm
    clear c46
    go_wp2
    refine bodyPost_ret (results_tmp2 (t:=2) (u:=3) rfl _ _ _) rfl ?_
    rw [HSE.out]
    obtain ⟨hky,hcp⟩:=kyR_own HOW8.out HAL.out
    exact ⟨fun l j hh=>(by cases hh;exact ⟨g,cap,by rw [HAL.out];rfl,hky,by rw [HAL.out];exact hcp,HR8.out⟩),fun c p hh=>(by cases hh),HG8.out⟩
end Go.Proofs.YtbgnflcebafjjaaGreatDoor
namespace Go.Proofs.YtbgnflcebafjjaaGreatDoor
open Go.RowKit Go.Joins
set_option linter.unusedVariables false
def Dd (w:World) (R:Nat) (s:ByteArray) (L O:Value) (now de i:Nat) (er:Int) (p:Nat):Prop:=w.heap[R]?=some (.cells #[.string s,.int .i64 (i:Nat),L,O,.int .i64 (now:Nat),.int .i64 er,.int .i64 (p:Nat),.int .i64 (de:Nat)] 51 (0,0))
section
variable {w w':World} {R:Nat} {s:ByteArray} {L O:Value} {now de i:Nat} {er:Int} {p:Nat}
theorem Dd.grow (h:Dd w R s L O now de i er p) (hg:w.grownBy w' none):Dd w' R s L O now de i er p:=(hg.block R (Array.getElem?_eq_some_iff.1 h).1 (by simp)).trans h
theorem Dd.cells (h:Dd w R s L O now de i er p):w.cell? ⟨R,0,none⟩=some (.string s)/\w.cell? ⟨R,1,none⟩=some (.int .i64 (i:Nat))/\w.cell? ⟨R,2,none⟩=some L/\w.cell? ⟨R,3,none⟩=some O/\w.cell? ⟨R,4,none⟩=some (.int .i64 (now:Nat))/\w.cell? ⟨R,5,none⟩=some (.int .i64 er)/\w.cell? ⟨R,6,none⟩=some (.int .i64 (p:Nat))/\w.cell? ⟨R,7,none⟩=some (.int .i64 (de:Nat))/\∀k,w.frozen? ⟨R,k,none⟩=false :=
 ⟨by rw [Lib.cell_of_heap h];rfl,by rw [Lib.cell_of_heap h];rfl,by rw [Lib.cell_of_heap h];rfl,by rw [Lib.cell_of_heap h];rfl,by rw [Lib.cell_of_heap h];rfl,by rw [Lib.cell_of_heap h];rfl,by rw [Lib.cell_of_heap h];rfl,by rw [Lib.cell_of_heap h];rfl,fun k=>Lib.frozen_of_heap h k⟩
theorem Dd.setI (h:Dd w R s L O now de i er p) (j:Nat):Dd (w.setCell ⟨R,1,none⟩ (.int .i64 (j:Nat))) R s L O now de j er p:=block_setCell (i:=1) h _
theorem Dd.setL (h:Dd w R s L O now de i er p) (v:Value):Dd (w.setCell ⟨R,2,none⟩ v) R s v O now de i er p:=block_setCell (i:=2) h _
theorem Dd.setO (h:Dd w R s L O now de i er p) (v:Value):Dd (w.setCell ⟨R,3,none⟩ v) R s L v now de i er p:=block_setCell (i:=3) h _
theorem Dd.setN (h:Dd w R s L O now de i er p) (j:Nat):Dd (w.setCell ⟨R,4,none⟩ (.int .i64 (j:Nat))) R s L O j de i er p:=block_setCell (i:=4) h _
theorem Dd.setE (h:Dd w R s L O now de i er p) (e:Int):Dd (w.setCell ⟨R,5,none⟩ (.int .i64 e)) R s L O now de i e p:=block_setCell (i:=5) h _
theorem Dd.setA (h:Dd w R s L O now de i er p) (j:Nat):Dd (w.setCell ⟨R,6,none⟩ (.int .i64 (j:Nat))) R s L O now de i er j:=block_setCell (i:=6) h _
theorem Dd.setD (h:Dd w R s L O now de i er p) (j:Nat):Dd (w.setCell ⟨R,7,none⟩ (.int .i64 (j:Nat))) R s L O now j i er p:=block_setCell (i:=7) h _
end
def Ds (w:World) (R:Nat) (s:ByteArray) (L O:Value) (now de:Nat) (q:Rs Nat):Prop:=match q with | .ok i=>i<=s.size/\Dd w R s L O now de i 0 0 | .error (c,p)=>c ≠ 0/\∃j,j<=s.size/\Dd w R s L O now de j c p
theorem Ds.grow {w w':World} {R:Nat} {s:ByteArray} {L O:Value} {now de:Nat} {q:Rs Nat} (h:Ds w R s L O now de q) (hg:w.grownBy w' none):Ds w' R s L O now de q:=by
 match q,h with
 | .ok i,h=>exact ⟨h.1,h.2.grow hg⟩
 | .error (c,p),⟨h1,j,h2,h3⟩=>exact ⟨h1,j,h2,h3.grow hg⟩
def isQ (l:List UInt8) (q:Rs Nat) (c:Int):Bool:=match q with | .ok i=>decide (nx l i=c) | .error _=>false
set_option maxRecDepth 100000 in
theorem dFail_no (R:Nat) (s:ByteArray) (L O:Value) (now de i:Nat) (er:Int) (p:Nat) (e:Int) (a:Nat) (w:World) (h:Dd w R s L O now de i er p) (hE:¬ er=0) :
  Calls Tryz.prog 55 #[.pointer (some ⟨R,0,none⟩),.int .i64 e,.int .i64 (a:Nat)] w fun en w'=>en=.returned (.tuple #[])/\w'=w:=by
 obtain ⟨-,-,-,-,-,c5,-,-,-⟩:=h.cells
 have hn:(er == 0)=false:=by simpa using hE
 clear h hE
 go_enter Tryz.func55,Tryz.ntmps55
 go_wp2
 exact bodyPost_end (results_none rfl _ _ _) rfl ⟨rfl,rfl⟩
set_option maxRecDepth 100000 in
theorem dFail_yes (R:Nat) (s:ByteArray) (L O:Value) (now de i:Nat) (e:Int) (a:Nat) (w:World) (h:Dd w R s L O now de i 0 0) :
  Calls Tryz.prog 55 #[.pointer (some ⟨R,0,none⟩),.int .i64 e,.int .i64 (a:Nat)] w fun en w'=>en=.returned (.tuple #[])/\Dd w' R s L O now de i e a/\w.grownBy w' (some R):=by
 obtain ⟨-,-,-,-,-,c5,c6,-,df⟩:=h.cells
 have df5:=df 5
 have df6:=df 6
 have HS:Hid (Dd ((w.setCell ⟨R,5,none⟩ (.int .i64 e)).setCell ⟨R,6,none⟩ (.int .i64 (a:Nat))) R s L O now de i e a):=(h.setE e).setA a
 have HG:Hid (w.grownBy ((w.setCell ⟨R,5,none⟩ (.int .i64 e)).setCell ⟨R,6,none⟩ (.int .i64 (a:Nat))) (some R)):=gb_set (gb_set (gb_refl w (some R)) 5 _) 6 _
 clear h df
 go_enter Tryz.func55,Tryz.ntmps55
 go_wp2
 exact bodyPost_end (results_none rfl _ _ _) rfl ⟨rfl,HS.out,HG.out⟩
set_option maxRecDepth 100000 in
set_option maxHeartbeats 800000 in
theorem dIs_any (R:Nat) (s:ByteArray) (L O:Value) (now de:Nat) (q:Rs Nat) (c:Int) (hc:0<=c) (w:World) (h:Ds w R s L O now de q) (hs:s.size<=1048576) :
  Calls Tryz.prog 27 #[.pointer (some ⟨R,0,none⟩),.int .u8 c] w fun e w'=>e=.returned (.bool (isQ s.data.toList q c))/\w.grownBy w' none:=by
 have hl:s.data.toList.length=s.size:=by simp
 match q,h with
 | .error (k,p),⟨h1,j,h2,h3⟩ =>
  obtain ⟨c0,c1,-,-,-,c5,-,-,-⟩:=h3.cells
  have hn:(k == 0)=false:=by simpa using h1
  have e:isQ s.data.toList (.error (k,p)) c=false:=rfl
  rw [e]
  clear h3 h1 e
  go_enter Tryz.func27,Tryz.ntmps27
  go_wp2
  go_quiet (fail)
  go_wp2
  go_ret
  exact ⟨rfl,⟨rfl,rfl,rfl,Nat.le_refl _,fun _ _ _=>rfl⟩⟩
 | .ok i,⟨h1,h2⟩ =>
  obtain ⟨c0,c1,-,-,-,c5,-,-,-⟩:=h2.cells
  have e:isQ s.data.toList (.ok i) c=decide (nx s.data.toList i=c):=rfl
  rw [e]
  clear h2 e
  by_cases hlt:i < s.size
  ·have hn:nx s.data.toList i=(s[i].toNat:Int):=by rw [nx_at _ _ (by omega)];rfl
   rw [hn]
   obtain ⟨b,hb⟩:∃b,((s[i].toNat:Int) == c)=b:=⟨_,rfl⟩
   have hb2:decide ((s[i].toNat:Int)=c)=b:=by rw [<-hb,Bool.eq_iff_iff];simp
   have hlt':decide ((i:Int) < (s.size:Int))=true:=by simp;omega
   rw [hb2]
   clear hn hb2
   cases b with
   | true =>
    go_enter Tryz.func27,Tryz.ntmps27
    go_wp2
    go_quiet (fail)
    go_wp2
    go_ret
    exact ⟨rfl,⟨rfl,rfl,rfl,Nat.le_refl _,fun _ _ _=>rfl⟩⟩
   | false =>
    go_enter Tryz.func27,Tryz.ntmps27
    go_wp2
    go_quiet (fail)
    go_wp2
    go_ret
    exact ⟨rfl,⟨rfl,rfl,rfl,Nat.le_refl _,fun _ _ _=>rfl⟩⟩
  ·rw [nx_end _ _ (by omega),decide_eq_false (by omega)]
   have hge:decide ((i:Int) < (s.size:Int))=false:=by simp;omega
   go_enter Tryz.func27,Tryz.ntmps27
   go_wp2
   go_quiet (fail)
   go_wp2
   go_ret
   exact ⟨rfl,⟨rfl,rfl,rfl,Nat.le_refl _,fun _ _ _=>rfl⟩⟩
set_option maxRecDepth 100000 in
set_option maxHeartbeats 800000 in
theorem dMust_any (R:Nat) (s:ByteArray) (L O:Value) (now de:Nat) (q:Rs Nat) (c:Int) (hc:0<=c) (w:World) (h:Ds w R s L O now de q) (hs:s.size<=1048576) :
  Calls Tryz.prog 31 #[.pointer (some ⟨R,0,none⟩),.int .u8 c] w fun e w'=>e=.returned (.tuple #[])/\Ds w' R s L O now de (q.bind fun i=>must s.data.toList i c)/\w.grownBy w' (some R):=by
 have hl:s.data.toList.length=s.size:=by simp
 have CI:Hid (Calls Tryz.prog 27 #[.pointer (some ⟨R,0,none⟩),.int .u8 c] w fun e w'=>e=.returned (.bool (isQ s.data.toList q c))/\w.grownBy w' none):=dIs_any R s L O now de q c hc w h hs
 match q,h with
 | .error (k,p),⟨h1,j,h2,h3⟩ =>
  have e:isQ s.data.toList (.error (k,p)) c=false:=rfl
  rw [e] at CI
  have HD:Hid (Dd w R s L O now de j k p):=h3
  have HK:Hid (k ≠ 0):=h1
  have HJ:Hid (j<=s.size):=h2
  clear h3 h1 h2 e
  go_enter Tryz.func31,Tryz.ntmps31
  go_wp2_with (first | (go_at_call 27;refine CI.out.mono ?_))
  rintro e w1 ⟨rfl,hg1⟩
  have HD1:Hid (Dd w1 R s L O now de j k p):=HD.out.grow hg1
  have HG1:Hid (w.grownBy w1 (some R)):=gb_more (gb_refl w (some R)) hg1
  obtain ⟨-,c1,-⟩:=HD1.out.cells
  clear hg1
  go_wp2_with (first | (go_at_call 55;refine (dFail_no R s L O now de j k p _ _ _ HD1.out HK.out).mono ?_;rintro e w2 ⟨rfl,rfl⟩))
  refine bodyPost_ret (results_none rfl _ _ _) rfl ?_
  exact ⟨rfl,⟨HK.out,j,HJ.out,HD1.out⟩,HG1.out⟩
 | .ok i,⟨h1,h2⟩ =>
  have e:isQ s.data.toList (.ok i) c=decide (nx s.data.toList i=c):=rfl
  rw [e] at CI
  have HD:Hid (Dd w R s L O now de i 0 0):=h2
  have HI:Hid (i<=s.size):=h1
  have e2:(Except.bind (.ok i) fun i=>must s.data.toList i c:Rs Nat)=if nx s.data.toList i=c then .ok (i+1) else .error (2,i):=rfl
  rw [e2]
  have HLT:Hid (nx s.data.toList i=c->i < s.size):=fun hn=>by rw [<-hl];exact nx_lt (by omega)
  clear h2 e e2
  by_cases hn:nx s.data.toList i=c
  ·rw [decide_eq_true hn] at CI
   rw [if_pos hn]
   have hlt:=HLT.out hn
   clear hn HLT
   go_enter Tryz.func31,Tryz.ntmps31
   go_wp2_with (first | (go_at_call 27;refine CI.out.mono ?_))
   rintro e w1 ⟨rfl,hg1⟩
   have HD1:Hid (Dd w1 R s L O now de i 0 0):=HD.out.grow hg1
   have HG1:Hid (w.grownBy w1 (some R)):=gb_more (gb_refl w (some R)) hg1
   obtain ⟨-,c1,-,-,-,-,-,-,df⟩:=HD1.out.cells
   have df1:=df 1
   have HS:Hid (Dd (w1.setCell ⟨R,1,none⟩ (.int .i64 ((i:Int)+1))) R s L O now de (i+1) 0 0):=HD1.out.setI (i+1)
   clear hg1 df
   go_wp2
   exact bodyPost_end (results_none rfl _ _ _) rfl ⟨rfl,⟨by omega,HS.out⟩,gb_set HG1.out 1 _⟩
  ·rw [decide_eq_false hn] at CI
   rw [if_neg hn]
   clear hn HLT
   go_enter Tryz.func31,Tryz.ntmps31
   go_wp2_with (first | (go_at_call 27;refine CI.out.mono ?_))
   rintro e w1 ⟨rfl,hg1⟩
   have HD1:Hid (Dd w1 R s L O now de i 0 0):=HD.out.grow hg1
   have HG1:Hid (w.grownBy w1 (some R)):=gb_more (gb_refl w (some R)) hg1
   obtain ⟨-,c1,-⟩:=HD1.out.cells
   clear hg1
   go_wp2_with (first | (go_at_call 55;refine (dFail_yes R s L O now de i 2 i _ HD1.out).mono ?_;rintro e w2 ⟨rfl,h2,h3⟩))
   refine bodyPost_ret (results_none rfl _ _ _) rfl ?_
   exact ⟨rfl,⟨by decide,i,HI.out,h2⟩,gb_two HG1.out h3⟩
end Go.Proofs.YtbgnflcebafjjaaGreatDoor
namespace Go.Proofs.YtbgnflcebafjjaaGreatDoor
open Go.RowKit Go.Maps Go.WideMaps Go.Joins
set_option linter.unusedVariables false
def obs (n:Nat) (own:List Nat):List Value:=(List.range n).map fun i=>.bool (decide (i ∈ own))
theorem obs_len (n:Nat) (own:List Nat):(obs n own).length=n:=by simp [obs]
theorem obs_succ (n:Nat) (own:List Nat) (h:¬ n ∈ own):obs (n+1) own=obs n own++[.bool false]:=by
 unfold obs
 rw [List.range_succ,List.map_append,List.map_singleton,decide_eq_false h]
theorem obs_get (n:Nat) (own:List Nat) (t:Nat) (ht:t < n):(obs n own)[t]?=some (.bool (decide (t ∈ own))):=by
 unfold obs
 rw [List.getElem?_map,List.getElem?_range ht];rfl
theorem obs_set (n:Nat) (own:List Nat) (t:Nat) (ht:t < n):(obs n own).set t (.bool true)=obs n (t :: own):=by
 apply List.ext_getElem?
 intro i
 by_cases hi:i < n
 ·rw [obs_get n (t :: own) i hi]
  by_cases he:i=t
  ·subst he
   rw [List.getElem?_set_self (by rw [obs_len];exact hi)]
   simp
  ·rw [List.getElem?_set_ne (fun e=>he e.symm),obs_get n own i hi]
   simp [he]
 ·rw [List.getElem?_eq_none (by rw [List.length_set,obs_len];omega),List.getElem?_eq_none (by rw [obs_len];omega)]
structure DtD (w:World) (B P:Nat) (ns:List Tn) (m:Nat) (own:List Nat) (LV OV:Value) (xs:List Value) (ks:Nat->Value):Prop where
 row:w.ownsRow B 53 6 LV ns.length xs
 cel:∀i (hi:i < ns.length),xs[i * 6]?=some (.int .i64 ns[i].kd)/\xs[i * 6+1]?=some (.string ⟨ns[i].ky.toArray⟩)/\xs[i * 6+2]?=some (.string ⟨ns[i].tx.toArray⟩)/\xs[i * 6+3]?=some (.int .i64 ns[i].nu)/\xs[i * 6+4]?=some (ks i)/\xs[i * 6+5]?=some (.int .i64 (ns[i].pl:Nat))
 kid:∀i (hi:i < ns.length),w.ownsRow B 3 1 (ks i) ns[i].ks.length (ns[i].ks.map fun q=>.int .i64 (q:Nat))
 apart:∀i j g,i < ns.length->j < ns.length->(ks i).ownBlock=some g->(ks j).ownBlock=some g->i=j
 owr:w.ownsRow B 4 1 OV m (obs m own)
 far:∀i,i < ns.length->(ks i).ownBlock ≠ some P
 hP:P < w.heap.size
structure DFr (B P:Nat) (w w':World):Prop where
 bel:Below B w w'
 oth:∀(b:Nat) (cs:Array Value) (t:TypeId) (fz:Nat × Nat),w.heap[b]?=some (.cells cs t fz)->¬ t=51->¬ t=53->¬ t=3->¬ t=4->w'.heap[b]?=w.heap[b]?
 pro:w'.heap[P]?=w.heap[P]?
section
variable {w w':World} {B P:Nat} {ns:List Tn} {m:Nat} {own:List Nat} {LV OV:Value} {xs:List Value} {ks:Nat->Value}
theorem DFr.two {w1 w2:World} (h:DFr B P w w1) (h':DFr B P w1 w2):DFr B P w w2 :=
 ⟨h.bel.trans h'.bel,fun b cs t fz hb h1 h2 h3 h4=>by
  have e1:=h.oth b cs t fz hb h1 h2 h3 h4
  exact (h'.oth b cs t fz (e1.trans hb) h1 h2 h3 h4).trans e1,h'.pro.trans h.pro⟩
theorem DFr.refl (w:World):DFr B P w w:=⟨⟨rfl,rfl,rfl,Nat.le_refl _,fun _ _=>rfl⟩,fun _ _ _ _ _ _ _ _ _=>rfl,rfl⟩
theorem DFr.gb (hg:w.grownBy w' none) (hB:B<=w.heap.size) (hP:P < w.heap.size):DFr B P w w' :=
 ⟨⟨hg.os,hg.tape,hg.output,hg.size,fun k hk=>hg.block k (by omega) (by simp)⟩,fun b cs t fz hb _ _ _ _=>hg.block b (blk_lt hb) (by simp),hg.block P hP (by simp)⟩
theorem DFr.row {t:TypeId} {g:Nat} {cur:Array Value} {fz:Nat × Nat} (hg:w.grownBy w' (some g)) (hB:B<=w.heap.size) (hP:P < w.heap.size) (hgB:B<=g) (hgP:¬ P=g) (hb:w.heap[g]?=some (.cells cur t fz)) (ht:t=51\/t=53\/t=3\/t=4):DFr B P w w' :=
 ⟨⟨hg.os,hg.tape,hg.output,hg.size,fun k hk=>hg.block k (by omega) (by simp;omega)⟩,fun b cs t' fz' hb' h1 h2 h3 h4=>hg.block b (blk_lt hb') (by
  simp only [ne_eq,Option.some.injEq]
  refine ne_typ hb' hb ?_
  rcases ht with rfl | rfl | rfl | rfl
  ·exact h1
  ·exact h2
  ·exact h3
  ·exact h4),hg.block P hP (by simpa using hgP)⟩
theorem DFr.size (h:DFr B P w w'):w.heap.size<=w'.heap.size:=h.bel.size
theorem DtD.keeps (h:DtD w B P ns m own LV OV xs ks) (hsz:w.heap.size<=w'.heap.size) (hk:∀(b:Nat) (cs:Array Value) (t:TypeId) (fz:Nat × Nat),w.heap[b]?=some (.cells cs t fz)->(t=53\/t=3\/t=4)->w'.heap[b]?=w.heap[b]?):DtD w' B P ns m own LV OV xs ks :=
 ⟨own_block h.row fun g cur _ hc=>hk _ _ _ _ hc (Or.inl rfl),h.cel,fun i hi=>own_block (h.kid i hi) fun g cur _ hc=>hk _ _ _ _ hc (Or.inr (Or.inl rfl)),h.apart,own_block h.owr fun g cur _ hc=>hk _ _ _ _ hc (Or.inr (Or.inr rfl)),h.far,Nat.lt_of_lt_of_le h.hP hsz⟩
theorem DtD.gb (h:DtD w B P ns m own LV OV xs ks) (hg:w.grownBy w' none):DtD w' B P ns m own LV OV xs ks:=h.keeps hg.size fun b cs t fz hb _=>hg.block b (blk_lt hb) (by simp)
theorem DtD.keepR {R:Nat} {s:ByteArray} {L O:Value} {now de i:Nat} {er:Int} {p:Nat} (h:DtD w B P ns m own LV OV xs ks) (hR:Dd w R s L O now de i er p) (hg:w.grownBy w' (some R)):DtD w' B P ns m own LV OV xs ks :=
 h.keeps hg.size fun b cs t fz hb ht=>hg.block b (blk_lt hb) (by
  simp only [ne_eq,Option.some.injEq]
  refine ne_typ hb hR ?_
  rcases ht with rfl | rfl | rfl <;> decide)
theorem Ds.dd {R:Nat} {s:ByteArray} {L O:Value} {now de:Nat} {q:Rs Nat} (h:Ds w R s L O now de q):∃i er p,Dd w R s L O now de i er p:=by
 match q,h with
 | .ok i,h=>exact ⟨_,_,_,h.2⟩
 | .error (c,p),⟨_,j,_,h3⟩=>exact ⟨_,_,_,h3⟩
theorem Ds.other {R g:Nat} {s:ByteArray} {L O:Value} {now de:Nat} {q:Rs Nat} (h:Ds w R s L O now de q) (hg:w.grownBy w' (some g)) (hne:¬ R=g):Ds w' R s L O now de q:=by
 have key:∀i er p,Dd w R s L O now de i er p->Dd w' R s L O now de i er p:=fun i er p hd=>(hg.block R (blk_lt hd) (by simpa using hne)).trans hd
 match q,h with
 | .ok i,h=>exact ⟨h.1,key _ _ _ h.2⟩
 | .error (c,p),⟨h1,j,h2,h3⟩=>exact ⟨h1,j,h2,key _ _ _ h3⟩
theorem DtD.node {N c:Nat} (h:DtD w B P ns m own (.slice (some ⟨N,0,none⟩) ns.length c) OV xs ks) (i:Nat) (hi:i < ns.length):w.cell? ⟨N,i * 6,none⟩=some (.int .i64 ns[i].kd)/\w.cell? ⟨N,i * 6+1,none⟩=some (.string ⟨ns[i].ky.toArray⟩)/\w.cell? ⟨N,i * 6+2,none⟩=some (.string ⟨ns[i].tx.toArray⟩)/\w.cell? ⟨N,i * 6+3,none⟩=some (.int .i64 ns[i].nu)/\w.cell? ⟨N,i * 6+4,none⟩=some (ks i)/\w.cell? ⟨N,i * 6+5,none⟩=some (.int .i64 (ns[i].pl:Nat))/\∀k,w.frozen? ⟨N,k,none⟩=false:=by
 obtain ⟨h0,h1,h2,h3,h4,h5⟩:=h.cel i hi
 have key:∀j u,xs[j]?=some u->w.cell? ⟨N,j,none⟩=some u:=fun j u hu=>by
  have:=h.row.cells (g:=N) rfl j u hu
  rw [zero_off] at this
  exact this
 obtain ⟨cur,hc⟩:=(own_typ h.row rfl).2
 exact ⟨key _ _ h0,key _ _ h1,key _ _ h2,key _ _ h3,key _ _ h4,key _ _ h5,fun k=>Lib.frozen_of_heap hc k⟩
theorem DtD.flagAt {O oc:Nat} (h:DtD w B P ns m own LV (.slice (some ⟨O,0,none⟩) m oc) xs ks) (t:Nat) (ht:t < m):w.cell? ⟨O,t,none⟩=some (.bool (decide (t ∈ own)))/\w.frozen? ⟨O,t,none⟩=false:=by
 obtain ⟨cur,hc⟩:=(own_typ h.owr rfl).2
 refine ⟨?_,Lib.frozen_of_heap hc t⟩
 have:=h.owr.cells (g:=O) rfl t _ (obs_get m own t ht)
 rw [zero_off] at this
 exact this
theorem DtD.push (h:DtD w B P ns m own LV OV xs ks) {w1:World} {LV':Value} {L:Nat} (x:Tn) (hx:x.ks=[]) (hL:ns.length+1=L)
  (ho:w1.ownsRow B 53 6 LV' L (xs++[.int .i64 x.kd,.string ⟨x.ky.toArray⟩,.string ⟨x.tx.toArray⟩,.int .i64 x.nu,.slice none 0 0,.int .i64 (x.pl:Nat)])) (hg:w.grownBy w1 LV.ownBlock) :
  DtD w1 B P (ns++[x]) m own LV' OV (xs++[.int .i64 x.kd,.string ⟨x.ky.toArray⟩,.string ⟨x.tx.toArray⟩,.int .i64 x.nu,.slice none 0 0,.int .i64 (x.pl:Nat)]) (fun i=>if i=ns.length then .slice none 0 0 else ks i):=by
 have hne:∀(b:Nat) (cs:Array Value) (t:TypeId) (fz:Nat × Nat),w.heap[b]?=some (.cells cs t fz)->¬ t=53->w1.heap[b]?=w.heap[b]?:=fun b cs t fz hb ht=>hg.block b (blk_lt hb) (fun e=>by
  obtain ⟨cc,hcc⟩:=(own_typ h.row e.symm).2
  exact ne_typ hb hcc ht rfl)
 have hxl:xs.length=ns.length * 6:=h.row.1
 have hlen:(ns++[x]).length=L:=by simp [hL]
 refine ⟨?_,?_,?_,?_,own_block h.owr fun g cur _ hc=>hne _ _ _ _ hc (by decide),?_,Nat.lt_of_lt_of_le h.hP hg.size⟩
 ·rw [hlen];exact ho
 ·intro i hi
  rw [hlen] at hi
  by_cases he:i=ns.length
  ·subst he
   simp only [List.getElem_append_right (Nat.le_refl _),Nat.sub_self,List.getElem_cons_zero]
   rw [<-hxl]
   refine ⟨?_,?_,?_,?_,?_,?_⟩
   ·rw [List.getElem?_append_right (by omega),Nat.sub_self];rfl
   ·rw [List.getElem?_append_right (by omega),show xs.length+1 - xs.length=1 by omega];rfl
   ·rw [List.getElem?_append_right (by omega),show xs.length+2 - xs.length=2 by omega];rfl
   ·rw [List.getElem?_append_right (by omega),show xs.length+3 - xs.length=3 by omega];rfl
   ·rw [List.getElem?_append_right (by omega),show xs.length+4 - xs.length=4 by omega];simp
   ·rw [List.getElem?_append_right (by omega),show xs.length+5 - xs.length=5 by omega];rfl
  ·have hlt:i < ns.length:=by omega
   obtain ⟨h0,h1,h2,h3,h4,h5⟩:=h.cel i hlt
   simp only [List.getElem_append_left hlt,if_neg he]
   refine ⟨?_,?_,?_,?_,?_,?_⟩
   all_goals (rw [List.getElem?_append_left (by omega)];assumption)
 ·intro i hi
  rw [hlen] at hi
  by_cases he:i=ns.length
  ·subst he
   simp only [List.getElem_append_right (Nat.le_refl _),Nat.sub_self,List.getElem_cons_zero,hx,if_true]
   exact ⟨rfl,Or.inl ⟨rfl,rfl⟩⟩
  ·have hlt:i < ns.length:=by omega
   simp only [List.getElem_append_left hlt,if_neg he]
   exact own_block (h.kid i hlt) fun g' cur' _ hc=>hne _ _ _ _ hc (by decide)
 ·intro i j g' hi hj h1 h2
  rw [hlen] at hi hj
  by_cases hei:i=ns.length
  ·rw [if_pos hei] at h1;cases h1
  ·by_cases hej:j=ns.length
   ·rw [if_pos hej] at h2;cases h2
   ·rw [if_neg hei] at h1
    rw [if_neg hej] at h2
    exact h.apart i j g' (by omega) (by omega) h1 h2
 ·intro i hi
  rw [hlen] at hi
  by_cases hei:i=ns.length
  ·simp only [if_pos hei];exact fun e=>by cases e
  ·simp only [if_neg hei];exact h.far i (by omega)
theorem DtD.flag (h:DtD w B P ns m own LV OV xs ks) {w1:World} {OV':Value} {L:Nat} (hL:m+1=L) (hm:¬ m ∈ own)
  (ho:w1.ownsRow B 4 1 OV' L (obs m own++[.bool false])) (hg:w.grownBy w1 OV.ownBlock):DtD w1 B P ns L own LV OV' xs ks:=by
 have hne:∀(b:Nat) (cs:Array Value) (t:TypeId) (fz:Nat × Nat),w.heap[b]?=some (.cells cs t fz)->¬ t=4->w1.heap[b]?=w.heap[b]?:=fun b cs t fz hb ht=>hg.block b (blk_lt hb) (fun e=>by
  obtain ⟨cc,hcc⟩:=(own_typ h.owr e.symm).2
  exact ne_typ hb hcc ht rfl)
 refine ⟨own_block h.row fun g cur _ hc=>hne _ _ _ _ hc (by decide),h.cel,fun i hi=>own_block (h.kid i hi) fun g cur _ hc=>hne _ _ _ _ hc (by decide),h.apart,?_,h.far,Nat.lt_of_lt_of_le h.hP hg.size⟩
 rw [<-hL,obs_succ m own hm,hL]
 exact ho
theorem DtD.kidOwn (h:DtD w B P ns m own LV OV xs ks) {i:Nat} (hi:i < ns.length) {g:Nat} (hg:(ks i).ownBlock=some g):∃cur,w.heap[g]?=some (.cells cur 3 (0,0)):=(own_typ (h.kid i hi) hg).2
theorem DtD.kidp {N c:Nat} (h:DtD w B P ns m own (.slice (some ⟨N,0,none⟩) ns.length c) OV xs ks) {w1:World} {g cap L:Nat} (p:Nat) (hp:p < ns.length) (q:Nat) (hL:ns[p].ks.length+1=L)
  (ho:w1.ownsRow B 3 1 (.slice (some ⟨g,0,none⟩) L cap) L ((ns[p].ks.map fun q=>.int .i64 (q:Nat))++[.int .i64 (q:Nat)])) (hg:w.grownBy w1 (ks p).ownBlock) (hat:(ks p).ownBlock=some g\/w.heap.size<=g) :
  DtD (w1.setCell ⟨N,p * 6+4,none⟩ (.slice (some ⟨g,0,none⟩) L cap)) B P (ns.set p { ns[p] with ks:=ns[p].ks++[q] }) m own (.slice (some ⟨N,0,none⟩) ns.length c) OV (xs.set (p * 6+4) (.slice (some ⟨g,0,none⟩) L cap)) (fun i=>if i=p then .slice (some ⟨g,0,none⟩) L cap else ks i):=by
 obtain ⟨cur,hN⟩:=(own_typ h.row (g:=N) rfl).2
 have hneP:∀(b:Nat) (cs:Array Value) (t:TypeId) (fz:Nat × Nat),w.heap[b]?=some (.cells cs t fz)->¬ t=3->w1.heap[b]?=w.heap[b]?:=fun b cs t fz hb ht=>hg.block b (blk_lt hb) (fun e=>by
  obtain ⟨cc,hcc⟩:=h.kidOwn hp e.symm
  exact ne_typ hb hcc ht rfl)
 have hN1:=hneP _ _ _ _ hN (by decide)
 have hxl:xs.length=ns.length * 6:=h.row.1
 have hlen:(ns.set p { ns[p] with ks:=ns[p].ks++[q] }).length=ns.length:=by simp
 have hPw:=h.hP
 have hs:∀(b:Nat) (cs:Array Value) (t:TypeId) (fz:Nat × Nat),w1.heap[b]?=some (.cells cs t fz)->¬ t=53->(w1.setCell ⟨N,p * 6+4,none⟩ (.slice (some ⟨g,0,none⟩) L cap)).heap[b]?=w1.heap[b]?:=fun b cs t fz hb ht=>heap_setCell_other _ _ _ _ (ne_typ hb (hN1.trans hN) ht)
 have fresh:∀k,k < ns.length->¬ k=p->(ks k).ownBlock=some g->False:=fun k hk hne e=>by
  rcases hat with e2 | e2
  ·exact hne (h.apart k p g hk hp e e2)
  ·obtain ⟨cc,hcc⟩:=h.kidOwn hk e
   have:=blk_lt hcc
   omega
 refine ⟨?_,?_,?_,?_,?_,?_,by have:=hg.size;simp [World.setCell];omega⟩
 ·rw [hlen]
  have r1:w1.ownsRow B 53 6 (.slice (some ⟨N,0,none⟩) ns.length c) ns.length xs:=own_block h.row fun g' cur' hh hc=>hneP _ _ _ _ hc (by decide)
  refine ⟨by rw [List.length_set];exact r1.1,?_⟩
  rcases r1.2 with ⟨e1,_⟩ | ⟨g',cap',cu,e1,hb,hgg,hn,hm,hs,ht⟩
  ·cases e1
  ·cases e1
   refine Or.inr ⟨N,c,cu.setIfInBounds (p * 6+4) _,rfl,hb,block_setCell hgg _,hn,hm,by simpa using hs,?_⟩
   rw [Array.toList_setIfInBounds,List.take_set,ht]
 ·intro i hi
  rw [hlen] at hi
  obtain ⟨h0,h1,h2,h3,h4,h5⟩:=h.cel i hi
  have keep:∀j,j < xs.length->¬ j=p * 6+4->(xs.set (p * 6+4) (.slice (some ⟨g,0,none⟩) L cap))[j]?=xs[j]?:=fun j hj hne=>List.getElem?_set_ne (fun e=>hne e.symm)
  by_cases he:i=p
  ·subst he
   simp only [List.getElem_set_self,if_true]
   refine ⟨(keep _ (by omega) (by omega)).trans h0,(keep _ (by omega) (by omega)).trans h1,(keep _ (by omega) (by omega)).trans h2,(keep _ (by omega) (by omega)).trans h3,List.getElem?_set_self (by omega),(keep _ (by omega) (by omega)).trans h5⟩
  ·have hpi:¬ p=i:=fun e=>he e.symm
   simp only [List.getElem_set_ne hpi,if_neg he]
   refine ⟨(keep _ (by omega) (by omega)).trans h0,(keep _ (by omega) (by omega)).trans h1,(keep _ (by omega) (by omega)).trans h2,(keep _ (by omega) (by omega)).trans h3,(keep _ (by omega) (by omega)).trans h4,(keep _ (by omega) (by omega)).trans h5⟩
 ·intro i hi
  rw [hlen] at hi
  by_cases he:i=p
  ·subst he
   simp only [List.getElem_set_self,if_true]
   rw [List.map_append,List.length_append,List.length_singleton,hL]
   exact own_block ho fun g' cur' _ hc=>hs g' _ _ _ hc (by decide)
  ·have hpi:¬ p=i:=fun e=>he e.symm
   simp only [List.getElem_set_ne hpi,if_neg he]
   refine own_block (h.kid i hi) fun g' cur' hgo hc=>?_
   have e1:w1.heap[g']?=w.heap[g']?:=hg.block g' (blk_lt hc) (fun e=>he (h.apart i p g' hi hp hgo e.symm))
   exact (hs g' _ _ _ (e1.trans hc) (by decide)).trans e1
 ·intro i j g' hi hj h1 h2
  rw [hlen] at hi hj
  by_cases hei:i=p
  ·by_cases hej:j=p
   ·rw [hei,hej]
   ·rw [if_pos hei] at h1
    rw [if_neg hej] at h2
    cases h1
    exact (fresh j hj hej h2).elim
  ·by_cases hej:j=p
   ·rw [if_pos hej] at h2
    rw [if_neg hei] at h1
    cases h2
    exact (fresh i hi hei h1).elim
   ·rw [if_neg hei] at h1
    rw [if_neg hej] at h2
    exact h.apart i j g' hi hj h1 h2
 ·refine own_block h.owr fun g' cur' _ hc=>?_
  have e1:=hneP _ _ _ _ hc (by decide)
  exact (hs g' _ _ _ (e1.trans hc) (by decide)).trans e1
 ·intro i hi
  rw [hlen] at hi
  by_cases hei:i=p
  ·simp only [if_pos hei]
   intro e
   have e':g=P:=Option.some.inj (show some g=some P from e)
   rcases hat with e2 | e2
   ·exact h.far p hp (e' ▸ e2)
   ·omega
  ·simp only [if_neg hei];exact h.far i hi
theorem DtD.mark {O oc:Nat} (h:DtD w B P ns m own LV (.slice (some ⟨O,0,none⟩) m oc) xs ks) (t:Nat) (ht:t < m):DtD (w.setCell ⟨O,t,none⟩ (.bool true)) B P ns m (t :: own) LV (.slice (some ⟨O,0,none⟩) m oc) xs ks:=by
 obtain ⟨cur,hO⟩:=(own_typ h.owr (g:=O) rfl).2
 have hs:∀(b:Nat) (cs:Array Value) (t':TypeId) (fz:Nat × Nat),w.heap[b]?=some (.cells cs t' fz)->¬ t'=4->(w.setCell ⟨O,t,none⟩ (.bool true)).heap[b]?=w.heap[b]?:=fun b cs t' fz hb ht'=>heap_setCell_other _ _ _ _ (ne_typ hb hO ht')
 refine ⟨own_block h.row fun g cur _ hc=>hs _ _ _ _ hc (by decide),h.cel,fun i hi=>own_block (h.kid i hi) fun g cur _ hc=>hs _ _ _ _ hc (by decide),h.apart,?_,h.far,by have:=h.hP;simpa [World.setCell] using this⟩
 refine ⟨by rw [obs_len];simp,?_⟩
 rcases h.owr.2 with ⟨e1,_⟩ | ⟨g',cap',cu,e1,hb,hgg,hn,hm,hs',ht'⟩
 ·cases e1
 ·cases e1
  refine Or.inr ⟨O,oc,cu.setIfInBounds t (.bool true),rfl,hb,block_setCell hgg _,hn,hm,by simpa using hs',?_⟩
  rw [Array.toList_setIfInBounds,List.take_set,ht',obs_set m own t ht]
theorem DtD.far2 (h:DtD w B P ns m own LV OV xs ks) {P':Nat} (hP:P' < w.heap.size) (hf:∀i,i < ns.length->(ks i).ownBlock ≠ some P'):DtD w B P' ns m own LV OV xs ks:=⟨h.row,h.cel,h.kid,h.apart,h.owr,hf,hP⟩
end
theorem DFr.app {w w':World} {B P:Nat} {t:TypeId} {sz n:Nat} {V:Value} {ys:List Value} (ho:w.ownsRow B t sz V n ys) (hg:w.grownBy w' V.ownBlock) (hB:B<=w.heap.size) (hP:P < w.heap.size) (hVP:V.ownBlock ≠ some P) (ht:t=51\/t=53\/t=3\/t=4):DFr B P w w':=by
 cases hb:V.ownBlock with
 | none=>rw [hb] at hg;exact DFr.gb hg hB hP
 | some q =>
  rw [hb] at hg hVP
  obtain ⟨hq,cc,hcc⟩:=own_typ ho hb
  exact DFr.row hg hB hP hq (fun e=>hVP (by rw [e])) hcc ht
theorem Ds.app {w w':World} {B R:Nat} {t:TypeId} {sz n:Nat} {V:Value} {ys:List Value} {s:ByteArray} {L O:Value} {now de:Nat} {q:Rs Nat} (h:Ds w R s L O now de q) (ho:w.ownsRow B t sz V n ys) (hg:w.grownBy w' V.ownBlock) (ht:¬ t=51):Ds w' R s L O now de q:=by
 cases hb:V.ownBlock with
 | none=>rw [hb] at hg;exact h.grow hg
 | some g =>
  rw [hb] at hg
  obtain ⟨hq,cc,hcc⟩:=own_typ ho hb
  obtain ⟨i,er,p,hd⟩:=h.dd
  exact h.other hg (ne_typ hd hcc (fun e=>ht e.symm))
section
variable {w:World} {R:Nat} {s:ByteArray} {L O:Value} {now de:Nat} {q:Rs Nat}
theorem Ds.setL (h:Ds w R s L O now de q) (v:Value):Ds (w.setCell ⟨R,2,none⟩ v) R s v O now de q:=by
 match q,h with
 | .ok i,h=>exact ⟨h.1,h.2.setL v⟩
 | .error (c,p),⟨h1,j,h2,h3⟩=>exact ⟨h1,j,h2,h3.setL v⟩
theorem Ds.setO (h:Ds w R s L O now de q) (v:Value):Ds (w.setCell ⟨R,3,none⟩ v) R s L v now de q:=by
 match q,h with
 | .ok i,h=>exact ⟨h.1,h.2.setO v⟩
 | .error (c,p),⟨h1,j,h2,h3⟩=>exact ⟨h1,j,h2,h3.setO v⟩
theorem Ds.setN (h:Ds w R s L O now de q) (m:Nat):Ds (w.setCell ⟨R,4,none⟩ (.int .i64 (m:Nat))) R s L O m de q:=by
 match q,h with
 | .ok i,h=>exact ⟨h.1,h.2.setN m⟩
 | .error (c,p),⟨h1,j,h2,h3⟩=>exact ⟨h1,j,h2,h3.setN m⟩
theorem Ds.setD (h:Ds w R s L O now de q) (m:Nat):Ds (w.setCell ⟨R,7,none⟩ (.int .i64 (m:Nat))) R s L O now m q:=by
 match q,h with
 | .ok i,h=>exact ⟨h.1,h.2.setD m⟩
 | .error (c,p),⟨h1,j,h2,h3⟩=>exact ⟨h1,j,h2,h3.setD m⟩
end
def Dt (w:World) (B P R:Nat) (s:ByteArray) (now de:Nat) (q:Rs Nat) (ns:List Tn) (own:List Nat):Prop:=B<=R/\¬ P=R/\∃N c O oc xs ks,¬ P=N/\¬ P=O/\DtD w B P ns ns.length own (.slice (some ⟨N,0,none⟩) ns.length c) (.slice (some ⟨O,0,none⟩) ns.length oc) xs ks/\Ds w R s (.slice (some ⟨N,0,none⟩) ns.length c) (.slice (some ⟨O,0,none⟩) ns.length oc) now de q
end Go.Proofs.YtbgnflcebafjjaaGreatDoor
namespace Go.Proofs.YtbgnflcebafjjaaGreatDoor
open Go.RowKit Go.Joins
set_option linter.unusedVariables false
def dI (wr:World) (R:Nat):Nat:=match wr.cell? ⟨R,1,none⟩ with | some (.int _ k)=>k.toNat | _=>0
theorem dI_eq {w:World} {R:Nat} {s:ByteArray} {L O:Value} {now de i:Nat} {er:Int} {p:Nat} (h:Dd w R s L O now de i er p):dI w R=i:=by unfold dI;rw [h.cells.2.1];simp
def cmtR (l:List UInt8) (i:Nat):Rs Nat:=if (cmt l i).1=true then .ok (cmt l i).2 else .error (2,(cmt l i).2)
def crun (l:List UInt8) (i:Nat):Rs Nat:=if nx l (toR inC l i)=10\/nx l (toR inC l i)=-1 then .ok (toR inC l i) else .error (2,toR inC l i)
theorem cmtR_yes (l:List UInt8) (i:Nat) (h:nx l i=35):cmtR l i=crun l i:=by
 unfold cmtR cmt crun
 rw [if_pos h]
 by_cases h2:nx l (toR inC l i)=10\/nx l (toR inC l i)=-1
 ·simp only [if_pos h2,if_true]
 ·simp [if_neg h2]
theorem cmtR_no (l:List UInt8) (i:Nat) (h:¬ nx l i=35):cmtR l i=.ok i:=by
 unfold cmtR;rw [cmt_no l i h];rfl
theorem crun_end (l:List UInt8) (i:Nat) (h:nx l i=-1):crun l i=.ok i:=by
 unfold crun
 rw [toR_end inC l i (nx_end' h),if_pos (Or.inr h)]
theorem crun_nl (l:List UInt8) (i:Nat) (h:nx l i=10):crun l i=.ok i:=by
 unfold crun
 rw [toR_stop inC l i (by rw [h];rfl),if_pos (Or.inl h)]
theorem crun_bad (l:List UInt8) (i:Nat) (h:isBr (nx l i)=true) (h10:¬ nx l i=10) (h1:¬ nx l i=-1):crun l i=.error (2,i):=by
 unfold crun
 rw [toR_stop inC l i (by unfold inC;rw [h];simp),if_neg (by rintro (h | h);exact h10 h;exact h1 h)]
theorem crun_step (l:List UInt8) (i:Nat) (h:isBr (nx l i)=false) (h10:¬ nx l i=10) (h1:¬ nx l i=-1):crun l i=crun l (i+1):=by
 unfold crun
 have hb:=nx_bound l i
 rw [toR_step inC l i (nx_lt (by omega)) (by unfold inC;rw [h];simp [h10])]
set_option maxRecDepth 100000 in
theorem dControl_any (c:UInt8) (w:World):Calls Tryz.prog 58 #[.int .u8 (c.toNat:Int)] w fun e w'=>e=.returned (.bool (isBr (c.toNat:Int)))/\w'=w:=by
 have:=c.toNat_lt
 go_enter Tryz.func58,Tryz.ntmps58
 go_wp2
 all_goals go_ret
 all_goals (refine ⟨ret_bool ?_,rfl⟩;rw [Bool.eq_iff_iff];unfold isBr isCt;simp;try omega)
set_option maxRecDepth 100000 in
set_option maxHeartbeats 1600000 in
theorem dBlanks_any (R:Nat) (s:ByteArray) (L O:Value) (now de:Nat) (q:Rs Nat) (w:World) (h:Ds w R s L O now de q) (hs:s.size<=1048576) :
  Calls Tryz.prog 26 #[.pointer (some ⟨R,0,none⟩)] w fun e w'=>e=.returned (.tuple #[])/\Ds w' R s L O now de (q.bind fun i=>.ok (bl s.data.toList i))/\w.grownBy w' (some R):=by
 have hl:s.data.toList.length=s.size:=by simp
 have CI:Hid (∀q c w,0<=c->Ds w R s L O now de q->Calls Tryz.prog 27 #[.pointer (some ⟨R,0,none⟩),.int .u8 c] w fun e w'=>e=.returned (.bool (isQ s.data.toList q c))/\w.grownBy w' none):=fun q c w h0 h1=>dIs_any R s L O now de q c h0 w h1 hs
 have HST:Hid (∀k,k < s.size->isBl (nx s.data.toList k)=true->bl s.data.toList k=bl s.data.toList (k+1)):=fun k hk hb=>toR_step isBl _ k (by omega) hb
 have HSP:Hid (∀k,isBl (nx s.data.toList k)=false->bl s.data.toList k=k):=fun k hb=>toR_stop isBl _ k hb
 have HLT:Hid (∀k,0<=nx s.data.toList k->k < s.size):=fun k hb=>by rw [<-hl];exact nx_lt hb
 obtain ⟨J,hJ⟩:∃J:Rs Nat,(q.bind fun i=>.ok (bl s.data.toList i))=J:=⟨_,rfl⟩
 have HJ:Hid ((q.bind fun i=>.ok (bl s.data.toList i))=J):=hJ
 have H0:Hid (Ds w R s L O now de q):=h
 rw [hJ]
 clear h hJ
 go_enter Tryz.func26,Tryz.ntmps26
 go_wp2
 go_loopw [] (fun wr=>∃q:Rs Nat,Ds wr R s L O now de q/\(q.bind fun i=>.ok (bl s.data.toList i))=J/\w.grownBy wr (some R)) (fun wr=>s.size - dI wr R)
 case atStart=>exact ⟨q,H0.out,HJ.out,gb_refl _ _⟩
 case round =>
  obtain ⟨q,hds,hbl,hg⟩:=hrel
  have HG:Hid (w.grownBy wr (some R)):=hg
  have C1:Hid (∀c w,0<=c->Ds w R s L O now de q->Calls Tryz.prog 27 #[.pointer (some ⟨R,0,none⟩),.int .u8 c] w fun e w'=>e=.returned (.bool (isQ s.data.toList q c))/\w.grownBy w' none):=CI.out q
  have HDS:Hid (Ds wr R s L O now de q):=hds
  have HBL:Hid ((q.bind fun i=>.ok (bl s.data.toList i))=J):=hbl
  clear hds hbl hg
  obtain ⟨b1,hb1⟩:∃b,isQ s.data.toList q 32=b:=⟨_,rfl⟩
  obtain ⟨b2,hb2⟩:∃b,isQ s.data.toList q 9=b:=⟨_,rfl⟩
  have C32:Hid (∀w,Ds w R s L O now de q->Calls Tryz.prog 27 #[.pointer (some ⟨R,0,none⟩),.int .u8 32] w fun e w'=>e=.returned (.bool b1)/\w.grownBy w' none):=fun w h=>by rw [<-hb1];exact C1.out 32 w (by decide) h
  have C9:Hid (∀w,Ds w R s L O now de q->Calls Tryz.prog 27 #[.pointer (some ⟨R,0,none⟩),.int .u8 9] w fun e w'=>e=.returned (.bool b2)/\w.grownBy w' none):=fun w h=>by rw [<-hb2];exact C1.out 9 w (by decide) h
  have HB1:Hid (isQ s.data.toList q 32=b1):=hb1
  have HB2:Hid (isQ s.data.toList q 9=b2):=hb2
  clear hb1 hb2
  have HYES:Hid ((b1=true\/b2=true)->∃k,k < s.size/\Dd wr R s L O now de k 0 0/\(Except.ok (bl s.data.toList (k+1)):Rs Nat)=J):=fun hor=>by
   match q,HDS.out,HB1.out,HB2.out,HBL.out with
   | .error e,_,hh1,hh2,_=>
    exfalso
    unfold isQ at hh1 hh2
    subst hh1 hh2
    rcases hor with h | h <;> cases h
   | .ok k,hd,hh1,hh2,hj =>
    have hx:isBl (nx s.data.toList k)=true:=by
     unfold isQ at hh1 hh2
     unfold isBl
     subst hh1 hh2
     rcases hor with h | h
     ·have:=of_decide_eq_true h;simp [this]
     ·have:=of_decide_eq_true h;simp [this]
    have hkl:k < s.size:=HLT.out k (by unfold isBl at hx;have:=of_decide_eq_true hx;omega)
    refine ⟨k,hkl,hd.2,?_⟩
    rw [<-HST.out k hkl hx]
    exact hj
  have HNO:Hid (b1=false->b2=false->q=J):=fun h1 h2=>by
   match q,HDS.out,HB1.out,HB2.out,HBL.out with
   | .error e,_,_,_,hj=>exact hj
   | .ok k,hd,hh1,hh2,hj =>
    rw [<-hj]
    show _=Except.ok _
    rw [HSP.out k]
    unfold isQ at hh1 hh2
    unfold isBl
    rw [h1] at hh1
    rw [h2] at hh2
    have:=of_decide_eq_false hh1
    have:=of_decide_eq_false hh2
    simp [*]
  have step:∀(wx:World) (k:Nat),wr.grownBy wx none->k < s.size->Dd wr R s L O now de k 0 0->(Except.ok (bl s.data.toList (k+1)):Rs Nat)=J->(∃q:Rs Nat,Ds (wx.setCell ⟨R,1,none⟩ (.int .i64 ((k:Int)+1))) R s L O now de q/\(q.bind fun i=>.ok (bl s.data.toList i))=J/\w.grownBy (wx.setCell ⟨R,1,none⟩ (.int .i64 ((k:Int)+1))) (some R))/\s.size - dI (wx.setCell ⟨R,1,none⟩ (.int .i64 ((k:Int)+1))) R < s.size - dI wr R:=fun wx k hg hk hd hj=>by
   have hd2:=(hd.grow hg).setI (k+1)
   refine ⟨⟨.ok (k+1),⟨by omega,hd2⟩,hj,gb_set (gb_more HG.out hg) 1 _⟩,?_⟩
   have e1:=dI_eq hd2
   rw [dI_eq hd]
   have e2:(wx.setCell ⟨R,1,none⟩ (.int .i64 ((k+1:Nat):Int)))=wx.setCell ⟨R,1,none⟩ (.int .i64 ((k:Int)+1)):=rfl
   rw [e2] at e1
   rw [e1]
   omega
  have HSTEP:Hid (∀(wx:World) (k:Nat),wr.grownBy wx none->k < s.size->Dd wr R s L O now de k 0 0->(Except.ok (bl s.data.toList (k+1)):Rs Nat)=J->(∃q:Rs Nat,Ds (wx.setCell ⟨R,1,none⟩ (.int .i64 ((k:Int)+1))) R s L O now de q/\(q.bind fun i=>.ok (bl s.data.toList i))=J/\w.grownBy (wx.setCell ⟨R,1,none⟩ (.int .i64 ((k:Int)+1))) (some R))/\s.size - dI (wx.setCell ⟨R,1,none⟩ (.int .i64 ((k:Int)+1))) R < s.size - dI wr R):=step
  clear step
  cases b1 with
  | true =>
   obtain ⟨k,hk,hd,hj⟩:=HYES.out (Or.inl rfl)
   have HD:Hid (Dd wr R s L O now de k 0 0):=hd
   have HJ2:Hid ((Except.ok (bl s.data.toList (k+1)):Rs Nat)=J):=hj
   clear hd hj
   go_wp2_with (first | (go_at_call 27;refine (C32.out _ HDS.out).mono ?_))
   first | rintro e w1 rfl hg1 | rintro e w1 ⟨rfl,hg1⟩
   have HG1:Hid (wr.grownBy w1 none):=hg1
   obtain ⟨-,c1,-,-,-,-,-,-,df⟩:=(HD.out.grow hg1).cells
   have df1:=df 1
   clear hg1 df
   go_wp2
   exact HSTEP.out w1 k HG1.out hk HD.out HJ2.out
  | false =>
   cases b2 with
   | true =>
    obtain ⟨k,hk,hd,hj⟩:=HYES.out (Or.inr rfl)
    have HD:Hid (Dd wr R s L O now de k 0 0):=hd
    have HJ2:Hid ((Except.ok (bl s.data.toList (k+1)):Rs Nat)=J):=hj
    clear hd hj
    go_wp2_with (first | (go_at_call 27;refine (C32.out _ HDS.out).mono ?_))
    first | rintro e w1 rfl hg1 | rintro e w1 ⟨rfl,hg1⟩
    have HG1:Hid (wr.grownBy w1 none):=hg1
    clear hg1
    go_wp2_with (first | (go_at_call 27;refine (C9.out _ (HDS.out.grow HG1.out)).mono ?_))
    first | rintro e w2 rfl hg2 | rintro e w2 ⟨rfl,hg2⟩
    have HG2:Hid (wr.grownBy w2 none):=gb_trans HG1.out hg2
    obtain ⟨-,c1,-,-,-,-,-,-,df⟩:=(HD.out.grow HG2.out).cells
    have df1:=df 1
    clear hg2 df
    go_wp2
    exact HSTEP.out w2 k HG2.out hk HD.out HJ2.out
   | false =>
    have HQ:Hid (q=J):=HNO.out rfl rfl
    go_wp2_with (first | (go_at_call 27;refine (C32.out _ HDS.out).mono ?_))
    first | rintro e w1 rfl hg1 | rintro e w1 ⟨rfl,hg1⟩
    have HG1:Hid (wr.grownBy w1 none):=hg1
    clear hg1
    go_wp2_with (first | (go_at_call 27;refine (C9.out _ (HDS.out.grow HG1.out)).mono ?_))
    first | rintro e w2 rfl hg2 | rintro e w2 ⟨rfl,hg2⟩
    have HG2:Hid (wr.grownBy w2 none):=gb_trans HG1.out hg2
    clear hg2
    go_wp2
    refine bodyPost_end (results_none rfl _ _ _) rfl ⟨rfl,?_,gb_more HG.out HG2.out⟩
    rw [<-HQ.out];exact HDS.out.grow HG2.out
end Go.Proofs.YtbgnflcebafjjaaGreatDoor
