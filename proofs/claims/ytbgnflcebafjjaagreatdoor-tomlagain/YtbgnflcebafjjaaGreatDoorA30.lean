import Derived.Test.YtbgnflcebafjjaaGreatDoorA27
import Derived.Test.YtbgnflcebafjjaaGreatDoorA29
import Derived.Deep.Cut
import Derived.Test.YtbgnflcebafjjaaGreatDoorA28
import Derived.Test.YtbgnflcebafjjaaGreatDoorA12
namespace Go.Proofs.YtbgnflcebafjjaaGreatDoor
open Go.RowKit Go.Maps Go.WideMaps Go.Joins
set_option linter.unusedVariables false
theorem infoSt:(Tryz.prog.info? 9).map (fun i=>(i.zero,i.size,i.bytes))=some (some (.string ⟨#[]⟩),1,16):=by kernel_rfl
theorem st_one (s:ByteArray):∀u ∈ [Value.string s],u.oneCell'=true:=by
 intro u hu
 rw [List.mem_singleton.1 hu];rfl
theorem in_one (n:Nat):∀u ∈ [Value.int .i64 (n:Nat)],u.oneCell'=true:=by
 intro u hu
 rw [List.mem_singleton.1 hu];rfl
def mm (l:List UInt8) (many:Bool) (q:Rs Nat):Rs Nat:=if many=true then (q.bind fun i=>must l i 93).bind fun i=>must l i 93 else q.bind fun i=>must l i 93
theorem mm_er (l:List UInt8) (many:Bool) (c:Int × Nat):mm l many (.error c)=.error c:=by cases many <;> rfl
theorem head_er (l:List UInt8) (i:Nat) (ns:List Tn) (own:List Nat) (now:Nat) (many:Bool) (hm:decide (nx l (i+1)=91)=many) (c:Int × Nat) (h:hdK l (l.length+1) (if many=true then i+2 else i+1) []=.error c):rdHead l ⟨i,ns,own,now⟩=.error c:=by
 rw [rdHead_eq l i ns own now many hm,h]
theorem head_go (l:List UInt8) (i:Nat) (ns:List Tn) (own:List Nat) (now:Nat) (many:Bool) (hm:decide (nx l (i+1)=91)=many) (ks:List (List UInt8 × Nat)) (j:Nat) (h:hdK l (l.length+1) (if many=true then i+2 else i+1) []=.ok (ks,j)) :
  (∀c,mm l many (.ok j)=.error c->rdHead l ⟨i,ns,own,now⟩=.error c)/\(∀j2,mm l many (.ok j)=.ok j2->rdHead l ⟨i,ns,own,now⟩=lnW j2 own (way many own ks 0 ns)):=by
 rw [rdHead_eq l i ns own now many hm,h]
 have e:mm l many (.ok j)=if many=true then (must l j 93).bind (fun i=>must l i 93) else must l j 93:=rfl
 rw [e]
 simp only []
 cases must l j 93 with
 | error d =>
  have e2:(if many=true then (Except.error d:Rs Nat).bind (fun i=>must l i 93) else .error d)=.error d:=by cases many <;> rfl
  rw [e2]
  exact ⟨fun c hc=>(by cases hc;rfl),fun j2 hc=>(by cases hc)⟩
 | ok j1 =>
  have e2:(if many=true then (Except.ok j1:Rs Nat).bind (fun i=>must l i 93) else .ok j1)=(if many=true then must l j1 93 else .ok j1):=rfl
  rw [e2]
  simp only []
  cases (if many=true then must l j1 93 else .ok j1:Rs Nat) with
  | error d=>exact ⟨fun c hc=>(by cases hc;rfl),fun j2 hc=>(by cases hc)⟩
  | ok j2=>exact ⟨fun c hc=>(by cases hc),fun j3 hc=>(by cases hc;rfl)⟩
def q3:Rs (List UInt8 × Nat)->Rs Nat
 | .error e=>.error e
 | .ok (_,j)=>.ok j
theorem dk_any {i M R:Nat} {s:ByteArray} {L O:Value} {now de:Nat} {g:Rs (List UInt8 × Nat)} {w:World} {e:Ending} {w':World} (h:DkPost i M R s L O now de g w e w'):∃t:List UInt8,e=.returned (.tuple #[.string ⟨t.toArray⟩,.int .i64 (i:Nat)])/\Ds w' R s L O now de (q3 g)/\(∀k j,g=.ok (k,j)->t=k)/\w.grownBy w' (some R):=by
 match g,h with
 | .error (c,p),h =>
  obtain ⟨⟨t,-,h1⟩,h2⟩:=h.2.1 c p rfl
  exact ⟨t,h1,h2,fun k j hh=>(by cases hh),h.2.2⟩
 | .ok (k,j),h =>
  obtain ⟨h1,h2⟩:=h.1 k j rfl
  exact ⟨k,h1,h2,fun k' j' hh=>(by cases hh;rfl),h.2.2⟩
def hdR (l:List UInt8) (f:Nat) (acc:List (List UInt8 × Nat)) (p:Nat):Rs (List UInt8 × Nat)->Rs (List (List UInt8 × Nat) × Nat)
 | .error e=>.error e
 | .ok (k,j)=>if nx l (bl l j)=46 then hdK l f (bl l j+1) (acc++[(k,p)]) else .ok (acc++[(k,p)],bl l j)
theorem hdK_R (l:List UInt8) (f i:Nat) (acc:List (List UInt8 × Nat)):hdK l (f+1) i acc=hdR l f acc (bl l i) (rdKey l (bl l i)):=by
 rw [hdK_step]
 cases rdKey l (bl l i) with
 | error e=>rfl
 | ok q=>rfl
theorem Ds.err {w:World} {R:Nat} {s:ByteArray} {L O:Value} {now de i:Nat} (h:Ds w R s L O now de (.ok i)):w.cell? ⟨R,5,none⟩=some (.int .i64 0)/\w.cell? ⟨R,1,none⟩=some (.int .i64 (i:Nat))/\(∀k,w.frozen? ⟨R,k,none⟩=false):=⟨h.2.cells.2.2.2.2.2.1,h.2.cells.2.1,h.2.cells.2.2.2.2.2.2.2.2⟩
theorem Ds.to {w:World} {R:Nat} {s:ByteArray} {L O:Value} {now de i:Nat} (h:Ds w R s L O now de (.ok i)) (j:Nat) (hj:j<=s.size):Ds (w.setCell ⟨R,1,none⟩ (.int .i64 (j:Nat))) R s L O now de (.ok j):=⟨hj,h.2.setI j⟩
theorem dLast_any (many:Bool) (B P R:Nat) (s:ByteArray) (now de j:Nat) (ns:List Tn) (own:List Nat) (t:Nat) (k:List UInt8) (p:Nat) (w:World) (h:Dt w B P R s now de (.ok j) ns own) (W:WF ns own) (ht:t < ns.length) (hsz:ns.length<=900000) :
  Calls Tryz.prog 54 #[.pointer (some ⟨R,0,none⟩),.int .i64 (t:Nat),.string ⟨k.toArray⟩,.int .i64 (p:Nat),.bool many] w (SpPost B P R s now de (.ok j) ns own (if many=true then endL ns t k p else endT ns own t k p) w):=by
 cases many with
 | true=>exact dLast_many B P R s now de j ns own t k p w h W ht hsz
 | false=>exact dLast_one B P R s now de j ns own t k p w h W ht hsz
theorem end_er {many:Bool} {ns:List Tn} {own:List Nat} {t p:Nat} {k:List UInt8} {c:Int × Nat} (h:(if many=true then endL ns t k p else endT ns own t k p)=.error c):c=(5,p):=by
 cases many with
 | true=>exact endL_er h
 | false=>exact endT_er h
theorem end_ok {many:Bool} {ns ns':List Tn} {own:List Nat} {t t' p:Nat} {k:List UInt8} (J:Jt ns own t) (h:(if many=true then endL ns t k p else endT ns own t k p)=.ok (t',ns')):t' < ns'.length:=by
 cases many with
 | true=>exact (endL_ok J h).1.lt
 | false=>exact (endT_ok J h).1.lt
set_option maxRecDepth 100000 in
set_option maxHeartbeats 6400000 in
theorem dHeader_any:DhC:=by
 intro B P R s now i ns own w h hPB hs hx LI
 have hl:s.data.toList.length=s.size:=by simp
 have HT0:Hid (Dt w B P R s now 0 (.ok i) ns own):=h
 obtain ⟨hb1,hb2,hb3⟩:=h.base
 obtain ⟨a1,a2,N,c,O,oc,xs,ks,a3,a4,a5,a6⟩:=h
 obtain ⟨LV,hLV⟩:∃V,Value.slice (some ⟨N,0,none⟩) ns.length c=V:=⟨_,rfl⟩
 obtain ⟨OV,hOV⟩:∃V,Value.slice (some ⟨O,0,none⟩) ns.length oc=V:=⟨_,rfl⟩
 rw [hLV,hOV] at a6
 have CM:Hid (∀(q:Rs Nat) (c:Int) w,0<=c->Ds w R s LV OV now 0 q->Calls Tryz.prog 31 #[.pointer (some ⟨R,0,none⟩),.int .u8 c] w fun e w'=>e=.returned (.tuple #[])/\Ds w' R s LV OV now 0 (q.bind fun i=>must s.data.toList i c)/\w.grownBy w' (some R)):=fun q c w hc h=>dMust_any R s LV OV now 0 q c hc w h (by omega)
 have CI:Hid (∀(q:Rs Nat) (c:Int) w,0<=c->Ds w R s LV OV now 0 q->Calls Tryz.prog 27 #[.pointer (some ⟨R,0,none⟩),.int .u8 c] w fun e w'=>e=.returned (.bool (isQ s.data.toList q c))/\w.grownBy w' none):=fun q c w hc h=>dIs_any R s LV OV now 0 q c hc w h (by omega)
 have CB:Hid (∀(q:Rs Nat) w,Ds w R s LV OV now 0 q->Calls Tryz.prog 26 #[.pointer (some ⟨R,0,none⟩)] w fun e w'=>e=.returned (.tuple #[])/\Ds w' R s LV OV now 0 (q.bind fun i=>.ok (bl s.data.toList i))/\w.grownBy w' (some R)):=fun q w h=>dBlanks_any R s LV OV now 0 q w h (by omega)
 have CK:Hid (∀k w,Ds w R s LV OV now 0 (.ok k)->Calls Tryz.prog 52 #[.pointer (some ⟨R,0,none⟩)] w (DkPost k (4 * s.size+4) R s LV OV now 0 (rdKey s.data.toList k) w)):=fun k w h=>dKey_any R s LV OV now 0 k w h.2 h.1 (by omega)
 have HBL:Hid (∀k,k<=s.size->k<=bl s.data.toList k/\bl s.data.toList k<=s.size):=fun k hk=>by rw [<-hl];exact bl_le _ k (by omega)
 have HKO:Hid (∀k x j,k<=s.size->rdKey s.data.toList k=.ok (x,j)->k < j/\j<=s.size):=fun k x j a b=>by
  have:=rdKey_ok s.data.toList k x j (by omega) b
  omega
 have HLT:Hid (∀k,nx s.data.toList k=46->k < s.size):=fun k a=>by
  have:=nx_lt (l:=s.data.toList) (i:=k) (by rw [a];decide)
  omega
 have hil:i < s.size:=by
  have:=nx_lt (l:=s.data.toList) (i:=i) (by rw [hx];decide)
  omega
 have CM0:Hid (Calls Tryz.prog 31 #[.pointer (some ⟨R,0,none⟩),.int .u8 91] w fun e w'=>e=.returned (.tuple #[])/\Ds w' R s LV OV now 0 (.ok (i+1))/\w.grownBy w' (some R)):=by
  have:=CM.out (.ok i) 91 w (by decide) a6
  have e:(Except.bind (.ok i) fun i=>must s.data.toList i 91:Rs Nat)=.ok (i+1):=by show must _ i 91=_;unfold must;rw [if_pos hx]
  rw [e] at this
  exact this
 obtain ⟨many,hm⟩:∃b,decide (nx s.data.toList (i+1)=91)=b:=⟨_,rfl⟩
 have CI0:Hid (∀w,Ds w R s LV OV now 0 (.ok (i+1))->Calls Tryz.prog 27 #[.pointer (some ⟨R,0,none⟩),.int .u8 91] w fun e w'=>e=.returned (.bool many)/\w.grownBy w' none):=fun w h=>by
  have:=CI.out (.ok (i+1)) 91 w (by decide) h
  rw [show isQ s.data.toList (.ok (i+1)) 91=many from hm] at this
  exact this
 have HI2:Hid (many=true->i+2<=s.size):=fun e=>by
  rw [e] at hm
  have:=nx_lt (l:=s.data.toList) (i:=i+1) (by rw [of_decide_eq_true hm];decide)
  omega
 obtain ⟨G,hG⟩:∃G,rdHead s.data.toList ⟨i,ns,own,now⟩=G:=⟨_,rfl⟩
 obtain ⟨S,hS⟩:∃S,hdK s.data.toList (s.data.toList.length+1) (if many=true then i+2 else i+1) []=S:=⟨_,rfl⟩
 have HGE:Hid (∀c,S=.error c->G=.error c):=fun c hc=>by
  show G=_
  rw [<-hG]
  exact head_er _ i ns own now many hm c (hS.trans hc)
 have HGO:Hid (∀ks j,S=.ok (ks,j)->(∀c,mm s.data.toList many (.ok j)=.error c->G=.error c)/\(∀j2,mm s.data.toList many (.ok j)=.ok j2->G=lnW j2 own (way many own ks 0 ns))):=fun ks j hc=>by
  rw [<-hG]
  exact head_go _ i ns own now many hm ks j (hS.trans hc)
 have HHO:Hid (∀ks j,S=.ok (ks,j)->(∀x ∈ ks,x.1.length<=s.size)/\0 < ks.length/\ks.length<=s.size):=fun ks j hc=>by
  have hi0:(if many=true then i+2 else i+1)<=s.data.toList.length:=by
   have:=HI2.out
   cases many with
   | true=>have:=this rfl;simp only [if_true];omega
   | false=>simp only [Bool.false_eq_true,if_false];omega
  obtain ⟨b1,b2,b3,b4⟩:=hdK_ok s.data.toList _ _ _ _ _ hi0 (fun x hx=>absurd hx (by simp)) (hS.trans hc)
  simp only [List.length_nil] at b2 b3
  exact ⟨fun x hx=>by have:=b1 x hx;omega,by omega,by omega⟩
 rw [hG]
 have HS:Hid (hdK s.data.toList (s.data.toList.length+1) (if many=true then i+2 else i+1) []=S):=hS
 have HLI:Hid (Li s.data.toList ⟨i,ns,own,now⟩):=LI
 have HPB:Hid (P < B):=hPB
 have HBW:Hid (B<=w.heap.size/\P < w.heap.size/\R < w.heap.size):=⟨hb1,hb2,hb3⟩
 have HDS:Hid (Ds w R s LV OV now 0 (.ok i)):=a6
 obtain ⟨i0,hi0',hii⟩:=Option.map_eq_some_iff.1 infoSt
 simp only [Prod.mk.injEq] at hii
 obtain ⟨hz0,hz1,hzb⟩:=hii
 obtain ⟨j0,hj0,hjj⟩:=Option.map_eq_some_iff.1 infoInt
 simp only [Prod.mk.injEq] at hjj
 obtain ⟨hy0,hy1,hyb⟩:=hjj
 clear hG hS LI hPB a1 a2 a3 a4 a5 a6 hLV hOV hx hm hb1 hb2 hb3
 go_enter Tryz.func28,Tryz.ntmps28
 go_upto_if 15 with (first | (go_at_call 31;refine CM0.out.mono ?_;rintro e w1 ⟨rfl,hd1,hg1⟩) | (go_at_call 27;refine (CI0.out _ hd1).mono ?_;rintro e w2 ⟨rfl,hg2⟩))
 have HD2:Hid (Ds w2 R s LV OV now 0 (.ok (i+1))):=hd1.grow hg2
 have HG2:Hid (w.grownBy w2 (some R)):=gb_more hg1 hg2
 clear hd1 hg1 hg2 CM0 CI0
 go_cut [] from 11 (fun wx=>Ds wx R s LV OV now 0 (.ok (if many=true then i+2 else i+1))/\w.grownBy wx (some R))
 case first =>
  obtain ⟨-,c1,cf⟩:=HD2.out.err
  have cf1:=cf 1
  clear cf
  cases many with
  | true =>
   have HD3:Hid (Ds (w2.setCell ⟨R,1,none⟩ (.int .i64 (((i+1:Nat):Int)+1))) R s LV OV now 0 (.ok (i+2))):=HD2.out.to (i+2) (HI2.out rfl)
   go_wp2
   go_meet
   exact ⟨HD3.out,gb_set HG2.out 1 _⟩
  | false =>
   go_wp2
   go_meet
   exact ⟨HD2.out,HG2.out⟩
 case rest =>
  obtain ⟨hd3,hg3⟩:=hcut
  have hi0:(if many=true then i+2 else i+1)<=s.size:=hd3.1
  obtain ⟨i2,hi2⟩:∃i2,(if many=true then i+2 else i+1)=i2:=⟨_,rfl⟩
  rw [hi2] at HS hd3 hi0
  have HD3:Hid (Ds wc R s LV OV now 0 (.ok i2)):=hd3
  have HG3:Hid (w.grownBy wc (some R)):=hg3
  clear hd3 hg3 hi2 HD2 HG2
  go_wp2
  go_loopw [3,4,5] (fun v3 v4 v5 wr=>∃(q:Rs Nat) (acc:List (List UInt8 × Nat)),Ds wr R s LV OV now 0 q/\w.grownBy wr (some R)/\wr.ownsRow w.heap.size 9 1 v3 acc.length (ksC acc)/\wr.ownsRow w.heap.size 3 1 v4 acc.length (plC acc)/\acc.length<=100001/\((v5=.bool true/\∃(kx f:Nat),q=.ok kx/\s.size - kx < f/\hdK s.data.toList f kx acc=S/\acc.length<=kx)\/(v5=.bool false/\((∃kx,q=.ok kx/\S=.ok (acc,kx))\/∃c,q=.error c/\S=.error c)))) (fun _ _ v5 wr=>match v5 with | .bool true=>s.size+2 - (match wr.cell? ⟨R,1,none⟩ with | some (.int _ k)=>k.toNat | _=>0) | _=>0)
  case atStart=>exact ⟨.ok i2,[],HD3.out,HG3.out,World.ownsRow_nil _ _ _ _,World.ownsRow_nil _ _ _ _,by simp,Or.inl ⟨rfl,i2,s.data.toList.length+1,rfl,by omega,HS.out,by simp⟩⟩
  case round =>
   obtain ⟨q,acc,hds,hg,hk,hp,hal,hor⟩:=hrel
   rcases hor with ⟨rfl,kx,f,rfl,hf,hhd,hak⟩ | ⟨rfl,hor⟩
   ·-- a key more
    obtain ⟨f,rfl⟩:∃f',f=f'+1:=⟨f - 1,by omega⟩
    rw [hdK_R] at hhd
    obtain ⟨c5,c1,cf⟩:=hds.err
    have hkx:kx<=s.size:=hds.1
    have HME:Hid ((match wr.cell? ⟨R,1,none⟩ with | some (.int _ k)=>k.toNat | _=>0)=kx):=by show _=_;rw [c1];simp
    have HG:Hid (w.grownBy wr (some R)):=hg
    have HK:Hid (wr.ownsRow w.heap.size 9 1 u3 acc.length (ksC acc)):=hk
    have HP:Hid (wr.ownsRow w.heap.size 3 1 u4 acc.length (plC acc)):=hp
    have HDk:Hid (Ds wr R s LV OV now 0 (.ok kx)):=hds
    have C1:=CB.out (.ok kx) wr hds
    obtain ⟨b1,b2⟩:=HBL.out kx hkx
    obtain ⟨jb,hjb⟩:∃jb,bl s.data.toList kx=jb:=⟨_,rfl⟩
    have e1:(Except.bind (.ok kx) fun i=>.ok (bl s.data.toList i):Rs Nat)=.ok jb:=by show Except.ok _=_;rw [hjb]
    rw [e1] at C1
    rw [hjb] at hhd b1 b2
    have C1':Hid (Calls Tryz.prog 26 #[.pointer (some ⟨R,0,none⟩)] wr fun e w'=>e=.returned (.tuple #[])/\Ds w' R s LV OV now 0 (.ok jb)/\wr.grownBy w' (some R)):=C1
    have C2:=CK.out jb
    have K2:=HKO.out jb
    obtain ⟨KR,hKR⟩:∃KR,rdKey s.data.toList jb=KR:=⟨_,rfl⟩
    rw [hKR] at C2 hhd K2
    have C2':Hid (∀w,Ds w R s LV OV now 0 (.ok jb)->Calls Tryz.prog 52 #[.pointer (some ⟨R,0,none⟩)] w (DkPost jb (4 * s.size+4) R s LV OV now 0 KR w)):=C2
    have HHD:Hid (hdR s.data.toList f acc jb KR=S):=hhd
    have HK2:Hid (∀x j,KR=.ok (x,j)->jb < j/\j<=s.size):=fun x j hh=>K2 x j b2 hh
    clear hds hg hk hp hhd C1 C2 K2 hjb hKR e1 c1 cf
    go_wp2_with (first | (go_at_call 26;refine C1'.out.mono ?_))
    rintro e w2 ⟨rfl,hd2,hg2⟩
    have HD2:Hid (Ds w2 R s LV OV now 0 (.ok jb)):=hd2
    have HG2:Hid (w.grownBy w2 (some R)):=gb_two HG.out hg2
    obtain ⟨x1,x2,x3,hdd⟩:=HDk.out.dd
    have HK2r:Hid (w2.ownsRow w.heap.size 9 1 u3 acc.length (ksC acc)):=own_block HK.out fun g' cur' hh hc=>hg2.block g' (blk_lt hc) (by simp only [ne_eq,Option.some.injEq];exact ne_typ hc hdd (by decide))
    have HP2r:Hid (w2.ownsRow w.heap.size 3 1 u4 acc.length (plC acc)):=own_block HP.out fun g' cur' hh hc=>hg2.block g' (blk_lt hc) (by simp only [ne_eq,Option.some.injEq];exact ne_typ hc hdd (by decide))
    clear hd2 hg2 hdd c5
    go_wp2_with (first | (go_at_call 52;refine (C2'.out _ HD2.out).mono ?_))
    intro e w3 hdk
    obtain ⟨t,rfl,hd3,hkt,hg3⟩:=dk_any hdk
    have HG3:Hid (w.grownBy w3 (some R)):=gb_two HG2.out hg3
    obtain ⟨x1,x2,x3,hdd⟩:=HD2.out.dd
    have hk3:w3.ownsRow w.heap.size 9 1 u3 acc.length (ksC acc):=own_block HK2r.out fun g' cur' hh hc=>hg3.block g' (blk_lt hc) (by simp only [ne_eq,Option.some.injEq];exact ne_typ hc hdd (by decide))
    have hp3:w3.ownsRow w.heap.size 3 1 u4 acc.length (plC acc):=own_block HP2r.out fun g' cur' hh hc=>hg3.block g' (blk_lt hc) (by simp only [ne_eq,Option.some.injEq];exact ne_typ hc hdd (by decide))
    have HP3:Hid (w3.ownsRow w.heap.size 3 1 u4 acc.length (plC acc)):=hp3
    have HD3':Hid (Ds w3 R s LV OV now 0 (q3 KR)):=hd3
    have HKT:Hid (∀k j,KR=.ok (k,j)->t=k):=hkt
    have hz3:w.heap.size<=w3.heap.size:=HG3.out.size
    clear hdk hd3 hkt hg3 hdd hp3
    go_wp2_with (first | (at_builtin;refine wpList_append_lies _ rfl _ _ 108 rfl w.heap.size 9 i0 _ 1 16 Tryz.underlying108 hi0' hz0 hz1 hzb rfl (by decide) _ _ _ rfl (hk3.alloc _) _ 1 1 [.string ⟨t.toArray⟩] rfl rfl (World.news_of_block (heap_alloc_new _ _)) (st_one _) (by decide) (by unfold maxLen;omega) (by omega) (by simp;omega) _ rfl ?_))
    intro g4 cap4 w4 hown4 hgrow4 hat4 hlt4
    have HD4:Hid (Ds w4 R s LV OV now 0 (q3 KR)):=(HD3'.out.grow (World.grownBy_alloc w3 (.cells #[.string ⟨t.toArray⟩] 9) none)).app (hk3.alloc _) hgrow4 (by decide)
    have HG4:Hid (w.grownBy w4 (some R)):=gb_row (gb_more HG3.out (World.grownBy_alloc w3 (.cells #[.string ⟨t.toArray⟩] 9) none)) hgrow4 (fun b hb=>(own_typ hk3 hb).1)
    have hp4:w4.ownsRow w.heap.size 3 1 u4 acc.length (plC acc):=own_block (HP3.out.alloc (.cells #[.string ⟨t.toArray⟩] 9)) fun g' cur' hh hc=>hgrow4.block g' (blk_lt hc) (fun e=>by
     obtain ⟨-,cc,hcc⟩:=own_typ (hk3.alloc (.cells #[.string ⟨t.toArray⟩] 9)) e.symm
     exact ne_typ hc hcc (by decide) rfl)
    have HK4:Hid (w4.ownsRow w.heap.size 9 1 (.slice (some ⟨g4,0,none⟩) (acc.length+1) cap4) (acc.length+1) (ksC acc++[.string ⟨t.toArray⟩])):=hown4
    have hz4:w.heap.size<=w4.heap.size:=HG4.out.size
    clear hown4 hgrow4 hat4 hlt4 hk3
    go_wp2_with (first | (at_builtin;refine wpList_append_lies _ rfl _ _ 31 rfl w.heap.size 3 j0 _ 1 8 Tryz.underlying31 hj0 hy0 hy1 hyb rfl (by decide) _ _ _ rfl (hp4.alloc _) _ 1 1 [.int .i64 (jb:Nat)] rfl rfl (World.news_of_block (heap_alloc_new _ _)) (in_one _) (by decide) (by unfold maxLen;omega) (by omega) (by simp;omega) _ rfl ?_))
    intro g5 cap5 w5 hown5 hgrow5 hat5 hlt5
    have HD5:Hid (Ds w5 R s LV OV now 0 (q3 KR)):=(HD4.out.grow (World.grownBy_alloc w4 (.cells #[.int .i64 (jb:Nat)] 3) none)).app (hp4.alloc _) hgrow5 (by decide)
    have HG5:Hid (w.grownBy w5 (some R)):=gb_row (gb_more HG4.out (World.grownBy_alloc w4 (.cells #[.int .i64 (jb:Nat)] 3) none)) hgrow5 (fun b hb=>(own_typ hp4 hb).1)
    have HK5:Hid (w5.ownsRow w.heap.size 9 1 (.slice (some ⟨g4,0,none⟩) (acc.length+1) cap4) (acc.length+1) (ksC acc++[.string ⟨t.toArray⟩])):=own_block (HK4.out.alloc (.cells #[.int .i64 (jb:Nat)] 3)) fun g' cur' hh hc=>hgrow5.block g' (blk_lt hc) (fun e=>by
     obtain ⟨-,cc,hcc⟩:=own_typ (hp4.alloc (.cells #[.int .i64 (jb:Nat)] 3)) e.symm
     exact ne_typ hc hcc (by decide) rfl)
    have HP5:Hid (w5.ownsRow w.heap.size 3 1 (.slice (some ⟨g5,0,none⟩) (acc.length+1) cap5) (acc.length+1) (plC acc++[.int .i64 (jb:Nat)])):=hown5
    clear hown5 hgrow5 hat5 hlt5 hp4
    obtain ⟨q4,hq4⟩:∃q4,((q3 KR).bind fun i=>.ok (bl s.data.toList i):Rs Nat)=q4:=⟨_,rfl⟩
    have C6:=CB.out (q3 KR) w5 HD5.out
    rw [hq4] at C6
    have C6':Hid (Calls Tryz.prog 26 #[.pointer (some ⟨R,0,none⟩)] w5 fun e w'=>e=.returned (.tuple #[])/\Ds w' R s LV OV now 0 q4/\w5.grownBy w' (some R)):=C6
    have C7:=CI.out q4 46
    obtain ⟨b,hb⟩:∃b,isQ s.data.toList q4 46=b:=⟨_,rfl⟩
    rw [hb] at C7
    have C7':Hid (∀w,Ds w R s LV OV now 0 q4->Calls Tryz.prog 27 #[.pointer (some ⟨R,0,none⟩),.int .u8 46] w fun e w'=>e=.returned (.bool b)/\w.grownBy w' none):=fun w h=>C7 w (by decide) h
    have HQ4:Hid (((q3 KR).bind fun i=>.ok (bl s.data.toList i):Rs Nat)=q4):=hq4
    have HB4:Hid (isQ s.data.toList q4 46=b):=hb
    clear C6 C7 hq4 hb
    go_wp2_with (first | (go_at_call 26;refine C6'.out.mono ?_))
    rintro e w6 ⟨rfl,hd6,hg6⟩
    have HD6:Hid (Ds w6 R s LV OV now 0 q4):=hd6
    have HG6:Hid (w.grownBy w6 (some R)):=gb_two HG5.out hg6
    obtain ⟨x1,x2,x3,hdd⟩:=HD5.out.dd
    have HK6:Hid (w6.ownsRow w.heap.size 9 1 (.slice (some ⟨g4,0,none⟩) (acc.length+1) cap4) (acc.length+1) (ksC acc++[.string ⟨t.toArray⟩])):=own_block HK5.out fun g' cur' hh hc=>hg6.block g' (blk_lt hc) (by simp only [ne_eq,Option.some.injEq];exact ne_typ hc hdd (by decide))
    have HP6:Hid (w6.ownsRow w.heap.size 3 1 (.slice (some ⟨g5,0,none⟩) (acc.length+1) cap5) (acc.length+1) (plC acc++[.int .i64 (jb:Nat)])):=own_block HP5.out fun g' cur' hh hc=>hg6.block g' (blk_lt hc) (by simp only [ne_eq,Option.some.injEq];exact ne_typ hc hdd (by decide))
    clear hd6 hg6 hdd
    go_wp2_with (first | (go_at_call 27;refine (C7'.out _ HD6.out).mono ?_))
    rintro e w7 ⟨rfl,hg7⟩
    have HD7:Hid (Ds w7 R s LV OV now 0 q4):=HD6.out.grow hg7
    have HG7:Hid (w.grownBy w7 (some R)):=gb_more HG6.out hg7
    have HAL:Hid ((acc++[(t,jb)]).length=acc.length+1):=by show _=_;simp
    have HK7:Hid (w7.ownsRow w.heap.size 9 1 (.slice (some ⟨g4,0,none⟩) (acc.length+1) cap4) (acc++[(t,jb)]).length (ksC (acc++[(t,jb)]))):=by
     show World.ownsRow _ _ _ _ _ _ _
     rw [HAL.out,ksC_app]
     exact own_block HK6.out fun g' cur' hh hc=>hg7.block g' (blk_lt hc) (by simp)
    have HP7:Hid (w7.ownsRow w.heap.size 3 1 (.slice (some ⟨g5,0,none⟩) (acc.length+1) cap5) (acc++[(t,jb)]).length (plC (acc++[(t,jb)]))):=by
     show World.ownsRow _ _ _ _ _ _ _
     rw [HAL.out,plC_app]
     exact own_block HP6.out fun g' cur' hh hc=>hg7.block g' (blk_lt hc) (by simp)
    clear hg7
    cases b with
    | true =>
     obtain ⟨kk,j,hKR⟩:∃kk j,KR=.ok (kk,j):=by
      match KR,HQ4 with
      | .error e,HQ4 =>
       have h1:(Except.error e:Rs Nat)=q4:=HQ4.out
       have h2:=HB4.out
       rw [<-h1] at h2
       cases h2
      | .ok (kk,j),_=>exact ⟨kk,j,rfl⟩
     have ht:=HKT.out kk j hKR
     obtain ⟨k1,k2⟩:=HK2.out kk j hKR
     have hh:=HHD.out
     have hq:=HQ4.out
     have hb:=HB4.out
     rw [hKR] at hh hq
     have hq':(Except.ok (bl s.data.toList j):Rs Nat)=q4:=hq
     rw [<-hq'] at hb
     have hb':nx s.data.toList (bl s.data.toList j)=46:=of_decide_eq_true hb
     have hh':hdK s.data.toList f (bl s.data.toList j+1) (acc++[(kk,jb)])=S:=by
      have e:hdR s.data.toList f acc jb (.ok (kk,j))=hdK s.data.toList f (bl s.data.toList j+1) (acc++[(kk,jb)]):=if_pos hb'
      rw [<-e];exact hh
     obtain ⟨d1,d2⟩:=HBL.out j k2
     have d3:=HLT.out _ hb'
     obtain ⟨j7,hj7⟩:∃j7,bl s.data.toList j=j7:=⟨_,rfl⟩
     rw [hj7] at hq' hh' d1 d2 d3
     rw [<-ht] at hh'
     have HHK:Hid (hdK s.data.toList f (j7+1) (acc++[(t,jb)])=S):=hh'
     have HD8:=HD7.out
     rw [<-hq'] at HD8
     obtain ⟨-,c1,cf⟩:=HD8.err
     have cf1:=cf 1
     have HD9:Hid (Ds (w7.setCell ⟨R,1,none⟩ (.int .i64 ((j7:Int)+1))) R s LV OV now 0 (.ok (j7+1))):=HD8.to (j7+1) (by omega)
     obtain ⟨x1,x2,x3,hdd⟩:=HD8.dd
     have HK9:Hid ((w7.setCell ⟨R,1,none⟩ (.int .i64 ((j7:Int)+1))).ownsRow w.heap.size 9 1 (.slice (some ⟨g4,0,none⟩) (acc.length+1) cap4) (acc++[(t,jb)]).length (ksC (acc++[(t,jb)]))):=own_block HK7.out fun g' cur' hh hc=>heap_setCell_other _ _ _ _ (ne_typ hc hdd (by decide))
     have HP9:Hid ((w7.setCell ⟨R,1,none⟩ (.int .i64 ((j7:Int)+1))).ownsRow w.heap.size 3 1 (.slice (some ⟨g5,0,none⟩) (acc.length+1) cap5) (acc++[(t,jb)]).length (plC (acc++[(t,jb)]))):=own_block HP7.out fun g' cur' hh hc=>heap_setCell_other _ _ _ _ (ne_typ hc hdd (by decide))
     clear hKR ht hh hq hb hq' hb' hh' hj7 HD8 cf hdd
     go_wp2
     go_roundw
     case rel=>exact ⟨.ok (j7+1),acc++[(t,jb)],HD9.out,gb_set HG7.out 1 _,HK9.out,HP9.out,by rw [HAL.out];omega,Or.inl ⟨rfl,j7+1,f,rfl,by omega,HHK.out,by rw [HAL.out];omega⟩⟩
     case measure =>
      rw [HME.out,HD9.out.err.2.1]
      simp
      omega
    | false =>
     have HOR:Hid ((∃kx,q4=.ok kx/\S=.ok (acc++[(t,jb)],kx))\/∃c,q4=.error c/\S=.error c):=by
      match KR,HQ4,HHD,HKT with
      | .error e,HQ4,HHD,_=>exact Or.inr ⟨e,HQ4.out.symm,HHD.out.symm⟩
      | .ok (kk,j),HQ4,HHD,HKT =>
       have ht:=HKT.out kk j rfl
       have hq:(Except.ok (bl s.data.toList j):Rs Nat)=q4:=HQ4.out
       have hb:=HB4.out
       rw [<-hq] at hb
       have hb':¬ nx s.data.toList (bl s.data.toList j)=46:=of_decide_eq_false hb
       refine Or.inl ⟨_,hq.symm,?_⟩
       have e:hdR s.data.toList f acc jb (.ok (kk,j))=.ok (acc++[(kk,jb)],bl s.data.toList j):=if_neg hb'
       rw [ht,<-e];exact HHD.out.symm
     go_wp2
     go_roundw
     case rel=>exact ⟨q4,acc++[(t,jb)],HD7.out,HG7.out,HK7.out,HP7.out,by rw [HAL.out];omega,Or.inr ⟨rfl,HOR.out⟩⟩
     case measure =>
      rw [HME.out]
      simp
      omega
   ·-- no more keys
    obtain ⟨o3,k3,rfl⟩:=own_slice hk
    obtain ⟨o4,k4,rfl⟩:=own_slice hp
    have HDq:Hid (Ds wr R s LV OV now 0 q):=hds
    have HG:Hid (w.grownBy wr (some R)):=hg
    have HK:Hid (wr.ownsRow w.heap.size 9 1 (.slice o3 acc.length k3) acc.length (ksC acc)):=hk
    have HP:Hid (wr.ownsRow w.heap.size 3 1 (.slice o4 acc.length k4) acc.length (plC acc)):=hp
    have HOR:Hid ((∃kx,q=.ok kx/\S=.ok (acc,kx))\/∃c,q=.error c/\S=.error c):=hor
    have CM1:Hid (Calls Tryz.prog 31 #[.pointer (some ⟨R,0,none⟩),.int .u8 93] wr fun e w'=>e=.returned (.tuple #[])/\Ds w' R s LV OV now 0 (q.bind fun i=>must s.data.toList i 93)/\wr.grownBy w' (some R)):=CM.out q 93 wr (by decide) hds
    have CM2:Hid (∀w,Ds w R s LV OV now 0 (q.bind fun i=>must s.data.toList i 93)->Calls Tryz.prog 31 #[.pointer (some ⟨R,0,none⟩),.int .u8 93] w fun e w'=>e=.returned (.tuple #[])/\Ds w' R s LV OV now 0 ((q.bind fun i=>must s.data.toList i 93).bind fun i=>must s.data.toList i 93)/\w.grownBy w' (some R)):=fun w h=>CM.out _ 93 w (by decide) h
    have HMM:Hid (mm s.data.toList many q=if many=true then (q.bind fun i=>must s.data.toList i 93).bind (fun i=>must s.data.toList i 93) else q.bind fun i=>must s.data.toList i 93):=rfl
    obtain ⟨qA,hqA⟩:∃qA,(q.bind fun i=>must s.data.toList i 93:Rs Nat)=qA:=⟨_,rfl⟩
    rw [hqA] at CM1 CM2 HMM
    obtain ⟨qB,hqB⟩:∃qB,(qA.bind fun i=>must s.data.toList i 93:Rs Nat)=qB:=⟨_,rfl⟩
    rw [hqB] at CM2 HMM
    obtain ⟨q5,hq5⟩:∃q5,mm s.data.toList many q=q5:=⟨_,rfl⟩
    have HQ5:Hid (mm s.data.toList many q=q5):=hq5
    rw [hq5] at HMM
    obtain ⟨n,hn⟩:∃n,acc.length=n:=⟨_,rfl⟩
    have HN:Hid (acc.length=n):=hn
    rw [hn] at HK HP hal ⊢
    clear hds hg hk hp hor hqA hqB hq5 hn
    go_upto_if 60 with (first | (go_at_call 31;refine CM1.out.mono ?_;rintro e w2 ⟨rfl,hd2,hg2⟩))
    have HD2:Hid (Ds w2 R s LV OV now 0 qA):=hd2
    have HG2:Hid (w.grownBy w2 (some R)):=gb_two HG.out hg2
    obtain ⟨x1,x2,x3,hdd⟩:=HDq.out.dd
    have HK2:Hid (w2.ownsRow w.heap.size 9 1 (.slice o3 n k3) n (ksC acc)):=own_block HK.out fun g' cur' hh hc=>hg2.block g' (blk_lt hc) (by simp only [ne_eq,Option.some.injEq];exact ne_typ hc hdd (by decide))
    have HP2:Hid (w2.ownsRow w.heap.size 3 1 (.slice o4 n k4) n (plC acc)):=own_block HP.out fun g' cur' hh hc=>hg2.block g' (blk_lt hc) (by simp only [ne_eq,Option.some.injEq];exact ne_typ hc hdd (by decide))
    clear hd2 hg2 hdd
    go_cut [] from 58 (fun wx=>Ds wx R s LV OV now 0 q5/\w.grownBy wx (some R)/\wx.ownsRow w.heap.size 9 1 (.slice o3 n k3) n (ksC acc)/\wx.ownsRow w.heap.size 3 1 (.slice o4 n k4) n (plC acc))
    case first =>
     cases many with
     | true =>
      have HE:Hid (q5=qB):=HMM.out
      go_wp2_with (first | (go_at_call 31;refine (CM2.out _ HD2.out).mono ?_;rintro e w3 ⟨rfl,hd3,hg3⟩))
      go_meet
      rw [HE.out]
      obtain ⟨x1,x2,x3,hdd⟩:=HD2.out.dd
      exact ⟨hd3,gb_two HG2.out hg3,own_block HK2.out fun g' cur' hh hc=>hg3.block g' (blk_lt hc) (by simp only [ne_eq,Option.some.injEq];exact ne_typ hc hdd (by decide)),own_block HP2.out fun g' cur' hh hc=>hg3.block g' (blk_lt hc) (by simp only [ne_eq,Option.some.injEq];exact ne_typ hc hdd (by decide))⟩
     | false =>
      have HE:Hid (q5=qA):=HMM.out
      go_wp2
      go_meet
      rw [HE.out]
      exact ⟨HD2.out,HG2.out,HK2.out,HP2.out⟩
    case rest =>
     obtain ⟨hd5,hg5,hk5,hp5⟩:=hcut
     obtain ⟨hB1,hB2,hB3⟩:=HBW.out
     have HF5:Hid (DFr B P w wc):=by
      have hT:=HT0.out
      obtain ⟨z1,z2,-⟩:=hT
      exact dfr_R HDS.out z1 z2 hB2 hg5
     match q5,hd5,HQ5 with
     | .error c,hd5,HQ5 =>
      have HGC:Hid (G=.error c):=by
       rcases HOR.out with ⟨kx,e1,e2⟩ | ⟨c',e1,e2⟩
       ·have:=HQ5.out
        rw [e1] at this
        exact (HGO.out _ _ e2).1 c this
       ·have:=HQ5.out
        rw [e1,mm_er] at this
        cases this
        exact HGE.out _ e2
      have HFQ:Hid (Fq wc B P R s now 0 c):=by
       have hT:=HT0.out
       obtain ⟨z1,z2,-⟩:=hT
       exact ⟨LV,OV,hd5,z1,z2,Nat.lt_of_lt_of_le hB2 hg5.size⟩
      obtain ⟨-,c5,z5⟩:=HFQ.out.now
      obtain ⟨e1,he1⟩:∃x,c.1=x:=⟨_,rfl⟩
      rw [he1] at c5 z5
      clear hd5 hg5 hk5 hp5 he1 hB1 hB2 hB3
      go_wp2
      go_loopw [9] (fun v9 wr=>v9=.int .i64 0/\wr=wc) (fun _ _=>0)
      case atStart=>exact ⟨rfl,rfl⟩
      case round =>
       obtain ⟨rfl,rfl⟩:=hrel
       by_cases hn0:0 < n
       ·have hlt1:decide ((0:Int) < (n:Int))=true:=by simp;omega
        have hlt2:(0:Int) < (n:Int):=by omega
        go_wp2
        refine bodyPost_end (results_none rfl _ _ _) rfl ?_
        rw [HGC.out]
        exact ⟨rfl,fun d hh=>(by cases hh),fun c' hh=>(by injection hh with hh;subst hh;exact ⟨now,HFQ.out⟩),HF5.out⟩
       ·have hlt1:decide ((0:Int) < (n:Int))=false:=by simp;omega
        have hlt2:¬ (0:Int) < (n:Int):=by omega
        go_wp2
        refine bodyPost_end (results_none rfl _ _ _) rfl ?_
        rw [HGC.out]
        exact ⟨rfl,fun d hh=>(by cases hh),fun c' hh=>(by injection hh with hh;subst hh;exact ⟨now,HFQ.out⟩),HF5.out⟩
     | .ok j2,hd5,HQ5 =>
      obtain ⟨kx,hqk,hSk⟩:∃kx,q=.ok kx/\S=.ok (acc,kx):=by
       rcases HOR.out with h | ⟨c',e1,e2⟩
       ·exact h
       ·have:=HQ5.out
        rw [e1,mm_er] at this
        cases this
      have hmm:=HQ5.out
      rw [hqk] at hmm
      have hG2:=(HGO.out _ _ hSk).2 j2 hmm
      obtain ⟨hkl,hnp,hns⟩:=HHO.out _ _ hSk
      obtain ⟨Sw,hSw⟩:∃Sw,way many own acc 0 ns=Sw:=⟨_,rfl⟩
      rw [hSw] at hG2
      have HGW:Hid (G=lnW j2 own Sw):=hG2
      have HSW:Hid (way many own acc 0 ns=Sw):=hSw
      have hnn:=HN.out
      rw [hnn] at hnp hns
      obtain ⟨g3,c3,h3v,-,-⟩:=hk5.form hnp
      obtain ⟨g4,c4,h4v,-,-⟩:=hp5.form hnp
      injection h3v with h3o _ h3c
      injection h4v with h4o _ h4c
      subst h3o h3c h4o h4c
      obtain ⟨hg4B,cu4,hcu4⟩:=own_typ hp5 (g:=g4) rfl
      have HDt:Hid (Dt wc B g4 R s now 0 (.ok j2) ns own):=HT0.out.places hg5 (fun L O hd=>by obtain ⟨rfl,rfl⟩:=Ds.uni hd HDS.out;exact hd5) hg4B (blk_lt hcu4)
      have HKc:Hid (wc.ownsRow w.heap.size 9 1 (.slice (some ⟨g3,0,none⟩) n k3) n (ksC acc)):=hk5
      have HPc:Hid (wc.ownsRow w.heap.size 3 1 (.slice (some ⟨g4,0,none⟩) n k4) n (plC acc)):=hp5
      obtain ⟨d,hd⟩:∃d,n=d+1:=⟨n - 1,by omega⟩
      subst hd
      have HJ:Hid (Jt ns own 0):=⟨HLI.out.jt.wf,HLI.out.jt.wt,kdAt_lt HLI.out.rt (by omega),HLI.out.rt⟩
      have HNN:Hid (ns.length<=300000):=by have h1:=HLI.out.nn;have h2:=HLI.out.le;simp only [] at h1 h2;show _<=_;omega
      have HW1:Hid (∀i (hi:i < acc.length) t m,i+1 < acc.length->way many own (acc.drop i) t m=match stp m t acc[i].1 acc[i].2 with | .error e=>.error e | .ok (t1,ns1)=>way many own (acc.drop (i+1)) t1 ns1):=fun i hi t m h2=>by
       rw [List.drop_eq_getElem_cons hi,List.drop_eq_getElem_cons h2]
       exact way_more many own acc[i].1 acc[i].2 acc[i+1] _ t m
      have HW0:Hid (∀i (hi:i < acc.length) t m,i+1=acc.length->way many own (acc.drop i) t m=if many=true then endL m t acc[i].1 acc[i].2 else endT m own t acc[i].1 acc[i].2):=fun i hi t m h2=>by
       rw [List.drop_eq_getElem_cons hi,List.drop_eq_nil_of_le (by omega)]
       exact way_one many own acc[i].1 acc[i].2 t m
      clear hd5 hg5 hk5 hp5 hqk hSk hmm hG2 hkl hSw hg4B hcu4 hB1 hB2 hB3 hnn
      go_wp2
      go_loopw [8,9] (fun v8 v9 wr=>∃(x t:Nat) (m:List Tn),v9=.int .i64 (x:Nat)/\v8=.int .i64 (t:Nat)/\x<=d+1/\(x<=d->Jt m own t/\m.length<=ns.length+x)/\t < m.length/\Dt wr B g4 R s now 0 (.ok j2) m own/\way many own (acc.drop x) t m=Sw/\DFr B g4 wc wr) (fun _ v9 _=>d+1 - (intOf v9).toNat)
      case atStart=>exact ⟨0,0,ns,rfl,rfl,Nat.zero_le _,fun _=>⟨HJ.out,Nat.le_refl _⟩,HJ.out.lt,HDt.out,HSW.out,DFr.refl _⟩
      case round =>
       obtain ⟨x,t,m,rfl,rfl,hx,hxj,htm,hdt,hway,hfr⟩:=hrel
       obtain ⟨-,-,c5,-⟩:=hdt.cells
       have HDm:Hid (Dt wr B g4 R s now 0 (.ok j2) m own):=hdt
       have HFm:Hid (DFr B g4 wc wr):=hfr
       by_cases hxd:x<=d
       ·obtain ⟨hj,hml⟩:=hxj hxd
        have hil:x < acc.length:=by have:=HN.out;omega
        have a1:=(own_block HKc.out fun g' cur' hh hc=>hfr.oth _ _ _ _ hc (by decide) (by decide) (by decide) (by decide)).cells (g:=g3) rfl x _ (ksC_at acc x hil)
        have a2:=(own_block HPc.out fun g' cur' hh hc=>by cases hh;exact hfr.pro).cells (g:=g4) rfl x _ (plC_at acc x hil)
        rw [zero_off] at a1 a2
        have hx1:x < d+1:=by omega
        have hg1:decide ((x:Int) < ((d+1:Nat):Int))=true:=by simp;omega
        have hg2:(x:Int) < ((d+1:Nat):Int):=by omega
        have hN:=HNN.out
        obtain ⟨hdd,hdf⟩:=hdt.drew 1
        by_cases hlt:x < d
        ·rw [HW1.out x hil t m (by have:=HN.out;omega)] at hway
         have CS:=dStep_any B g4 R s now 0 j2 m own t acc[x].1 acc[x].2 wr.drew hdd hj.wf hj.wt hj.lt (by omega)
         have HST:Hid (∀t1 m1,stp m t acc[x].1 acc[x].2=.ok (t1,m1)->Jt m1 own t1/\m.length<=m1.length/\m1.length<=m.length+1):=fun t1 m1 hs=>stp_ok hj hs
         have HER:Hid (∀c,stp m t acc[x].1 acc[x].2=.error c->c=(5,acc[x].2)):=fun c hc=>stp_er hc
         obtain ⟨y,hy⟩:∃y,acc[x]=y:=⟨_,rfl⟩
         rw [hy] at a1 a2 CS hway HST HER
         obtain ⟨R0,hR⟩:∃R0,stp m t y.1 y.2=R0:=⟨_,rfl⟩
         rw [hR] at CS hway HST HER
         obtain ⟨y1,y2⟩:=y
         simp only [] at a1 a2 CS hway HST HER
         have HKP:Hid (∀w'',DFr B g4 wr w''->w''.cell? ⟨g3,x,none⟩=some (.string ⟨y1.toArray⟩)/\w''.cell? ⟨g4,x,none⟩=some (.int .i64 (y2:Nat))):=fun w'' hf=>by
          have hf2:=hfr.two hf
          have b1:=(own_block HKc.out fun g' cur' hh hc=>hf2.oth _ _ _ _ hc (by decide) (by decide) (by decide) (by decide)).cells (g:=g3) rfl x _ (ksC_at acc x hil)
          have b2:=(own_block HPc.out fun g' cur' hh hc=>by cases hh;exact hf2.pro).cells (g:=g4) rfl x _ (plC_at acc x hil)
          rw [zero_off] at b1 b2
          rw [hy] at b1 b2
          exact ⟨b1,b2⟩
         match R0,CS,hway,HST,HER with
         | .error c,CS,hway,_,HER =>
          obtain rfl:=HER.out c rfl
          have HSE:Hid (Sw=.error (5,y2)):=hway.symm
          have CS1:Hid (Calls Tryz.prog 53 #[.pointer (some ⟨R,0,none⟩),.int .i64 (t:Nat),.string ⟨y1.toArray⟩,.int .i64 (y2:Nat)] wr.drew fun e w''=>e=.returned (.int .i64 (-1))/\Hid ((∃ns',Dt w'' B g4 R s now 0 (.ok j2) ns' own)/\DFr B g4 wr w'')/\(w''.cell? ⟨g3,x,none⟩=some (.string ⟨y1.toArray⟩)/\w''.cell? ⟨g4,x,none⟩=some (.int .i64 (y2:Nat)))):=by
           refine CS.mono ?_
           rintro e w'' ⟨-,p2,p3⟩
           obtain ⟨q1,q2⟩:=p2 _ rfl
           have hf:=hdf.two p3
           exact ⟨q1,⟨q2,hf⟩,HKP.out w'' hf⟩
          have hlt2:(x:Int) < (d:Int):=by omega
          clear hdt hfr hj hway hy hR CS HER hxj htm hdd hdf hN hml HST
          go_wp2
          go_region_held3 (fun u=>u.cell? ⟨g3,x,none⟩=some (.string ⟨y1.toArray⟩)/\u.cell? ⟨g4,x,none⟩=some (.int .i64 (y2:Nat))) ((first | assumption | go_keep)) (first | (go_at_call 53;refine CS1.out.mono ?_;rintro e w7 ⟨rfl,hall,hcl⟩))
          obtain ⟨⟨ns',hd7⟩,hf7⟩:=hall.out
          have HD7:Hid (Dt w7 B g4 R s now 0 (.ok j2) ns' own):=hd7
          have HF7:Hid (DFr B g4 wr w7):=hf7
          obtain ⟨k1,k2⟩:=hcl
          clear hd7 hf7 hall a1 a2 c5
          go_wp2_with (first | (go_at_call 55;refine (qFail B g4 R s now 0 ns' own j2 _ HD7.out 5 (by decide) y2).mono ?_;rintro e w8 ⟨rfl,hd8,hf8⟩))
          refine bodyPost_ret (results_none rfl _ _ _) rfl ?_
          rw [HGW.out,HSE.out]
          exact ⟨rfl,fun d hh=>(by cases hh),fun c' hh=>(by have hh:(Except.error (5,y2):Rs Sd)=.error c':=hh;injection hh with hh;subst hh;exact ⟨now,hd8.fq.toP HPB.out⟩),HF5.out.two (((HFm.out.two HF7.out).two hf8).toP HPB.out)⟩
         | .ok (t1,m1),CS,hway,HST,_ =>
          have HSE:Hid (way many own (acc.drop (x+1)) t1 m1=Sw):=hway
          obtain ⟨j1,-,j3⟩:=HST.out t1 m1 rfl
          have HJ1:Hid (Jt m1 own t1):=j1
          clear j1
          have CS1:Hid (Calls Tryz.prog 53 #[.pointer (some ⟨R,0,none⟩),.int .i64 (t:Nat),.string ⟨y1.toArray⟩,.int .i64 (y2:Nat)] wr.drew fun e w''=>e=.returned (.int .i64 (t1:Nat))/\Hid (Dt w'' B g4 R s now 0 (.ok j2) m1 own/\DFr B g4 wr w'')/\(w''.cell? ⟨g3,x,none⟩=some (.string ⟨y1.toArray⟩)/\w''.cell? ⟨g4,x,none⟩=some (.int .i64 (y2:Nat)))):=by
           refine CS.mono ?_
           rintro e w'' ⟨p1,-,p3⟩
           obtain ⟨q1,q2⟩:=p1 _ _ rfl
           have hf:=hdf.two p3
           exact ⟨q1,⟨q2,hf⟩,HKP.out w'' hf⟩
          have hlt2: (x:Int) < (d:Int):=by omega
          have hnt:¬ (t1:Int) < 0:=by omega
          clear hdt hfr hj hway hy hR CS hxj htm hdd hdf HST
          go_wp2
          go_region_held3 (fun u=>u.cell? ⟨g3,x,none⟩=some (.string ⟨y1.toArray⟩)/\u.cell? ⟨g4,x,none⟩=some (.int .i64 (y2:Nat))) ((first | assumption | go_keep)) (first | (go_at_call 53;refine CS1.out.mono ?_;rintro e w7 ⟨rfl,hall,hcl⟩))
          obtain ⟨hd7,hf7⟩:=hall.out
          have HD7:Hid (Dt w7 B g4 R s now 0 (.ok j2) m1 own):=hd7
          have HF7:Hid (DFr B g4 wr w7):=hf7
          clear hd7 hf7 hall a1 a2 c5 hcl
          go_wp2
          go_roundw
          case rel=>exact ⟨x+1,t1,m1,by go_num,rfl,by omega,fun _=>⟨HJ1.out,by omega⟩,HJ1.out.lt,HD7.out,HSE.out,HFm.out.two HF7.out⟩
          case measure=>simp [intOf];omega
        ·have hxe:x=d:=by omega
         rw [HW0.out x hil t m (by have:=HN.out;omega)] at hway
         have CS:=dLast_any many B g4 R s now 0 j2 m own t acc[x].1 acc[x].2 wr.drew hdd hj.wf hj.lt (by omega)
         have HST:Hid (∀t1 m1,(if many=true then endL m t acc[x].1 acc[x].2 else endT m own t acc[x].1 acc[x].2)=.ok (t1,m1)->t1 < m1.length):=fun t1 m1 hs=>end_ok hj hs
         have HER:Hid (∀c,(if many=true then endL m t acc[x].1 acc[x].2 else endT m own t acc[x].1 acc[x].2)=.error c->c=(5,acc[x].2)):=fun c hc=>end_er hc
         obtain ⟨y,hy⟩:∃y,acc[x]=y:=⟨_,rfl⟩
         rw [hy] at a1 a2 CS hway HST HER
         obtain ⟨R0,hR⟩:∃R0,(if many=true then endL m t y.1 y.2 else endT m own t y.1 y.2)=R0:=⟨_,rfl⟩
         rw [hR] at CS hway HST HER
         obtain ⟨y1,y2⟩:=y
         simp only [] at a1 a2 CS hway HST HER
         have HKP:Hid (∀w'',DFr B g4 wr w''->w''.cell? ⟨g3,x,none⟩=some (.string ⟨y1.toArray⟩)/\w''.cell? ⟨g4,x,none⟩=some (.int .i64 (y2:Nat))):=fun w'' hf=>by
          have hf2:=hfr.two hf
          have b1:=(own_block HKc.out fun g' cur' hh hc=>hf2.oth _ _ _ _ hc (by decide) (by decide) (by decide) (by decide)).cells (g:=g3) rfl x _ (ksC_at acc x hil)
          have b2:=(own_block HPc.out fun g' cur' hh hc=>by cases hh;exact hf2.pro).cells (g:=g4) rfl x _ (plC_at acc x hil)
          rw [zero_off] at b1 b2
          rw [hy] at b1 b2
          exact ⟨b1,b2⟩
         match R0,CS,hway,HST,HER with
         | .error c,CS,hway,_,HER =>
          obtain rfl:=HER.out c rfl
          have HSE:Hid (Sw=.error (5,y2)):=hway.symm
          have CS1:Hid (Calls Tryz.prog 54 #[.pointer (some ⟨R,0,none⟩),.int .i64 (t:Nat),.string ⟨y1.toArray⟩,.int .i64 (y2:Nat),.bool many] wr.drew fun e w''=>e=.returned (.int .i64 (-1))/\Hid ((∃ns',Dt w'' B g4 R s now 0 (.ok j2) ns' own)/\DFr B g4 wr w'')/\(w''.cell? ⟨g3,x,none⟩=some (.string ⟨y1.toArray⟩)/\w''.cell? ⟨g4,x,none⟩=some (.int .i64 (y2:Nat)))):=by
           refine CS.mono ?_
           rintro e w'' ⟨-,p2,p3⟩
           obtain ⟨q1,q2⟩:=p2 _ rfl
           have hf:=hdf.two p3
           exact ⟨q1,⟨q2,hf⟩,HKP.out w'' hf⟩
          have hlt2:¬ (x:Int) < (d:Int):=by omega
          clear hdt hfr hj hway hy hR CS HER hxj htm hdd hdf hN hml HST hxe
          go_wp2
          go_region_held3 (fun u=>u.cell? ⟨g3,x,none⟩=some (.string ⟨y1.toArray⟩)/\u.cell? ⟨g4,x,none⟩=some (.int .i64 (y2:Nat))) ((first | assumption | go_keep)) (first | (go_at_call 54;refine CS1.out.mono ?_;rintro e w7 ⟨rfl,hall,hcl⟩))
          obtain ⟨⟨ns',hd7⟩,hf7⟩:=hall.out
          have HD7:Hid (Dt w7 B g4 R s now 0 (.ok j2) ns' own):=hd7
          have HF7:Hid (DFr B g4 wr w7):=hf7
          obtain ⟨k1,k2⟩:=hcl
          clear hd7 hf7 hall a1 a2 c5
          go_wp2_with (first | (go_at_call 55;refine (qFail B g4 R s now 0 ns' own j2 _ HD7.out 5 (by decide) y2).mono ?_;rintro e w8 ⟨rfl,hd8,hf8⟩))
          refine bodyPost_ret (results_none rfl _ _ _) rfl ?_
          rw [HGW.out,HSE.out]
          exact ⟨rfl,fun d hh=>(by cases hh),fun c' hh=>(by have hh:(Except.error (5,y2):Rs Sd)=.error c':=hh;injection hh with hh;subst hh;exact ⟨now,hd8.fq.toP HPB.out⟩),HF5.out.two (((HFm.out.two HF7.out).two hf8).toP HPB.out)⟩
         | .ok (t1,m1),CS,hway,HST,_ =>
          have HSE:Hid (way many own (acc.drop (x+1)) t1 m1=Sw):=by
           show _=_
           rw [List.drop_eq_nil_of_le (by have:=HN.out;omega)]
           exact hway
          have hlt1m:t1 < m1.length:=HST.out t1 m1 rfl
          have CS1:Hid (Calls Tryz.prog 54 #[.pointer (some ⟨R,0,none⟩),.int .i64 (t:Nat),.string ⟨y1.toArray⟩,.int .i64 (y2:Nat),.bool many] wr.drew fun e w''=>e=.returned (.int .i64 (t1:Nat))/\Hid (Dt w'' B g4 R s now 0 (.ok j2) m1 own/\DFr B g4 wr w'')/\(w''.cell? ⟨g3,x,none⟩=some (.string ⟨y1.toArray⟩)/\w''.cell? ⟨g4,x,none⟩=some (.int .i64 (y2:Nat)))):=by
           refine CS.mono ?_
           rintro e w'' ⟨p1,-,p3⟩
           obtain ⟨q1,q2⟩:=p1 _ _ rfl
           have hf:=hdf.two p3
           exact ⟨q1,⟨q2,hf⟩,HKP.out w'' hf⟩
          have hlt2:¬ (x:Int) < (d:Int):=by omega
          have hnt:¬ (t1:Int) < 0:=by omega
          clear hdt hfr hj hway hy hR CS hxj htm hdd hdf HST hxe
          go_wp2
          go_region_held3 (fun u=>u.cell? ⟨g3,x,none⟩=some (.string ⟨y1.toArray⟩)/\u.cell? ⟨g4,x,none⟩=some (.int .i64 (y2:Nat))) ((first | assumption | go_keep)) (first | (go_at_call 54;refine CS1.out.mono ?_;rintro e w7 ⟨rfl,hall,hcl⟩))
          obtain ⟨hd7,hf7⟩:=hall.out
          have HD7:Hid (Dt w7 B g4 R s now 0 (.ok j2) m1 own):=hd7
          have HF7:Hid (DFr B g4 wr w7):=hf7
          clear hd7 hf7 hall a1 a2 c5 hcl
          go_wp2
          go_roundw
          case rel=>exact ⟨x+1,t1,m1,by go_num,rfl,by omega,fun h=>absurd h (by omega),hlt1m,HD7.out,HSE.out,HFm.out.two HF7.out⟩
          case measure=>simp [intOf];omega
       ·have hxe:x=d+1:=by omega
        have hg1:decide ((x:Int) < ((d+1:Nat):Int))=false:=by simp;omega
        have hg2:¬ (x:Int) < ((d+1:Nat):Int):=by omega
        have HSE:Hid (Sw=.ok (t,m)):=by
         rw [List.drop_eq_nil_of_le (by have:=HN.out;omega)] at hway
         exact hway.symm
        obtain ⟨O2,oc2,v2,e1,e2,e3,e4,e5,hdO,hfO⟩:=hdt.owns t htm
        have HDO:Hid (Dt ((wr.setCell ⟨O2,t,none⟩ (.bool true)).setCell ⟨R,4,none⟩ (.int .i64 (t:Nat))) B g4 R s t 0 (.ok j2) m (t :: own)):=hdO
        have HFO:Hid (DFr B g4 wr ((wr.setCell ⟨O2,t,none⟩ (.bool true)).setCell ⟨R,4,none⟩ (.int .i64 (t:Nat)))):=hfO
        obtain ⟨L,hL⟩:∃L,m.length=L:=⟨_,rfl⟩
        rw [hL] at e1 htm
        clear hdt hfr hway hdO hfO hxj hL hxe
        go_wp2
        refine bodyPost_end (results_none rfl _ _ _) rfl ?_
        rw [HGW.out,HSE.out]
        exact ⟨rfl,fun d hh=>(by have hh:(Except.ok ⟨j2,m,t :: own,t⟩:Rs Sd)=.ok d:=hh;injection hh with hh;subst hh;exact HDO.out.toP HPB.out),fun c' hh=>(by cases hh),HF5.out.two ((HFm.out.two HFO.out).toP HPB.out)⟩
theorem NoS.grow {w w':World} {v:Value} {ns:List Tn} (h:NoS w v ns) (hg:w.grownBy w' none):NoS w' v ns:=by
 obtain ⟨o,c,hv,hc⟩:=h
 refine ⟨o,c,hv,fun i hi=>?_⟩
 obtain ⟨g,k,e,h0,h1,h2,h3,h4,h5,h6⟩:=hc i hi
 exact ⟨g,k,e,hg.cell h0 (by simp),hg.cell h1 (by simp),hg.cell h2 (by simp),hg.cell h3 (by simp),hg.cell h4 (by simp),hg.cell h5 (by simp),h6.grow hg⟩
structure SpF (b0 b1:Nat) (w w':World):Prop where
 os:w'.os=w.os
 tape:w'.tape=w.tape
 output:w'.output=w.output
 size:w.heap.size<=w'.heap.size
 block:∀b,(b < b0\/b1<=b)->w'.heap[b]?=w.heap[b]?
theorem SpF.refl (b0 b1:Nat) (w:World):SpF b0 b1 w w:=⟨rfl,rfl,rfl,Nat.le_refl _,fun _ _=>rfl⟩
theorem SpF.set {b0 b1:Nat} {w w':World} (h:SpF b0 b1 w w') {g:Nat} (h0:b0<=g) (h1:g < b1) (o:Nat) (v:Value):SpF b0 b1 w (w'.setCell ⟨g,o,none⟩ v) :=
 ⟨h.os,h.tape,h.output,by have:=h.size;simpa [World.setCell] using this,fun b hb=>(heap_setCell_other w' _ b v (by simp only [];omega)).trans (h.block b hb)⟩
theorem SpF.below {b0 b1:Nat} {w w':World} (h:SpF b0 b1 w w'):Below b0 w w':=⟨h.os,h.tape,h.output,h.size,fun k hk=>h.block k (Or.inl hk)⟩
structure SpL (w:World) (b0 b1 N n i:Nat) (ks:Nat->Value) (ls:Nat->Nat):Prop where
 lo:b0<=N
 hi:N < b1
 row:∃cur,w.heap[N]?=some (.cells cur 33 (0,0))/\n * 6<=cur.size/\∀j,i<=j->j < n->cur[j * 6+4]?=some (ks j)
 kid:∀j,j < n->∃o c,ks j=.slice o (ls j) c/\ls j<=1000000/\(0 < ls j->∃g cur,o=some ⟨g,0,none⟩/\b0<=g/\g < b1/\w.heap[g]?=some (.cells cur 3 (0,0))/\ls j<=cur.size)
section
variable {w:World} {b0 b1 N n i:Nat} {ks:Nat->Value} {ls:Nat->Nat}
theorem SpL.cell (h:SpL w b0 b1 N n i ks ls) (o:Nat) (ho:o < i * 6) (v:Value):SpL (w.setCell ⟨N,o,none⟩ v) b0 b1 N n i ks ls:=by
 obtain ⟨cur,h1,h2,h3⟩:=h.row
 refine ⟨h.lo,h.hi,⟨cur.setIfInBounds o v,block_setCell h1 v,by simpa using h2,fun j hj hn=>?_⟩,fun j hj=>?_⟩
 ·rw [Array.getElem?_setIfInBounds_ne (by omega)]
  exact h3 j hj hn
 ·obtain ⟨oo,c,e,hm,hh⟩:=h.kid j hj
  refine ⟨oo,c,e,hm,fun hp=>?_⟩
  obtain ⟨g,cu,e1,e2,e3,e4,e5⟩:=hh hp
  exact ⟨g,cu,e1,e2,e3,(heap_setCell_other _ _ _ _ (ne_typ e4 h1 (by decide))).trans e4,e5⟩
theorem SpL.at (h:SpL w b0 b1 N n i ks ls) (j:Nat) (hj:i<=j) (hn:j < n):w.cell? ⟨N,j * 6+4,none⟩=some (ks j)/\∀k,w.frozen? ⟨N,k,none⟩=false:=by
 obtain ⟨cur,h1,h2,h3⟩:=h.row
 exact ⟨by rw [Lib.cell_of_heap h1];exact h3 j hj hn,fun k=>Lib.frozen_of_heap h1 k⟩
theorem SpL.any (h:SpL w b0 b1 N n i ks ls) (o:Nat) (ho:o < n * 6):∃v,w.cell? ⟨N,o,none⟩=some v:=by
 obtain ⟨cur,h1,h2,h3⟩:=h.row
 exact ⟨cur[o]'(by omega),by rw [Lib.cell_of_heap h1];exact Array.getElem?_eq_getElem (by omega)⟩
end
theorem rdAll_li (l:List UInt8):∀(f:Nat) (d d':Sd),Li l d->rdAll l f d=.ok d'->Li l d'
 | 0,d,d',L,h=>by cases h;exact L
 | f+1,d,d',L,h=>by
  rw [rdAll_step] at h
  split at h
  ·cases h;exact L
  ·cases hr:rdLine l d with
   | error e=>rw [hr] at h;cases h
   | ok d1 =>
    rw [hr] at h
    exact rdAll_li l f d1 d' (line_ok l d d1 L (by omega) hr).1 h
theorem toml_ok (l:List UInt8) (ns:List Tn) (h:rdToml l=.ok ns):∃own now,Jt ns own now/\kdAt ns 0=0/\ns.length<=200001/\l.length<=100000:=by
 rw [rdToml_eq] at h
 split at h
 ·cases h
 ·cases ha:rdAll l (l.length+1) ⟨0,[⟨0,[],[],0,[],0⟩],[],0⟩ with
  | error e=>rw [ha] at h;cases h
  | ok d =>
   rw [ha] at h
   have L:=rdAll_li l _ _ _ (li_start l) ha
   cases h
   have h1:=L.nn
   have h2:=L.le
   exact ⟨d.own,d.now,L.jt,L.rt,by omega,by omega⟩
theorem Gl.up {w:World} {B B':Nat} {E:Int->TypeId × Value} (h:Gl w B E) (hB:B<=B'):Gl w B' E :=
 ⟨h.es,⟨Nat.lt_of_lt_of_le h.lo.te hB,Nat.lt_of_lt_of_le h.lo.ra hB,Nat.lt_of_lt_of_le h.lo.ma hB,Nat.lt_of_lt_of_le h.lo.tw hB⟩,h.tabs,Nat.lt_of_lt_of_le h.t3 hB,Nat.lt_of_lt_of_le h.t4 hB⟩
theorem lNum_any (w:World) (n:Int):Calls Tryz.prog 10 #[.int .i64 n] w fun e w'=>e=.returned (.int .i64 n)/\w'=w:=by
 go_enter Tryz.func10,Tryz.ntmps10
 go_wp2
 go_ret
 exact ⟨rfl,rfl⟩
end Go.Proofs.YtbgnflcebafjjaaGreatDoor
