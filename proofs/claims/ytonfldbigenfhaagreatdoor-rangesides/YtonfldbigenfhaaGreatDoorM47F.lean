import Derived.Test.YtonfldbigenfhaaGreatDoorM43
import Derived.Test.YtonfldbigenfhaaGreatDoorM46
namespace Go.Proofs.YtonfldbigenfhaaGreatDoor
open Go.RowKit
set_option linter.unusedVariables false
theorem parse_nn (l:List UInt8) (h:(parseV l).1=0):∃x1 x2 x3 P B,Nn x1/\Nn x2/\Nn x3/\okParts true P=true/\okParts false B=true/\l=textV ⟨x1,x2,x3,P,B⟩:=by
 unfold parseV at h
 by_cases hl:100 < l.length
 ·rw [if_pos hl] at h;exact absurd h (by show ¬ (1:Int)=0;decide)
 ·rw [if_neg hl] at h
  obtain ⟨h1,h2⟩:=text_read l h
  have hn:(rdNums l).1=0:=by
   unfold rdVer at h
   by_cases hh:(rdNums l).1=0
   ·exact hh
   ·rw [if_neg hh] at h;exact h
  obtain ⟨-,-,g1,g2,g3⟩:=nums_take l hn
  have e1:(rdVer l).2.2.major=(rdNums l).2.2.1/\(rdVer l).2.2.minor=(rdNums l).2.2.2.1/\(rdVer l).2.2.patch=(rdNums l).2.2.2.2:=by
   unfold rdVer at h ⊢
   rw [if_pos hn] at h ⊢
   by_cases q1:(optP 45 true l (rdNums l).2.1).1=0
   ·rw [if_pos q1] at h ⊢
    by_cases q2:(optP 43 false l (optP 45 true l (rdNums l).2.1).2.1).1=0
    ·rw [if_pos q2] at h ⊢
     by_cases q3:(optP 43 false l (optP 45 true l (rdNums l).2.1).2.1).2.1 < l.length
     ·rw [if_pos q3] at h;exact absurd h (by show ¬ (2:Int)=0;decide)
     ·rw [if_neg q3];exact ⟨rfl,rfl,rfl⟩
    ·rw [if_neg q2] at h;exact absurd h q2
   ·rw [if_neg q1] at h;exact absurd h q1
  unfold soundV at h2
  simp only [Bool.and_eq_true] at h2
  refine ⟨_,_,_,_,_,?_,?_,?_,h2.2.2.2.1,h2.2.2.2.2,h1.symm⟩
  ·rw [e1.1];exact g1
  ·rw [e1.2.1];exact g2
  ·rw [e1.2.2];exact g3
theorem itoa_21 (n:Int) (h0:-9223372036854775808<=n) (h1:n<=9223372036854775807):(Lib.itoa n).length<=21:=by
 unfold Lib.itoa
 split
 ·have:=dec_len 19 n.natAbs (by omega)
  simp only [List.length_cons]
  omega
 ·have:=dec_len 19 n.toNat (by omega)
  omega
theorem opt_lenT (c:UInt8) (p:List UInt8):(optT c p).length<=p.length+1:=by unfold optT;split <;> simp
theorem text_small (a1 a2 a3:Int) (a4 a5:ByteArray) (b1:-9223372036854775808<=a1/\a1<=9223372036854775807) (b2:-9223372036854775808<=a2/\a2<=9223372036854775807) (b3:-9223372036854775808<=a3/\a3<=9223372036854775807) (h4:a4.size<=140737488351232) (h5:a5.size<=140737488351232):(textV ⟨a1,a2,a3,a4.data.toList,a5.data.toList⟩).length < 2 ^ 50:=by
 have l1:=itoa_21 a1 b1.1 b1.2
 have l2:=itoa_21 a2 b2.1 b2.2
 have l3:=itoa_21 a3 b3.1 b3.2
 have o4:=opt_lenT 45 a4.data.toList
 have o5:=opt_lenT 43 a5.data.toList
 have e4:a4.data.toList.length=a4.size:=by simp
 have e5:a5.data.toList.length=a5.size:=by simp
 simp only [textV,List.length_append,List.length_cons]
 omega
theorem nt_low:NT [lowV] 2:=⟨by simp [Rising],by simp [lowV];decide,by simp [lowV],by simp;decide,by simp⟩
theorem nt_nil:NT [] 2:=⟨by simp [Rising],by simp,by simp,by simp,by simp⟩
theorem low_has (v:V) (hv:VOk v):holdsL (outs [lowV]) v=true:=by
 have e:outs [lowV]=[sgS ⟨lowV,zeroV0,true⟩]:=rfl
 rw [e,holds_one,has_iff]
 exact ⟨low_all v hv,Or.inl rfl⟩
theorem parse_turns (X:List UInt8) (S:List (List Te)) (U:List V) (w:World) (h:RT X S) (hl:X.length<=200) (hU:NT U 2) (hS:∀v,VOk v->admS S v=holdsL (outs U) v) :
  Calls Tryz.prog 11 #[.string ⟨X.toArray⟩] w fun e w'=>(∃o n c,e=.returned (.tuple #[.slice o n c,.int .i64 0,.int .i64 0])/\SpS w' (.slice o n c) (outs U))/\w.grownBy w' none:=by
 have:=rparse_any ⟨X.toArray⟩ w (by show X.toArray.size < _;simp;omega)
 have hr:rdRange (⟨X.toArray⟩:ByteArray).data.toList=(0,0,S):=by simpa using range_give h hl
 rw [hr] at this
 refine this.mono ?_
 rintro e w' ⟨o,n,c,rfl,hg,-,hok⟩
 obtain ⟨T,h1,h2,h3,h4⟩:=hok rfl
 refine ⟨⟨o,n,c,rfl,?_⟩,hg⟩
 rw [<-nt_one h3 hU (fun v hv=>by rw [h4 v hv];exact hS v hv)]
 exact h1.sps
theorem least_at {w:World} {g:Nat} {t:TypeId} (h:w.heap[g]?=some (.cells #[.int .i64 0,.int .i64 0,.int .i64 0,.string ⟨#[48]⟩,.string ⟨#[]⟩,.int .i64 0,.int .i64 0,.int .i64 0,.string ⟨#[]⟩,.string ⟨#[]⟩,.bool true] t (0,0))):SpS w (.slice (some ⟨g,0,none⟩) 1 1) (outs [lowV]):=by
 have e:outs [lowV]=[spV lowV zeroV0 true]:=rfl
 rw [e]
 refine Or.inr ⟨⟨g,0,none⟩,1,rfl,Nat.le_refl _,fun i hi=>?_⟩
 have hi0:i=0:=by simpa using hi
 subst hi0
 refine ⟨?_,?_,?_,?_,?_,?_,?_,?_,?_,?_,?_⟩ <;> simp [World.cell?,Addr.add,h] <;> rfl
set_option maxRecDepth 100000 in
set_option maxHeartbeats 3200000 in
theorem rangeSidesLaw (a1 a2 a3:Int) (a4 a5:ByteArray) (b1 b2 b3:Int) (b4 b5:ByteArray) (w:World) (ra1:-9223372036854775808<=a1/\a1<=9223372036854775807) (ra2:-9223372036854775808<=a2/\a2<=9223372036854775807) (ra3:-9223372036854775808<=a3/\a3<=9223372036854775807) (rb1:-9223372036854775808<=b1/\b1<=9223372036854775807) (rb2:-9223372036854775808<=b2/\b2<=9223372036854775807) (rb3:-9223372036854775808<=b3/\b3<=9223372036854775807) (ha4:a4.size<=140737488351232) (ha5:a5.size<=140737488351232) (hb4:b4.size<=140737488351232) (hb5:b5.size<=140737488351232) :
  Calls Tryz.prog 10 #[.agg #[.int .i64 a1,.int .i64 a2,.int .i64 a3,.string a4,.string a5],.agg #[.int .i64 b1,.int .i64 b2,.int .i64 b3,.string b4,.string b5]] w fun e w'=>e=.returned (.bool true)/\w.grownBy w' none:=by
 obtain ⟨A,hA⟩:∃A,textV ⟨a1,a2,a3,a4.data.toList,a5.data.toList⟩=A:=⟨_,rfl⟩
 obtain ⟨B,hB⟩:∃A,textV ⟨b1,b2,b3,b4.data.toList,b5.data.toList⟩=A:=⟨_,rfl⟩
 have lA:A.length < 2 ^ 50:=by rw [<-hA];exact text_small a1 a2 a3 a4 a5 ra1 ra2 ra3 ha4 ha5
 have lB:B.length < 2 ^ 50:=by rw [<-hB];exact text_small b1 b2 b3 b4 b5 rb1 rb2 rb3 hb4 hb5
 have CA:Hid (∀w,Calls Tryz.prog 30 #[.agg #[.int .i64 a1,.int .i64 a2,.int .i64 a3,.string a4,.string a5]] w fun e w'=>e=.returned (.string ⟨A.toArray⟩)/\w.grownBy w' none):=fun w=>by rw [<-hA];exact rtext_any a1 a2 a3 a4 a5 w ra1 ra2 ra3 (by omega) (by omega)
 have CB:Hid (∀w,Calls Tryz.prog 30 #[.agg #[.int .i64 b1,.int .i64 b2,.int .i64 b3,.string b4,.string b5]] w fun e w'=>e=.returned (.string ⟨B.toArray⟩)/\w.grownBy w' none):=fun w=>by rw [<-hB];exact rtext_any b1 b2 b3 b4 b5 w rb1 rb2 rb3 (by omega) (by omega)
 obtain ⟨E,hE⟩:∃E,(parseV A).1=E:=⟨_,rfl⟩
 obtain ⟨G,hG⟩:∃E,(parseV B).1=E:=⟨_,rfl⟩
 have RA:Hid (∀w,Calls Tryz.prog 31 #[.string ⟨A.toArray⟩] w fun e w'=>(∃(x1 x2 x3:Int) (x4 x5:ByteArray) (k:Int),e=.returned (.tuple #[.agg #[.int .i64 x1,.int .i64 x2,.int .i64 x3,.string x4,.string x5],.int .i64 E,.int .i64 k]))/\w.grownBy w' none):=fun w=>by
  have:=readv_any ⟨A.toArray⟩ w (by show A.toArray.size < _;simp;omega)
  have el:(⟨A.toArray⟩:ByteArray).data.toList=A:=by simp
  rw [el,hE] at this
  exact this.mono fun e w' ⟨h1,h2⟩=>⟨⟨_,_,_,_,_,_,h1⟩,h2⟩
 have RB:Hid (∀w,Calls Tryz.prog 31 #[.string ⟨B.toArray⟩] w fun e w'=>(∃(x1 x2 x3:Int) (x4 x5:ByteArray) (k:Int),e=.returned (.tuple #[.agg #[.int .i64 x1,.int .i64 x2,.int .i64 x3,.string x4,.string x5],.int .i64 G,.int .i64 k]))/\w.grownBy w' none):=fun w=>by
  have:=readv_any ⟨B.toArray⟩ w (by show B.toArray.size < _;simp;omega)
  have el:(⟨B.toArray⟩:ByteArray).data.toList=B:=by simp
  rw [el,hG] at this
  exact this.mono fun e w' ⟨h1,h2⟩=>⟨⟨_,_,_,_,_,_,h1⟩,h2⟩
 have HE:Hid (E=0->∃x1 x2 x3 P,PT A ⟨3,x1,x2,x3,P⟩):=fun h=>by
  obtain ⟨x1,x2,x3,P,Bd,n1,n2,n3,k1,k2,e⟩:=parse_nn A (hE.trans h)
  exact ⟨x1,x2,x3,P,by rw [e];exact pt3 n1 n2 n3 k1 k2⟩
 have HGG:Hid (G=0->∃x1 x2 x3 P,PT B ⟨3,x1,x2,x3,P⟩):=fun h=>by
  obtain ⟨x1,x2,x3,P,Bd,n1,n2,n3,k1,k2,e⟩:=parse_nn B (hG.trans h)
  exact ⟨x1,x2,x3,P,by rw [e];exact pt3 n1 n2 n3 k1 k2⟩
 obtain ⟨SA,hSA⟩:∃S:ByteArray,S=⟨A.toArray⟩:=⟨_,rfl⟩
 obtain ⟨SB,hSB⟩:∃S:ByteArray,S=⟨B.toArray⟩:=⟨_,rfl⟩
 have zA:SA.size=A.length:=by rw [hSA];show A.toArray.size=_;simp
 have zB:SB.size=B.length:=by rw [hSB];show B.toArray.size=_;simp
 rw [<-hSA] at CA RA
 rw [<-hSB] at CB RB
 have g1:SA.size < 2 ^ 50:=by omega
 have g2:SB.size < 2 ^ 50:=by omega
 have HSA:Hid (SA=⟨A.toArray⟩):=hSA
 have HSB:Hid (SB=⟨B.toArray⟩):=hSB
 have HZA:Hid (SA.size=A.length):=zA
 have HZB:Hid (SB.size=B.length):=zB
 clear hSA hSB zA zB lA lB
 clear ra1 ra2 ra3 rb1 rb2 rb3 ha4 ha5 hb4 hb5 hA hB hE hG
 go_enter Tryz.func10,Tryz.ntmps10
 go_wp2_with (first | (go_at_call 30;refine (CA.out _).mono ?_))
 rintro e w1 ⟨rfl,hg⟩
 obtain ⟨H,hH⟩:∃H,w.heap.size=H:=⟨_,rfl⟩
 have STb:Hid (St (H+1) b1 b2 b3 b4 b5 w1):=by
  show St (H+1) b1 b2 b3 b4 b5 w1
  rw [<-hH]
  refine (st_row (t:=39) ?_:St (w.heap.size+1) b1 b2 b3 b4 b5 ((w.alloc (.cells #[.int .i64 a1,.int .i64 a2,.int .i64 a3,.string a4,.string a5] 39)).alloc (.cells #[.int .i64 b1,.int .i64 b2,.int .i64 b3,.string b4,.string b5] 39))).grow hg
  have:=heap_alloc_new (w.alloc (.cells #[.int .i64 a1,.int .i64 a2,.int .i64 a3,.string a4,.string a5] 39)) (.cells #[.int .i64 b1,.int .i64 b2,.int .i64 b3,.string b4,.string b5] 39)
  simpa using this
 have HG:Hid (w.grownBy w1 none):=gb_trans (gb_alloc (gb_alloc (gb_refl w none) _) _) hg
 try rw [hH]
 clear hH hg
 obtain ⟨s6,s7,s8,s9,s10⟩:=STb.out
 go_wp2_with (first | (go_at_call 30;refine (CB.out _).mono ?_))
 rintro e w2 ⟨rfl,hg⟩
 replace HG:Hid (w.grownBy w2 none):=gb_trans HG.out hg
 clear hg s6 s7 s8 s9 s10 STb
 go_wp2_with (first | (go_at_call 31;refine (RA.out _).mono ?_))
 rintro e w3 ⟨⟨x1,x2,x3,x4,x5,kx,rfl⟩,hg⟩
 replace HG:Hid (w.grownBy w3 none):=gb_trans HG.out hg
 clear hg
 go_wp2_with (first | (go_at_call 31;refine (RB.out _).mono ?_))
 rintro e w4 ⟨⟨y1,y2,y3,y4,y5,ky,rfl⟩,hg⟩
 replace HG:Hid (w.grownBy w4 none):=gb_trans HG.out (gb_trans (gb_alloc (gb_refl w3 none) _) hg)
 clear hg
 by_cases hE:E=0
 ·subst hE
  by_cases hGz:G=0
  ·subst hGz
   obtain ⟨p1,p2,p3,P,pA⟩:=HE.out rfl
   obtain ⟨q1,q2,q3,Q,pB⟩:=HGG.out rfl
   by_cases l1:3 * SA.size+8<=200
   ·by_cases l2:SA.size+SB.size+8<=200
    ·have k1:A.length<=64:=by have:=HZA.out;omega
     have k2:A.length+B.length<=192:=by have:=HZA.out;have:=HZB.out;omega
     have hSA:=HSA.out
     have hSB:=HSB.out
     obtain ⟨Z1,eZ1,lZ1,zZ1⟩:=add_z [60] A (by simp only [List.length_cons,List.length_nil];omega)
     simp only [List.length_cons,List.length_nil] at lZ1
     obtain ⟨Z2,eZ2,lZ2,zZ2⟩:=add_z Z1 [124,124,61] (by simp only [List.length_cons,List.length_nil];omega)
     simp only [List.length_cons,List.length_nil] at lZ2
     obtain ⟨Z3,eZ3,lZ3,zZ3⟩:=add_z Z2 A (by omega)
     obtain ⟨Z4,eZ4,lZ4,zZ4⟩:=add_z Z3 [124,124,62] (by simp only [List.length_cons,List.length_nil];omega)
     simp only [List.length_cons,List.length_nil] at lZ4
     obtain ⟨Z5,eZ5,lZ5,zZ5⟩:=add_z Z4 A (by omega)
     obtain ⟨Z6,eZ6,lZ6,zZ6⟩:=add_z Z1 [32,62,61] (by simp only [List.length_cons,List.length_nil];omega)
     simp only [List.length_cons,List.length_nil] at lZ6
     obtain ⟨Z7,eZ7,lZ7,zZ7⟩:=add_z Z6 A (by omega)
     obtain ⟨Z8,eZ8,lZ8,zZ8⟩:=add_z [60,61] A (by simp only [List.length_cons,List.length_nil];omega)
     simp only [List.length_cons,List.length_nil] at lZ8
     obtain ⟨Z9,eZ9,lZ9,zZ9⟩:=add_z Z8 [32,62] (by simp only [List.length_cons,List.length_nil];omega)
     simp only [List.length_cons,List.length_nil] at lZ9
     obtain ⟨Z10,eZ10,lZ10,zZ10⟩:=add_z Z9 A (by omega)
     obtain ⟨Z11,eZ11,lZ11,zZ11⟩:=add_z [61] A (by simp only [List.length_cons,List.length_nil];omega)
     simp only [List.length_cons,List.length_nil] at lZ11
     obtain ⟨Z12,eZ12,lZ12,zZ12⟩:=add_z Z8 [32,62,61] (by simp only [List.length_cons,List.length_nil];omega)
     simp only [List.length_cons,List.length_nil] at lZ12
     obtain ⟨Z13,eZ13,lZ13,zZ13⟩:=add_z Z12 A (by omega)
     obtain ⟨Z14,eZ14,lZ14,zZ14⟩:=add_z A [32,45,32] (by simp only [List.length_cons,List.length_nil];omega)
     simp only [List.length_cons,List.length_nil] at lZ14
     obtain ⟨Z15,eZ15,lZ15,zZ15⟩:=add_z Z14 B (by omega)
     obtain ⟨Z16,eZ16,lZ16,zZ16⟩:=add_z [62,61] A (by simp only [List.length_cons,List.length_nil];omega)
     simp only [List.length_cons,List.length_nil] at lZ16
     obtain ⟨Z17,eZ17,lZ17,zZ17⟩:=add_z Z16 [32,60,61] (by simp only [List.length_cons,List.length_nil];omega)
     simp only [List.length_cons,List.length_nil] at lZ17
     obtain ⟨Z18,eZ18,lZ18,zZ18⟩:=add_z Z17 B (by omega)
     have yZ1:∀wx,(Op.stringOp .add ⟨#[60]⟩ SA).run Tryz.prog wx=.ok (.string ⟨Z1.toArray⟩) wx:=by first | exact zZ1 | (rw [hSA];exact zZ1) | (rw [hSB];exact zZ1)
     have yZ2:∀wx,(Op.stringOp .add ⟨Z1.toArray⟩ ⟨#[124,124,61]⟩).run Tryz.prog wx=.ok (.string ⟨Z2.toArray⟩) wx:=by first | exact zZ2 | (rw [hSA];exact zZ2) | (rw [hSB];exact zZ2)
     have yZ3:∀wx,(Op.stringOp .add ⟨Z2.toArray⟩ SA).run Tryz.prog wx=.ok (.string ⟨Z3.toArray⟩) wx:=by first | exact zZ3 | (rw [hSA];exact zZ3) | (rw [hSB];exact zZ3)
     have yZ4:∀wx,(Op.stringOp .add ⟨Z3.toArray⟩ ⟨#[124,124,62]⟩).run Tryz.prog wx=.ok (.string ⟨Z4.toArray⟩) wx:=by first | exact zZ4 | (rw [hSA];exact zZ4) | (rw [hSB];exact zZ4)
     have yZ5:∀wx,(Op.stringOp .add ⟨Z4.toArray⟩ SA).run Tryz.prog wx=.ok (.string ⟨Z5.toArray⟩) wx:=by first | exact zZ5 | (rw [hSA];exact zZ5) | (rw [hSB];exact zZ5)
     have yZ6:∀wx,(Op.stringOp .add ⟨Z1.toArray⟩ ⟨#[32,62,61]⟩).run Tryz.prog wx=.ok (.string ⟨Z6.toArray⟩) wx:=by first | exact zZ6 | (rw [hSA];exact zZ6) | (rw [hSB];exact zZ6)
     have yZ7:∀wx,(Op.stringOp .add ⟨Z6.toArray⟩ SA).run Tryz.prog wx=.ok (.string ⟨Z7.toArray⟩) wx:=by first | exact zZ7 | (rw [hSA];exact zZ7) | (rw [hSB];exact zZ7)
     have yZ8:∀wx,(Op.stringOp .add ⟨#[60,61]⟩ SA).run Tryz.prog wx=.ok (.string ⟨Z8.toArray⟩) wx:=by first | exact zZ8 | (rw [hSA];exact zZ8) | (rw [hSB];exact zZ8)
     have yZ9:∀wx,(Op.stringOp .add ⟨Z8.toArray⟩ ⟨#[32,62]⟩).run Tryz.prog wx=.ok (.string ⟨Z9.toArray⟩) wx:=by first | exact zZ9 | (rw [hSA];exact zZ9) | (rw [hSB];exact zZ9)
     have yZ10:∀wx,(Op.stringOp .add ⟨Z9.toArray⟩ SA).run Tryz.prog wx=.ok (.string ⟨Z10.toArray⟩) wx:=by first | exact zZ10 | (rw [hSA];exact zZ10) | (rw [hSB];exact zZ10)
     have yZ11:∀wx,(Op.stringOp .add ⟨#[61]⟩ SA).run Tryz.prog wx=.ok (.string ⟨Z11.toArray⟩) wx:=by first | exact zZ11 | (rw [hSA];exact zZ11) | (rw [hSB];exact zZ11)
     have yZ12:∀wx,(Op.stringOp .add ⟨Z8.toArray⟩ ⟨#[32,62,61]⟩).run Tryz.prog wx=.ok (.string ⟨Z12.toArray⟩) wx:=by first | exact zZ12 | (rw [hSA];exact zZ12) | (rw [hSB];exact zZ12)
     have yZ13:∀wx,(Op.stringOp .add ⟨Z12.toArray⟩ SA).run Tryz.prog wx=.ok (.string ⟨Z13.toArray⟩) wx:=by first | exact zZ13 | (rw [hSA];exact zZ13) | (rw [hSB];exact zZ13)
     have yZ14:∀wx,(Op.stringOp .add SA ⟨#[32,45,32]⟩).run Tryz.prog wx=.ok (.string ⟨Z14.toArray⟩) wx:=by first | exact zZ14 | (rw [hSA];exact zZ14) | (rw [hSB];exact zZ14)
     have yZ15:∀wx,(Op.stringOp .add ⟨Z14.toArray⟩ SB).run Tryz.prog wx=.ok (.string ⟨Z15.toArray⟩) wx:=by first | exact zZ15 | (rw [hSA];exact zZ15) | (rw [hSB];exact zZ15)
     have yZ16:∀wx,(Op.stringOp .add ⟨#[62,61]⟩ SA).run Tryz.prog wx=.ok (.string ⟨Z16.toArray⟩) wx:=by first | exact zZ16 | (rw [hSA];exact zZ16) | (rw [hSB];exact zZ16)
     have yZ17:∀wx,(Op.stringOp .add ⟨Z16.toArray⟩ ⟨#[32,60,61]⟩).run Tryz.prog wx=.ok (.string ⟨Z17.toArray⟩) wx:=by first | exact zZ17 | (rw [hSA];exact zZ17) | (rw [hSB];exact zZ17)
     have yZ18:∀wx,(Op.stringOp .add ⟨Z17.toArray⟩ SB).run Tryz.prog wx=.ok (.string ⟨Z18.toArray⟩) wx:=by first | exact zZ18 | (rw [hSA];exact zZ18) | (rw [hSB];exact zZ18)
     have P5:Hid (∀w,Calls Tryz.prog 11 #[.string ⟨Z5.toArray⟩] w fun e w'=>(∃o n c,e=.returned (.tuple #[.slice o n c,.int .i64 0,.int .i64 0])/\SpS w' (.slice o n c) (outs [lowV]))/\w.grownBy w' none):=fun w =>
      parse_turns Z5 [[⟨4,⟨3,p1,p2,p3,P⟩⟩],[⟨0,⟨3,p1,p2,p3,P⟩⟩],[⟨3,⟨3,p1,p2,p3,P⟩⟩]] [lowV] w (by rw [eZ5,eZ4,eZ3,eZ2,eZ1];simpa [signOr] using rt_app (rt1 SgT.lt pA) (rt_app (rt1 SgT.eq pA) (rt1 SgT.gt pA))) (by omega) nt_low (fun v hv=>by rw [low_has v hv];exact side_all p1 p2 p3 P v)
     have P7:Hid (∀w,Calls Tryz.prog 11 #[.string ⟨Z7.toArray⟩] w fun e w'=>(∃o n c,e=.returned (.tuple #[.slice o n c,.int .i64 0,.int .i64 0])/\SpS w' (.slice o n c) (outs []))/\w.grownBy w' none):=fun w =>
      parse_turns Z7 [[⟨4,⟨3,p1,p2,p3,P⟩⟩,⟨1,⟨3,p1,p2,p3,P⟩⟩]] [] w (by rw [eZ7,eZ6,eZ1];simpa [signOr] using rt2 SgT.lt pA SgT.ge pA) (by omega) nt_nil (fun v hv=>side_no1 p1 p2 p3 P v)
     have P10:Hid (∀w,Calls Tryz.prog 11 #[.string ⟨Z10.toArray⟩] w fun e w'=>(∃o n c,e=.returned (.tuple #[.slice o n c,.int .i64 0,.int .i64 0])/\SpS w' (.slice o n c) (outs []))/\w.grownBy w' none):=fun w =>
      parse_turns Z10 [[⟨2,⟨3,p1,p2,p3,P⟩⟩,⟨3,⟨3,p1,p2,p3,P⟩⟩]] [] w (by rw [eZ10,eZ9,eZ8];simpa [signOr] using rt2 SgT.le pA SgT.gt pA) (by omega) nt_nil (fun v hv=>side_no2 p1 p2 p3 P v)
     have A1:Hid (∀w,Calls Tryz.prog 29 #[.string ⟨Z11.toArray⟩,.string ⟨Z13.toArray⟩] w fun e w'=>e=.returned (.bool true)/\w.grownBy w' none):=fun w =>
      alike_yes Z11 Z13 [[⟨0,⟨3,p1,p2,p3,P⟩⟩]] [[⟨2,⟨3,p1,p2,p3,P⟩⟩,⟨1,⟨3,p1,p2,p3,P⟩⟩]] w (by rw [eZ11];exact rt1 SgT.eq pA) (by rw [eZ13,eZ12,eZ8];simpa [signOr] using rt2 SgT.le pA SgT.ge pA) (by omega) (by omega) (fun v hv=>side_one p1 p2 p3 P v)
     have A2:Hid (∀w,Calls Tryz.prog 29 #[.string ⟨Z15.toArray⟩,.string ⟨Z18.toArray⟩] w fun e w'=>e=.returned (.bool true)/\w.grownBy w' none):=fun w =>
      alike_yes Z15 Z18 [[⟨7,⟨3,p1,p2,p3,P⟩⟩,⟨2,⟨3,q1,q2,q3,Q⟩⟩]] [[⟨1,⟨3,p1,p2,p3,P⟩⟩,⟨2,⟨3,q1,q2,q3,Q⟩⟩]] w (by rw [eZ15,eZ14];simpa using rt_bet pA pB) (by rw [eZ18,eZ17,eZ16];simpa [signOr] using rt2 SgT.ge pA SgT.le pB) (by omega) (by omega) (fun v hv=>side_two p1 p2 p3 P _ v)
     have CE:Hid (∀a b w,SpS w a (outs [lowV])->SpS w b (outs [lowV])->Calls Tryz.prog 16 #[a,b] w fun e w'=>e=.returned (.bool true)/\w.grownBy w' none):=fun a b w h h'=>cEqual a b _ w h h' (by simp [outs])
     have CN:Hid (∀n w,Calls Tryz.prog 13 #[.int .i64 n] w fun e w'=>e=.returned (.int .i64 n)/\w.grownBy w' none):=fun n w=>lnum_gb n w
     have m1:3 * SA.size+8<=200:=l1
     have m2:SA.size+SB.size+8<=200:=l2
     clear zZ1 eZ1 lZ1 zZ2 eZ2 lZ2 zZ3 eZ3 lZ3 zZ4 eZ4 lZ4 zZ5 eZ5 lZ5 zZ6 eZ6 lZ6 zZ7 eZ7 lZ7 zZ8 eZ8 lZ8 zZ9 eZ9 lZ9 zZ10 eZ10 lZ10 zZ11 eZ11 lZ11 zZ12 eZ12 lZ12 zZ13 eZ13 lZ13 zZ14 eZ14 lZ14 zZ15 eZ15 lZ15 zZ16 eZ16 lZ16 zZ17 eZ17 lZ17 zZ18 eZ18 lZ18 l1 l2 k1 k2 pA pB HE HGG hSA hSB HSA HSB HZA HZB RA RB CA CB
     go_wp2_with (first | (go_at_call 11;refine (P5.out _).mono ?_))
     rintro e w5 ⟨⟨o5,n5,c5,rfl,h5⟩,hg⟩
     have hls:SpS w5 (.slice (some ⟨w4.heap.size+1,0,none⟩) 1 1) (outs [lowV]):=by
      refine SpS.grow (least_at (t:=37) ?_) hg
      have:=heap_alloc_new (w4.alloc (.cells #[.int .i64 y1,.int .i64 y2,.int .i64 y3,.string y4,.string y5] 39)) (.cells #[.int .i64 0,.int .i64 0,.int .i64 0,.string ⟨#[48]⟩,.string ⟨#[]⟩,.int .i64 0,.int .i64 0,.int .i64 0,.string ⟨#[]⟩,.string ⟨#[]⟩,.bool true] 37)
      simpa using this
     obtain ⟨L,hL⟩:∃L,w4.heap.size=L:=⟨_,rfl⟩
     rw [hL] at hls
     try rw [hL]
     replace HG:Hid (w.grownBy w5 none):=gb_trans HG.out (gb_trans (gb_alloc (gb_alloc (gb_refl w4 none) _) _) hg)
     have HL5:Hid (SpS w5 (.slice o5 n5 c5) (outs [lowV])):=h5
     have HLS:Hid (SpS w5 (.slice (some ⟨L+1,0,none⟩) 1 1) (outs [lowV])):=hls
     clear hg h5 hls hL
     go_wp2_with (first | (go_at_call 11;refine (P7.out _).mono ?_))
     rintro e w6 ⟨⟨o6,n6,c6,rfl,h6⟩,hg⟩
     have n6z:n6=0:=sps_len h6
     subst n6z
     replace HG:Hid (w.grownBy w6 none):=gb_trans HG.out hg
     replace HL5:Hid (SpS w6 (.slice o5 n5 c5) (outs [lowV])):=HL5.out.grow hg
     replace HLS:Hid (SpS w6 (.slice (some ⟨L+1,0,none⟩) 1 1) (outs [lowV])):=HLS.out.grow hg
     clear hg h6
     go_wp2_with (first | (go_at_call 11;refine (P10.out _).mono ?_))
     rintro e w7 ⟨⟨o7,n7,c7,rfl,h7⟩,hg⟩
     have n7z:n7=0:=sps_len h7
     subst n7z
     replace HG:Hid (w.grownBy w7 none):=gb_trans HG.out hg
     replace HL5:Hid (SpS w7 (.slice o5 n5 c5) (outs [lowV])):=HL5.out.grow hg
     replace HLS:Hid (SpS w7 (.slice (some ⟨L+1,0,none⟩) 1 1) (outs [lowV])):=HLS.out.grow hg
     clear hg h7
     go_wp2_with (first | (go_at_call 29;refine (A1.out _).mono ?_))
     rintro e w8 ⟨rfl,hg⟩
     replace HG:Hid (w.grownBy w8 none):=gb_trans HG.out hg
     replace HL5:Hid (SpS w8 (.slice o5 n5 c5) (outs [lowV])):=HL5.out.grow hg
     replace HLS:Hid (SpS w8 (.slice (some ⟨L+1,0,none⟩) 1 1) (outs [lowV])):=HLS.out.grow hg
     clear hg
     go_wp2_with (first | (go_at_call 29;refine (A2.out _).mono ?_))
     rintro e w9 ⟨rfl,hg⟩
     replace HG:Hid (w.grownBy w9 none):=gb_trans HG.out hg
     replace HL5:Hid (SpS w9 (.slice o5 n5 c5) (outs [lowV])):=HL5.out.grow hg
     replace HLS:Hid (SpS w9 (.slice (some ⟨L+1,0,none⟩) 1 1) (outs [lowV])):=HLS.out.grow hg
     clear hg
     go_wp2_with (first | (go_at_call 16;refine (CE.out _ _ _ HL5.out HLS.out).mono ?_))
     rintro e wa ⟨rfl,hg⟩
     replace HG:Hid (w.grownBy wa none):=gb_trans HG.out hg
     clear hg HL5 HLS
     go_wp2_with (first | (go_at_call 13;refine (CN.out _ _).mono ?_;rintro e wb ⟨rfl,hgb⟩))
     go_ret
     exact ⟨rfl,gb_trans HG.out hgb⟩
    ·have l2':¬ ((SA.size:Int)+(SB.size:Int)+8<=200):=by omega
     clear pA pB HE HGG HSA HSB HZA HZB RA RB CA CB
     go_wp2
     go_ret
     exact ⟨rfl,gb_trans HG.out (gb_alloc (gb_refl w4 none) _)⟩
   ·have l1':¬ (3 * (SA.size:Int)+8<=200):=by omega
    clear pA pB HE HGG HSA HSB HZA HZB RA RB CA CB
    go_wp2
    go_ret
    exact ⟨rfl,gb_trans HG.out (gb_alloc (gb_refl w4 none) _)⟩
  ·have hG1:(G == 0)=false:=by simp [hGz]
   have hG2:(G != 0)=true:=by simp [hGz]
   clear HE HGG HSA HSB HZA HZB RA RB CA CB hGz
   go_wp2
   go_ret
   exact ⟨rfl,gb_trans HG.out (gb_alloc (gb_refl w4 none) _)⟩
 ·have hE1:(E == 0)=false:=by simp [hE]
  have hE2:(E != 0)=true:=by simp [hE]
  clear HE HGG HSA HSB HZA HZB RA RB CA CB hE
  go_wp2
  go_ret
  exact ⟨rfl,gb_trans HG.out (gb_alloc (gb_refl w4 none) _)⟩
end Go.Proofs.YtonfldbigenfhaaGreatDoor
