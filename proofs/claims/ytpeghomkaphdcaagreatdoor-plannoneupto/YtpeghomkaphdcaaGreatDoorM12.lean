import Derived.Test.YtpeghomkaphdcaaGreatDoorM11
import Derived.Test.YtpeghomkaphdcaaGreatDoorM02
import Derived.Test.YtpeghomkaphdcaaGreatDoorM10
import Derived.Test.YtpeghomkaphdcaaGreatDoorM03
import Derived.Maps.OwnSet
import Derived.Maps.OwnOps
import Derived.Maps.AppendAt
namespace Go.Proofs.YtpeghomkaphdcaaGreatDoor
open Go.RowKit
set_option linter.unusedVariables false
theorem numT_of {a:ByteArray} (e:Bool) (d:Bool) (he:a.toList.isEmpty=e) (hd:a.data.toList.all isD=d):numT a.data.toList=(!e && d):=by
 unfold numT;rw [hd];rw [Lib.toList_data] at he;rw [he]
set_option maxHeartbeats 1600000 in
theorem rorderPart_any (a b:ByteArray) (w:World) (ha:a.size < 2 ^ 62) (hb:b.size < 2 ^ 62) :
  Calls Tryz.prog 104 #[.string a,.string b] w fun e w'=>e=.returned (.int .i64 (partC a.data.toList b.data.toList))/\w'=w:=by
 obtain ⟨R,hR⟩:∃R,R=partC a.data.toList b.data.toList:=⟨_,rfl⟩
 have HR:Hid (R=partC a.data.toList b.data.toList):=hR
 rw [<-hR]
 clear hR
 obtain ⟨da,hda⟩:∃d,a.data.toList.all isD=d:=⟨_,rfl⟩
 obtain ⟨db,hdb⟩:∃d,b.data.toList.all isD=d:=⟨_,rfl⟩
 have DA:Hid (∀w,Calls Tryz.prog 132 #[.string a] w fun e w'=>e=.returned (.bool da)/\w'=w):=fun w=>by rw [<-hda];exact rdigits_any a w ha
 have DB:Hid (∀w,Calls Tryz.prog 132 #[.string b] w fun e w'=>e=.returned (.bool db)/\w'=w):=fun w=>by rw [<-hdb];exact rdigits_any b w hb
 obtain ⟨T,hT⟩:∃T,T=Lib.compareBytes a.data.toList b.data.toList:=⟨_,rfl⟩
 have OT:Hid (∀w,Calls Tryz.prog 133 #[.string a,.string b] w fun e w'=>e=.returned (.int .i64 T)/\w'=w):=fun w=>by rw [hT];exact rorderText_any a b w
 obtain ⟨X,hX⟩:∃X:ByteArray,X=⟨(bareR a.data.toList).toArray⟩:=⟨_,rfl⟩
 obtain ⟨Y,hY⟩:∃Y:ByteArray,Y=⟨(bareR b.data.toList).toArray⟩:=⟨_,rfl⟩
 have BA:Hid (∀w,Calls Tryz.prog 134 #[.string a] w fun e w'=>e=.returned (.string X)/\w'=w):=fun w=>by rw [hX];exact rbare_any a w ha
 have BB:Hid (∀w,Calls Tryz.prog 134 #[.string b] w fun e w'=>e=.returned (.string Y)/\w'=w):=fun w=>by rw [hY];exact rbare_any b w hb
 have OX:Hid (∀w,Calls Tryz.prog 133 #[.string X,.string Y] w fun e w'=>e=.returned (.int .i64 (Lib.compareBytes X.data.toList Y.data.toList))/\w'=w):=fun w=>rorderText_any X Y w
 have OL:Hid (∀w,Calls Tryz.prog 72 #[.int .i64 X.size,.int .i64 Y.size] w fun e w'=>e=.returned (.int .i64 (Lib.compareInt X.size Y.size))/\w'=w):=fun w=>rorder_any _ _ w
 have HT:Hid (T=Lib.compareBytes a.data.toList b.data.toList):=hT
 have HXY:Hid (X.data.toList=bareR a.data.toList/\Y.data.toList=bareR b.data.toList/\(X.size:Int)=(bareR a.data.toList).length/\(Y.size:Int)=(bareR b.data.toList).length):=by
  rw [hX,hY];refine ⟨rfl,rfl,?_,?_⟩
  ·show (((bareR a.data.toList).toArray.size:Nat):Int)=_;simp
  ·show (((bareR b.data.toList).toArray.size:Nat):Int)=_;simp
 have HDA:Hid (a.data.toList.all isD=da/\b.data.toList.all isD=db):=⟨hda,hdb⟩
 clear hda hdb hT hX hY ha hb
 have key:∀ea eb,a.toList.isEmpty=ea->b.toList.isEmpty=eb->Hid (numT a.data.toList=(!ea && da)/\numT b.data.toList=(!eb && db)):=fun ea eb h1 h2=>⟨numT_of ea da h1 HDA.out.1,numT_of eb db h2 HDA.out.2⟩
 cases hea:a.toList.isEmpty <;> cases heb:b.toList.isEmpty <;> cases da <;> cases db
 all_goals
  have HK:=key _ _ hea heb
  clear key
  first
  | (have HZ:Hid (R=-1):=by show R=-1;rw [HR.out];exact partC_nw HK.out.1 HK.out.2
     go_enter Tryz.func104,Tryz.ntmps104
     go_wp2_with (first | (go_at_call_of 132 a;refine (DA.out _).mono ?_;rintro e w' ⟨rfl,rfl⟩) | (go_at_call_of 132 b;refine (DB.out _).mono ?_;rintro e w' ⟨rfl,rfl⟩))
     go_ret
     exact ⟨ret_int HZ.out.symm,rfl⟩)
  | (have HZ:Hid (R=1):=by show R=1;rw [HR.out];exact partC_wn HK.out.1 HK.out.2
     go_enter Tryz.func104,Tryz.ntmps104
     go_wp2_with (first | (go_at_call_of 132 a;refine (DA.out _).mono ?_;rintro e w' ⟨rfl,rfl⟩) | (go_at_call_of 132 b;refine (DB.out _).mono ?_;rintro e w' ⟨rfl,rfl⟩))
     go_ret
     exact ⟨ret_int HZ.out.symm,rfl⟩)
  | (have HZ:Hid (R=T):=by show R=T;rw [HR.out,HT.out];exact partC_ww HK.out.1 HK.out.2
     go_enter Tryz.func104,Tryz.ntmps104
     go_wp2_with (first | (go_at_call_of 132 a;refine (DA.out _).mono ?_;rintro e w' ⟨rfl,rfl⟩) | (go_at_call_of 132 b;refine (DB.out _).mono ?_;rintro e w' ⟨rfl,rfl⟩) | (go_at_call 133;refine (OT.out _).mono ?_;rintro e w' ⟨rfl,rfl⟩))
     go_ret
     exact ⟨ret_int HZ.out.symm,rfl⟩)
  | skip
 cases hl:((X.size:Int) == (Y.size:Int)) with
 | true =>
  have HZ:Hid (R=Lib.compareBytes X.data.toList Y.data.toList):=by
   show R=_
   have h:=HXY.out
   rw [HR.out,partC_nnR HK.out.1 HK.out.2,<-h.2.2.1,<-h.2.2.2,if_pos (eq_of_beq hl),h.1,h.2.1]
  go_enter Tryz.func104,Tryz.ntmps104
  go_wp2_with (first | (go_at_call_of 132 a;refine (DA.out _).mono ?_;rintro e w' ⟨rfl,rfl⟩) | (go_at_call_of 132 b;refine (DB.out _).mono ?_;rintro e w' ⟨rfl,rfl⟩) | (go_at_call_of 134 a;refine (BA.out _).mono ?_;rintro e w' ⟨rfl,rfl⟩) | (go_at_call_of 134 b;refine (BB.out _).mono ?_;rintro e w' ⟨rfl,rfl⟩) | (go_at_call 133;refine (OX.out _).mono ?_;rintro e w' ⟨rfl,rfl⟩) | (go_at_call 72;refine (OL.out _).mono ?_;rintro e w' ⟨rfl,rfl⟩))
  go_ret
  exact ⟨ret_int HZ.out.symm,rfl⟩
 | false =>
  have HZ:Hid (R=Lib.compareInt X.size Y.size):=by
   show R=_
   have h:=HXY.out
   rw [HR.out,partC_nnR HK.out.1 HK.out.2,<-h.2.2.1,<-h.2.2.2,if_neg (by simpa using hl)]
  go_enter Tryz.func104,Tryz.ntmps104
  go_wp2_with (first | (go_at_call_of 132 a;refine (DA.out _).mono ?_;rintro e w' ⟨rfl,rfl⟩) | (go_at_call_of 132 b;refine (DB.out _).mono ?_;rintro e w' ⟨rfl,rfl⟩) | (go_at_call_of 134 a;refine (BA.out _).mono ?_;rintro e w' ⟨rfl,rfl⟩) | (go_at_call_of 134 b;refine (BB.out _).mono ?_;rintro e w' ⟨rfl,rfl⟩) | (go_at_call 133;refine (OX.out _).mono ?_;rintro e w' ⟨rfl,rfl⟩) | (go_at_call 72;refine (OL.out _).mono ?_;rintro e w' ⟨rfl,rfl⟩))
  go_ret
  exact ⟨ret_int HZ.out.symm,rfl⟩
set_option maxHeartbeats 800000 in
theorem rorderPre_any (a b:ByteArray) (w:World) (ha:a.size<=1048576) (hb:b.size<=1048576) :
  Calls Tryz.prog 73 #[.string a,.string b] w fun e w'=>e=.returned (.int .i64 (listC partC (splitD a.data.toList) (splitD b.data.toList)))/\Below w.heap.size w w':=by
 have SA:=fun w=>split_slice a w ha
 have SB:=fun w=>split_slice b w hb
 have PA:∀p ∈ splitD a.data.toList,p.length < 2 ^ 62:=fun p hp=>by have:=part_len _ p hp;simp at this;omega
 have PB:∀p ∈ splitD b.data.toList,p.length < 2 ^ 62:=fun p hp=>by have:=part_len _ p hp;simp at this;omega
 have LA:(splitD a.data.toList).length < 2 ^ 62:=by have:=split_len a.data.toList;simp at this;omega
 generalize splitD a.data.toList=L at SA PA LA ⊢
 generalize splitD b.data.toList=M at SB PB ⊢
 obtain ⟨R,hR⟩:∃R,R=listC partC L M:=⟨_,rfl⟩
 rw [<-hR]
 have HR:Hid (R=listC partC L M):=hR
 have OP:Hid (∀i,(h1:i < L.length)->(h2:i < M.length)->∀w,Calls Tryz.prog 104 #[.string ⟨L[i].toArray⟩,.string ⟨M[i].toArray⟩] w fun e w'=>e=.returned (.int .i64 (partC L[i] M[i]))/\w'=w):=by
  intro i h1 h2 w
  have:=rorderPart_any ⟨L[i].toArray⟩ ⟨M[i].toArray⟩ w (by have:=PA L[i] (List.getElem_mem h1);show L[i].toArray.size < _;simpa using this) (by have:=PB M[i] (List.getElem_mem h2);show M[i].toArray.size < _;simpa using this)
  exact this
 have OR:Hid (∀w,Calls Tryz.prog 72 #[.int .i64 L.length,.int .i64 M.length] w fun e w'=>e=.returned (.int .i64 (Lib.compareInt L.length M.length))/\w'=w):=fun w=>rorder_any _ _ w
 have HLM:Hid (True):=trivial
 clear hR PA PB ha hb
 go_enter Tryz.func73,Tryz.ntmps73
 go_wp2_with (go_at_call 103;refine (SA _).mono ?_)
 rintro e w1 ⟨g,cap,rfl,hg1,hg2,hc,hb1⟩
 have HC:Hid (∀j,(hj:j < L.length)->w1.cell? ⟨g,j,none⟩=some (.string ⟨L[j].toArray⟩)):=hc
 clear hc SA
 go_wp2_with (go_at_call 103;refine (SB _).mono ?_)
 rintro e w2 ⟨g',cap',rfl,hg1',hg2',hc,hb2⟩
 have HC':Hid (∀j,(hj:j < M.length)->w2.cell? ⟨g',j,none⟩=some (.string ⟨M[j].toArray⟩)):=hc
 have HC2:Hid (∀j,(hj:j < L.length)->w2.cell? ⟨g,j,none⟩=some (.string ⟨L[j].toArray⟩)):=fun j hj=>(hb2.cell (p:=⟨g,j,none⟩) hg2).trans (HC.out j hj)
 have HB:Hid (Below w.heap.size w w2):=hb1.trans (hb2.mono hb1.size)
 clear hc HC hb1 hb2 hg1 hg2 hg1' hg2' SB
 go_wp2
 go_loopw [7] (fun vi wr=>∃k:Nat,k<=L.length/\k<=M.length/\vi=.int .i64 k/\R=listC partC (L.drop k) (M.drop k)/\wr.heap=w2.heap/\Below w.heap.size w wr) (fun vi _=>L.length - (intOf vi).toNat)
 case atStart=>exact ⟨0,Nat.zero_le _,Nat.zero_le _,rfl,HR.out,rfl,HB.out⟩
 case round =>
  obtain ⟨k,hk1,hk2,rfl,hr,hh,hbr⟩:=hrel
  have HH:Hid (wr.heap=w2.heap):=hh
  have HBR:Hid (Below w.heap.size w wr):=hbr
  clear hh hbr
  have HRK:Hid (R=listC partC (L.drop k) (M.drop k)):=hr
  clear hr
  by_cases h1:k < L.length
  ·by_cases h2:k < M.length
   ·have c1:=HC2.out k h1
    have c2:=HC'.out k h2
    obtain ⟨X,hX⟩:∃X:ByteArray,X=⟨L[k].toArray⟩:=⟨_,rfl⟩
    obtain ⟨Y,hY⟩:∃Y:ByteArray,Y=⟨M[k].toArray⟩:=⟨_,rfl⟩
    obtain ⟨O,hO⟩:∃O,O=partC L[k] M[k]:=⟨_,rfl⟩
    have C0:Hid (∀w,Calls Tryz.prog 104 #[.string X,.string Y] w fun e w'=>e=.returned (.int .i64 O)/\w'=w):=fun w=>by rw [hX,hY,hO];exact OP.out k h1 h2 w
    have HS:Hid (R=if O=0 then listC partC (L.drop (k+1)) (M.drop (k+1)) else O):=by
     show R=_
     rw [HRK.out,List.drop_eq_getElem_cons h1,List.drop_eq_getElem_cons h2,hO];rfl
    have c1:wr.cell? ⟨g,k,none⟩=some (.string X):=by rw [hX];exact (World.cell?_of_block (w':=wr) (a:=⟨g,k,none⟩) (by rw [HH.out])).trans (HC2.out k h1)
    have c2:wr.cell? ⟨g',k,none⟩=some (.string Y):=by rw [hY];exact (World.cell?_of_block (w':=wr) (a:=⟨g',k,none⟩) (by rw [HH.out])).trans (HC'.out k h2)
    have i1:(k:Int) < (L.length:Int):=by omega
    have i2:(k:Int) < (M.length:Int):=by omega
    clear hX hY hO
    go_wp2
    go_quiet (first | (go_at_call 104;exact Calls.quiet_of_same (C0.out _)))
    cases hz:(O == 0) with
    | true =>
     have HZ:Hid (R=listC partC (L.drop (k+1)) (M.drop (k+1))):=by show R=_;rw [HS.out,if_pos (by simpa using hz)]
     go_wp2
     go_roundw
     case rel=>exact ⟨k+1,by omega,by omega,by go_num,HZ.out,HH.out,below_drewN HBR.out _⟩
     case measure=>simp [intOf];omega
    | false =>
     have HZ:Hid (R=O):=by show R=O;rw [HS.out,if_neg (by simpa using hz)]
     go_wp2
     go_ret
     exact ⟨ret_int HZ.out.symm,below_drewN HBR.out _⟩
   ·have HZ:Hid (R=Lib.compareInt L.length M.length):=by
     show R=_
     rw [HR.out]
     exact listC_end L M k (by omega) hk1 hk2 (by rw [<-HR.out];exact HRK.out)
    clear hk1 hk2
    go_wp2_with (first | (go_at_call 72;refine (OR.out _).mono ?_;rintro e w' ⟨rfl,rfl⟩))
    go_ret
    exact ⟨ret_int HZ.out.symm,HBR.out⟩
  ·have HZ:Hid (R=Lib.compareInt L.length M.length):=by
    show R=_
    rw [HR.out]
    exact listC_end L M k (by omega) hk1 hk2 (by rw [<-HR.out];exact HRK.out)
   clear hk1 hk2
   go_wp2_with (first | (go_at_call 72;refine (OR.out _).mono ?_;rintro e w' ⟨rfl,rfl⟩))
   go_ret
   exact ⟨ret_int HZ.out.symm,HBR.out⟩
open Go.RowKit
set_option linter.unusedVariables false
set_option maxHeartbeats 1600000 in
theorem rcompare_any (a1 a2 a3 b1 b2 b3:Int) (a4 a5 b4 b5:ByteArray) (w:World) (hs:a4.size<=1048576) (hs':b4.size<=1048576) :
  Calls Tryz.prog 49 #[.agg #[.int .i64 a1,.int .i64 a2,.int .i64 a3,.string a4,.string a5],.agg #[.int .i64 b1,.int .i64 b2,.int .i64 b3,.string b4,.string b5]] w fun e w'=>e=.returned (.int .i64 (verC ⟨a1,a2,a3,a4.data.toList⟩ ⟨b1,b2,b3,b4.data.toList⟩))/\Below w.heap.size w w':=by
 obtain ⟨R,hR⟩:∃R,R=verC ⟨a1,a2,a3,a4.data.toList⟩ ⟨b1,b2,b3,b4.data.toList⟩:=⟨_,rfl⟩
 have HR:Hid (R=verC ⟨a1,a2,a3,a4.data.toList⟩ ⟨b1,b2,b3,b4.data.toList⟩):=hR
 obtain ⟨p,hp⟩:∃p,p=listC partC (splitD a4.data.toList) (splitD b4.data.toList):=⟨_,rfl⟩
 have HP:Hid (p=listC partC (splitD a4.data.toList) (splitD b4.data.toList)):=hp
 have OP:Hid (∀w,Calls Tryz.prog 73 #[.string a4,.string b4] w fun e w'=>e=.returned (.int .i64 p)/\Below w.heap.size w w'):=fun w=>by rw [hp];exact rorderPre_any a4 b4 w hs hs'
 have B2:Hid (∀o1 o2,Below w.heap.size w ((w.alloc o1).alloc o2)):=fun o1 o2=>gb_below (gb_alloc (gb_alloc (gb_refl w none) _) _)
 rw [<-hR]
 clear hR hp hs hs'
 cases h1:(a1 == b1) with
 | false =>
  have HZ:Hid (R=Lib.compareInt a1 b1):=by
   show R=_
   rw [HR.out,verC_eq]
   simp only
   rw [if_neg (fun e=>(by simpa using h1:¬ a1=b1) (cmp_zero.1 e))]
  go_enter Tryz.func49,Tryz.ntmps49
  go_wp2_with (first | (go_at_call 72;refine (rorder_any _ _ _).mono ?_;rintro e w' ⟨rfl,rfl⟩) | (go_at_call 73;refine (OP.out _).mono ?_;rintro e w3 ⟨rfl,hb3⟩))
  go_ret
  exact ⟨ret_int HZ.out.symm,B2.out _ _⟩
 | true =>
  cases h2:(a2 == b2) with
  | false =>
   have HZ:Hid (R=Lib.compareInt a2 b2):=by
    show R=_
    rw [HR.out,verC_eq]
    simp only
    rw [if_pos (cmp_zero.2 (eq_of_beq h1)),if_neg (fun e=>(by simpa using h2:¬ a2=b2) (cmp_zero.1 e))]
   go_enter Tryz.func49,Tryz.ntmps49
   go_wp2_with (first | (go_at_call 72;refine (rorder_any _ _ _).mono ?_;rintro e w' ⟨rfl,rfl⟩) | (go_at_call 73;refine (OP.out _).mono ?_;rintro e w3 ⟨rfl,hb3⟩))
   go_ret
   exact ⟨ret_int HZ.out.symm,B2.out _ _⟩
  | true =>
   cases h3:(a3 == b3) with
   | false =>
    have HZ:Hid (R=Lib.compareInt a3 b3):=by
     show R=_
     rw [HR.out,verC_eq]
     simp only
     rw [if_pos (cmp_zero.2 (eq_of_beq h1)),if_pos (cmp_zero.2 (eq_of_beq h2)),if_neg (fun e=>(by simpa using h3:¬ a3=b3) (cmp_zero.1 e))]
    go_enter Tryz.func49,Tryz.ntmps49
    go_wp2_with (first | (go_at_call 72;refine (rorder_any _ _ _).mono ?_;rintro e w' ⟨rfl,rfl⟩) | (go_at_call 73;refine (OP.out _).mono ?_;rintro e w3 ⟨rfl,hb3⟩))
    go_ret
    exact ⟨ret_int HZ.out.symm,B2.out _ _⟩
   | true =>
    have HQ:Hid (R=preC a4.data.toList b4.data.toList):=by
     show R=_
     rw [HR.out,verC_eq]
     simp only
     rw [if_pos (cmp_zero.2 (eq_of_beq h1)),if_pos (cmp_zero.2 (eq_of_beq h2)),if_pos (cmp_zero.2 (eq_of_beq h3))]
    cases he:(a4.toList == b4.toList) with
    | true =>
     have HZ:Hid (R=0):=by
      show R=0
      have e:a4.data.toList=b4.data.toList:=by rw [<-Lib.toList_data,<-Lib.toList_data];exact eq_of_beq he
      rw [HQ.out,e];exact good_pre.self _
     go_enter Tryz.func49,Tryz.ntmps49
     go_wp2_with (first | (go_at_call 72;refine (rorder_any _ _ _).mono ?_;rintro e w' ⟨rfl,rfl⟩) | (go_at_call 73;refine (OP.out _).mono ?_;rintro e w3 ⟨rfl,hb3⟩))
     go_ret
     exact ⟨ret_int HZ.out.symm,B2.out _ _⟩
    | false =>
     by_cases ha:a4.size=0
     ·have c1:=emp_t ha
      have HZ:Hid (R=1):=by
       show R=1
       have e:a4.data.toList=[]:=List.length_eq_zero_iff.1 (by simpa using ha)
       have hb:b4.data.toList ≠ []:=by
        intro hb
        rw [Lib.toList_data,Lib.toList_data,e,hb] at he
        exact absurd he (by decide)
       rw [HQ.out,pre_empty _ _ (Or.inl e),e]
       exact cmp_gt (by have:=List.length_pos_iff.2 hb;simp only [List.length_nil];omega)
      clear ha
      go_enter Tryz.func49,Tryz.ntmps49
      go_wp2_with (first | (go_at_call 72;refine (rorder_any _ _ _).mono ?_;rintro e w' ⟨rfl,rfl⟩) | (go_at_call 73;refine (OP.out _).mono ?_;rintro e w3 ⟨rfl,hb3⟩))
      go_ret
      exact ⟨ret_int HZ.out.symm,B2.out _ _⟩
     ·have c1:=emp_f ha
      by_cases hb:b4.size=0
      ·have c2:=emp_t hb
       have HZ:Hid (R=-1):=by
        show R=-1
        have e:b4.data.toList=[]:=List.length_eq_zero_iff.1 (by simpa using hb)
        have ha':a4.data.toList ≠ []:=fun h=>ha (by show a4.data.size=0;rw [<-Array.length_toList,h];rfl)
        rw [HQ.out,pre_empty _ _ (Or.inr e),e]
        exact cmp_lt (by have:=List.length_pos_iff.2 ha';simp only [List.length_nil];omega)
       clear ha hb
       go_enter Tryz.func49,Tryz.ntmps49
       go_wp2_with (first | (go_at_call 72;refine (rorder_any _ _ _).mono ?_;rintro e w' ⟨rfl,rfl⟩) | (go_at_call 73;refine (OP.out _).mono ?_;rintro e w3 ⟨rfl,hb3⟩))
       go_ret
       exact ⟨ret_int HZ.out.symm,B2.out _ _⟩
      ·have c2:=emp_f hb
       have HZ:Hid (R=p):=by
        show R=p
        rw [HQ.out,HP.out]
        exact pre_full _ _ (fun h=>ha (by show a4.data.size=0;rw [<-Array.length_toList,h];rfl)) (fun h=>hb (by show b4.data.size=0;rw [<-Array.length_toList,h];rfl))
       clear ha hb
       go_enter Tryz.func49,Tryz.ntmps49
       go_wp2_with (first | (go_at_call 72;refine (rorder_any _ _ _).mono ?_;rintro e w' ⟨rfl,rfl⟩) | (go_at_call 73;refine (OP.out _).mono ?_;rintro e w3 ⟨rfl,hb3⟩))
       go_ret
       exact ⟨ret_int HZ.out.symm,(B2.out _ _).trans (hb3.mono (B2.out _ _).size)⟩
open Go.RowKit
set_option linter.unusedVariables false
def okV (s:ByteArray):Bool:=decide ((parseV s.data.toList).1=0)
def verO (s:ByteArray):Vv:=(parseV s.data.toList).2.2
def cutV (v:Vv):V:=⟨v.major,v.minor,v.patch,v.pre⟩
theorem sub_shortV (l:List UInt8) (i k:Nat):(subT l i k).length<=l.length:=by unfold subT;simp;omega
theorem opt_lenV (c:UInt8) (st:Bool) (l:List UInt8) (i:Nat):(optP c st l i).2.2.length<=l.length:=by
 unfold optP
 repeat' split
 all_goals first | exact sub_shortV _ _ _ | exact Nat.zero_le _
theorem pre_100 (s:ByteArray):(verO s).pre.length<=100:=by
 unfold verO parseV
 split
 ·exact Nat.zero_le _
 ·rename_i h
  unfold rdVer
  repeat' split
  all_goals first | exact Nat.zero_le _ | (have:=opt_lenV 45 true s.data.toList (rdNums s.data.toList).2.1;simp only [];omega)
theorem isVersion_any (s:ByteArray) (w:World) (hs:s.size < 2 ^ 62):Calls Tryz.prog 42 #[.string s] w fun e w'=>e=.returned (.bool (okV s))/\w.grownBy w' none:=by
 have CR:Hid (∀w,Calls Tryz.prog 64 #[.string s] w fun e w'=>(∃(x1 x2 x3:Int) (x4 x5:ByteArray) (k:Int),e=.returned (.tuple #[.agg #[.int .i64 x1,.int .i64 x2,.int .i64 x3,.string x4,.string x5],.int .i64 (parseV s.data.toList).1,.int .i64 k]))/\w.grownBy w' none):=fun w=>(readv_any s w hs).mono fun e w' ⟨h1,h2⟩=>⟨⟨_,_,_,_,_,_,h1⟩,h2⟩
 unfold okV
 obtain ⟨E,hE⟩:∃E,(parseV s.data.toList).1=E:=⟨_,rfl⟩
 rw [hE] at CR ⊢
 clear hE
 have hd:decide (E=0)=(E == 0):=by rw [Bool.eq_iff_iff];simp
 rw [hd]
 clear hd
 go_enter Tryz.func42,Tryz.ntmps42
 go_wp2_with (first | (go_at_call 64;refine (CR.out _).mono ?_))
 rintro e w1 ⟨⟨x1,x2,x3,x4,x5,k,rfl⟩,hg⟩
 cases hz:(E == 0) with
 | true =>
  go_wp2
  go_ret
  exact ⟨ret_bool hz.symm,gb_trans hg (gb_alloc (gb_refl w1 none) _)⟩
 | false =>
  go_wp2
  go_ret
  exact ⟨ret_bool hz.symm,gb_trans hg (gb_alloc (gb_refl w1 none) _)⟩
set_option maxRecDepth 100000 in
set_option maxHeartbeats 800000 in
theorem refVersion_any (s:ByteArray) (w:World) (hs:s.size < 2 ^ 62):Calls Tryz.prog 50 #[.string s] w fun e w'=>e=.returned (valV (verO s))/\w.grownBy w' none:=by
 have CR:Hid (∀w,Calls Tryz.prog 64 #[.string s] w fun e w'=>(∃(E k:Int),e=.returned (.tuple #[valV (verO s),.int .i64 E,.int .i64 k]))/\w.grownBy w' none):=fun w=>(readv_any s w hs).mono fun e w' ⟨h1,h2⟩=>⟨⟨_,_,h1⟩,h2⟩
 unfold valV at CR ⊢
 obtain ⟨x1,h1⟩:∃x,(verO s).major=x:=⟨_,rfl⟩
 obtain ⟨x2,h2⟩:∃x,(verO s).minor=x:=⟨_,rfl⟩
 obtain ⟨x3,h3⟩:∃x,(verO s).patch=x:=⟨_,rfl⟩
 obtain ⟨x4,h4⟩:∃x:ByteArray,⟨(verO s).pre.toArray⟩=x:=⟨_,rfl⟩
 obtain ⟨x5,h5⟩:∃x:ByteArray,⟨(verO s).build.toArray⟩=x:=⟨_,rfl⟩
 rw [h1,h2,h3,h4,h5] at CR ⊢
 clear h1 h2 h3 h4 h5 hs
 go_enter Tryz.func50,Tryz.ntmps50
 go_wp2_with (first | (go_at_call 64;refine (CR.out _).mono ?_))
 rintro e w1 ⟨⟨E,k,rfl⟩,hg⟩
 obtain ⟨A,hA⟩:∃A,w.heap.size=A:=⟨_,rfl⟩
 have hx:VR A 0 0 0 ⟨#[]⟩ ⟨#[]⟩ w1:=by
  show w1.heap[A]?=_
  rw [<-hA,hg.block w.heap.size (by simp) (by simp)]
  exact heap_alloc_new w _
 have HXA:Hid (VR A 0 0 0 ⟨#[]⟩ ⟨#[]⟩ w1):=hx
 have HG:Hid (w.grownBy w1 none):=gb_trans (gb_alloc (gb_refl w none) _) hg
 have HWA:Hid (w.heap.size<=A):=Nat.le_of_eq hA
 have hlt0:A < w1.heap.size:=(Array.getElem?_eq_some_iff.1 hx).1
 try rw [hA]
 clear hA hx hg
 obtain ⟨ca0,ca1,ca2,ca3,ca4⟩:=HXA.out.cells
 have ra:=HXA.out.f
 go_wp2
 refine bodyPost_ret (results_cell_row rfl _ _ A 88 #[.int .i64 x1,.int .i64 x2,.int .i64 x3,.string x4,.string x5] (0,0) _ rfl (by rw [Lib.alloc_old _ _ _ (by simpa [World.setCell] using hlt0)];exact putr_row HXA.out x1 x2 x3 x4 x5) Tryz.underlying88 rfl (by kernel_rfl)) rfl ⟨rfl,gb_alloc (put5_gb0 HG.out HWA.out x1 x2 x3 x4 x5) _⟩
end Go.Proofs.YtpeghomkaphdcaaGreatDoor
namespace Go.Proofs.YtpeghomkaphdcaaGreatDoor
open Go.RowKit Go.Maps
set_option linter.unusedVariables false
def digB (s:ByteArray):Bool:=isDig s.data.toList
noncomputable def goodE (x:En):Bool:=nameB x.nm && okV x.ve && digB x.dg && x.nd.all nameB
def hasNm (L:List En) (n:ByteArray):Bool:=L.any fun e=>decide (e.nm=n)
theorem nm_next (L:List En) (n:ByteArray) (i:Nat) (hi:i < L.length):hasNm (L.take (i+1)) n=(hasNm (L.take i) n || decide (L[i].nm=n)):=by
 unfold hasNm
 rw [List.take_succ_eq_append_getElem hi,List.any_append]
 simp
theorem nm_at (L:List En) (n:ByteArray) (i j:Nat) (hj:j < L.length) (hji:j < i) (h:L[j].nm=n):hasNm (L.take i) n=true:=by
 unfold hasNm
 rw [List.any_eq_true]
 refine ⟨L[j],List.mem_take_iff_getElem.2 ⟨j,by omega,rfl⟩,by simpa using h⟩
theorem nm_up (L:List En) (n:ByteArray) (i j:Nat) (hij:i<=j) (h:hasNm (L.take i) n=true):hasNm (L.take j) n=true:=by
 unfold hasNm at *
 rw [List.any_eq_true] at *
 obtain ⟨x,hx,h2⟩:=h
 refine ⟨x,?_,h2⟩
 obtain ⟨k,hk,rfl⟩:=List.mem_take_iff_getElem.1 hx
 exact List.mem_take_iff_getElem.2 ⟨k,by omega,rfl⟩
def twS (L:List ByteArray):Nat->Bool
 | 0=>false
 | i+1=>twS L i || (match L[i]? with | some x=>(L.take i).any (fun y=>decide (y=x)) | none=>false)
theorem tws_step (L:List ByteArray) (i:Nat) (hi:i < L.length):twS L (i+1)=(twS L i || (L.take i).any (fun y=>decide (y=L[i]))):=by
 simp [twS,List.getElem?_eq_getElem hi]
theorem tws_up (L:List ByteArray) (i k:Nat) (h:twS L i=true):twS L (i+k)=true:=by
 induction k with
 | zero=>exact h
 | succ k ih=>rw [<-Nat.add_assoc,twS,ih];rfl
theorem tws_hit (L:List ByteArray) (i:Nat) (hi:i < L.length) (h:(L.take i).any (fun y=>decide (y=L[i]))=true):twS L L.length=true:=by
 have h1:twS L (i+1)=true:=by rw [tws_step L i hi,h,Bool.or_true]
 have:=tws_up L (i+1) (L.length - (i+1)) h1
 rwa [show i+1+(L.length - (i+1))=L.length by omega] at this
theorem tws_miss (L:List ByteArray) (i:Nat) (hi:i < L.length) (h:(L.take i).any (fun y=>decide (y=L[i]))=false) (h0:twS L i=false):twS L (i+1)=false:=by
 rw [tws_step L i hi,h,h0];rfl
noncomputable def faultE (L:List En) (i:Nat) (x:En):Int :=
 if 50<=i\/20 < x.nd.length then 4
 else if goodE x=false then 2
 else if hasNm (L.take i) x.nm=true\/twS x.nd x.nd.length=true then 5
 else if x.nd.all (hasNm L)=true then 0 else 6
noncomputable def errE (L:List En) (i:Nat):Int:=match L[i]? with | some x=>faultE L i x | none=>0
theorem errE_at (L:List En) (i:Nat) (hi:i < L.length):errE L i=faultE L i L[i]:=by simp [errE,List.getElem?_eq_getElem hi]
noncomputable def lockFrom (L:List En):Nat->Int × Nat
 | 0=>(0,0)
 | n+1=>if errE L (L.length - (n+1))=0 then lockFrom L n else (errE L (L.length - (n+1)),L.length - (n+1))
theorem lock_hit (L:List En) (i:Nat) (hi:i < L.length) (h:¬ errE L i=0):lockFrom L (L.length - i)=(errE L i,i):=by
 obtain ⟨n,hn⟩:∃n,L.length - i=n+1:=⟨L.length - i - 1,by omega⟩
 rw [hn,lockFrom,show L.length - (n+1)=i by omega,if_neg h]
theorem lock_miss (L:List En) (i:Nat) (hi:i < L.length) (h:errE L i=0):lockFrom L (L.length - i)=lockFrom L (L.length - (i+1)):=by
 obtain ⟨n,hn⟩:∃n,L.length - i=n+1:=⟨L.length - i - 1,by omega⟩
 rw [hn,lockFrom,show L.length - (n+1)=i by omega,if_pos h,show L.length - (i+1)=n by omega]
theorem lock_ok (L:List En) (h:(lockFrom L L.length).1=0):∀i,i < L.length->errE L i=0:=by
 have key:∀n,n<=L.length->(lockFrom L n).1=0->∀i,L.length - n<=i->i < L.length->errE L i=0:=by
  intro n
  induction n with
  | zero=>intro _ _ i h1 h2;omega
  | succ n ih =>
   intro hn h0 i h1 h2
   by_cases he:errE L (L.length - (n+1))=0
   ·rw [lockFrom,if_pos he] at h0
    by_cases hi:i=L.length - (n+1)
    ·rw [hi];exact he
    ·exact ih (by omega) h0 i (by omega) h2
   ·rw [lockFrom,if_neg he] at h0
    exact absurd h0 he
 intro i hi
 exact key L.length (Nat.le_refl _) h i (by omega) hi
def keyT (n:ByteArray):Lit:=.string n.data.toList
theorem keyT_inj {a b:ByteArray} (h:keyT a=keyT b):a=b:=by
 unfold keyT at h
 injection h with h
 exact ByteArray.ext (Array.ext' h)
def frD (L:List En):Nat->DataW Unit
 | 0=>.map []
 | i+1=>match L[i]? with
  | some x=>if Maps.has (frD L i) (keyT x.nm)=true then frD L i else (frD L i).put (keyT x.nm) (.lit (.int .i64 (i:Int)))
  | none=>frD L i
theorem fr_step (L:List En) (i:Nat) (hi:i < L.length):frD L (i+1)=if Maps.has (frD L i) (keyT L[i].nm)=true then frD L i else (frD L i).put (keyT L[i].nm) (.lit (.int .i64 (i:Int))):=by
 simp [frD,List.getElem?_eq_getElem hi]
theorem fr_map (L:List En):∀i,i<=L.length->IsMap (frD L i)
 | 0,_=>isMap_empty
 | i+1,h=>by
  rw [fr_step L i (by omega)]
  split
  ·exact fr_map L i (by omega)
  ·exact (fr_map L i (by omega)).put _ _
theorem fr_has (L:List En) (n:ByteArray):∀i,i<=L.length->Maps.has (frD L i) (keyT n)=hasNm (L.take i) n
 | 0,_=>by simp [frD,hasNm,Maps.has]
 | i+1,h=>by
  have ih:=fr_has L n i (by omega)
  have hm:=fr_map L i (by omega)
  rw [fr_step L i (by omega),nm_next L n i (by omega)]
  by_cases he:L[i].nm=n
  ·rw [he]
   split
   ·rename_i h1
    rw [h1];simp
   ·rw [has_put_same hm (by trivial)];simp
  ·have hne:keyT n ≠ keyT L[i].nm:=fun e=>he (keyT_inj e).symm
   rw [decide_eq_false he,Bool.or_false]
   split
   ·exact ih
   ·rw [has_put_other hne];exact ih
theorem fr_at (L:List En) (n:ByteArray):∀i,i<=L.length->hasNm (L.take i) n=true->∃j,∃hj:j < L.length,j < i/\L[j].nm=n/\hasNm (L.take j) n=false/\∀z,(frD L i).atKey (keyT n) z=.lit (.int .i64 (j:Int))
 | 0,_,h=>by simp [hasNm] at h
 | i+1,hi,h=>by
  have hm:=fr_map L i (by omega)
  have hh:=fr_has L L[i].nm i (by omega)
  by_cases h0:hasNm (L.take i) n=true
  ·obtain ⟨j,hj,h1,h2,h3,h4⟩:=fr_at L n i (by omega) h0
   refine ⟨j,hj,by omega,h2,h3,fun z=>?_⟩
   rw [fr_step L i (by omega)]
   split
   ·exact h4 z
   ·rename_i hf
    have hne:keyT n ≠ keyT L[i].nm:=fun e=>by
     rw [<-keyT_inj e] at hf hh
     rw [hh] at hf
     exact hf h0
    rw [atKey_put_other hne]
    exact h4 z
  ·rw [nm_next L n i (by omega)] at h
   have h0':hasNm (L.take i) n=false:=by simpa using h0
   rw [h0',Bool.false_or] at h
   have he:L[i].nm=n:=by simpa using h
   refine ⟨i,by omega,by omega,he,h0',fun z=>?_⟩
   rw [fr_step L i (by omega),he,if_neg (by rw [fr_has L n i (by omega),h0'];simp)]
   exact atKey_put_same hm (by trivial) _ _
theorem fr_first (L:List En) (i:Nat) (hi:i < L.length):∃j:Nat,j < L.length/\(∀z,(frD L L.length).atKey (keyT L[i].nm) z=.lit (.int .i64 (j:Int)))/\(j < i ↔ hasNm (L.take i) L[i].nm=true):=by
 obtain ⟨j,hj,h1,h2,h3,h4⟩:=fr_at L L[i].nm L.length (Nat.le_refl _) (nm_at L _ L.length i hi hi rfl)
 refine ⟨j,hj,h4,fun h=>nm_at L _ i j hj h h2,fun h=>?_⟩
 apply Classical.byContradiction
 intro hn
 rw [nm_up L _ i j (by omega) h] at h3
 cases h3
theorem keyS:Keyed Tryz.prog 9:=string_keyed Tryz.underlying9
theorem zeroI (w:World):(zeroValue 3).run Tryz.prog w=.ok (.int .i64 0) w:=by kernel_rfl
theorem makeI (n:Int) (w:World):(Instr.makeMap 44 (some (.int .i64 n))).run Tryz.prog w=.ok (.map (some w.heap.size)) (w.alloc (.map #[] 0)):=by kernel_rfl
theorem gb_farb {w u u':World} {b:Nat} (h:w.grownBy u none) (hg:u.grownBy u' (some b)) (hb:w.heap.size<=b):w.grownBy u' none :=
 ⟨hg.os.trans h.os,hg.tape.trans h.tape,hg.output.trans h.output,Nat.le_trans h.size hg.size,fun k hk hn=>(hg.block k (Nat.lt_of_lt_of_le hk h.size) (by simp;omega)).trans (h.block k hk hn)⟩
set_option maxRecDepth 100000 in
set_option maxHeartbeats 1600000 in
theorem firstsOf_at (a:Addr) (cap:Nat) (L:List En) (w:World) (hL:L.length<=1048576) (hcap:L.length<=cap) (hz:∀x ∈ L,x.nm.size<=maxLen) (h:∀i (hi:i < L.length),EnAt w (a.add (i * 4)) L[i]) :
  Calls Tryz.prog 17 #[.slice (some a) L.length cap] w fun e w'=>∃B,e=.returned (.map (some B))/\w'.ownsMap Tryz.prog 9 (plainElem (H:=Unit) Tryz.prog 3) B L.length (frD L L.length)/\w.grownBy w' none:=by
 have HA:Hid (∀i (hi:i < L.length),EnAt w (a.add (i * 4)) L[i]):=h
 have HZ:Hid (∀x ∈ L,x.nm.size<=maxLen):=hz
 clear h hz
 obtain ⟨B,hB⟩:∃B,w.heap.size=B:=⟨_,rfl⟩
 have HB:Hid (w.heap.size=B):=hB
 have hmm:=makeI (L.length:Int) w
 go_enter Tryz.func17,Tryz.ntmps17
 go_wp2
 try rw [hB]
 clear hB hmm
 go_loopw [13] (fun vi wr=>∃i:Nat,vi=.int .i64 i/\i<=L.length/\wr.ownsMap Tryz.prog 9 (plainElem (H:=Unit) Tryz.prog 3) B i (frD L i)/\w.grownBy wr none) (fun vi _=>L.length - (intOf vi).toNat)
 case atStart=>exact ⟨0,rfl,Nat.zero_le _,HB.out ▸ World.ownsMap_made _ _ _ _,gb_alloc (gb_refl w none) _⟩
 case round =>
  obtain ⟨i,rfl,hi,hown,hg⟩:=hrel
  have HG:Hid (w.grownBy wr none):=hg
  by_cases hlt:i < L.length
  ·obtain ⟨x,hx⟩:∃x,L[i]=x:=⟨_,rfl⟩
   obtain ⟨e0,e1,e2,sv,e3,hsv⟩:EnAt wr (a.add (i * 4)) x:=by rw [<-hx];exact (HA.out i hlt).grow hg
   obtain ⟨so,sc,rfl⟩:=txs_slice hsv
   have hkey:keyOf Tryz.prog 9 (.string x.nm)=some (keyT x.nm):=Go.WideMaps.keyOf_string_mk Tryz.underlying9 (HZ.out x (by rw [<-hx];exact List.getElem_mem _))
   have HN:Hid (frD L (i+1)=if Maps.has (frD L i) (keyT x.nm)=true then frD L i else (frD L i).put (keyT x.nm) (.lit (.int .i64 (i:Int)))):=by
    show _=_
    rw [fr_step L i hlt,hx]
   obtain ⟨q,hq⟩:∃q,Maps.has (frD L i) (keyT x.nm)=q:=⟨_,rfl⟩
   rw [hq] at HN
   have hown2:=hown.alloc (.cells #[.string x.nm,.string x.ve,.string x.dg,.slice so x.nd.length sc] 43)
   have hwi:(Lit.int .i64 (i:Int)).wf=true:=WalkArith.wf_i64 (by omega)
   clear hg hx hsv
   cases q with
   | true =>
    have HN1:Hid (frD L (i+1)=frD L i):=by
     show _=_
     rw [HN.out,if_pos rfl]
    go_wp2_with (first | (at_lookup;refine wpList_lookup_own_ok_int _ rfl _ _ 44 rfl 9 3 .i64 keyS Tryz.underlying44 Tryz.underlying3 (zeroI _) B i _ rfl hown2 _ _ rfl hkey ?_;intro c hat hwc;rw [hq]) | go_in)
    exact ⟨⟨i+1,by go_num,by omega,by rw [HN1.out];exact hown2.mono (Nat.le_succ _),gb_alloc HG.out _⟩,by simp [intOf];omega⟩
   | false =>
    have HN1:Hid (frD L (i+1)=(frD L i).put (keyT x.nm) (.lit (.int .i64 (i:Int)))):=by
     show _=_
     rw [HN.out,if_neg (by simp)]
    go_wp2_with (first | (at_lookup;refine wpList_lookup_own_ok_int _ rfl _ _ 44 rfl 9 3 .i64 keyS Tryz.underlying44 Tryz.underlying3 (zeroI _) B i _ rfl hown2 _ _ rfl hkey ?_;intro c hat hwc;rw [hq]) | (at_mapUpdate;refine wpList_mapUpdate_own _ rfl _ _ _ 44 rfl 9 3 keyS Tryz.underlying44 (plainElem (H:=Unit) Tryz.prog 3) B i _ rfl hown2 (by unfold maxLen;omega) _ _ _ rfl rfl hkey _ [] (plainElem_int Tryz.underlying3 hwi) ?_;intro w1 hown1 hgrow1) | go_in)
    exact ⟨⟨i+1,by go_num,by omega,by rw [HN1.out];exact hown1,gb_farb (gb_alloc HG.out _) hgrow1 (Nat.le_of_eq HB.out)⟩,by simp [intOf];omega⟩
  ·have hil:i=L.length:=by omega
   have HM:Hid (wr.ownsMap Tryz.prog 9 (plainElem (H:=Unit) Tryz.prog 3) B L.length (frD L L.length)):=by rw [hil] at hown;exact hown
   clear hg hil hi hown
   go_wp2
   refine bodyPost_ret (results_tmp (t:=2) rfl _ _ _) rfl ⟨B,rfl,HM.out,HG.out⟩
theorem firstsOf_nil (w:World):Calls Tryz.prog 17 #[.slice none 0 0] w fun e w'=>∃B,e=.returned (.map (some B))/\w.grownBy w' none:=by
 have hmm:=makeI 0 w
 go_enter Tryz.func17,Tryz.ntmps17
 go_wp2
 obtain ⟨B,hB⟩:∃B,w.heap.size=B:=⟨_,rfl⟩
 try rw [hB]
 go_loopw [13] (fun vi wr=>vi=.int .i64 0/\w.grownBy wr none) (fun vi _=>0)
 case atStart=>exact ⟨rfl,gb_alloc (gb_refl w none) _⟩
 case round =>
  obtain ⟨rfl,hb⟩:=hrel
  have HB:Hid (w.grownBy wr none):=hb
  clear hb hmm
  go_wp2
  refine bodyPost_ret (results_tmp (t:=2) rfl _ _ _) rfl ⟨B,rfl,HB.out⟩
end Go.Proofs.YtpeghomkaphdcaaGreatDoor
namespace Go.Proofs.YtpeghomkaphdcaaGreatDoor
open Go.RowKit Go.Maps
set_option linter.unusedVariables false
def codeP:Option Addr->DataW Unit
 | none=>.nil
 | some a=>.agg [.lit (.int .i64 (a.block:Int)),.lit (.int .i64 (a.off:Int))]
def okP:Option Addr->Bool
 | none=>true
 | some a=>a.spot.isNone
def pairL:List Value->Option (DataW Unit × List MemPlace)
 | [.pointer p,.pointer q]=>if (okP p && okP q)=true then some (.agg [codeP p,codeP q],[]) else none
 | _=>none
def pairR (v:Value):Option (DataW Unit × List MemPlace) :=
 match v with
 | .agg cs=>pairL cs.toList
 | _=>none
theorem codeP_inj {p q:Option Addr} (hp:okP p=true) (hq:okP q=true) (h:codeP p=codeP q):p=q:=by
 match p,q with
 | none,none=>rfl
 | none,some b=>cases h
 | some a,none=>cases h
 | some a,some b =>
  unfold codeP at h
  injection h with h
  injection h with h1 h2
  injection h2 with h2 _
  injection h1 with h1
  injection h2 with h2
  injection h1 with _ h1
  injection h2 with _ h2
  obtain ⟨ab,ao,as0⟩:=a
  obtain ⟨bb,bo,bs0⟩:=b
  simp only [okP,Option.isNone_iff_eq_none] at hp hq
  simp only [] at h1 h2
  rw [hp,hq]
  congr 2
  ·exact Int.ofNat_inj.1 h1
  ·exact Int.ofNat_inj.1 h2
theorem pairR_mk {p q:Option Addr} (hp:okP p=true) (hq:okP q=true):pairR (.agg #[.pointer p,.pointer q])=some (.agg [codeP p,codeP q],[]):=by
 show pairL [.pointer p,.pointer q]=_
 simp [pairL,hp,hq]
theorem pairL_inv {l:List Value} {p q:Option Addr} {ps:List MemPlace} (hp:okP p=true) (hq:okP q=true) (h:pairL l=some (.agg [codeP p,codeP q],ps)):l=[.pointer p,.pointer q]:=by
 unfold pairL at h
 split at h
 ·split at h
  ·rename_i hh
   rw [Bool.and_eq_true] at hh
   injection h with h
   injection h with h _
   injection h with h
   injection h with h1 h2
   injection h2 with h2 _
   rw [codeP_inj hh.1 hp h1,codeP_inj hh.2 hq h2]
  ·cases h
 ·cases h
theorem pairR_inv {v:Value} {p q:Option Addr} {ps:List MemPlace} (hp:okP p=true) (hq:okP q=true) (h:pairR v=some (.agg [codeP p,codeP q],ps)):v=.agg #[.pointer p,.pointer q]:=by
 unfold pairR at h
 split at h
 ·rename_i cs
  have:=pairL_inv hp hq h
  congr 1
  exact Array.ext' this
 ·cases h
theorem wpList_lookup_pair {P:Program} (w:World) {ops:Array Oper} {rest:List Oper} {o:Oper} {a:Act} {Q:Exit->Act->World->Prop}
  (hg:o.guard=none) (m x:Operand) (t:TypeId) (hop:o.op=Op.lookup t m x false)
  (k e:TypeId) (K:Keyed P k) (ht:P.underlying t=some (.map k e)) (hz:(zeroValue e).run P w=.ok (.agg #[.pointer none,.pointer none]) w) (b n:Nat) (D:DataW Unit)
  (hm:a.eval m=.map (some b)) (hown:w.ownsMap P k pairR b n D) (key:Value) (kl:Lit) (hx:a.eval x=key) (hkey:keyOf P k key=some kl)
  (p q:Option Addr) (hp:okP p=true) (hq:okP q=true) (hat:D.atKey kl (.agg [codeP none,codeP none])=.agg [codeP p,codeP q])
  (hK:wpList P ops Q rest (a.put o.dst (.agg #[.pointer p,.pointer q])) w) :
  wpList P ops Q (o :: rest) a w:=by
 refine wpList_plain hg fun K' hK'=>?_
 obtain ⟨v,ps,hrun,hv⟩:=hown.lookup K ht hz (pairR_mk (p:=none) (q:=none) rfl rfl) hkey
 rw [hat] at hv
 obtain rfl:=pairR_inv hp hq hv
 unfold Oper.wp
 simp [execOp,hop,hm,hx,hrun,Result.andThen]
 exact hK' _ _ hK
end Go.Proofs.YtpeghomkaphdcaaGreatDoor
