import Derived.Test.YtaeonidcngjeiaaDoorM10
import Derived.Test.YtaeonidcngjeiaaDoorM02
import Derived.Test.YtaeonidcngjeiaaDoorM09
import Derived.Test.YtaeonidcngjeiaaDoorM05
namespace Go.Proofs.YtaeonidcngjeiaaDoor
open Go.RowKit
set_option linter.unusedVariables false
theorem numT_of {a:ByteArray} (e:Bool) (d:Bool) (he:a.toList.isEmpty=e) (hd:a.data.toList.all isD=d):numT a.data.toList=(!e && d):=by
 unfold numT;rw [hd];rw [Lib.toList_data] at he;rw [he]
set_option maxHeartbeats 1600000 in
theorem rorderPart_any (a b:ByteArray) (w:World) (ha:a.size < 2 ^ 62) (hb:b.size < 2 ^ 62) :
  Calls Tryd.prog 50 #[.string a,.string b] w fun e w'=>e=.returned (.int .i64 (partC a.data.toList b.data.toList))/\w'=w:=by
 obtain ⟨R,hR⟩:∃R,R=partC a.data.toList b.data.toList:=⟨_,rfl⟩
 have HR:Hid (R=partC a.data.toList b.data.toList):=hR
 rw [<-hR]
 clear hR
 obtain ⟨da,hda⟩:∃d,a.data.toList.all isD=d:=⟨_,rfl⟩
 obtain ⟨db,hdb⟩:∃d,b.data.toList.all isD=d:=⟨_,rfl⟩
 have DA:Hid (∀w,Calls Tryd.prog 64 #[.string a] w fun e w'=>e=.returned (.bool da)/\w'=w):=fun w=>by rw [<-hda];exact rdigits_any a w ha
 have DB:Hid (∀w,Calls Tryd.prog 64 #[.string b] w fun e w'=>e=.returned (.bool db)/\w'=w):=fun w=>by rw [<-hdb];exact rdigits_any b w hb
 obtain ⟨T,hT⟩:∃T,T=Lib.compareBytes a.data.toList b.data.toList:=⟨_,rfl⟩
 have OT:Hid (∀w,Calls Tryd.prog 65 #[.string a,.string b] w fun e w'=>e=.returned (.int .i64 T)/\w'=w):=fun w=>by rw [hT];exact rorderText_any a b w
 obtain ⟨X,hX⟩:∃X:ByteArray,X=⟨(bareR a.data.toList).toArray⟩:=⟨_,rfl⟩
 obtain ⟨Y,hY⟩:∃Y:ByteArray,Y=⟨(bareR b.data.toList).toArray⟩:=⟨_,rfl⟩
 have BA:Hid (∀w,Calls Tryd.prog 66 #[.string a] w fun e w'=>e=.returned (.string X)/\w'=w):=fun w=>by rw [hX];exact rbare_any a w ha
 have BB:Hid (∀w,Calls Tryd.prog 66 #[.string b] w fun e w'=>e=.returned (.string Y)/\w'=w):=fun w=>by rw [hY];exact rbare_any b w hb
 have OX:Hid (∀w,Calls Tryd.prog 65 #[.string X,.string Y] w fun e w'=>e=.returned (.int .i64 (Lib.compareBytes X.data.toList Y.data.toList))/\w'=w):=fun w=>rorderText_any X Y w
 have OL:Hid (∀w,Calls Tryd.prog 28 #[.int .i64 X.size,.int .i64 Y.size] w fun e w'=>e=.returned (.int .i64 (Lib.compareInt X.size Y.size))/\w'=w):=fun w=>rorder_any _ _ w
 have HT:Hid (T=Lib.compareBytes a.data.toList b.data.toList):=hT
 have HXY:Hid (X.data.toList=bareR a.data.toList/\Y.data.toList=bareR b.data.toList/\(X.size:Int)=(bareR a.data.toList).length/\(Y.size:Int)=(bareR b.data.toList).length):=by
  rw [hX,hY];refine ⟨rfl,rfl,?_,?_⟩
  ·show (((bareR a.data.toList).toArray.size:Nat):Int)=_;simp
  ·show (((bareR b.data.toList).toArray.size:Nat):Int)=_;simp
 have HDA:Hid (a.data.toList.all isD=da/\b.data.toList.all isD=db):=⟨hda,hdb⟩
 clear hda hdb hT hX hY ha hb
 have key:∀ea eb,a.toList.isEmpty=ea->b.toList.isEmpty=eb->Hid (numT a.data.toList=(!ea && da)/\numT b.data.toList=(!eb && db)):=fun ea eb h1 h2=>⟨numT_of ea da h1 HDA.out.1,numT_of eb db h2 HDA.out.2⟩
 cases hea:a.toList.isEmpty <;> cases heb:b.toList.isEmpty <;> cases da <;> cases db
 all_goals
  have HK:=key _ _ hea heb
  clear key
  first
  | (have HZ:Hid (R=-1):=by show R=-1;rw [HR.out];exact partC_nw HK.out.1 HK.out.2
     go_enter Tryd.func50,Tryd.ntmps50
     go_wp2_with (first | (go_at_call_of 64 a;refine (DA.out _).mono ?_;rintro e w' ⟨rfl,rfl⟩) | (go_at_call_of 64 b;refine (DB.out _).mono ?_;rintro e w' ⟨rfl,rfl⟩))
     go_ret
     exact ⟨ret_int HZ.out.symm,rfl⟩)
  | (have HZ:Hid (R=1):=by show R=1;rw [HR.out];exact partC_wn HK.out.1 HK.out.2
     go_enter Tryd.func50,Tryd.ntmps50
     go_wp2_with (first | (go_at_call_of 64 a;refine (DA.out _).mono ?_;rintro e w' ⟨rfl,rfl⟩) | (go_at_call_of 64 b;refine (DB.out _).mono ?_;rintro e w' ⟨rfl,rfl⟩))
     go_ret
     exact ⟨ret_int HZ.out.symm,rfl⟩)
  | (have HZ:Hid (R=T):=by show R=T;rw [HR.out,HT.out];exact partC_ww HK.out.1 HK.out.2
     go_enter Tryd.func50,Tryd.ntmps50
     go_wp2_with (first | (go_at_call_of 64 a;refine (DA.out _).mono ?_;rintro e w' ⟨rfl,rfl⟩) | (go_at_call_of 64 b;refine (DB.out _).mono ?_;rintro e w' ⟨rfl,rfl⟩) | (go_at_call 65;refine (OT.out _).mono ?_;rintro e w' ⟨rfl,rfl⟩))
     go_ret
     exact ⟨ret_int HZ.out.symm,rfl⟩)
  | skip
 cases hl:((X.size:Int) == (Y.size:Int)) with
 | true =>
  have HZ:Hid (R=Lib.compareBytes X.data.toList Y.data.toList):=by
   show R=_
   have h:=HXY.out
   rw [HR.out,partC_nnR HK.out.1 HK.out.2,<-h.2.2.1,<-h.2.2.2,if_pos (eq_of_beq hl),h.1,h.2.1]
  go_enter Tryd.func50,Tryd.ntmps50
  go_wp2_with (first | (go_at_call_of 64 a;refine (DA.out _).mono ?_;rintro e w' ⟨rfl,rfl⟩) | (go_at_call_of 64 b;refine (DB.out _).mono ?_;rintro e w' ⟨rfl,rfl⟩) | (go_at_call_of 66 a;refine (BA.out _).mono ?_;rintro e w' ⟨rfl,rfl⟩) | (go_at_call_of 66 b;refine (BB.out _).mono ?_;rintro e w' ⟨rfl,rfl⟩) | (go_at_call 65;refine (OX.out _).mono ?_;rintro e w' ⟨rfl,rfl⟩) | (go_at_call 28;refine (OL.out _).mono ?_;rintro e w' ⟨rfl,rfl⟩))
  go_ret
  exact ⟨ret_int HZ.out.symm,rfl⟩
 | false =>
  have HZ:Hid (R=Lib.compareInt X.size Y.size):=by
   show R=_
   have h:=HXY.out
   rw [HR.out,partC_nnR HK.out.1 HK.out.2,<-h.2.2.1,<-h.2.2.2,if_neg (by simpa using hl)]
  go_enter Tryd.func50,Tryd.ntmps50
  go_wp2_with (first | (go_at_call_of 64 a;refine (DA.out _).mono ?_;rintro e w' ⟨rfl,rfl⟩) | (go_at_call_of 64 b;refine (DB.out _).mono ?_;rintro e w' ⟨rfl,rfl⟩) | (go_at_call_of 66 a;refine (BA.out _).mono ?_;rintro e w' ⟨rfl,rfl⟩) | (go_at_call_of 66 b;refine (BB.out _).mono ?_;rintro e w' ⟨rfl,rfl⟩) | (go_at_call 65;refine (OX.out _).mono ?_;rintro e w' ⟨rfl,rfl⟩) | (go_at_call 28;refine (OL.out _).mono ?_;rintro e w' ⟨rfl,rfl⟩))
  go_ret
  exact ⟨ret_int HZ.out.symm,rfl⟩
set_option maxHeartbeats 800000 in
theorem rorderPre_any (a b:ByteArray) (w:World) (ha:a.size<=1048576) (hb:b.size<=1048576) :
  Calls Tryd.prog 29 #[.string a,.string b] w fun e w'=>e=.returned (.int .i64 (listC partC (splitD a.data.toList) (splitD b.data.toList)))/\Below w.heap.size w w':=by
 have SA:=fun w=>split_slice a w ha
 have SB:=fun w=>split_slice b w hb
 have PA:∀p ∈ splitD a.data.toList,p.length < 2 ^ 62:=fun p hp=>by have:=part_len _ p hp;simp at this;omega
 have PB:∀p ∈ splitD b.data.toList,p.length < 2 ^ 62:=fun p hp=>by have:=part_len _ p hp;simp at this;omega
 have LA:(splitD a.data.toList).length < 2 ^ 62:=by have:=split_len a.data.toList;simp at this;omega
 generalize splitD a.data.toList=L at SA PA LA ⊢
 generalize splitD b.data.toList=M at SB PB ⊢
 obtain ⟨R,hR⟩:∃R,R=listC partC L M:=⟨_,rfl⟩
 rw [<-hR]
 have HR:Hid (R=listC partC L M):=hR
 have OP:Hid (∀i,(h1:i < L.length)->(h2:i < M.length)->∀w,Calls Tryd.prog 50 #[.string ⟨L[i].toArray⟩,.string ⟨M[i].toArray⟩] w fun e w'=>e=.returned (.int .i64 (partC L[i] M[i]))/\w'=w):=by
  intro i h1 h2 w
  have:=rorderPart_any ⟨L[i].toArray⟩ ⟨M[i].toArray⟩ w (by have:=PA L[i] (List.getElem_mem h1);show L[i].toArray.size < _;simpa using this) (by have:=PB M[i] (List.getElem_mem h2);show M[i].toArray.size < _;simpa using this)
  exact this
 have OR:Hid (∀w,Calls Tryd.prog 28 #[.int .i64 L.length,.int .i64 M.length] w fun e w'=>e=.returned (.int .i64 (Lib.compareInt L.length M.length))/\w'=w):=fun w=>rorder_any _ _ w
 have HLM:Hid (True):=trivial
 clear hR PA PB ha hb
 go_enter Tryd.func29,Tryd.ntmps29
 go_wp2_with (go_at_call 49;refine (SA _).mono ?_)
 rintro e w1 ⟨g,cap,rfl,hg1,hg2,hc,hb1⟩
 have HC:Hid (∀j,(hj:j < L.length)->w1.cell? ⟨g,j,none⟩=some (.string ⟨L[j].toArray⟩)):=hc
 clear hc SA
 go_wp2_with (go_at_call 49;refine (SB _).mono ?_)
 rintro e w2 ⟨g',cap',rfl,hg1',hg2',hc,hb2⟩
 have HC':Hid (∀j,(hj:j < M.length)->w2.cell? ⟨g',j,none⟩=some (.string ⟨M[j].toArray⟩)):=hc
 have HC2:Hid (∀j,(hj:j < L.length)->w2.cell? ⟨g,j,none⟩=some (.string ⟨L[j].toArray⟩)):=fun j hj=>(hb2.cell (p:=⟨g,j,none⟩) hg2).trans (HC.out j hj)
 have HB:Hid (Below w.heap.size w w2):=hb1.trans (hb2.mono hb1.size)
 clear hc HC hb1 hb2 hg1 hg2 hg1' hg2' SB
 go_wp2
 go_loopw [7] (fun vi wr=>∃k:Nat,k<=L.length/\k<=M.length/\vi=.int .i64 k/\R=listC partC (L.drop k) (M.drop k)/\wr.heap=w2.heap/\Below w.heap.size w wr) (fun vi _=>L.length - (intOf vi).toNat)
 case atStart=>exact ⟨0,Nat.zero_le _,Nat.zero_le _,rfl,HR.out,rfl,HB.out⟩
 case round =>
  obtain ⟨k,hk1,hk2,rfl,hr,hh,hbr⟩:=hrel
  have HH:Hid (wr.heap=w2.heap):=hh
  have HBR:Hid (Below w.heap.size w wr):=hbr
  clear hh hbr
  have HRK:Hid (R=listC partC (L.drop k) (M.drop k)):=hr
  clear hr
  by_cases h1:k < L.length
  ·by_cases h2:k < M.length
   ·have c1:=HC2.out k h1
    have c2:=HC'.out k h2
    obtain ⟨X,hX⟩:∃X:ByteArray,X=⟨L[k].toArray⟩:=⟨_,rfl⟩
    obtain ⟨Y,hY⟩:∃Y:ByteArray,Y=⟨M[k].toArray⟩:=⟨_,rfl⟩
    obtain ⟨O,hO⟩:∃O,O=partC L[k] M[k]:=⟨_,rfl⟩
    have C0:Hid (∀w,Calls Tryd.prog 50 #[.string X,.string Y] w fun e w'=>e=.returned (.int .i64 O)/\w'=w):=fun w=>by rw [hX,hY,hO];exact OP.out k h1 h2 w
    have HS:Hid (R=if O=0 then listC partC (L.drop (k+1)) (M.drop (k+1)) else O):=by
     show R=_
     rw [HRK.out,List.drop_eq_getElem_cons h1,List.drop_eq_getElem_cons h2,hO];rfl
    have c1:wr.cell? ⟨g,k,none⟩=some (.string X):=by rw [hX];exact (World.cell?_of_block (w':=wr) (a:=⟨g,k,none⟩) (by rw [HH.out])).trans (HC2.out k h1)
    have c2:wr.cell? ⟨g',k,none⟩=some (.string Y):=by rw [hY];exact (World.cell?_of_block (w':=wr) (a:=⟨g',k,none⟩) (by rw [HH.out])).trans (HC'.out k h2)
    have i1:(k:Int) < (L.length:Int):=by omega
    have i2:(k:Int) < (M.length:Int):=by omega
    clear hX hY hO
    go_wp2
    go_quiet (first | (go_at_call 50;exact Calls.quiet_of_same (C0.out _)))
    cases hz:(O == 0) with
    | true =>
     have HZ:Hid (R=listC partC (L.drop (k+1)) (M.drop (k+1))):=by show R=_;rw [HS.out,if_pos (by simpa using hz)]
     go_wp2
     go_roundw
     case rel=>exact ⟨k+1,by omega,by omega,by go_num,HZ.out,HH.out,below_drewN HBR.out _⟩
     case measure=>simp [intOf];omega
    | false =>
     have HZ:Hid (R=O):=by show R=O;rw [HS.out,if_neg (by simpa using hz)]
     go_wp2
     go_ret
     exact ⟨ret_int HZ.out.symm,below_drewN HBR.out _⟩
   ·have HZ:Hid (R=Lib.compareInt L.length M.length):=by
     show R=_
     rw [HR.out]
     exact listC_end L M k (by omega) hk1 hk2 (by rw [<-HR.out];exact HRK.out)
    clear hk1 hk2
    go_wp2_with (first | (go_at_call 28;refine (OR.out _).mono ?_;rintro e w' ⟨rfl,rfl⟩))
    go_ret
    exact ⟨ret_int HZ.out.symm,HBR.out⟩
  ·have HZ:Hid (R=Lib.compareInt L.length M.length):=by
    show R=_
    rw [HR.out]
    exact listC_end L M k (by omega) hk1 hk2 (by rw [<-HR.out];exact HRK.out)
   clear hk1 hk2
   go_wp2_with (first | (go_at_call 28;refine (OR.out _).mono ?_;rintro e w' ⟨rfl,rfl⟩))
   go_ret
   exact ⟨ret_int HZ.out.symm,HBR.out⟩
open Go.RowKit
set_option linter.unusedVariables false
set_option maxHeartbeats 1600000 in
theorem rcompare_any (a1 a2 a3 b1 b2 b3:Int) (a4 a5 b4 b5:ByteArray) (w:World) (hs:a4.size<=1048576) (hs':b4.size<=1048576) :
  Calls Tryd.prog 19 #[.agg #[.int .i64 a1,.int .i64 a2,.int .i64 a3,.string a4,.string a5],.agg #[.int .i64 b1,.int .i64 b2,.int .i64 b3,.string b4,.string b5]] w fun e w'=>e=.returned (.int .i64 (verC ⟨a1,a2,a3,a4.data.toList⟩ ⟨b1,b2,b3,b4.data.toList⟩))/\Below w.heap.size w w':=by
 obtain ⟨R,hR⟩:∃R,R=verC ⟨a1,a2,a3,a4.data.toList⟩ ⟨b1,b2,b3,b4.data.toList⟩:=⟨_,rfl⟩
 have HR:Hid (R=verC ⟨a1,a2,a3,a4.data.toList⟩ ⟨b1,b2,b3,b4.data.toList⟩):=hR
 obtain ⟨p,hp⟩:∃p,p=listC partC (splitD a4.data.toList) (splitD b4.data.toList):=⟨_,rfl⟩
 have HP:Hid (p=listC partC (splitD a4.data.toList) (splitD b4.data.toList)):=hp
 have OP:Hid (∀w,Calls Tryd.prog 29 #[.string a4,.string b4] w fun e w'=>e=.returned (.int .i64 p)/\Below w.heap.size w w'):=fun w=>by rw [hp];exact rorderPre_any a4 b4 w hs hs'
 have B2:Hid (∀o1 o2,Below w.heap.size w ((w.alloc o1).alloc o2)):=fun o1 o2=>gb_below (gb_alloc (gb_alloc (gb_refl w none) _) _)
 rw [<-hR]
 clear hR hp hs hs'
 cases h1:(a1 == b1) with
 | false =>
  have HZ:Hid (R=Lib.compareInt a1 b1):=by
   show R=_
   rw [HR.out,verC_eq]
   simp only
   rw [if_neg (fun e=>(by simpa using h1:¬ a1=b1) (cmp_zero.1 e))]
  go_enter Tryd.func19,Tryd.ntmps19
  go_wp2_with (first | (go_at_call 28;refine (rorder_any _ _ _).mono ?_;rintro e w' ⟨rfl,rfl⟩) | (go_at_call 29;refine (OP.out _).mono ?_;rintro e w3 ⟨rfl,hb3⟩))
  go_ret
  exact ⟨ret_int HZ.out.symm,B2.out _ _⟩
 | true =>
  cases h2:(a2 == b2) with
  | false =>
   have HZ:Hid (R=Lib.compareInt a2 b2):=by
    show R=_
    rw [HR.out,verC_eq]
    simp only
    rw [if_pos (cmp_zero.2 (eq_of_beq h1)),if_neg (fun e=>(by simpa using h2:¬ a2=b2) (cmp_zero.1 e))]
   go_enter Tryd.func19,Tryd.ntmps19
   go_wp2_with (first | (go_at_call 28;refine (rorder_any _ _ _).mono ?_;rintro e w' ⟨rfl,rfl⟩) | (go_at_call 29;refine (OP.out _).mono ?_;rintro e w3 ⟨rfl,hb3⟩))
   go_ret
   exact ⟨ret_int HZ.out.symm,B2.out _ _⟩
  | true =>
   cases h3:(a3 == b3) with
   | false =>
    have HZ:Hid (R=Lib.compareInt a3 b3):=by
     show R=_
     rw [HR.out,verC_eq]
     simp only
     rw [if_pos (cmp_zero.2 (eq_of_beq h1)),if_pos (cmp_zero.2 (eq_of_beq h2)),if_neg (fun e=>(by simpa using h3:¬ a3=b3) (cmp_zero.1 e))]
    go_enter Tryd.func19,Tryd.ntmps19
    go_wp2_with (first | (go_at_call 28;refine (rorder_any _ _ _).mono ?_;rintro e w' ⟨rfl,rfl⟩) | (go_at_call 29;refine (OP.out _).mono ?_;rintro e w3 ⟨rfl,hb3⟩))
    go_ret
    exact ⟨ret_int HZ.out.symm,B2.out _ _⟩
   | true =>
    have HQ:Hid (R=preC a4.data.toList b4.data.toList):=by
     show R=_
     rw [HR.out,verC_eq]
     simp only
     rw [if_pos (cmp_zero.2 (eq_of_beq h1)),if_pos (cmp_zero.2 (eq_of_beq h2)),if_pos (cmp_zero.2 (eq_of_beq h3))]
    cases he:(a4.toList == b4.toList) with
    | true =>
     have HZ:Hid (R=0):=by
      show R=0
      have e:a4.data.toList=b4.data.toList:=by rw [<-Lib.toList_data,<-Lib.toList_data];exact eq_of_beq he
      rw [HQ.out,e];exact good_pre.self _
     go_enter Tryd.func19,Tryd.ntmps19
     go_wp2_with (first | (go_at_call 28;refine (rorder_any _ _ _).mono ?_;rintro e w' ⟨rfl,rfl⟩) | (go_at_call 29;refine (OP.out _).mono ?_;rintro e w3 ⟨rfl,hb3⟩))
     go_ret
     exact ⟨ret_int HZ.out.symm,B2.out _ _⟩
    | false =>
     by_cases ha:a4.size=0
     ·have c1:=emp_t ha
      have HZ:Hid (R=1):=by
       show R=1
       have e:a4.data.toList=[]:=List.length_eq_zero_iff.1 (by simpa using ha)
       have hb:b4.data.toList ≠ []:=by
        intro hb
        rw [Lib.toList_data,Lib.toList_data,e,hb] at he
        exact absurd he (by decide)
       rw [HQ.out,pre_empty _ _ (Or.inl e),e]
       exact cmp_gt (by have:=List.length_pos_iff.2 hb;simp only [List.length_nil];omega)
      clear ha
      go_enter Tryd.func19,Tryd.ntmps19
      go_wp2_with (first | (go_at_call 28;refine (rorder_any _ _ _).mono ?_;rintro e w' ⟨rfl,rfl⟩) | (go_at_call 29;refine (OP.out _).mono ?_;rintro e w3 ⟨rfl,hb3⟩))
      go_ret
      exact ⟨ret_int HZ.out.symm,B2.out _ _⟩
     ·have c1:=emp_f ha
      by_cases hb:b4.size=0
      ·have c2:=emp_t hb
       have HZ:Hid (R=-1):=by
        show R=-1
        have e:b4.data.toList=[]:=List.length_eq_zero_iff.1 (by simpa using hb)
        have ha':a4.data.toList ≠ []:=fun h=>ha (by show a4.data.size=0;rw [<-Array.length_toList,h];rfl)
        rw [HQ.out,pre_empty _ _ (Or.inr e),e]
        exact cmp_lt (by have:=List.length_pos_iff.2 ha';simp only [List.length_nil];omega)
       clear ha hb
       go_enter Tryd.func19,Tryd.ntmps19
       go_wp2_with (first | (go_at_call 28;refine (rorder_any _ _ _).mono ?_;rintro e w' ⟨rfl,rfl⟩) | (go_at_call 29;refine (OP.out _).mono ?_;rintro e w3 ⟨rfl,hb3⟩))
       go_ret
       exact ⟨ret_int HZ.out.symm,B2.out _ _⟩
      ·have c2:=emp_f hb
       have HZ:Hid (R=p):=by
        show R=p
        rw [HQ.out,HP.out]
        exact pre_full _ _ (fun h=>ha (by show a4.data.size=0;rw [<-Array.length_toList,h];rfl)) (fun h=>hb (by show b4.data.size=0;rw [<-Array.length_toList,h];rfl))
       clear ha hb
       go_enter Tryd.func19,Tryd.ntmps19
       go_wp2_with (first | (go_at_call 28;refine (rorder_any _ _ _).mono ?_;rintro e w' ⟨rfl,rfl⟩) | (go_at_call 29;refine (OP.out _).mono ?_;rintro e w3 ⟨rfl,hb3⟩))
       go_ret
       exact ⟨ret_int HZ.out.symm,(B2.out _ _).trans (hb3.mono (B2.out _ _).size)⟩
open Go.RowKit
set_option linter.unusedVariables false
def okV (s:ByteArray):Bool:=decide ((parseV s.data.toList).1=0)
def verO (s:ByteArray):Vv:=(parseV s.data.toList).2.2
def cutV (v:Vv):V:=⟨v.major,v.minor,v.patch,v.pre⟩
def togB (s t:ByteArray):Bool:=okV s && (okV t && decide (verC (cutV (verO s)) (cutV (verO t))=0))
theorem sub_shortV (l:List UInt8) (i k:Nat):(subT l i k).length<=l.length:=by unfold subT;simp;omega
theorem opt_lenV (c:UInt8) (st:Bool) (l:List UInt8) (i:Nat):(optP c st l i).2.2.length<=l.length:=by
 unfold optP
 repeat' split
 all_goals first | exact sub_shortV _ _ _ | exact Nat.zero_le _
theorem pre_100 (s:ByteArray):(verO s).pre.length<=100:=by
 unfold verO parseV
 split
 ·exact Nat.zero_le _
 ·rename_i h
  unfold rdVer
  repeat' split
  all_goals first | exact Nat.zero_le _ | (have:=opt_lenV 45 true s.data.toList (rdNums s.data.toList).2.1;simp only [];omega)
theorem isVersion_any (s:ByteArray) (w:World) (hs:s.size < 2 ^ 62):Calls Tryd.prog 18 #[.string s] w fun e w'=>e=.returned (.bool (okV s))/\w.grownBy w' none:=by
 have CR:Hid (∀w,Calls Tryd.prog 27 #[.string s] w fun e w'=>(∃(x1 x2 x3:Int) (x4 x5:ByteArray) (k:Int),e=.returned (.tuple #[.agg #[.int .i64 x1,.int .i64 x2,.int .i64 x3,.string x4,.string x5],.int .i64 (parseV s.data.toList).1,.int .i64 k]))/\w.grownBy w' none):=fun w=>(readv_any s w hs).mono fun e w' ⟨h1,h2⟩=>⟨⟨_,_,_,_,_,_,h1⟩,h2⟩
 unfold okV
 obtain ⟨E,hE⟩:∃E,(parseV s.data.toList).1=E:=⟨_,rfl⟩
 rw [hE] at CR ⊢
 clear hE
 have hd:decide (E=0)=(E == 0):=by rw [Bool.eq_iff_iff];simp
 rw [hd]
 clear hd
 go_enter Tryd.func18,Tryd.ntmps18
 go_wp2_with (first | (go_at_call 27;refine (CR.out _).mono ?_))
 rintro e w1 ⟨⟨x1,x2,x3,x4,x5,k,rfl⟩,hg⟩
 cases hz:(E == 0) with
 | true =>
  go_wp2
  go_ret
  exact ⟨ret_bool hz.symm,gb_trans hg (gb_alloc (gb_refl w1 none) _)⟩
 | false =>
  go_wp2
  go_ret
  exact ⟨ret_bool hz.symm,gb_trans hg (gb_alloc (gb_refl w1 none) _)⟩
set_option maxRecDepth 100000 in
set_option maxHeartbeats 800000 in
theorem refVersion_any (s:ByteArray) (w:World) (hs:s.size < 2 ^ 62):Calls Tryd.prog 20 #[.string s] w fun e w'=>e=.returned (valV (verO s))/\w.grownBy w' none:=by
 have CR:Hid (∀w,Calls Tryd.prog 27 #[.string s] w fun e w'=>(∃(E k:Int),e=.returned (.tuple #[valV (verO s),.int .i64 E,.int .i64 k]))/\w.grownBy w' none):=fun w=>(readv_any s w hs).mono fun e w' ⟨h1,h2⟩=>⟨⟨_,_,h1⟩,h2⟩
 unfold valV at CR ⊢
 obtain ⟨x1,h1⟩:∃x,(verO s).major=x:=⟨_,rfl⟩
 obtain ⟨x2,h2⟩:∃x,(verO s).minor=x:=⟨_,rfl⟩
 obtain ⟨x3,h3⟩:∃x,(verO s).patch=x:=⟨_,rfl⟩
 obtain ⟨x4,h4⟩:∃x:ByteArray,⟨(verO s).pre.toArray⟩=x:=⟨_,rfl⟩
 obtain ⟨x5,h5⟩:∃x:ByteArray,⟨(verO s).build.toArray⟩=x:=⟨_,rfl⟩
 rw [h1,h2,h3,h4,h5] at CR ⊢
 clear h1 h2 h3 h4 h5 hs
 go_enter Tryd.func20,Tryd.ntmps20
 go_wp2_with (first | (go_at_call 27;refine (CR.out _).mono ?_))
 rintro e w1 ⟨⟨E,k,rfl⟩,hg⟩
 obtain ⟨A,hA⟩:∃A,w.heap.size=A:=⟨_,rfl⟩
 have hx:VR A 0 0 0 ⟨#[]⟩ ⟨#[]⟩ w1:=by
  show w1.heap[A]?=_
  rw [<-hA,hg.block w.heap.size (by simp) (by simp)]
  exact heap_alloc_new w _
 have HXA:Hid (VR A 0 0 0 ⟨#[]⟩ ⟨#[]⟩ w1):=hx
 have HG:Hid (w.grownBy w1 none):=gb_trans (gb_alloc (gb_refl w none) _) hg
 have HWA:Hid (w.heap.size<=A):=Nat.le_of_eq hA
 have hlt0:A < w1.heap.size:=(Array.getElem?_eq_some_iff.1 hx).1
 try rw [hA]
 clear hA hx hg
 obtain ⟨ca0,ca1,ca2,ca3,ca4⟩:=HXA.out.cells
 have ra:=HXA.out.f
 go_wp2
 refine bodyPost_ret (results_cell_row rfl _ _ A 55 #[.int .i64 x1,.int .i64 x2,.int .i64 x3,.string x4,.string x5] (0,0) _ rfl (by rw [Lib.alloc_old _ _ _ (by simpa [World.setCell] using hlt0)];exact putr_row HXA.out x1 x2 x3 x4 x5) Tryd.underlying55 rfl (by kernel_rfl)) rfl ⟨rfl,gb_alloc (put5_gb0 HG.out HWA.out x1 x2 x3 x4 x5) _⟩
set_option maxRecDepth 100000 in
set_option maxHeartbeats 1600000 in
theorem together_any (s t:ByteArray) (w:World) (hs:s.size < 2 ^ 62) (ht:t.size < 2 ^ 62):Calls Tryd.prog 21 #[.string s,.string t] w fun e w'=>e=.returned (.bool (togB s t))/\w.grownBy w' none:=by
 have IS:Hid (∀w,Calls Tryd.prog 18 #[.string s] w fun e w'=>e=.returned (.bool (okV s))/\w.grownBy w' none):=fun w=>isVersion_any s w hs
 have IT:Hid (∀w,Calls Tryd.prog 18 #[.string t] w fun e w'=>e=.returned (.bool (okV t))/\w.grownBy w' none):=fun w=>isVersion_any t w ht
 have p1:=pre_100 s
 have p2:=pre_100 t
 have VS1:Hid (∀w,Calls Tryd.prog 20 #[.string s] w fun e w'=>e=.returned (valV (verO s))/\w.grownBy w' none):=fun w=>refVersion_any s w hs
 have VT1:Hid (∀w,Calls Tryd.prog 20 #[.string t] w fun e w'=>e=.returned (valV (verO t))/\w.grownBy w' none):=fun w=>refVersion_any t w ht
 have CC:Hid (∀w,Calls Tryd.prog 19 #[valV (verO s),valV (verO t)] w fun e w'=>e=.returned (.int .i64 (verC (cutV (verO s)) (cutV (verO t))))/\w.grownBy w' none):=fun w=>by
  refine (rcompare_any _ _ _ _ _ _ _ _ _ _ w (by show (verO s).pre.toArray.size<=_;simp;omega) (by show (verO t).pre.toArray.size<=_;simp;omega)).mono ?_
  rintro e w' ⟨rfl,h⟩
  refine ⟨?_,⟨h.os,h.tape,h.output,h.size,fun k hk _=>h.block k hk⟩⟩
  simp [cutV]
 unfold togB
 obtain ⟨bs,hbs⟩:∃b,okV s=b:=⟨_,rfl⟩
 obtain ⟨bt,hbt⟩:∃b,okV t=b:=⟨_,rfl⟩
 obtain ⟨Vs,hVs⟩:∃v,valV (verO s)=v:=⟨_,rfl⟩
 obtain ⟨Vt,hVt⟩:∃v,valV (verO t)=v:=⟨_,rfl⟩
 obtain ⟨R,hR⟩:∃R,verC (cutV (verO s)) (cutV (verO t))=R:=⟨_,rfl⟩
 rw [hbs] at IS ⊢
 rw [hbt] at IT ⊢
 rw [hR] at CC ⊢
 rw [hVs] at VS1 CC
 rw [hVt] at VT1 CC
 have hd:decide (R=0)=(R == 0):=by rw [Bool.eq_iff_iff];simp
 rw [hd]
 clear hd hbs hbt hVs hVt hR p1 p2 hs ht
 have HG:Hid (w.grownBy w none):=gb_refl _ _
 go_enter Tryd.func21,Tryd.ntmps21
 go_wp2_with (first | (go_at_call 18;refine (IS.out _).mono ?_))
 rintro e w1 ⟨rfl,hg⟩
 replace HG:Hid (w.grownBy w1 none):=gb_trans HG.out hg
 clear hg
 go_wp2_with (first | (go_at_call 18;refine (IT.out _).mono ?_))
 rintro e w2 ⟨rfl,hg⟩
 replace HG:Hid (w.grownBy w2 none):=gb_trans HG.out hg
 clear hg
 cases bs with
 | false =>
  go_wp2
  go_ret
  exact ⟨rfl,HG.out⟩
 | true =>
  cases bt with
  | false =>
   go_wp2
   go_ret
   exact ⟨rfl,HG.out⟩
  | true =>
   cases hz:(R == 0) with
   | true =>
    go_wp2_with (first | (go_at_call_of 20 s;refine (VS1.out _).mono ?_;rintro e w' ⟨rfl,hg⟩;replace HG:Hid (w.grownBy w' none):=gb_trans HG.out hg;clear hg) | (go_at_call_of 20 t;refine (VT1.out _).mono ?_;rintro e w' ⟨rfl,hg⟩;replace HG:Hid (w.grownBy w' none):=gb_trans HG.out hg;clear hg) | (go_at_call 19;refine (CC.out _).mono ?_;rintro e w' ⟨rfl,hg⟩;replace HG:Hid (w.grownBy w' none):=gb_trans HG.out hg;clear hg))
    go_ret
    exact ⟨ret_bool (show true=(true && (true && (R == 0))) by rw [hz];rfl),HG.out⟩
   | false =>
    go_wp2_with (first | (go_at_call_of 20 s;refine (VS1.out _).mono ?_;rintro e w' ⟨rfl,hg⟩;replace HG:Hid (w.grownBy w' none):=gb_trans HG.out hg;clear hg) | (go_at_call_of 20 t;refine (VT1.out _).mono ?_;rintro e w' ⟨rfl,hg⟩;replace HG:Hid (w.grownBy w' none):=gb_trans HG.out hg;clear hg) | (go_at_call 19;refine (CC.out _).mono ?_;rintro e w' ⟨rfl,hg⟩;replace HG:Hid (w.grownBy w' none):=gb_trans HG.out hg;clear hg))
    go_ret
    exact ⟨ret_bool (show false=(true && (true && (R == 0))) by rw [hz];rfl),HG.out⟩
open Go.RowKit
set_option linter.unusedVariables false
def hitB (name v:ByteArray) (x:Re):Bool:=decide (x.nm=name) && togB x.ve v
def findI (name v:ByteArray):List Re->Nat->Int
 | [],_=>-1
 | x :: r,k=>if hitB name v x=true then (k:Int) else findI name v r (k+1)
theorem txt_eq {a b:ByteArray} (h:a=b):(a.toList == b.toList)=true:=by rw [h];simp
theorem txt_ne {a b:ByteArray} (h:¬ a=b):(a.toList == b.toList)=false:=by
 cases hb:(a.toList == b.toList) with
 | false=>rfl
 | true =>
  exfalso
  apply h
  have h2:a.toList=b.toList:=by simpa using hb
  rw [Lib.toList_data,Lib.toList_data] at h2
  apply ByteArray.ext
  exact Array.ext' h2
set_option maxRecDepth 100000 in
set_option maxHeartbeats 1600000 in
theorem refFind_at (a:Addr) (cap:Nat) (L:List Re) (name v:ByteArray) (w:World) (hL:L.length<=1048576) (hcap:L.length<=cap) (hV:∀x ∈ L,x.ve.size < 2 ^ 62) (hv:v.size < 2 ^ 62) (h:∀i (hi:i < L.length),ReAt w (a.add (i * 4)) L[i]) :
  Calls Tryd.prog 9 #[.slice (some a) L.length cap,.string name,.string v] w fun e w'=>e=.returned (.int .i64 (findI name v L 0))/\w.grownBy w' none:=by
 have HA:Hid (∀i (hi:i < L.length),ReAt w (a.add (i * 4)) L[i]):=h
 have CT:Hid (∀x ∈ L,∀w,Calls Tryd.prog 21 #[.string x.ve,.string v] w fun e w'=>e=.returned (.bool (togB x.ve v))/\w.grownBy w' none):=fun x hx w=>together_any x.ve v w (hV x hx) hv
 obtain ⟨R,hR⟩:∃R,findI name v L 0=R:=⟨_,rfl⟩
 have HR:Hid (findI name v (L.drop 0) 0=R):=hR
 rw [hR]
 clear h hV hv hR
 go_enter Tryd.func9,Tryd.ntmps9
 go_wp2
 go_loopw [7] (fun vi wr=>∃i:Nat,vi=.int .i64 i/\i<=L.length/\findI name v (L.drop i) i=R/\w.grownBy wr none) (fun vi _=>L.length - (intOf vi).toNat)
 case atStart=>exact ⟨0,rfl,Nat.zero_le _,HR.out,gb_refl _ _⟩
 case round =>
  obtain ⟨i,rfl,hi,hf,hg⟩:=hrel
  have HG:Hid (w.grownBy wr none):=hg
  by_cases hlt:i < L.length
  ·obtain ⟨x,hx⟩:∃x,L[i]=x:=⟨_,rfl⟩
   have hat0:ReAt wr (a.add (i * 4)) x:=by rw [<-hx];exact (HA.out i hlt).grow hg
   have HE:Hid (ReAt wr (a.add (i * 4)) x):=hat0
   obtain ⟨e0,e1,-,-⟩:=hat0
   have HF:Hid ((if hitB name v x=true then (i:Int) else findI name v (L.drop (i+1)) (i+1))=R):=by
    show _=_
    rw [List.drop_eq_getElem_cons hlt,hx] at hf
    exact hf
   have CX:Hid (∀w,Calls Tryd.prog 21 #[.string x.ve,.string v] w fun e w'=>e=.returned (.bool (togB x.ve v))/\w.grownBy w' none):=fun w=>CT.out x (by rw [<-hx];exact List.getElem_mem _) w
   obtain ⟨b,hb⟩:∃b,togB x.ve v=b:=⟨_,rfl⟩
   rw [hb] at CX
   have HB:Hid (togB x.ve v=b):=hb
   clear hf hg hx hb
   go_wp2_with (first | (go_at_call 21;refine (CX.out _).mono ?_))
   rintro e w1 ⟨rfl,hg1⟩
   replace HG:Hid (w.grownBy w1 none):=gb_trans HG.out hg1
   replace HE:Hid (ReAt w1 (a.add (i * 4)) x):=HE.out.grow hg1
   clear e0 e1 hg1
   obtain ⟨e0,-,-,-⟩:=HE.out
   by_cases hn:x.nm=name
   ·have q:=txt_eq hn
    have HN:Hid (x.nm=name):=hn
    clear hn
    cases b with
    | true =>
     have HQ:Hid ((i:Int)=R):=by
      have:=HF.out
      rw [if_pos (by unfold hitB;rw [HN.out,HB.out];simp)] at this
      exact this
     go_wp2
     go_ret
     exact ⟨ret_int HQ.out,HG.out⟩
    | false =>
     have HQ:Hid (findI name v (L.drop (i+1)) (i+1)=R):=by
      have:=HF.out
      rw [if_neg (by unfold hitB;rw [HB.out];simp)] at this
      exact this
     go_wp2
     go_roundw
     case rel=>exact ⟨i+1,by go_num,by omega,HQ.out,HG.out⟩
     case measure=>simp [intOf];omega
   ·have q:=txt_ne hn
    have HQ:Hid (findI name v (L.drop (i+1)) (i+1)=R):=by
     have:=HF.out
     rw [if_neg (by unfold hitB;simp [hn])] at this
     exact this
    clear hn
    go_wp2
    go_roundw
    case rel=>exact ⟨i+1,by go_num,by omega,HQ.out,HG.out⟩
    case measure=>simp [intOf];omega
  ·have hil:i=L.length:=by omega
   have HQ:Hid (-1=R):=by
    show _=_
    rw [hil,List.drop_length] at hf
    exact hf
   clear hf hg hil
   go_wp2
   go_ret
   exact ⟨ret_int HQ.out,HG.out⟩
open Go.RowKit
set_option linter.unusedVariables false
structure It where
 k:Nat
 v:Vv
def itC (x:It):List Value:=[.int .i64 (x.k:Int),.int .i64 x.v.major,.int .i64 x.v.minor,.int .i64 x.v.patch,.string ⟨x.v.pre.toArray⟩,.string ⟨x.v.build.toArray⟩]
def itemsL (name:ByteArray):List Re->Nat->List It
 | [],_=>[]
 | x :: r,k=>if (decide (x.nm=name) && okV x.ve)=true then ⟨k,verO x.ve⟩ :: itemsL name r (k+1) else itemsL name r (k+1)
theorem items_len (name:ByteArray):∀(L:List Re) (k:Nat),(itemsL name L k).length<=L.length
 | [],k=>Nat.le_refl _
 | x :: r,k=>by
  have:=items_len name r (k+1)
  unfold itemsL
  split <;> simp <;> omega
theorem infoIt:(Tryd.prog.info? 41).map (fun i=>(i.zero,i.size,i.bytes))=some (some (.agg #[.int .i64 0,.int .i64 0,.int .i64 0,.int .i64 0,.string ⟨#[]⟩,.string ⟨#[]⟩]),6,64):=by kernel_rfl
theorem itc_one (s:It):∀u ∈ itC s,u.oneCell'=true:=by
 intro u hu
 simp only [itC,List.mem_cons,List.not_mem_nil,or_false] at hu
 rcases hu with rfl | rfl | rfl | rfl | rfl | rfl <;> rfl
theorem own_stay {w w':World} {base:Nat} {e:TypeId} {size:Nat} {v:Value} {n:Nat} {xs:List Value} (h:w.ownsRow base e size v n xs) (hg:w.grownBy w' none):w'.ownsRow base e size v n xs :=
 h.kept hg (by cases v.ownBlock <;> simp)
theorem hrow2 (w:World) (o1 o2:Obj):((w.alloc o1).alloc o2).heap[w.heap.size+1]?=some o2:=by
 have:=heap_alloc_new (w.alloc o1) o2
 simpa using this
def ItemsPost (M:List It) (w:World) (e:Ending) (w':World):Prop:=∃v,e=.returned v/\w'.ownsRow w.heap.size 41 6 v M.length (M.flatMap itC)/\Below w.heap.size w w'
set_option maxRecDepth 100000 in
set_option maxHeartbeats 3200000 in
theorem items_at (a:Addr) (cap:Nat) (L:List Re) (name:ByteArray) (w:World) (hL:L.length<=1048576) (hcap:L.length<=cap) (hV:∀x ∈ L,x.ve.size < 2 ^ 62) (h:∀i (hi:i < L.length),ReAt w (a.add (i * 4)) L[i]) :
  Calls Tryd.prog 10 #[.slice (some a) L.length cap,.string name] w (ItemsPost (itemsL name L 0) w):=by
 have HA:Hid (∀i (hi:i < L.length),ReAt w (a.add (i * 4)) L[i]):=h
 have CT:Hid (∀x ∈ L,∀w,Calls Tryd.prog 17 #[.string x.ve] w fun e w'=>(∃k:Int,e=.returned (.tuple #[valV (verO x.ve),.int .i64 (parseV x.ve.data.toList).1,.int .i64 k]))/\w.grownBy w' none):=fun x hx w=>(parse_any x.ve w (hV x hx)).mono fun e w' ⟨h1,h2⟩=>⟨⟨_,h1⟩,h2⟩
 obtain ⟨R,hR⟩:∃R,itemsL name L 0=R:=⟨_,rfl⟩
 have HR:Hid ([]++itemsL name (L.drop 0) 0=R):=hR
 have HRL:Hid (R.length<=1048576):=by rw [<-hR];exact Nat.le_trans (items_len name L 0) hL
 rw [hR]
 clear h hV hR
 have hinfo:=infoIt
 obtain ⟨i0,hi0,hii⟩:=Option.map_eq_some_iff.1 hinfo
 simp only [Prod.mk.injEq] at hii
 obtain ⟨hz0,hz1,hzb⟩:=hii
 clear hinfo
 go_enter Tryd.func10,Tryd.ntmps10
 go_wp2
 go_loopw [5,13] (fun vm vi wr=>∃(i:Nat) (M:List It),vi=.int .i64 i/\i<=L.length/\M++itemsL name (L.drop i) i=R/\wr.ownsRow w.heap.size 41 6 vm M.length (M.flatMap itC)/\Below w.heap.size w wr) (fun _ vi _=>L.length - (intOf vi).toNat)
 case atStart=>exact ⟨0,[],rfl,Nat.zero_le _,HR.out,World.ownsRow_nil _ _ _ _,Below.refl _ _⟩
 case round =>
  obtain ⟨i,M,rfl,hi,hf,hown,hb⟩:=hrel
  have HO:Hid (wr.ownsRow w.heap.size 41 6 u5 M.length (M.flatMap itC)):=hown
  have HB:Hid (Below w.heap.size w wr):=hb
  by_cases hlt:i < L.length
  ·obtain ⟨x,hx⟩:∃x,L[i]=x:=⟨_,rfl⟩
   have hat0:ReAt wr (a.add (i * 4)) x:=by rw [<-hx];exact (HA.out i hlt).grow (bel_gb hb)
   obtain ⟨e0,e1,⟨sv,e2,hsv⟩,e3⟩:=hat0
   obtain ⟨so,sc,rfl⟩:=nds_slice hsv
   obtain ⟨sn,hsn⟩:∃n,x.nd.length=n:=⟨_,rfl⟩
   rw [hsn] at e2
   clear hsv hsn
   have HF:Hid (M++(if (decide (x.nm=name) && okV x.ve)=true then ⟨i,verO x.ve⟩ :: itemsL name (L.drop (i+1)) (i+1) else itemsL name (L.drop (i+1)) (i+1))=R):=by
    show _=_
    rw [List.drop_eq_getElem_cons hlt,hx] at hf
    exact hf
   have CX:Hid (∀w,Calls Tryd.prog 17 #[.string x.ve] w fun e w'=>(∃k:Int,e=.returned (.tuple #[valV (verO x.ve),.int .i64 (parseV x.ve.data.toList).1,.int .i64 k]))/\w.grownBy w' none):=fun w=>CT.out x (by rw [<-hx];exact List.getElem_mem _) w
   unfold valV at CX
   obtain ⟨E,hE⟩:∃E,(parseV x.ve.data.toList).1=E:=⟨_,rfl⟩
   obtain ⟨y,hy⟩:∃y,verO x.ve=y:=⟨_,rfl⟩
   obtain ⟨y1,y2,y3,y4,y5⟩:=y
   rw [hE,hy] at CX
   simp only [] at CX
   have HK:Hid (okV x.ve=decide (E=0)):=by show _=_;unfold okV;rw [hE]
   rw [hy] at HF
   have hbs:=hb.size
   clear hf hx hE hy hown hb
   by_cases hn:x.nm=name
   ·have q:=txt_eq hn
    have q2:(x.nm.toList != name.toList)=false:=by simp [bne,q]
    have HN:Hid (x.nm=name):=hn
    clear hn
    go_wp2_with (first | (go_at_call 17;refine (CX.out _).mono ?_))
    rintro e w1 ⟨⟨k,rfl⟩,hg⟩
    have hga:wr.grownBy w1 none:=gb_trans (gb_alloc (gb_refl wr none) _) hg
    replace HO:Hid (w1.ownsRow w.heap.size 41 6 u5 M.length (M.flatMap itC)):=own_stay HO.out hga
    replace HB:Hid (Below w.heap.size w w1):=hbelow HB.out hbs hga
    clear hg hga e0 e1 e2 e3
    cases hz:(E == 0) with
    | true =>
     have hE0:E=0:=by simpa using hz
     have HQ:Hid ((M++[⟨i,⟨y1,y2,y3,y4,y5⟩⟩])++itemsL name (L.drop (i+1)) (i+1)=R):=by
      have:=HF.out
      rw [if_pos (by rw [HK.out,HN.out];simp [hE0])] at this
      show _=_
      rw [List.append_assoc]
      exact this
     have HML:Hid (M.length+1<=1048576):=by
      have h1:=congrArg List.length HQ.out
      have h2:=HRL.out
      simp only [List.length_append,List.length_cons,List.length_nil] at h1
      show _<=_
      omega
     clear hE0
     go_wp2_with (first | (at_builtin;refine wpList_append_own _ rfl _ _ 35 rfl w.heap.size 41 i0 (.agg #[.int .i64 0,.int .i64 0,.int .i64 0,.int .i64 0,.string ⟨#[]⟩,.string ⟨#[]⟩]) 6 64 Tryd.underlying35 hi0 hz0 hz1 hzb rfl (by decide) _ _ _ rfl ((HO.out.alloc _).alloc _) _ 1 1 (itC ⟨i,⟨y1,y2,y3,y4,y5⟩⟩) rfl rfl (World.news_of_block (hrow2 _ _ _)) (itc_one _) (by unfold maxLen;have:=HML.out;omega) (by have:=HML.out;omega) (by have:=HB.out.size;simp;omega) ?_;intro v' w3 hown3 hgrow _))
     have hb3:Below w.heap.size w w3:=((HB.out.alloc HB.out.size _).alloc (by have:=HB.out.size;simp;omega) _).grown hgrow (by have:=HB.out.size;simp;omega) (fun q hq=>(HO.out.lt q hq).1)
     refine ⟨⟨i+1,M++[⟨i,⟨y1,y2,y3,y4,y5⟩⟩],by go_num,by omega,HQ.out,?_,hb3⟩,by simp [intOf];omega⟩
     rw [List.length_append,List.flatMap_append]
     simpa using hown3
    | false =>
     have HQ:Hid (M++itemsL name (L.drop (i+1)) (i+1)=R):=by
      have h0:¬ E=0:=by simpa using hz
      have:=HF.out
      rw [if_neg (by rw [HK.out];simp [h0])] at this
      exact this
     go_wp2
     exact ⟨⟨i+1,M,by go_num,by omega,HQ.out,HO.out.alloc _,HB.out.alloc HB.out.size _⟩,by simp [intOf];omega⟩
   ·have q:=txt_ne hn
    have q2:(x.nm.toList != name.toList)=true:=by simp [bne,q]
    have HQ:Hid (M++itemsL name (L.drop (i+1)) (i+1)=R):=by
     have:=HF.out
     rw [if_neg (by simp [hn])] at this
     exact this
    clear hn
    go_wp2
    exact ⟨⟨i+1,M,by go_num,by omega,HQ.out,HO.out.alloc _,HB.out.alloc HB.out.size _⟩,by simp [intOf];omega⟩
  ·have hil:i=L.length:=by omega
   have HQ:Hid (M=R):=by
    show _=_
    rw [hil,List.drop_length] at hf
    simpa [itemsL] using hf
   clear hf hil hown hb
   go_wp2
   refine bodyPost_ret (results_tmp (t:=4) rfl _ _ _) rfl ⟨u5,rfl,by rw [<-HQ.out];exact HO.out,HB.out⟩
open Go.RowKit
set_option linter.unusedVariables false
def ItAt (w:World) (p:Addr) (x:It):Prop:=w.cell? p=some (.int .i64 (x.k:Int))/\w.cell? ⟨p.block,p.off+1,none⟩=some (.int .i64 x.v.major)/\w.cell? ⟨p.block,p.off+2,none⟩=some (.int .i64 x.v.minor)/\w.cell? ⟨p.block,p.off+3,none⟩=some (.int .i64 x.v.patch)/\w.cell? ⟨p.block,p.off+4,none⟩=some (.string ⟨x.v.pre.toArray⟩)/\w.cell? ⟨p.block,p.off+5,none⟩=some (.string ⟨x.v.build.toArray⟩)
theorem ItAt.grow {w w':World} {p:Addr} {x:It} (h:ItAt w p x) (hg:w.grownBy w' none):ItAt w' p x:=by
 obtain ⟨h0,h1,h2,h3,h4,h5⟩:=h
 exact ⟨hg.cell h0 (by simp),hg.cell h1 (by simp),hg.cell h2 (by simp),hg.cell h3 (by simp),hg.cell h4 (by simp),hg.cell h5 (by simp)⟩
def ItS (w:World) (v:Value) (M:List It):Prop:=(v=.slice none 0 0/\M=[])\/∃a cap,v=.slice (some a) M.length cap/\M.length<=cap/\∀i (hi:i < M.length),ItAt w (a.add (i * 6)) M[i]
theorem it_get (l:List It):∀(i:Nat) (hi:i < l.length) (k:Nat) (u:Value),(itC l[i])[k]?=some u->(l.flatMap itC)[i * 6+k]?=some u:=by
 induction l with
 | nil=>intro i hi;simp at hi
 | cons t l ih =>
  intro i hi k u h
  rw [List.flatMap_cons]
  have hl:(itC t).length=6:=rfl
  cases i with
  | zero =>
   simp only [List.getElem_cons_zero] at h
   have hk:k < (itC t).length:=(List.getElem?_eq_some_iff.1 h).1
   rw [Nat.zero_mul,Nat.zero_add,List.getElem?_append_left hk]
   exact h
  | succ i =>
   simp only [List.getElem_cons_succ] at h
   rw [List.getElem?_append_right (by rw [hl];omega),hl,show (i+1) * 6+k - 6=i * 6+k by omega]
   exact ih i (by simpa using hi) k u h
theorem its_own {w:World} {base:Nat} {v:Value} {L:List It} (h:w.ownsRow base 41 6 v L.length (L.flatMap itC)):ItS w v L:=by
 rcases h.2 with ⟨h1,h2⟩ | ⟨g,cap,cur,hv,hb,hc,h3,h4,h5,h6⟩
 ·exact Or.inl ⟨h1,List.length_eq_zero_iff.1 h2⟩
 ·refine Or.inr ⟨⟨g,0,none⟩,cap,hv,h3,fun i hi=>?_⟩
  have h':=h
  rw [hv] at h'
  have key:∀k u,0 < k->(itC L[i])[k]?=some u->w.cell? ⟨((⟨g,0,none⟩:Addr).add (i * 6)).block,((⟨g,0,none⟩:Addr).add (i * 6)).off+k,none⟩=some u:=fun k u hk hu=>by
   have:=h'.cells (g:=g) rfl (i * 6+k) u (it_get L i hi k u hu)
   rw [hadd_off _ _ k hk] at this
   exact this
  have k0:=h'.cells (g:=g) rfl (i * 6+0) _ (it_get L i hi 0 _ rfl)
  exact ⟨by simpa using k0,key 1 _ (by omega) rfl,key 2 _ (by omega) rfl,key 3 _ (by omega) rfl,key 4 _ (by omega) rfl,key 5 _ (by omega) rfl⟩
def findM (wv:V):List It->Int
 | []=>-1
 | x :: r=>if verC (cutV x.v) wv=0 then (x.k:Int) else findM wv r
theorem find_items (name v:ByteArray) (h:okV v=true):∀(L:List Re) (k:Nat),findM (cutV (verO v)) (itemsL name L k)=findI name v L k
 | [],k=>rfl
 | x :: r,k=>by
  have ih:=find_items name v h r (k+1)
  unfold itemsL findI hitB togB
  rw [h]
  by_cases h1:x.nm=name
  ·by_cases h2:okV x.ve=true
   ·rw [if_pos (by simp [h1,h2])]
    unfold findM
    by_cases h3:verC (cutV (verO x.ve)) (cutV (verO v))=0
    ·rw [if_pos h3,if_pos (by simp [h1,h2,h3])]
    ·rw [if_neg h3,if_neg (by simp [h3])]
     exact ih
   ·rw [if_neg (by simp [h2]),if_neg (by simp [h2])]
    exact ih
  ·rw [if_neg (by simp [h1]),if_neg (by simp [h1])]
   exact ih
theorem find_none (name v:ByteArray) (h:okV v=false):∀(L:List Re) (k:Nat),findI name v L k=-1
 | [],k=>rfl
 | x :: r,k=>by
  unfold findI hitB togB
  rw [if_neg (by simp [h])]
  exact find_none name v h r (k+1)
theorem items_short (name:ByteArray):∀(L:List Re) (k:Nat),∀x ∈ itemsL name L k,x.v.pre.length<=100/\x.k < k+L.length
 | [],k,x,hx=>by simp [itemsL] at hx
 | y :: r,k,x,hx=>by
  have ih:=items_short name r (k+1)
  unfold itemsL at hx
  split at hx
  ·rcases List.mem_cons.1 hx with rfl | hx
   ·exact ⟨pre_100 y.ve,by simp⟩
   ·have:=ih x hx
    exact ⟨this.1,by have:=this.2;simp only [List.length_cons];omega⟩
  ·have:=ih x hx
   exact ⟨this.1,by have:=this.2;simp only [List.length_cons];omega⟩
theorem cItems (sl:Value) (L:List Re) (name:ByteArray) (w:World) (h:ReS w sl L) (hL:L.length<=1048576) (hV:∀x ∈ L,x.ve.size < 2 ^ 62) :
  Calls Tryd.prog 10 #[sl,.string name] w (ItemsPost (itemsL name L 0) w):=by
 rcases h with ⟨rfl,rfl⟩ | ⟨a,cap,rfl,h2,h3⟩
 ·go_enter Tryd.func10,Tryd.ntmps10
  go_wp2
  go_loopw [5,13] (fun vm vi wr=>vi=.int .i64 0/\vm=.slice none 0 0/\Below w.heap.size w wr) (fun _ vi _=>0)
  case atStart=>exact ⟨rfl,rfl,Below.refl _ _⟩
  case round =>
   obtain ⟨rfl,rfl,hb⟩:=hrel
   have HB:Hid (Below w.heap.size w wr):=hb
   clear hb
   go_wp2
   refine bodyPost_ret (results_tmp (t:=4) rfl _ _ _) rfl ⟨_,rfl,World.ownsRow_nil _ _ _ _,HB.out⟩
 ·exact items_at a cap L name w hL h2 hV h3
end Go.Proofs.YtaeonidcngjeiaaDoor
