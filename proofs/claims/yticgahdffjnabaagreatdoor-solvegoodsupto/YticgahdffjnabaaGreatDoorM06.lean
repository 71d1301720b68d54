import Derived.Test.YticgahdffjnabaaGreatDoorM05
import Derived.Test.YticgahdffjnabaaGreatDoorM04
import Derived.Test.YticgahdffjnabaaGreatDoorM02
import Derived.Deep.RegionHeld3
import Derived.Shelf.Strings.Prefix
import Derived.Test.YticgahdffjnabaaGreatDoorProg
set_option linter.unusedVariables false
set_option maxHeartbeats 1600000
namespace Go.Proofs.YticgahdffjnabaaGreatDoor
open Go.RowKit
theorem numT_of {a:ByteArray} (e:Bool) (d:Bool) (he:a.toList.isEmpty=e) (hd:a.data.toList.all isD=d):numT a.data.toList=(!e && d):=by
 unfold numT;rw [hd];rw [Lib.toList_data] at he;rw [he]
theorem rorderPart_any (a b:ByteArray) (w:World) (ha:a.size < 2 ^ 62) (hb:b.size < 2 ^ 62) :
  Calls Tryz.prog 78 #[.string a,.string b] w fun e w'=>e=.returned (.int .i64 (partC a.data.toList b.data.toList))/\w'=w:=by
 obtain ⟨R,hR⟩:∃R,R=partC a.data.toList b.data.toList:=⟨_,rfl⟩;have HR:Hd (R=partC a.data.toList b.data.toList):=hR;rw [<-hR];clear hR;obtain ⟨da,hda⟩:∃d,a.data.toList.all isD=d:=⟨_,rfl⟩;obtain ⟨db,hdb⟩:∃d,b.data.toList.all isD=d:=⟨_,rfl⟩;have DA:Hd (∀w,Calls Tryz.prog 105 #[.string a] w fun e w'=>e=.returned (.bool da)/\w'=w):=fun w=>by rw [<-hda];exact rdigits_any a w ha
 have DB:Hd (∀w,Calls Tryz.prog 105 #[.string b] w fun e w'=>e=.returned (.bool db)/\w'=w):=fun w=>by rw [<-hdb];exact rdigits_any b w hb
 obtain ⟨T,hT⟩:∃T,T=Lib.compareBytes a.data.toList b.data.toList:=⟨_,rfl⟩;have OT:Hd (∀w,Calls Tryz.prog 106 #[.string a,.string b] w fun e w'=>e=.returned (.int .i64 T)/\w'=w):=fun w=>by rw [hT];exact rorderText_any a b w
 obtain ⟨X,hX⟩:∃X:ByteArray,X=⟨(bareR a.data.toList).toArray⟩:=⟨_,rfl⟩;obtain ⟨Y,hY⟩:∃Y:ByteArray,Y=⟨(bareR b.data.toList).toArray⟩:=⟨_,rfl⟩;have BA:Hd (∀w,Calls Tryz.prog 107 #[.string a] w fun e w'=>e=.returned (.string X)/\w'=w):=fun w=>by rw [hX];exact rbare_any a w ha
 have BB:Hd (∀w,Calls Tryz.prog 107 #[.string b] w fun e w'=>e=.returned (.string Y)/\w'=w):=fun w=>by rw [hY];exact rbare_any b w hb
 have OX:Hd (∀w,Calls Tryz.prog 106 #[.string X,.string Y] w fun e w'=>e=.returned (.int .i64 (Lib.compareBytes X.data.toList Y.data.toList))/\w'=w):=fun w=>rorderText_any X Y w
 have OL:Hd (∀w,Calls Tryz.prog 59 #[.int .i64 X.size,.int .i64 Y.size] w fun e w'=>e=.returned (.int .i64 (Lib.compareInt X.size Y.size))/\w'=w):=fun w=>rorder_any _ _ w
 have HT:Hd (T=Lib.compareBytes a.data.toList b.data.toList):=hT;have HXY:Hd (X.data.toList=bareR a.data.toList/\Y.data.toList=bareR b.data.toList/\(X.size:Int)=(bareR a.data.toList).length/\(Y.size:Int)=(bareR b.data.toList).length):=by
  rw [hX,hY];refine ⟨rfl,rfl,?_,?_⟩
  ·show (((bareR a.data.toList).toArray.size:Nat):Int)=_;simp
  ·show (((bareR b.data.toList).toArray.size:Nat):Int)=_;simp
 have HDA:Hd (a.data.toList.all isD=da/\b.data.toList.all isD=db):=⟨hda,hdb⟩;clear hda hdb hT hX hY ha hb;have key:∀ea eb,a.toList.isEmpty=ea->b.toList.isEmpty=eb->Hd (numT a.data.toList=(!ea && da)/\numT b.data.toList=(!eb && db)):=fun ea eb h1 h2=>⟨numT_of ea da h1 HDA.o.1,numT_of eb db h2 HDA.o.2⟩
 cases hea:a.toList.isEmpty <;> cases heb:b.toList.isEmpty <;> cases da <;> cases db
 all_goals
  have HK:=key _ _ hea heb;clear key
  first
  | (have HZ:Hd (R=-1):=by show R=-1;rw [HR.o];exact partC_nw HK.o.1 HK.o.2
     go_enter Tryz.func78,Tryz.ntmps78;go_wp2_with (first | (go_at_call_of 105 a;refine (DA.o _).mono ?_;rintro e w' ⟨rfl,rfl⟩) | (go_at_call_of 105 b;refine (DB.o _).mono ?_;rintro e w' ⟨rfl,rfl⟩));go_ret;exact ⟨ret_int HZ.o.symm,rfl⟩)
  | (have HZ:Hd (R=1):=by show R=1;rw [HR.o];exact partC_wn HK.o.1 HK.o.2
     go_enter Tryz.func78,Tryz.ntmps78;go_wp2_with (first | (go_at_call_of 105 a;refine (DA.o _).mono ?_;rintro e w' ⟨rfl,rfl⟩) | (go_at_call_of 105 b;refine (DB.o _).mono ?_;rintro e w' ⟨rfl,rfl⟩));go_ret;exact ⟨ret_int HZ.o.symm,rfl⟩)
  | (have HZ:Hd (R=T):=by show R=T;rw [HR.o,HT.o];exact partC_ww HK.o.1 HK.o.2
     go_enter Tryz.func78,Tryz.ntmps78;go_wp2_with (first | (go_at_call_of 105 a;refine (DA.o _).mono ?_;rintro e w' ⟨rfl,rfl⟩) | (go_at_call_of 105 b;refine (DB.o _).mono ?_;rintro e w' ⟨rfl,rfl⟩) | (go_at_call 106;refine (OT.o _).mono ?_;rintro e w' ⟨rfl,rfl⟩));go_ret;exact ⟨ret_int HZ.o.symm,rfl⟩)
  | skip
 cases hl:((X.size:Int) == (Y.size:Int)) with
 | true =>
  have HZ:Hd (R=Lib.compareBytes X.data.toList Y.data.toList):=by
   show R=_;have h:=HXY.o;rw [HR.o,partC_nnR HK.o.1 HK.o.2,<-h.2.2.1,<-h.2.2.2,if_pos (eq_of_beq hl),h.1,h.2.1]
  go_enter Tryz.func78,Tryz.ntmps78;go_wp2_with (first | (go_at_call_of 105 a;refine (DA.o _).mono ?_;rintro e w' ⟨rfl,rfl⟩) | (go_at_call_of 105 b;refine (DB.o _).mono ?_;rintro e w' ⟨rfl,rfl⟩) | (go_at_call_of 107 a;refine (BA.o _).mono ?_;rintro e w' ⟨rfl,rfl⟩) | (go_at_call_of 107 b;refine (BB.o _).mono ?_;rintro e w' ⟨rfl,rfl⟩) | (go_at_call 106;refine (OX.o _).mono ?_;rintro e w' ⟨rfl,rfl⟩) | (go_at_call 59;refine (OL.o _).mono ?_;rintro e w' ⟨rfl,rfl⟩));go_ret;exact ⟨ret_int HZ.o.symm,rfl⟩
 | false =>
  have HZ:Hd (R=Lib.compareInt X.size Y.size):=by
   show R=_;have h:=HXY.o;rw [HR.o,partC_nnR HK.o.1 HK.o.2,<-h.2.2.1,<-h.2.2.2,if_neg (by simpa using hl)]
  go_enter Tryz.func78,Tryz.ntmps78;go_wp2_with (first | (go_at_call_of 105 a;refine (DA.o _).mono ?_;rintro e w' ⟨rfl,rfl⟩) | (go_at_call_of 105 b;refine (DB.o _).mono ?_;rintro e w' ⟨rfl,rfl⟩) | (go_at_call_of 107 a;refine (BA.o _).mono ?_;rintro e w' ⟨rfl,rfl⟩) | (go_at_call_of 107 b;refine (BB.o _).mono ?_;rintro e w' ⟨rfl,rfl⟩) | (go_at_call 106;refine (OX.o _).mono ?_;rintro e w' ⟨rfl,rfl⟩) | (go_at_call 59;refine (OL.o _).mono ?_;rintro e w' ⟨rfl,rfl⟩));go_ret;exact ⟨ret_int HZ.o.symm,rfl⟩
theorem rorderPre_any (a b:ByteArray) (w:World) (ha:a.size<=1048576) (hb:b.size<=1048576) :
  Calls Tryz.prog 60 #[.string a,.string b] w fun e w'=>e=.returned (.int .i64 (listC partC (splitD a.data.toList) (splitD b.data.toList)))/\Below w.heap.size w w':=by
 have SA:=fun w=>split_slice a w ha
 have SB:=fun w=>split_slice b w hb
 have PA:∀p ∈ splitD a.data.toList,p.length < 2 ^ 62:=fun p hp=>by have:=part_len _ p hp;simp at this;omega
 have PB:∀p ∈ splitD b.data.toList,p.length < 2 ^ 62:=fun p hp=>by have:=part_len _ p hp;simp at this;omega
 have LA:(splitD a.data.toList).length < 2 ^ 62:=by have:=split_len a.data.toList;simp at this;omega
 generalize splitD a.data.toList=L at SA PA LA ⊢;generalize splitD b.data.toList=M at SB PB ⊢;obtain ⟨R,hR⟩:∃R,R=listC partC L M:=⟨_,rfl⟩;rw [<-hR];have HR:Hd (R=listC partC L M):=hR;have OP:Hd (∀i,(h1:i < L.length)->(h2:i < M.length)->∀w,Calls Tryz.prog 78 #[.string ⟨L[i].toArray⟩,.string ⟨M[i].toArray⟩] w fun e w'=>e=.returned (.int .i64 (partC L[i] M[i]))/\w'=w):=by
  intro i h1 h2 w;have:=rorderPart_any ⟨L[i].toArray⟩ ⟨M[i].toArray⟩ w (by have:=PA L[i] (List.getElem_mem h1);show L[i].toArray.size < _;simpa using this) (by have:=PB M[i] (List.getElem_mem h2);show M[i].toArray.size < _;simpa using this);exact this
 have OR:Hd (∀w,Calls Tryz.prog 59 #[.int .i64 L.length,.int .i64 M.length] w fun e w'=>e=.returned (.int .i64 (Lib.compareInt L.length M.length))/\w'=w):=fun w=>rorder_any _ _ w
 have HLM:Hd (True):=trivial;clear hR PA PB ha hb;go_enter Tryz.func60,Tryz.ntmps60;go_wp2_with (go_at_call 77;refine (SA _).mono ?_);rintro e w1 ⟨g,cap,rfl,hg1,hg2,hc,hb1⟩;have HC:Hd (∀j,(hj:j < L.length)->w1.cell? ⟨g,j,none⟩=some (.string ⟨L[j].toArray⟩)):=hc;clear hc SA;go_wp2_with (go_at_call 77;refine (SB _).mono ?_);rintro e w2 ⟨g',cap',rfl,hg1',hg2',hc,hb2⟩;have HC':Hd (∀j,(hj:j < M.length)->w2.cell? ⟨g',j,none⟩=some (.string ⟨M[j].toArray⟩)):=hc;have HC2:Hd (∀j,(hj:j < L.length)->w2.cell? ⟨g,j,none⟩=some (.string ⟨L[j].toArray⟩)):=fun j hj=>(hb2.cell (p:=⟨g,j,none⟩) hg2).trans (HC.o j hj)
 have HB:Hd (Below w.heap.size w w2):=hb1.trans (hb2.mono hb1.size);clear hc HC hb1 hb2 hg1 hg2 hg1' hg2' SB;go_wp2;go_loopw [7] (fun vi wr=>∃k:Nat,k<=L.length/\k<=M.length/\vi=.int .i64 k/\R=listC partC (L.drop k) (M.drop k)/\wr.heap=w2.heap/\Below w.heap.size w wr) (fun vi _=>L.length - (intOf vi).toNat)
 case atStart=>exact ⟨0,Nat.zero_le _,Nat.zero_le _,rfl,HR.o,rfl,HB.o⟩
 case round =>
  obtain ⟨k,hk1,hk2,rfl,hr,hh,hbr⟩:=hrel;have HH:Hd (wr.heap=w2.heap):=hh;have HBR:Hd (Below w.heap.size w wr):=hbr;clear hh hbr;have HRK:Hd (R=listC partC (L.drop k) (M.drop k)):=hr;clear hr
  by_cases h1:k < L.length
  ·by_cases h2:k < M.length
   ·have c1:=HC2.o k h1;have c2:=HC'.o k h2;obtain ⟨X,hX⟩:∃X:ByteArray,X=⟨L[k].toArray⟩:=⟨_,rfl⟩;obtain ⟨Y,hY⟩:∃Y:ByteArray,Y=⟨M[k].toArray⟩:=⟨_,rfl⟩;obtain ⟨O,hO⟩:∃O,O=partC L[k] M[k]:=⟨_,rfl⟩;have C0:Hd (∀w,Calls Tryz.prog 78 #[.string X,.string Y] w fun e w'=>e=.returned (.int .i64 O)/\w'=w):=fun w=>by rw [hX,hY,hO];exact OP.o k h1 h2 w
    have HS:Hd (R=if O=0 then listC partC (L.drop (k+1)) (M.drop (k+1)) else O):=by
     show R=_;rw [HRK.o,List.drop_eq_getElem_cons h1,List.drop_eq_getElem_cons h2,hO];rfl
    have c1:wr.cell? ⟨g,k,none⟩=some (.string X):=by rw [hX];exact (World.cell?_of_block (w':=wr) (a:=⟨g,k,none⟩) (by rw [HH.o])).trans (HC2.o k h1)
    have c2:wr.cell? ⟨g',k,none⟩=some (.string Y):=by rw [hY];exact (World.cell?_of_block (w':=wr) (a:=⟨g',k,none⟩) (by rw [HH.o])).trans (HC'.o k h2)
    have i1:(k:Int) < (L.length:Int):=by omega
    have i2:(k:Int) < (M.length:Int):=by omega
    clear hX hY hO;go_wp2;go_quiet (first | (go_at_call 78;exact Calls.quiet_of_same (C0.o _)))
    cases hz:(O == 0) with
    | true =>
     have HZ:Hd (R=listC partC (L.drop (k+1)) (M.drop (k+1))):=by show R=_;rw [HS.o,if_pos (by simpa using hz)]
     go_wp2;go_roundw
     case rel=>exact ⟨k+1,by omega,by omega,by go_num,HZ.o,HH.o,below_drewN HBR.o _⟩
     case measure=>simp [intOf];omega
    | false =>
     have HZ:Hd (R=O):=by show R=O;rw [HS.o,if_neg (by simpa using hz)]
     go_wp2;go_ret;exact ⟨ret_int HZ.o.symm,below_drewN HBR.o _⟩
   ·have HZ:Hd (R=Lib.compareInt L.length M.length):=by
     show R=_;rw [HR.o];exact listC_end L M k (by omega) hk1 hk2 (by rw [<-HR.o];exact HRK.o)
    clear hk1 hk2;go_wp2_with (first | (go_at_call 59;refine (OR.o _).mono ?_;rintro e w' ⟨rfl,rfl⟩));go_ret;exact ⟨ret_int HZ.o.symm,HBR.o⟩
  ·have HZ:Hd (R=Lib.compareInt L.length M.length):=by
    show R=_;rw [HR.o];exact listC_end L M k (by omega) hk1 hk2 (by rw [<-HR.o];exact HRK.o)
   clear hk1 hk2;go_wp2_with (first | (go_at_call 59;refine (OR.o _).mono ?_;rintro e w' ⟨rfl,rfl⟩));go_ret;exact ⟨ret_int HZ.o.symm,HBR.o⟩
open Go.RowKit
theorem rcompare_any (a1 a2 a3 b1 b2 b3:Int) (a4 a5 b4 b5:ByteArray) (w:World) (hs:a4.size<=1048576) (hs':b4.size<=1048576) :
  Calls Tryz.prog 42 #[.agg #[.int .i64 a1,.int .i64 a2,.int .i64 a3,.string a4,.string a5],.agg #[.int .i64 b1,.int .i64 b2,.int .i64 b3,.string b4,.string b5]] w fun e w'=>e=.returned (.int .i64 (verC ⟨a1,a2,a3,a4.data.toList⟩ ⟨b1,b2,b3,b4.data.toList⟩))/\Below w.heap.size w w':=by
 obtain ⟨R,hR⟩:∃R,R=verC ⟨a1,a2,a3,a4.data.toList⟩ ⟨b1,b2,b3,b4.data.toList⟩:=⟨_,rfl⟩;have HR:Hd (R=verC ⟨a1,a2,a3,a4.data.toList⟩ ⟨b1,b2,b3,b4.data.toList⟩):=hR;obtain ⟨p,hp⟩:∃p,p=listC partC (splitD a4.data.toList) (splitD b4.data.toList):=⟨_,rfl⟩;have HP:Hd (p=listC partC (splitD a4.data.toList) (splitD b4.data.toList)):=hp;have OP:Hd (∀w,Calls Tryz.prog 60 #[.string a4,.string b4] w fun e w'=>e=.returned (.int .i64 p)/\Below w.heap.size w w'):=fun w=>by rw [hp];exact rorderPre_any a4 b4 w hs hs'
 have B2:Hd (∀o1 o2,Below w.heap.size w ((w.alloc o1).alloc o2)):=fun o1 o2=>gb_below (gb_alloc (gb_alloc (gb_refl w none) _) _)
 rw [<-hR];clear hR hp hs hs'
 cases h1:(a1 == b1) with
 | false =>
  have HZ:Hd (R=Lib.compareInt a1 b1):=by
   show R=_;rw [HR.o,verC_eq];simp only;rw [if_neg (fun e=>(by simpa using h1:¬ a1=b1) (cmp_zero.1 e))]
  go_enter Tryz.func42,Tryz.ntmps42;go_wp2_with (first | (go_at_call 59;refine (rorder_any _ _ _).mono ?_;rintro e w' ⟨rfl,rfl⟩) | (go_at_call 60;refine (OP.o _).mono ?_;rintro e w3 ⟨rfl,hb3⟩));go_ret;exact ⟨ret_int HZ.o.symm,B2.o _ _⟩
 | true =>
  cases h2:(a2 == b2) with
  | false =>
   have HZ:Hd (R=Lib.compareInt a2 b2):=by
    show R=_;rw [HR.o,verC_eq];simp only;rw [if_pos (cmp_zero.2 (eq_of_beq h1)),if_neg (fun e=>(by simpa using h2:¬ a2=b2) (cmp_zero.1 e))]
   go_enter Tryz.func42,Tryz.ntmps42;go_wp2_with (first | (go_at_call 59;refine (rorder_any _ _ _).mono ?_;rintro e w' ⟨rfl,rfl⟩) | (go_at_call 60;refine (OP.o _).mono ?_;rintro e w3 ⟨rfl,hb3⟩));go_ret;exact ⟨ret_int HZ.o.symm,B2.o _ _⟩
  | true =>
   cases h3:(a3 == b3) with
   | false =>
    have HZ:Hd (R=Lib.compareInt a3 b3):=by
     show R=_;rw [HR.o,verC_eq];simp only;rw [if_pos (cmp_zero.2 (eq_of_beq h1)),if_pos (cmp_zero.2 (eq_of_beq h2)),if_neg (fun e=>(by simpa using h3:¬ a3=b3) (cmp_zero.1 e))]
    go_enter Tryz.func42,Tryz.ntmps42;go_wp2_with (first | (go_at_call 59;refine (rorder_any _ _ _).mono ?_;rintro e w' ⟨rfl,rfl⟩) | (go_at_call 60;refine (OP.o _).mono ?_;rintro e w3 ⟨rfl,hb3⟩));go_ret;exact ⟨ret_int HZ.o.symm,B2.o _ _⟩
   | true =>
    have HQ:Hd (R=preC a4.data.toList b4.data.toList):=by
     show R=_;rw [HR.o,verC_eq];simp only;rw [if_pos (cmp_zero.2 (eq_of_beq h1)),if_pos (cmp_zero.2 (eq_of_beq h2)),if_pos (cmp_zero.2 (eq_of_beq h3))]
    cases he:(a4.toList == b4.toList) with
    | true =>
     have HZ:Hd (R=0):=by
      show R=0;have e:a4.data.toList=b4.data.toList:=by rw [<-Lib.toList_data,<-Lib.toList_data];exact eq_of_beq he
      rw [HQ.o,e];exact good_pre.self _
     go_enter Tryz.func42,Tryz.ntmps42;go_wp2_with (first | (go_at_call 59;refine (rorder_any _ _ _).mono ?_;rintro e w' ⟨rfl,rfl⟩) | (go_at_call 60;refine (OP.o _).mono ?_;rintro e w3 ⟨rfl,hb3⟩));go_ret;exact ⟨ret_int HZ.o.symm,B2.o _ _⟩
    | false =>
     by_cases ha:a4.size=0
     ·have c1:=emp_t ha;have HZ:Hd (R=1):=by
       show R=1;have e:a4.data.toList=[]:=List.length_eq_zero_iff.1 (by simpa using ha);have hb:b4.data.toList ≠ []:=by
        intro hb;rw [Lib.toList_data,Lib.toList_data,e,hb] at he;exact absurd he (by decide)
       rw [HQ.o,pre_empty _ _ (Or.inl e),e];exact cmp_gt (by have:=List.length_pos_iff.2 hb;simp only [List.length_nil];omega)
      clear ha;go_enter Tryz.func42,Tryz.ntmps42;go_wp2_with (first | (go_at_call 59;refine (rorder_any _ _ _).mono ?_;rintro e w' ⟨rfl,rfl⟩) | (go_at_call 60;refine (OP.o _).mono ?_;rintro e w3 ⟨rfl,hb3⟩));go_ret;exact ⟨ret_int HZ.o.symm,B2.o _ _⟩
     ·have c1:=emp_f ha
      by_cases hb:b4.size=0
      ·have c2:=emp_t hb;have HZ:Hd (R=-1):=by
        show R=-1;have e:b4.data.toList=[]:=List.length_eq_zero_iff.1 (by simpa using hb);have ha':a4.data.toList ≠ []:=fun h=>ha (by show a4.data.size=0;rw [<-Array.length_toList,h];rfl)
        rw [HQ.o,pre_empty _ _ (Or.inr e),e];exact cmp_lt (by have:=List.length_pos_iff.2 ha';simp only [List.length_nil];omega)
       clear ha hb;go_enter Tryz.func42,Tryz.ntmps42;go_wp2_with (first | (go_at_call 59;refine (rorder_any _ _ _).mono ?_;rintro e w' ⟨rfl,rfl⟩) | (go_at_call 60;refine (OP.o _).mono ?_;rintro e w3 ⟨rfl,hb3⟩));go_ret;exact ⟨ret_int HZ.o.symm,B2.o _ _⟩
      ·have c2:=emp_f hb;have HZ:Hd (R=p):=by
        show R=p;rw [HQ.o,HP.o];exact pre_full _ _ (fun h=>ha (by show a4.data.size=0;rw [<-Array.length_toList,h];rfl)) (fun h=>hb (by show b4.data.size=0;rw [<-Array.length_toList,h];rfl))
       clear ha hb;go_enter Tryz.func42,Tryz.ntmps42;go_wp2_with (first | (go_at_call 59;refine (rorder_any _ _ _).mono ?_;rintro e w' ⟨rfl,rfl⟩) | (go_at_call 60;refine (OP.o _).mono ?_;rintro e w3 ⟨rfl,hb3⟩));go_ret;exact ⟨ret_int HZ.o.symm,(B2.o _ _).trans (hb3.mono (B2.o _ _).size)⟩
open Go.RowKit
def cFrom (s:Sp):V:=⟨s.f1,s.f2,s.f3,s.f4.data.toList⟩
def cTo (s:Sp):V:=⟨s.t1,s.t2,s.t3,s.t4.data.toList⟩
def hasS (s:Sp) (v:V):Bool:=decide (verC (cFrom s) v<=0) && (s.o || decide (verC v (cTo s) < 0))
def holdsL (L:List Sp) (v:V):Bool:=L.any fun s=>hasS s v
end Go.Proofs.YticgahdffjnabaaGreatDoor
namespace Go.Proofs
open Go.Shelf
def Tryz.lays99_ren:Go.Shelf.Ren:=⟨fun | 99=>110 | 206=>123 | n=>n,fun | 22=>75 | 23=>196 | 27=>121 | 28=>24 | 31=>148 | 34=>30 | 37=>155 | 40=>245 | 41=>88 | 42=>147 | 43=>120 | 46=>206 | 47=>205 | 51=>224 | 52=>223 | 53=>34 | 54=>225 | 55=>226 | 59=>180 | 60=>181 | 63=>230 | 64=>238 | 68=>149 | 69=>157 | 80=>246 | 81=>115 | 104=>74 | 105=>228 | 106=>229 | 111=>73 | 112=>145 | 114=>227 | 115=>208 | 116=>209 | 117=>210 | 118=>211 | 119=>241 | 122=>207 | 123=>212 | 124=>213 | 127=>198 | 131=>221 | 137=>242 | 138=>243 | 139=>244 | 146=>236 | 151=>237 | 164=>265 | 182=>216 | 183=>217 | 218=>231 | 219=>232 | 220=>233 | 222=>136 | 228=>239 | 229=>54 | 238=>247 | 239=>248 | 240=>249 | 241=>250 | 242=>251 | 243=>252 | 244=>253 | 245=>254 | 246=>255 | 247=>256 | 248=>257 | 249=>258 | n=>n,fun | 1=>0 | 3=>1 | 4=>2 | n=>n⟩
set_option maxRecDepth 100000 in
theorem Tryz.lays99:Go.Proofs.Lays.n99 Tryz.prog Tryz.lays99_ren:={
 mixed:=by kernel_rfl
 f99:=Tryz.func110.trans (congrArg some (by kernel_rfl))
 f206:=Tryz.func123.trans (congrArg some (by kernel_rfl))
 t3:=Tryz.underlying3
 a3:=Tryz.isAgg3
 z3:=Tryz.sizeOf3
 v3:=Tryz.zeroValue3
 t4:=Tryz.underlying4
 a4:=Tryz.isAgg4
 z4:=Tryz.sizeOf4
 v4:=Tryz.zeroValue4
 t9:=Tryz.underlying9
 a9:=Tryz.isAgg9
 z9:=Tryz.sizeOf9
 v9:=Tryz.zeroValue9 }
end Go.Proofs
namespace Go.Proofs.YticgahdffjnabaaGreatDoor
open Go.RowKit
theorem isPartByte_any (c:UInt8) (w:World):Calls Tryz.prog 111 #[.int .u8 (c.toNat:Int)] w fun e w'=>e=.returned (.bool (isP c))/\w'=w:=by
 go_enter Tryz.func111,Tryz.ntmps111;go_wp2_with (go_at_call 88;refine (isDigit_any _ _).mono ?_;rintro e w' ⟨rfl,rfl⟩)
 all_goals go_ret
 all_goals (refine ⟨ret_bool ?_,rfl⟩;rw [Bool.eq_iff_iff];unfold isP;simp_all;try omega)
def RS (b:Nat) (s:ByteArray) (i:Nat) (w:World):Prop:=∃t,w.heap[b]?=some (.cells #[.string s,.int .i64 (i:Int)] t (0,0))
theorem RS.c0 {b:Nat} {s:ByteArray} {i:Nat} {w:World} (h:RS b s i w):w.cell? ⟨b,0,none⟩=some (.string s):=by obtain ⟨t,h⟩:=h;rw [cOH h];rfl
theorem RS.c1 {b:Nat} {s:ByteArray} {i:Nat} {w:World} (h:RS b s i w):w.cell? ⟨b,1,none⟩=some (.int .i64 (i:Int)):=by obtain ⟨t,h⟩:=h;rw [cOH h];rfl
theorem RS.f1 {b:Nat} {s:ByteArray} {i:Nat} {w:World} (h:RS b s i w):w.frozen? ⟨b,1,none⟩=false:=by obtain ⟨t,h⟩:=h;exact Lib.frozen_of_heap h 1
theorem RS.drew {b:Nat} {s:ByteArray} {i:Nat} {w:World} (h:RS b s i w) (n:Nat):RS b s i (w.drewN n):=h
theorem RS.set {b:Nat} {s:ByteArray} {i:Nat} {w:World} (h:RS b s i w) (j:Nat):RS b s j (w.setCell ⟨b,1,none⟩ (.int .i64 (j:Int))):=by
 obtain ⟨t,h⟩:=h;exact ⟨t,by simp [World.setCell,Array.getElem?_modify,h]⟩
theorem prefix_any (s p:ByteArray) (w:World) :
  Calls Tryz.prog 110 #[.string s,.string p] w fun e w'=>e=.returned (.bool (Lib.hasPrefix s.data.toList p.data.toList))/\w'=w:=Any.strings_HasPrefix Tryz.lays99 s p w
theorem next_any (b:Nat) (s t:ByteArray) (i:Nat) (w:World) (hi:i<=s.size) (h:RS b s i w) :
  Calls Tryz.prog 86 #[.pointer (some ⟨b,0,none⟩),.string t] w fun e w'=>e=.returned (.bool (Lib.hasPrefix (s.data.toList.drop i) t.data.toList))/\∃n,w'=w.drewN n:=by
 have h0:=h.c0;have h1:=h.c1;obtain ⟨X,hX⟩:∃X:ByteArray,X=⟨(s.data.toList.drop i).toArray⟩:=⟨_,rfl⟩;have sl:∀wx,(Instr.slice 9 (.string s) (some (.int .i64 (i:Int))) none none).run Tryz.prog wx=.ok (.string X) wx:=fun wx=>by rw [hX];exact run_suf s i hi wx
 obtain ⟨p,hp⟩:=nm (Lib.hasPrefix (s.data.toList.drop i) t.data.toList);have CP:Hd (∀w,Calls Tryz.prog 110 #[.string X,.string t] w fun e w'=>e=.returned (.bool p)/\w'=w):=fun w=>by
  rw [<-hp];have:=prefix_any X t w;rw [hX] at this ⊢;exact this
 rw [hp];clear h hX hp hi;go_enter Tryz.func86,Tryz.ntmps86;go_wp2;go_quiet (first | (go_at_call 110;exact Calls.quiet_of_same (CP.o _)));go_wp2;go_ret;exact ⟨rfl,_,rfl⟩
theorem take_any (b:Nat) (s t:ByteArray) (i:Nat) (w:World) (hi:i<=s.size) (h:RS b s i w) (hs:s.size < 2 ^ 62) (ht:t.size < 2 ^ 62) :
  Calls Tryz.prog 66 #[.pointer (some ⟨b,0,none⟩),.string t] w fun e w'=>e=.returned (.bool (Lib.hasPrefix (s.data.toList.drop i) t.data.toList))/\RS b s (if Lib.hasPrefix (s.data.toList.drop i) t.data.toList then i+t.size else i) w'/\w.grownBy w' (some b):=by
 obtain ⟨p,hp⟩:=nm (Lib.hasPrefix (s.data.toList.drop i) t.data.toList);have CN:Hd (Calls Tryz.prog 86 #[.pointer (some ⟨b,0,none⟩),.string t] w fun e w'=>e=.returned (.bool p)/\∃n,w'=w.drewN n):=by
  show Calls _ _ _ _ _;rw [<-hp];exact next_any b s t i w hi h
 rw [hp];have HR:Hd (RS b s i w):=h;have hw:IntKind.i64.wrap ((i:Int)+(t.size:Int))=((i+t.size:Nat):Int):=by rw [IntKind.wrap_i64];omega
 clear hp h hs ht hi
 cases p with
 | true =>
  go_enter Tryz.func66,Tryz.ntmps66;go_wp2_with (go_at_call 86;refine CN.o.mono ?_);rintro e w1 ⟨rfl,n,hn⟩;have HR1:Hd (RS b s i w1):=by show RS b s i w1;rw [hn];exact HR.o.drew n
  have HG1:Hd (w.grownBy w1 (some b)):=by show w.grownBy w1 (some b);rw [hn];exact gb_drew (gb_refl w _) n
  have d1:=HR1.o.c1;have df:=HR1.o.f1;clear hn;go_wp2;go_ret;exact ⟨rfl,HR1.o.set (i+t.size),gb_set HG1.o _ _⟩
 | false =>
  go_enter Tryz.func66,Tryz.ntmps66;go_wp2_with (go_at_call 86;refine CN.o.mono ?_);rintro e w1 ⟨rfl,n,hn⟩;have HR1:Hd (RS b s i w1):=by show RS b s i w1;rw [hn];exact HR.o.drew n
  have HG1:Hd (w.grownBy w1 (some b)):=by show w.grownBy w1 (some b);rw [hn];exact gb_drew (gb_refl w _) n
  clear hn;go_wp2;go_ret;exact ⟨rfl,HR1.o,HG1.o⟩
theorem ended_any (b:Nat) (s:ByteArray) (i:Nat) (w:World) (h:RS b s i w) :
  Calls Tryz.prog 51 #[.pointer (some ⟨b,0,none⟩)] w fun e w'=>e=.returned (.bool (decide (i=s.size)))/\∃n,w'=w.drewN n:=by
 have h0:=h.c0;have h1:=h.c1;clear h
 by_cases hc:i=s.size
 ·have hd:((i:Int) == (s.size:Int))=true:=by simp;omega
  have HD:Hd (decide (i=s.size)=true):=decide_eq_true hc;rw [HD.o];clear hc;go_enter Tryz.func51,Tryz.ntmps51;go_wp2;go_quiet (fail);go_wp2;go_ret;exact ⟨rfl,_,rfl⟩
 ·have hd:((i:Int) == (s.size:Int))=false:=by simp;omega
  have HD:Hd (decide (i=s.size)=false):=decide_eq_false hc;rw [HD.o];clear hc;go_enter Tryz.func51,Tryz.ntmps51;go_wp2;go_quiet (fail);go_wp2;go_ret;exact ⟨rfl,_,rfl⟩
theorem prefix_one (l:List UInt8) (i:Nat) (c:UInt8):Lib.hasPrefix (l.drop i) [c]=decide (l[i]?=some c):=by
 have e:l[i]?=(l.drop i)[0]?:=by rw [List.getElem?_drop];rfl
 rw [e]
 cases l.drop i with
 | nil=>rfl
 | cons x r =>
  show (c == x && true)=decide (some x=some c);rw [Bool.and_true]
  by_cases h:x=c
  ·subst h;rw [decide_eq_true rfl];exact beq_self_eq_true x
  ·rw [decide_eq_false (fun e=>h (Option.some.inj e))];exact beq_eq_false_iff_ne.2 (fun e=>h e.symm)
theorem take_yes (b:Nat) (s:ByteArray) (i:Nat) (c:UInt8) (w:World) (hc:s.data.toList[i]?=some c) (h:RS b s i w) (hs:s.size < 2 ^ 62) :
  Calls Tryz.prog 66 #[.pointer (some ⟨b,0,none⟩),.string ⟨#[c]⟩] w fun e w'=>e=.returned (.bool true)/\RS b s (i+1) w'/\w.grownBy w' (some b):=by
 have hlt:i < s.size:=by have:=(List.getElem?_eq_some_iff.1 hc).1;simpa using this
 have:=take_any b s ⟨#[c]⟩ i w (Nat.le_of_lt hlt) h hs (by show 1 < _;decide);rw [show (ByteArray.mk #[c]).data.toList=[c] from rfl,prefix_one,decide_eq_true hc] at this;exact this
theorem take_no (b:Nat) (s:ByteArray) (i:Nat) (c:UInt8) (w:World) (hi:i<=s.size) (hc:¬ s.data.toList[i]?=some c) (h:RS b s i w) (hs:s.size < 2 ^ 62) :
  Calls Tryz.prog 66 #[.pointer (some ⟨b,0,none⟩),.string ⟨#[c]⟩] w fun e w'=>e=.returned (.bool false)/\RS b s i w'/\w.grownBy w' (some b):=by
 have:=take_any b s ⟨#[c]⟩ i w hi h hs (by show 1 < _;decide);rw [show (ByteArray.mk #[c]).data.toList=[c] from rfl,prefix_one,decide_eq_false hc] at this;exact this
open Go.RowKit
def placeOf (b:Nat) (w:World):Nat:=match w.cell? ⟨b,1,none⟩ with | some (.int .i64 x)=>x.toNat | _=>0
theorem RS.place {b:Nat} {s:ByteArray} {i:Nat} {w:World} (h:RS b s i w):placeOf b w=i:=by unfold placeOf;rw [h.c1];simp
theorem run_digits (b:Nat) (s:ByteArray) (i:Nat) (w:World) (hi:i<=s.size) (h:RS b s i w) (hs:s.size < 2 ^ 62) :
  Calls Tryz.prog 87 #[.pointer (some ⟨b,0,none⟩),.func (.func 88) #[] #[]] w fun e w'=>e=.returned (.string ⟨(subT s.data.toList i (runN isD s.data.toList i)).toArray⟩)/\RS b s (i+runN isD s.data.toList i) w'/\w.grownBy w' (some b):=by
 have h0:=h.c0;have h1:=h.c1;have HR:Hd (RS b s i w):=h;obtain ⟨N,hN⟩:=nm (i+runN isD s.data.toList i);have HN:Hd (N<=s.size):=by
  show N<=s.size;have:=runN_le isD s.data.toList i (by simpa using hi);simp at this;omega
 have HA:Hd (∀j,i<=j->(hj:j < s.size)->j < N->isD s[j]=true):=by
  show ∀j,i<=j->(hj:j < s.size)->j < N->isD s[j]=true;intro j h1 hj h2;obtain ⟨g1,g2⟩:=runN_at isD s.data.toList i (j - i) (by omega);have e:i+(j - i)=j:=by omega
  simp only [e] at g2;exact g2
 have HS:Hd (∀hj:N < s.size,isD s[N]=false):=by
  show ∀hj:N < s.size,isD s[N]=false;intro hj;have:=runN_stop isD s.data.toList i (by rw [hN];simpa using hj);simp only [hN] at this;exact this
 have HT:Hd (runN isD s.data.toList i=N - i/\i<=N):=⟨by omega,by omega⟩;have HI:Hd (i<=s.size):=hi;rw [show runN isD s.data.toList i=N - i by omega];obtain ⟨X,hX⟩:∃X:List UInt8,X=subT s.data.toList i (N - i):=⟨_,rfl⟩;have hsl:∀wx,(Instr.slice 9 (.string s) (some (.int .i64 (i:Int))) (some (.int .i64 (N:Int))) none).run Tryz.prog wx=.ok (.string ⟨X.toArray⟩) wx:=fun wx=>by rw [hX];exact run_sub s i N (by omega) HN.o wx
 rw [<-hX,show i+(N - i)=N by omega];clear h hN hi hX;go_enter Tryz.func87,Tryz.ntmps87;go_wp2;go_loopw [] (fun wr=>∃j:Nat,i<=j/\j<=N/\RS b s j wr/\w.grownBy wr (some b)) (fun wr=>s.size - placeOf b wr)
 case atStart=>exact ⟨i,Nat.le_refl _,HT.o.2,HR.o,gb_refl _ _⟩
 case round =>
  obtain ⟨j,hij,hjn,hrs,hgb⟩:=hrel;have d0:=hrs.c0;have d1:=hrs.c1;have df:=hrs.f1;have HRS:Hd (RS b s j wr):=hrs;have HGB:Hd (w.grownBy wr (some b)):=hgb;have hns:=HN.o;clear hrs hgb h0 h1
  by_cases hlt:j < N
  ·have hjs:j < s.size:=by omega
   have hD:isD s[j]=true:=HA.o j hij hjs hlt;have HK:Hd (i<=j/\j < N):=⟨hij,hlt⟩;clear hlt hjn hns hij;have hlt2:(j:Int) < (s.size:Int):=by omega
   go_wp2;go_quiet (first | (go_at_call 88;exact Calls.quiet_of_same (isDigit_any _ _)));go_wp2;go_roundw
   case rel =>
    have:=HK.o;exact ⟨j+1,by omega,by omega,(HRS.o.drew _).set (j+1),gb_set (gb_drew HGB.o _) _ _⟩
   case measure =>
    have e1:=HRS.o.place;have e2:=((HRS.o.drew nq).set (j+1)).place;rw [e1];exact Nat.lt_of_le_of_lt (Nat.le_of_eq (congrArg (s.size - ·) e2)) (by omega)
  ·have hjN:j=N:=by omega
   subst hjN
   by_cases hjs:j < s.size
   ·have hD:isD s[j]=false:=HS.o hjs;have hlt2:(j:Int) < (s.size:Int):=by omega
    clear hlt hjn hns hij;go_wp2;go_quiet (first | (go_at_call 88;exact Calls.quiet_of_same (isDigit_any _ _)));go_wp2;obtain ⟨W,hW⟩:=nm (wr.drewN nq);have e0:W.cell? ⟨b,0,none⟩=some (.string s):=by rw [<-hW];exact d0
    have e1:W.cell? ⟨b,1,none⟩=some (.int .i64 (j:Int)):=by rw [<-hW];exact d1
    have HW:Hd (RS b s j W/\w.grownBy W (some b)):=by
     show RS b s j W/\w.grownBy W (some b);rw [<-hW];exact ⟨HRS.o.drew _,gb_drew HGB.o _⟩
    rw [hW];clear hW d0 d1 df HRS HGB;go_quiet (fail);go_wp2;go_ret;exact ⟨rfl,HW.o.1.drew _,gb_drew HW.o.2 _⟩
   ·have hd2:decide ((j:Int) < (s.size:Int))=false:=by simp;omega
    clear hlt hjn hns hij;go_wp2;go_quiet (fail);go_wp2;obtain ⟨W,hW⟩:=nm (wr.drewN nq);have e0:W.cell? ⟨b,0,none⟩=some (.string s):=by rw [<-hW];exact d0
    have e1:W.cell? ⟨b,1,none⟩=some (.int .i64 (j:Int)):=by rw [<-hW];exact d1
    have HW:Hd (RS b s j W/\w.grownBy W (some b)):=by
     show RS b s j W/\w.grownBy W (some b);rw [<-hW];exact ⟨HRS.o.drew _,gb_drew HGB.o _⟩
    rw [hW];clear hW d0 d1 df HRS HGB;go_quiet (fail);go_wp2;go_ret;exact ⟨rfl,HW.o.1.drew _,gb_drew HW.o.2 _⟩
theorem run_parts (b:Nat) (s:ByteArray) (i:Nat) (w:World) (hi:i<=s.size) (h:RS b s i w) (hs:s.size < 2 ^ 62) :
  Calls Tryz.prog 87 #[.pointer (some ⟨b,0,none⟩),.func (.func 111) #[] #[]] w fun e w'=>e=.returned (.string ⟨(subT s.data.toList i (runN isP s.data.toList i)).toArray⟩)/\RS b s (i+runN isP s.data.toList i) w'/\w.grownBy w' (some b):=by
 have h0:=h.c0;have h1:=h.c1;have HR:Hd (RS b s i w):=h;obtain ⟨N,hN⟩:=nm (i+runN isP s.data.toList i);have HN:Hd (N<=s.size):=by
  show N<=s.size;have:=runN_le isP s.data.toList i (by simpa using hi);simp at this;omega
 have HA:Hd (∀j,i<=j->(hj:j < s.size)->j < N->isP s[j]=true):=by
  show ∀j,i<=j->(hj:j < s.size)->j < N->isP s[j]=true;intro j h1 hj h2;obtain ⟨g1,g2⟩:=runN_at isP s.data.toList i (j - i) (by omega);have e:i+(j - i)=j:=by omega
  simp only [e] at g2;exact g2
 have HS:Hd (∀hj:N < s.size,isP s[N]=false):=by
  show ∀hj:N < s.size,isP s[N]=false;intro hj;have:=runN_stop isP s.data.toList i (by rw [hN];simpa using hj);simp only [hN] at this;exact this
 have HT:Hd (runN isP s.data.toList i=N - i/\i<=N):=⟨by omega,by omega⟩;have HI:Hd (i<=s.size):=hi;rw [show runN isP s.data.toList i=N - i by omega];obtain ⟨X,hX⟩:∃X:List UInt8,X=subT s.data.toList i (N - i):=⟨_,rfl⟩;have hsl:∀wx,(Instr.slice 9 (.string s) (some (.int .i64 (i:Int))) (some (.int .i64 (N:Int))) none).run Tryz.prog wx=.ok (.string ⟨X.toArray⟩) wx:=fun wx=>by rw [hX];exact run_sub s i N (by omega) HN.o wx
 rw [<-hX,show i+(N - i)=N by omega];clear h hN hi hX;go_enter Tryz.func87,Tryz.ntmps87;go_wp2;go_loopw [] (fun wr=>∃j:Nat,i<=j/\j<=N/\RS b s j wr/\w.grownBy wr (some b)) (fun wr=>s.size - placeOf b wr)
 case atStart=>exact ⟨i,Nat.le_refl _,HT.o.2,HR.o,gb_refl _ _⟩
 case round =>
  obtain ⟨j,hij,hjn,hrs,hgb⟩:=hrel;have d0:=hrs.c0;have d1:=hrs.c1;have df:=hrs.f1;have HRS:Hd (RS b s j wr):=hrs;have HGB:Hd (w.grownBy wr (some b)):=hgb;have hns:=HN.o;clear hrs hgb h0 h1
  by_cases hlt:j < N
  ·have hjs:j < s.size:=by omega
   have hD:isP s[j]=true:=HA.o j hij hjs hlt;have HK:Hd (i<=j/\j < N):=⟨hij,hlt⟩;clear hlt hjn hns hij;have hlt2:(j:Int) < (s.size:Int):=by omega
   go_wp2;go_quiet (first | (go_at_call 111;exact Calls.quiet_of_same (isPartByte_any _ _)));go_wp2;go_roundw
   case rel =>
    have:=HK.o;exact ⟨j+1,by omega,by omega,(HRS.o.drew _).set (j+1),gb_set (gb_drew HGB.o _) _ _⟩
   case measure =>
    have e1:=HRS.o.place;have e2:=((HRS.o.drew nq).set (j+1)).place;rw [e1];exact Nat.lt_of_le_of_lt (Nat.le_of_eq (congrArg (s.size - ·) e2)) (by omega)
  ·have hjN:j=N:=by omega
   subst hjN
   by_cases hjs:j < s.size
   ·have hD:isP s[j]=false:=HS.o hjs;have hlt2:(j:Int) < (s.size:Int):=by omega
    clear hlt hjn hns hij;go_wp2;go_quiet (first | (go_at_call 111;exact Calls.quiet_of_same (isPartByte_any _ _)));go_wp2;obtain ⟨W,hW⟩:=nm (wr.drewN nq);have e0:W.cell? ⟨b,0,none⟩=some (.string s):=by rw [<-hW];exact d0
    have e1:W.cell? ⟨b,1,none⟩=some (.int .i64 (j:Int)):=by rw [<-hW];exact d1
    have HW:Hd (RS b s j W/\w.grownBy W (some b)):=by
     show RS b s j W/\w.grownBy W (some b);rw [<-hW];exact ⟨HRS.o.drew _,gb_drew HGB.o _⟩
    rw [hW];clear hW d0 d1 df HRS HGB;go_quiet (fail);go_wp2;go_ret;exact ⟨rfl,HW.o.1.drew _,gb_drew HW.o.2 _⟩
   ·have hd2:decide ((j:Int) < (s.size:Int))=false:=by simp;omega
    clear hlt hjn hns hij;go_wp2;go_quiet (fail);go_wp2;obtain ⟨W,hW⟩:=nm (wr.drewN nq);have e0:W.cell? ⟨b,0,none⟩=some (.string s):=by rw [<-hW];exact d0
    have e1:W.cell? ⟨b,1,none⟩=some (.int .i64 (j:Int)):=by rw [<-hW];exact d1
    have HW:Hd (RS b s j W/\w.grownBy W (some b)):=by
     show RS b s j W/\w.grownBy W (some b);rw [<-hW];exact ⟨HRS.o.drew _,gb_drew HGB.o _⟩
    rw [hW];clear hW d0 d1 df HRS HGB;go_quiet (fail);go_wp2;go_ret;exact ⟨rfl,HW.o.1.drew _,gb_drew HW.o.2 _⟩
end Go.Proofs.YticgahdffjnabaaGreatDoor
