import Derived.Test.YtonfldbigenfhaaGreatDoorM43
namespace Go.Proofs.YtonfldbigenfhaaGreatDoor
open Go.RowKit
set_option linter.unusedVariables false
theorem itoa_0:Lib.itoa 0=[48]:=by rw [itoa_dec (by omega)];exact Lib.decDigits_one (by decide)
theorem major_cut (a:Int):textV ⟨a,0,0,[],[]⟩=Lib.itoa a++[46,48,46,48]:=by
 simp [textV,optT,itoa_0]
theorem major_pre (a:Int):Lib.itoa a++[46,48,46,48,45,48]=textV ⟨a,0,0,[48],[]⟩:=by
 simp [textV,optT,itoa_0]
theorem minor_cut (a b:Int):textV ⟨a,b,0,[],[]⟩=(Lib.itoa a++46 :: Lib.itoa b)++[46,48]:=by
 simp [textV,optT,itoa_0]
theorem cut_run (B:ByteArray) (L K:List UInt8) (n:Nat) (hB:B=⟨(L++K).toArray⟩) (hK:K.length=n) (w:World) :
  (Instr.slice 9 (.string B) none (some (.int .i64 ((B.size:Int) - (n:Int)))) none).run Tryz.prog w=.ok (.string ⟨L.toArray⟩) w:=by
 have hs:B.size=L.length+n:=by rw [hB];show (L++K).toArray.size=_;simp [hK]
 have e:((B.size:Int) - (n:Int))=((L.length:Nat):Int):=by omega
 rw [e,run_pre B L.length (by omega) w]
 have:B.data.toList.take L.length=L:=by rw [hB];simp
 rw [this]
theorem add_l (P:List UInt8) (B:ByteArray) (X:List UInt8) (hB:B=⟨X.toArray⟩) (h:P.length+X.length<=9223372036854775807):∃Z,Z=P++X/\Z.length=P.length+X.length/\∀wx,(Op.stringOp .add ⟨P.toArray⟩ B).run Tryz.prog wx=.ok (.string ⟨Z.toArray⟩) wx:=by
 subst hB;exact add_z P X h
set_option maxRecDepth 100000 in
set_option maxHeartbeats 1600000 in
theorem rangeTildesLaw (a b c:Int) (w:World) :
  Calls Tryz.prog 9 #[.int .i64 a,.int .i64 b,.int .i64 c] w fun e w'=>e=.returned (.bool true)/\w.grownBy w' none:=by
 have FY:Hid (∀n w,(0<=n/\n < 999999999)->Calls Tryz.prog 27 #[.int .i64 n] w fun e w'=>e=.returned (.bool true)/\w.grownBy w' none):=fun n w h=>fits_yes n w h.1 h.2
 have FN:Hid (∀n w,¬ (0<=n/\n < 999999999)->Calls Tryz.prog 27 #[.int .i64 n] w fun e w'=>e=.returned (.bool false)/\w.grownBy w' none):=fun n w h=>fits_no n w h
 by_cases fa:0<=a/\a < 999999999
 ·have FA:Hid (0<=a/\a < 999999999):=fa
  by_cases fb:0<=b/\b < 999999999
  ·have FB:Hid (0<=b/\b < 999999999):=fb
   by_cases fc:0<=c/\c < 999999999
   ·have FC:Hid (0<=c/\c < 999999999):=fc
    have na:Nn a:=⟨fa.1,by omega⟩
    have nb:Nn b:=⟨fb.1,by omega⟩
    have nc:Nn c:=⟨fc.1,by omega⟩
    have na1:Nn (a+1):=⟨by omega,by omega⟩
    have nb1:Nn (b+1):=⟨by omega,by omega⟩
    have n0:Nn 0:=by unfold Nn;omega
    obtain ⟨X,hX⟩:∃X,textV ⟨a,b,c,[],[]⟩=X:=⟨_,rfl⟩
    obtain ⟨Nx,hNx⟩:∃X,textV ⟨a,b+1,0,[],[]⟩=X:=⟨_,rfl⟩
    obtain ⟨La,hLa⟩:∃X,textV ⟨a+1,0,0,[],[]⟩=X:=⟨_,rfl⟩
    obtain ⟨M,hM⟩:∃X,Lib.itoa a=X:=⟨_,rfl⟩
    obtain ⟨N,hN⟩:∃X,Lib.itoa a++46 :: Lib.itoa b=X:=⟨_,rfl⟩
    have lX:=three_len na nb nc
    have lNx:=three_len na nb1 n0
    have lLa:=three_len na1 n0 n0
    have lM:=itoa_l9 na
    have lN:(Lib.itoa a++46 :: Lib.itoa b).length<=19:=by
     have h1:=itoa_l9 na
     have h2:=itoa_l9 nb
     simp only [List.length_append,List.length_cons];omega
    rw [hX] at lX
    rw [hNx] at lNx
    rw [hLa] at lLa
    rw [hM] at lM
    rw [hN] at lN
    obtain ⟨Bm,hBm⟩:∃B:ByteArray,B=⟨(M++[46,48,46,48]).toArray⟩:=⟨_,rfl⟩
    obtain ⟨Bi,hBi⟩:∃B:ByteArray,B=⟨(N++[46,48]).toArray⟩:=⟨_,rfl⟩
    have sm1:Bm.size=M.length+4:=by rw [hBm];show (M++[46,48,46,48]).toArray.size=_;simp
    have si1:Bi.size=N.length+2:=by rw [hBi];show (N++[46,48]).toArray.size=_;simp
    have C1:Hid (∀w,Calls Tryz.prog 28 #[.int .i64 a,.int .i64 b,.int .i64 c] w fun e w'=>e=.returned (.string ⟨X.toArray⟩)/\w.grownBy w' none):=fun w=>by rw [<-hX];exact three_any a b c w na nb nc
    have C2:Hid (∀w,Calls Tryz.prog 30 #[.agg #[.int .i64 a,.int .i64 0,.int .i64 0,.string ⟨#[]⟩,.string ⟨#[]⟩]] w fun e w'=>e=.returned (.string Bm)/\w.grownBy w' none):=fun w=>by
     rw [hBm,<-hM,<-major_cut a]
     exact rtext_any a 0 0 ⟨#[]⟩ ⟨#[]⟩ w (by omega) (by omega) (by omega) (by decide) (by decide)
    have C3:Hid (∀w,Calls Tryz.prog 28 #[.int .i64 a,.int .i64 (b+1),.int .i64 0] w fun e w'=>e=.returned (.string ⟨Nx.toArray⟩)/\w.grownBy w' none):=fun w=>by rw [<-hNx];exact three_any a (b+1) 0 w na nb1 n0
    have C4:Hid (∀w,Calls Tryz.prog 28 #[.int .i64 (a+1),.int .i64 0,.int .i64 0] w fun e w'=>e=.returned (.string ⟨La.toArray⟩)/\w.grownBy w' none):=fun w=>by rw [<-hLa];exact three_any (a+1) 0 0 w na1 n0 n0
    have C5:Hid (∀w,Calls Tryz.prog 28 #[.int .i64 a,.int .i64 b,.int .i64 0] w fun e w'=>e=.returned (.string Bi)/\w.grownBy w' none):=fun w=>by
     rw [hBi,<-hN,<-minor_cut a b]
     exact three_any a b 0 w na nb n0
    have cm:∀w,(Instr.slice 9 (.string Bm) none (some (.int .i64 ((Bm.size:Int) - 4))) none).run Tryz.prog w=.ok (.string ⟨M.toArray⟩) w:=fun w=>cut_run Bm M [46,48,46,48] 4 hBm rfl w
    have ci:∀w,(Instr.slice 9 (.string Bi) none (some (.int .i64 ((Bi.size:Int) - 2))) none).run Tryz.prog w=.ok (.string ⟨N.toArray⟩) w:=fun w=>cut_run Bi N [46,48] 2 hBi rfl w
    obtain ⟨Z1,eZ1,lZ1,zZ1⟩:=add_z [126] X (by simp only [List.length_cons,List.length_nil] at *;omega)
    obtain ⟨Z2,eZ2,lZ2,zZ2⟩:=add_z [62,61] X (by simp only [List.length_cons,List.length_nil] at *;omega)
    obtain ⟨Z3,eZ3,lZ3,zZ3⟩:=add_z Z2 [32,60] (by simp only [List.length_cons,List.length_nil] at *;omega)
    obtain ⟨Z4,eZ4,lZ4,zZ4⟩:=add_z Z3 Nx (by simp only [List.length_cons,List.length_nil] at *;omega)
    obtain ⟨Z5,eZ5,lZ5,zZ5⟩:=add_z Z4 [45,48] (by simp only [List.length_cons,List.length_nil] at *;omega)
    obtain ⟨Y1,eY1,lY1,zY1⟩:=add_l [62,61] Bi (N++[46,48]) hBi (by simp only [List.length_append,List.length_cons,List.length_nil];omega)
    obtain ⟨Y2,eY2,lY2,zY2⟩:=add_z Y1 [45,48,32,60] (by simp only [List.length_append,List.length_cons,List.length_nil] at *;omega)
    obtain ⟨Y3,eY3,lY3,zY3⟩:=add_z Y2 Nx (by simp only [List.length_append,List.length_cons,List.length_nil] at *;omega)
    obtain ⟨Y4,eY4,lY4,zY4⟩:=add_z Y3 [45,48] (by simp only [List.length_append,List.length_cons,List.length_nil] at *;omega)
    obtain ⟨W1,eW1,lW1,zW1⟩:=add_z M [46,120] (by simp only [List.length_append,List.length_cons,List.length_nil] at *;omega)
    obtain ⟨W2,eW2,lW2,zW2⟩:=add_z [62,61] M (by simp only [List.length_append,List.length_cons,List.length_nil] at *;omega)
    obtain ⟨W3,eW3,lW3,zW3⟩:=add_z W2 [46,48,46,48,45,48,32,60] (by simp only [List.length_append,List.length_cons,List.length_nil] at *;omega)
    obtain ⟨W4,eW4,lW4,zW4⟩:=add_z W3 La (by simp only [List.length_append,List.length_cons,List.length_nil] at *;omega)
    obtain ⟨W5,eW5,lW5,zW5⟩:=add_z W4 [45,48] (by simp only [List.length_append,List.length_cons,List.length_nil] at *;omega)
    obtain ⟨U1,eU1,lU1,zU1⟩:=add_z [126] N (by simp only [List.length_append,List.length_cons,List.length_nil] at *;omega)
    obtain ⟨U2,eU2,lU2,zU2⟩:=add_z N [46,42] (by simp only [List.length_append,List.length_cons,List.length_nil] at *;omega)
    obtain ⟨U3,eU3,lU3,zU3⟩:=add_z [126] M (by simp only [List.length_append,List.length_cons,List.length_nil] at *;omega)
    simp only [List.length_append,List.length_cons,List.length_nil] at lZ1 lZ2 lZ3 lZ4 lZ5 lY1 lY2 lY3 lY4 lW1 lW2 lW3 lW4 lW5 lU1 lU2 lU3
    have yZ1:∀wx,(Op.stringOp .add ⟨#[126]⟩ ⟨X.toArray⟩).run Tryz.prog wx=.ok (.string ⟨Z1.toArray⟩) wx:=zZ1
    have yZ2:∀wx,(Op.stringOp .add ⟨#[62,61]⟩ ⟨X.toArray⟩).run Tryz.prog wx=.ok (.string ⟨Z2.toArray⟩) wx:=zZ2
    have yZ3:∀wx,(Op.stringOp .add ⟨Z2.toArray⟩ ⟨#[32,60]⟩).run Tryz.prog wx=.ok (.string ⟨Z3.toArray⟩) wx:=zZ3
    have yZ5:∀wx,(Op.stringOp .add ⟨Z4.toArray⟩ ⟨#[45,48]⟩).run Tryz.prog wx=.ok (.string ⟨Z5.toArray⟩) wx:=zZ5
    have yY1:∀wx,(Op.stringOp .add ⟨#[62,61]⟩ Bi).run Tryz.prog wx=.ok (.string ⟨Y1.toArray⟩) wx:=zY1
    have yY2:∀wx,(Op.stringOp .add ⟨Y1.toArray⟩ ⟨#[45,48,32,60]⟩).run Tryz.prog wx=.ok (.string ⟨Y2.toArray⟩) wx:=zY2
    have yY4:∀wx,(Op.stringOp .add ⟨Y3.toArray⟩ ⟨#[45,48]⟩).run Tryz.prog wx=.ok (.string ⟨Y4.toArray⟩) wx:=zY4
    have yW1:∀wx,(Op.stringOp .add ⟨M.toArray⟩ ⟨#[46,120]⟩).run Tryz.prog wx=.ok (.string ⟨W1.toArray⟩) wx:=zW1
    have yW2:∀wx,(Op.stringOp .add ⟨#[62,61]⟩ ⟨M.toArray⟩).run Tryz.prog wx=.ok (.string ⟨W2.toArray⟩) wx:=zW2
    have yW3:∀wx,(Op.stringOp .add ⟨W2.toArray⟩ ⟨#[46,48,46,48,45,48,32,60]⟩).run Tryz.prog wx=.ok (.string ⟨W3.toArray⟩) wx:=zW3
    have yW5:∀wx,(Op.stringOp .add ⟨W4.toArray⟩ ⟨#[45,48]⟩).run Tryz.prog wx=.ok (.string ⟨W5.toArray⟩) wx:=zW5
    have yU1:∀wx,(Op.stringOp .add ⟨#[126]⟩ ⟨N.toArray⟩).run Tryz.prog wx=.ok (.string ⟨U1.toArray⟩) wx:=zU1
    have yU2:∀wx,(Op.stringOp .add ⟨N.toArray⟩ ⟨#[46,42]⟩).run Tryz.prog wx=.ok (.string ⟨U2.toArray⟩) wx:=zU2
    have yU3:∀wx,(Op.stringOp .add ⟨#[126]⟩ ⟨M.toArray⟩).run Tryz.prog wx=.ok (.string ⟨U3.toArray⟩) wx:=zU3
    have hp:PT X ⟨3,a,b,c,[]⟩:=by rw [<-hX];exact pt3 na nb nc (ok_nil _) (ok_nil _)
    have hpx:PT (Nx++[45,48]) ⟨3,a,b+1,0,[48]⟩:=by rw [<-hNx,three_pre];exact pt3 na nb1 n0 ok_48 (ok_nil _)
    have hpl:PT (La++[45,48]) ⟨3,a+1,0,0,[48]⟩:=by rw [<-hLa,three_pre];exact pt3 na1 n0 n0 ok_48 (ok_nil _)
    have hpi:PT ((N++[46,48])++[45,48]) ⟨3,a,b,0,[48]⟩:=by rw [<-hN,<-minor_cut,three_pre];exact pt3 na nb n0 ok_48 (ok_nil _)
    have hpm:PT (M++[46,48,46,48,45,48]) ⟨3,a,0,0,[48]⟩:=by rw [<-hM,major_pre];exact pt3 na n0 n0 ok_48 (ok_nil _)
    have hn2:PT N ⟨2,a,b,0,[]⟩:=by rw [<-hN];exact PT.n2 a b na nb
    have hm1:PT M ⟨1,a,0,0,[]⟩:=by rw [<-hM];exact PT.n1 a na
    have hmx:PT (M++[46,120]) ⟨1,a,0,0,[]⟩:=by rw [<-hM];exact PT.w1 a 120 na (Or.inr (Or.inl rfl))
    have hnx:PT (N++[46,42]) ⟨2,a,b,0,[]⟩:=by
     rw [<-hN,List.append_assoc,List.cons_append];exact PT.w2 a b 42 na nb (Or.inl rfl)
    have A1:Hid (∀w,Calls Tryz.prog 29 #[.string ⟨Z1.toArray⟩,.string ⟨Z5.toArray⟩] w fun e w'=>e=.returned (.bool true)/\w.grownBy w' none):=fun w =>
     alike_yes Z1 Z5 _ _ w (by rw [eZ1];exact rt1 SgT.ti hp) (by rw [eZ5,eZ4,eZ3,eZ2];simpa [signOr] using rt2 SgT.ge hp SgT.lt hpx) (by omega) (by omega) (fun v hv=>tilde_one na nb nc nb1 hv)
    have A2:Hid (∀w,Calls Tryz.prog 29 #[.string ⟨N.toArray⟩,.string ⟨Y4.toArray⟩] w fun e w'=>e=.returned (.bool true)/\w.grownBy w' none):=fun w =>
     alike_yes N Y4 _ _ w (rt1 SgT.none hn2) (by rw [eY4,eY3,eY2,eY1];simpa [signOr] using rt2 SgT.ge hpi SgT.lt hpx) (by omega) (by omega) (fun v hv=>tilde_two na nb nb1 hv)
    have A3:Hid (∀w,Calls Tryz.prog 29 #[.string ⟨W1.toArray⟩,.string ⟨W5.toArray⟩] w fun e w'=>e=.returned (.bool true)/\w.grownBy w' none):=fun w =>
     alike_yes W1 W5 _ _ w (by rw [eW1];exact rt1 SgT.none hmx) (by rw [eW5,eW4,eW3,eW2];simpa [signOr] using rt2 SgT.ge hpm SgT.lt hpl) (by omega) (by omega) (fun v hv=>tilde_three na na1 hv)
    have A4:Hid (∀w,Calls Tryz.prog 29 #[.string ⟨U1.toArray⟩,.string ⟨U2.toArray⟩] w fun e w'=>e=.returned (.bool true)/\w.grownBy w' none):=fun w =>
     alike_yes U1 U2 _ _ w (by rw [eU1];exact rt1 SgT.ti hn2) (by rw [eU2];exact rt1 SgT.none hnx) (by omega) (by omega) (fun v hv=>tilde_four na nb hv)
    have A5:Hid (∀w,Calls Tryz.prog 29 #[.string ⟨U3.toArray⟩,.string ⟨M.toArray⟩] w fun e w'=>e=.returned (.bool true)/\w.grownBy w' none):=fun w =>
     alike_yes U3 M _ _ w (by rw [eU3];exact rt1 SgT.ti hm1) (rt1 SgT.none hm1) (by omega) (by omega) (fun v hv=>tilde_five na hv)
    have gm1:4<=Bm.size:=by omega
    have gm2:Bm.size<=100:=by omega
    have gi1:2<=Bi.size:=by omega
    have gi2:Bi.size<=100:=by omega
    have q1:=fa.1
    have q2:=fa.2
    have q3:=fb.1
    have q4:=fb.2
    have q5:=fc.1
    have q6:=fc.2
    clear zZ1 zZ2 zZ3 zZ5 zY1 zY2 zY4 zW1 zW2 zW3 zW5 zU1 zU2 zU3 eZ1 eZ2 eZ3 eZ4 eZ5 eY1 eY2 eY3 eY4 eW1 eW2 eW3 eW4 eW5 eU1 eU2 eU3 lZ1 lZ2 lZ3 lZ4 lZ5 lY1 lY2 lY3 lY4 lW1 lW2 lW3 lW4 lW5 lU1 lU2 lU3 hp hpx hpl hpi hpm hn2 hm1 hmx hnx hX hNx hLa hM hN hBm hBi sm1 si1 lM lN lX lNx lLa na nb nc na1 nb1 n0 fa fb fc
    have HG:Hid (w.grownBy w none):=gb_refl _ _
    go_enter Tryz.func9,Tryz.ntmps9
    go_wp2_with (first | (go_at_call_of 27 a;refine (FY.out _ _ FA.out).mono ?_;rintro e w' ⟨rfl,hg⟩;replace HG:Hid (w.grownBy w' none):=gb_trans HG.out hg;clear hg) | (go_at_call_of 27 b;refine (FY.out _ _ FB.out).mono ?_;rintro e w' ⟨rfl,hg⟩;replace HG:Hid (w.grownBy w' none):=gb_trans HG.out hg;clear hg) | (go_at_call_of 27 c;refine (FY.out _ _ FC.out).mono ?_;rintro e w' ⟨rfl,hg⟩;replace HG:Hid (w.grownBy w' none):=gb_trans HG.out hg;clear hg) | (go_at_call 28;refine (C1.out _).mono ?_))
    rintro e w1 ⟨rfl,hg⟩
    replace HG:Hid (w.grownBy w1 none):=gb_trans HG.out hg
    clear hg
    go_wp2_with (first | (go_at_call 30;refine (C2.out _).mono ?_))
    rintro e w2 ⟨rfl,hg⟩
    replace HG:Hid (w.grownBy w2 none):=gb_trans HG.out hg
    clear hg
    go_wp2_with (first | (go_at_call 28;refine (C3.out _).mono ?_))
    rintro e w3 ⟨rfl,hg⟩
    replace HG:Hid (w.grownBy w3 none):=gb_trans HG.out hg
    clear hg
    go_wp2_with (first | (go_at_call 28;refine (C4.out _).mono ?_))
    rintro e w4 ⟨rfl,hg⟩
    replace HG:Hid (w.grownBy w4 none):=gb_trans HG.out hg
    clear hg
    go_wp2_with (first | (go_at_call 28;refine (C5.out _).mono ?_))
    rintro e w5 ⟨rfl,hg⟩
    replace HG:Hid (w.grownBy w5 none):=gb_trans HG.out hg
    clear hg
    go_wp2_with (first | (go_at_call 29;refine (A1.out _).mono ?_))
    rintro e v1 ⟨rfl,hg⟩
    replace HG:Hid (w.grownBy v1 none):=gb_trans HG.out hg
    clear hg
    go_wp2_with (first | (go_at_call 29;refine (A2.out _).mono ?_))
    rintro e v2 ⟨rfl,hg⟩
    replace HG:Hid (w.grownBy v2 none):=gb_trans HG.out hg
    clear hg
    go_wp2_with (first | (go_at_call 29;refine (A3.out _).mono ?_))
    rintro e v3 ⟨rfl,hg⟩
    replace HG:Hid (w.grownBy v3 none):=gb_trans HG.out hg
    clear hg
    go_wp2_with (first | (go_at_call 29;refine (A4.out _).mono ?_))
    rintro e v4 ⟨rfl,hg⟩
    replace HG:Hid (w.grownBy v4 none):=gb_trans HG.out hg
    clear hg
    go_wp2_with (first | (go_at_call 29;refine (A5.out _).mono ?_))
    rintro e v5 ⟨rfl,hg⟩
    replace HG:Hid (w.grownBy v5 none):=gb_trans HG.out hg
    clear hg
    go_wp2
    go_ret
    exact ⟨rfl,HG.out⟩
   ·have FC:Hid (¬ (0<=c/\c < 999999999)):=fc
    clear fa fb fc
    have HG:Hid (w.grownBy w none):=gb_refl _ _
    go_enter Tryz.func9,Tryz.ntmps9
    go_wp2_with (first | (go_at_call_of 27 a;refine (FY.out _ _ FA.out).mono ?_;rintro e w' ⟨rfl,hg⟩;replace HG:Hid (w.grownBy w' none):=gb_trans HG.out hg;clear hg) | (go_at_call_of 27 b;refine (FY.out _ _ FB.out).mono ?_;rintro e w' ⟨rfl,hg⟩;replace HG:Hid (w.grownBy w' none):=gb_trans HG.out hg;clear hg) | (go_at_call_of 27 c;refine (FN.out _ _ FC.out).mono ?_;rintro e w' ⟨rfl,hg⟩;replace HG:Hid (w.grownBy w' none):=gb_trans HG.out hg;clear hg))
    go_ret
    exact ⟨rfl,HG.out⟩
  ·have FB:Hid (¬ (0<=b/\b < 999999999)):=fb
   clear fa fb
   have HG:Hid (w.grownBy w none):=gb_refl _ _
   go_enter Tryz.func9,Tryz.ntmps9
   go_wp2_with (first | (go_at_call_of 27 a;refine (FY.out _ _ FA.out).mono ?_;rintro e w' ⟨rfl,hg⟩;replace HG:Hid (w.grownBy w' none):=gb_trans HG.out hg;clear hg) | (go_at_call_of 27 b;refine (FN.out _ _ FB.out).mono ?_;rintro e w' ⟨rfl,hg⟩;replace HG:Hid (w.grownBy w' none):=gb_trans HG.out hg;clear hg))
   go_ret
   exact ⟨rfl,HG.out⟩
 ·have FA:Hid (¬ (0<=a/\a < 999999999)):=fa
  clear fa
  have HG:Hid (w.grownBy w none):=gb_refl _ _
  go_enter Tryz.func9,Tryz.ntmps9
  go_wp2_with (first | (go_at_call_of 27 a;refine (FN.out _ _ FA.out).mono ?_;rintro e w' ⟨rfl,hg⟩;replace HG:Hid (w.grownBy w' none):=gb_trans HG.out hg;clear hg))
  go_ret
  exact ⟨rfl,HG.out⟩
end Go.Proofs.YtonfldbigenfhaaGreatDoor
