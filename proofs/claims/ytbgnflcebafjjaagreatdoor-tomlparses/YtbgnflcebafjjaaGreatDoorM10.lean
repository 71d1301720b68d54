import Derived.Test.YtbgnflcebafjjaaGreatDoorM09
import Derived.Test.YtbgnflcebafjjaaGreatDoorM04
namespace Go.Proofs.YtbgnflcebafjjaaGreatDoor
open Go.RowKit Go.Joins
set_option linter.unusedVariables false
set_option maxRecDepth 100000 in
set_option maxHeartbeats 1600000 in
theorem dEsc_34 (R:Nat) (s:ByteArray) (L O:Value) (now de i:Nat) (w:World) (h:Dd w R s L O now de i 0 0) (hi:i < s.size) (hs:s.size<=1048576) (hn:i+1 < s.size) (hx:nx s.data.toList (i+1)=34) :
  Calls Tryz.prog 107 #[.pointer (some ⟨R,0,none⟩)] w (TxPost 3 R s L O now de (esc s.data.toList i) w):=by
 have hl:s.data.toList.length=s.size:=by simp
 have HS:Hid (Dd (w.setCell ⟨R,1,none⟩ (.int .i64 ((i:Int)+1))) R s L O now de (i+1) 0 0):=h.setI (i+1)
 have HGS:Hid (w.grownBy (w.setCell ⟨R,1,none⟩ (.int .i64 ((i:Int)+1))) (some R)):=gb_set (gb_refl w (some R)) 1 _
 obtain ⟨c0,c1,-,-,-,-,-,-,df⟩:=h.cells
 have df1:=df 1
 have HE:Hid (esc s.data.toList i=.ok ([34],i+2)):=esc_34 _ _ hx
 rw [HE.out]
 have HXJ:Hid (∀(hj:i+1 < s.size),nx s.data.toList (i+1)=(s[i+1].toNat:Int)):=byte_at s (i+1)
 clear h df
 obtain ⟨j,hj⟩:∃j,i+1=j:=⟨_,rfl⟩
 have hij:i+2=j+1:=by omega
 have hlt:j < s.size:=by omega
 have hge:decide ((s.size:Int)<=(j:Int))=false:=by simp;omega
 have hge2:¬ (s.size:Int)<=(j:Int):=by omega
 rw [hj] at HS hx HXJ
 rw [hij]
 have HX:Hid (nx s.data.toList j=(s[j].toNat:Int)):=HXJ.out hlt
 clear hj hij HXJ hn HE
 have q98:((s[j].toNat:Int) == 98)=false:=by rw [<-HX.out,hx];rfl
 have q116:((s[j].toNat:Int) == 116)=false:=by rw [<-HX.out,hx];rfl
 have q110:((s[j].toNat:Int) == 110)=false:=by rw [<-HX.out,hx];rfl
 have q102:((s[j].toNat:Int) == 102)=false:=by rw [<-HX.out,hx];rfl
 have q114:((s[j].toNat:Int) == 114)=false:=by rw [<-HX.out,hx];rfl
 have q34:((s[j].toNat:Int) == 34)=true:=by rw [<-HX.out,hx];rfl
 have hb:s[j].toNat=34:=by have:=HX.out;omega
 clear HX hx
 go_enter Tryz.func107,Tryz.ntmps107
 go_wp2
 obtain ⟨wA,hwA⟩:∃W,w.setCell ⟨R,1,none⟩ (.int .i64 ((i:Int)+1))=W:=⟨_,rfl⟩
 rw [hwA] at HS HGS ⊢
 obtain ⟨d0,d1,-,-,-,-,-,-,dg⟩:=HS.out.cells
 have dg1:=dg 1
 clear hwA dg c0 c1 df1
 go_quiet (fail)
 have HDB:Hid (Dd (wA.drewN nq) R s L O now de j 0 0):=HS.out
 have HGB:Hid (w.grownBy (wA.drewN nq) (some R)):=gb_drew HGS.out nq
 obtain ⟨wB,hwB⟩:∃W,wA.drewN nq=W:=⟨_,rfl⟩
 rw [hwB] at HDB HGB ⊢
 obtain ⟨f0,f1,-,-,-,-,-,-,fg⟩:=HDB.out.cells
 have fg1:=fg 1
 clear hwB fg d0 d1 dg1
 go_wp2
 go_quiet (fail)
 have HDC:Hid (Dd (wB.drewN nq) R s L O now de j 0 0):=HDB.out
 have HGC:Hid (w.grownBy (wB.drewN nq) (some R)):=gb_drew HGB.out nq
 obtain ⟨wC,hwC⟩:∃W,wB.drewN nq=W:=⟨_,rfl⟩
 rw [hwC] at HDC HGC ⊢
 obtain ⟨g0,g1,-,-,-,-,-,-,gg⟩:=HDC.out.cells
 have gg1:=gg 1
 have HDE:Hid (Dd (wC.setCell ⟨R,1,none⟩ (.int .i64 ((j:Int)+1))) R s L O now de (j+1) 0 0):=HDC.out.setI (j+1)
 have HGE:Hid (w.grownBy (wC.setCell ⟨R,1,none⟩ (.int .i64 ((j:Int)+1))) (some R)):=gb_set HGC.out 1 _
 clear hwC gg f0 f1 fg1
 have HB:Hid (([UInt8.ofNat ((s[j].toNat:Int)).toNat]:List UInt8)=[34]):=by show _=_;simp [hb]
 have hbI:(s[j].toNat:Int)=34:=by omega
 have kd:=cv_one (wC.setCell ⟨R,1,none⟩ (.int .i64 ((j:Int)+1))) 34
 rw [show (wC.setCell ⟨R,1,none⟩ (.int .i64 ((j:Int)+1))).heap.size=wC.heap.size by simp [World.setCell]] at kd
 clear hb
 go_wp2
 go_ret
 refine ⟨fun t k hh=>?_,fun c p hh=>(by cases hh),gb_more HGE.out (World.grownBy_alloc _ _ none)⟩
 cases hh
 exact ⟨by first | exact ret_str HB.out | rfl,⟨by omega,HDE.out.grow (World.grownBy_alloc _ _ none)⟩⟩
set_option maxRecDepth 100000 in
set_option maxHeartbeats 1600000 in
theorem dEsc_92 (R:Nat) (s:ByteArray) (L O:Value) (now de i:Nat) (w:World) (h:Dd w R s L O now de i 0 0) (hi:i < s.size) (hs:s.size<=1048576) (hn:i+1 < s.size) (hx:nx s.data.toList (i+1)=92) :
  Calls Tryz.prog 107 #[.pointer (some ⟨R,0,none⟩)] w (TxPost 3 R s L O now de (esc s.data.toList i) w):=by
 have hl:s.data.toList.length=s.size:=by simp
 have HS:Hid (Dd (w.setCell ⟨R,1,none⟩ (.int .i64 ((i:Int)+1))) R s L O now de (i+1) 0 0):=h.setI (i+1)
 have HGS:Hid (w.grownBy (w.setCell ⟨R,1,none⟩ (.int .i64 ((i:Int)+1))) (some R)):=gb_set (gb_refl w (some R)) 1 _
 obtain ⟨c0,c1,-,-,-,-,-,-,df⟩:=h.cells
 have df1:=df 1
 have HE:Hid (esc s.data.toList i=.ok ([92],i+2)):=esc_92 _ _ hx
 rw [HE.out]
 have HXJ:Hid (∀(hj:i+1 < s.size),nx s.data.toList (i+1)=(s[i+1].toNat:Int)):=byte_at s (i+1)
 clear h df
 obtain ⟨j,hj⟩:∃j,i+1=j:=⟨_,rfl⟩
 have hij:i+2=j+1:=by omega
 have hlt:j < s.size:=by omega
 have hge:decide ((s.size:Int)<=(j:Int))=false:=by simp;omega
 have hge2:¬ (s.size:Int)<=(j:Int):=by omega
 rw [hj] at HS hx HXJ
 rw [hij]
 have HX:Hid (nx s.data.toList j=(s[j].toNat:Int)):=HXJ.out hlt
 clear hj hij HXJ hn HE
 have q98:((s[j].toNat:Int) == 98)=false:=by rw [<-HX.out,hx];rfl
 have q116:((s[j].toNat:Int) == 116)=false:=by rw [<-HX.out,hx];rfl
 have q110:((s[j].toNat:Int) == 110)=false:=by rw [<-HX.out,hx];rfl
 have q102:((s[j].toNat:Int) == 102)=false:=by rw [<-HX.out,hx];rfl
 have q114:((s[j].toNat:Int) == 114)=false:=by rw [<-HX.out,hx];rfl
 have q34:((s[j].toNat:Int) == 34)=false:=by rw [<-HX.out,hx];rfl
 have q92:((s[j].toNat:Int) == 92)=true:=by rw [<-HX.out,hx];rfl
 have hb:s[j].toNat=92:=by have:=HX.out;omega
 clear HX hx
 go_enter Tryz.func107,Tryz.ntmps107
 go_wp2
 obtain ⟨wA,hwA⟩:∃W,w.setCell ⟨R,1,none⟩ (.int .i64 ((i:Int)+1))=W:=⟨_,rfl⟩
 rw [hwA] at HS HGS ⊢
 obtain ⟨d0,d1,-,-,-,-,-,-,dg⟩:=HS.out.cells
 have dg1:=dg 1
 clear hwA dg c0 c1 df1
 go_quiet (fail)
 have HDB:Hid (Dd (wA.drewN nq) R s L O now de j 0 0):=HS.out
 have HGB:Hid (w.grownBy (wA.drewN nq) (some R)):=gb_drew HGS.out nq
 obtain ⟨wB,hwB⟩:∃W,wA.drewN nq=W:=⟨_,rfl⟩
 rw [hwB] at HDB HGB ⊢
 obtain ⟨f0,f1,-,-,-,-,-,-,fg⟩:=HDB.out.cells
 have fg1:=fg 1
 clear hwB fg d0 d1 dg1
 go_wp2
 go_quiet (fail)
 have HDC:Hid (Dd (wB.drewN nq) R s L O now de j 0 0):=HDB.out
 have HGC:Hid (w.grownBy (wB.drewN nq) (some R)):=gb_drew HGB.out nq
 obtain ⟨wC,hwC⟩:∃W,wB.drewN nq=W:=⟨_,rfl⟩
 rw [hwC] at HDC HGC ⊢
 obtain ⟨g0,g1,-,-,-,-,-,-,gg⟩:=HDC.out.cells
 have gg1:=gg 1
 have HDE:Hid (Dd (wC.setCell ⟨R,1,none⟩ (.int .i64 ((j:Int)+1))) R s L O now de (j+1) 0 0):=HDC.out.setI (j+1)
 have HGE:Hid (w.grownBy (wC.setCell ⟨R,1,none⟩ (.int .i64 ((j:Int)+1))) (some R)):=gb_set HGC.out 1 _
 clear hwC gg f0 f1 fg1
 have HB:Hid (([UInt8.ofNat ((s[j].toNat:Int)).toNat]:List UInt8)=[92]):=by show _=_;simp [hb]
 have hbI:(s[j].toNat:Int)=92:=by omega
 have kd:=cv_one (wC.setCell ⟨R,1,none⟩ (.int .i64 ((j:Int)+1))) 92
 rw [show (wC.setCell ⟨R,1,none⟩ (.int .i64 ((j:Int)+1))).heap.size=wC.heap.size by simp [World.setCell]] at kd
 clear hb
 go_wp2
 go_ret
 refine ⟨fun t k hh=>?_,fun c p hh=>(by cases hh),gb_more HGE.out (World.grownBy_alloc _ _ none)⟩
 cases hh
 exact ⟨by first | exact ret_str HB.out | rfl,⟨by omega,HDE.out.grow (World.grownBy_alloc _ _ none)⟩⟩
end Go.Proofs.YtbgnflcebafjjaaGreatDoor
namespace Go.Proofs.YtbgnflcebafjjaaGreatDoor
open Go.RowKit Go.Joins
set_option linter.unusedVariables false
set_option maxRecDepth 100000 in
set_option maxHeartbeats 1600000 in
theorem dEsc_bad (R:Nat) (s:ByteArray) (L O:Value) (now de i:Nat) (w:World) (h:Dd w R s L O now de i 0 0) (hi:i < s.size) (hs:s.size<=1048576) (hn:i+1 < s.size) (m98:¬ nx s.data.toList (i+1)=98) (m116:¬ nx s.data.toList (i+1)=116) (m110:¬ nx s.data.toList (i+1)=110) (m102:¬ nx s.data.toList (i+1)=102) (m114:¬ nx s.data.toList (i+1)=114) (m34:¬ nx s.data.toList (i+1)=34) (m92:¬ nx s.data.toList (i+1)=92) (m117:¬ nx s.data.toList (i+1)=117) :
  Calls Tryz.prog 107 #[.pointer (some ⟨R,0,none⟩)] w (TxPost 3 R s L O now de (esc s.data.toList i) w):=by
 have hl:s.data.toList.length=s.size:=by simp
 have HS:Hid (Dd (w.setCell ⟨R,1,none⟩ (.int .i64 ((i:Int)+1))) R s L O now de (i+1) 0 0):=h.setI (i+1)
 have HGS:Hid (w.grownBy (w.setCell ⟨R,1,none⟩ (.int .i64 ((i:Int)+1))) (some R)):=gb_set (gb_refl w (some R)) 1 _
 obtain ⟨c0,c1,-,-,-,-,-,-,df⟩:=h.cells
 have df1:=df 1
 have HE:Hid (esc s.data.toList i=.error (2,i+1)):=esc_no _ _ m117 m98 m116 m110 m102 m114 m34 m92
 rw [HE.out]
 have HXJ:Hid (∀(hj:i+1 < s.size),nx s.data.toList (i+1)=(s[i+1].toNat:Int)):=byte_at s (i+1)
 clear h df
 obtain ⟨j,hj⟩:∃j,i+1=j:=⟨_,rfl⟩
 have hij:i+2=j+1:=by omega
 have hlt:j < s.size:=by omega
 have hge:decide ((s.size:Int)<=(j:Int))=false:=by simp;omega
 have hge2:¬ (s.size:Int)<=(j:Int):=by omega
 rw [hj] at HS HXJ m98 m116 m110 m102 m114 m34 m92 m117
 rw [hj]
 have HX:Hid (nx s.data.toList j=(s[j].toNat:Int)):=HXJ.out hlt
 clear hj hij HXJ hn HE
 have q98:((s[j].toNat:Int) == 98)=false:=by rw [beq_eq_false_iff_ne,<-HX.out];exact m98
 have q116:((s[j].toNat:Int) == 116)=false:=by rw [beq_eq_false_iff_ne,<-HX.out];exact m116
 have q110:((s[j].toNat:Int) == 110)=false:=by rw [beq_eq_false_iff_ne,<-HX.out];exact m110
 have q102:((s[j].toNat:Int) == 102)=false:=by rw [beq_eq_false_iff_ne,<-HX.out];exact m102
 have q114:((s[j].toNat:Int) == 114)=false:=by rw [beq_eq_false_iff_ne,<-HX.out];exact m114
 have q34:((s[j].toNat:Int) == 34)=false:=by rw [beq_eq_false_iff_ne,<-HX.out];exact m34
 have q92:((s[j].toNat:Int) == 92)=false:=by rw [beq_eq_false_iff_ne,<-HX.out];exact m92
 have q117:((s[j].toNat:Int) == 117)=false:=by rw [beq_eq_false_iff_ne,<-HX.out];exact m117
 clear HX m98 m116 m110 m102 m114 m34 m92 m117
 go_enter Tryz.func107,Tryz.ntmps107
 go_wp2
 obtain ⟨wA,hwA⟩:∃W,w.setCell ⟨R,1,none⟩ (.int .i64 ((i:Int)+1))=W:=⟨_,rfl⟩
 rw [hwA] at HS HGS ⊢
 obtain ⟨d0,d1,-,-,-,-,-,-,dg⟩:=HS.out.cells
 have dg1:=dg 1
 clear hwA dg c0 c1 df1
 go_quiet (fail)
 have HDB:Hid (Dd (wA.drewN nq) R s L O now de j 0 0):=HS.out
 have HGB:Hid (w.grownBy (wA.drewN nq) (some R)):=gb_drew HGS.out nq
 obtain ⟨wB,hwB⟩:∃W,wA.drewN nq=W:=⟨_,rfl⟩
 rw [hwB] at HDB HGB ⊢
 obtain ⟨f0,f1,-,-,-,-,-,-,fg⟩:=HDB.out.cells
 have fg1:=fg 1
 clear hwB fg d0 d1 dg1
 go_wp2
 go_quiet (fail)
 have HDC:Hid (Dd (wB.drewN nq) R s L O now de j 0 0):=HDB.out
 have HGC:Hid (w.grownBy (wB.drewN nq) (some R)):=gb_drew HGB.out nq
 obtain ⟨wC,hwC⟩:∃W,wB.drewN nq=W:=⟨_,rfl⟩
 rw [hwC] at HDC HGC ⊢
 obtain ⟨g0,g1,-,-,-,-,-,-,gg⟩:=HDC.out.cells
 have gg1:=gg 1
 have HDE:Hid (Dd (wC.setCell ⟨R,1,none⟩ (.int .i64 ((j:Int)+1))) R s L O now de (j+1) 0 0):=HDC.out.setI (j+1)
 have HGE:Hid (w.grownBy (wC.setCell ⟨R,1,none⟩ (.int .i64 ((j:Int)+1))) (some R)):=gb_set HGC.out 1 _
 clear hwC gg f0 f1 fg1
 have hsub:IntKind.i64.wrap ((j:Int)+1 - 1)=(j:Int):=by rw [IntKind.wrap_i64];omega
 have CF:Hid (∀wx,Dd wx R s L O now de (j+1) 0 0->Calls Tryz.prog 55 #[.pointer (some ⟨R,0,none⟩),.int .i64 2,.int .i64 (j:Nat)] wx fun en w'=>en=.returned (.tuple #[])/\Dd w' R s L O now de (j+1) 2 j/\wx.grownBy w' (some R)):=fun wx hg=>dFail_yes R s L O now de (j+1) 2 j wx hg
 obtain ⟨-,k1,-⟩:=HDE.out.cells
 go_wp2_with (first | (go_at_call 55;refine (CF.out _ HDE.out).mono ?_;rintro e w2 ⟨rfl,hd2,hg2⟩))
 refine bodyPost_ret (results_tmp (t:=2) rfl _ _ _) rfl ?_
 exact ⟨fun t k hh=>(by cases hh),fun c p hh=>(by cases hh;exact ⟨⟨[],by simp,rfl⟩,by decide,j+1,by omega,hd2⟩),gb_two HGE.out hg2⟩
end Go.Proofs.YtbgnflcebafjjaaGreatDoor
namespace Go.Proofs.YtbgnflcebafjjaaGreatDoor
open Go.RowKit Go.Joins
set_option linter.unusedVariables false
set_option maxRecDepth 100000 in
set_option maxHeartbeats 1600000 in
theorem dEsc_117 (R:Nat) (s:ByteArray) (L O:Value) (now de i:Nat) (w:World) (h:Dd w R s L O now de i 0 0) (hi:i < s.size) (hs:s.size<=1048576) (hn:i+1 < s.size) (hx:nx s.data.toList (i+1)=117) :
  Calls Tryz.prog 107 #[.pointer (some ⟨R,0,none⟩)] w (TxPost 3 R s L O now de (esc s.data.toList i) w):=by
 have hl:s.data.toList.length=s.size:=by simp
 have HS:Hid (Dd (w.setCell ⟨R,1,none⟩ (.int .i64 ((i:Int)+1))) R s L O now de (i+1) 0 0):=h.setI (i+1)
 have HGS:Hid (w.grownBy (w.setCell ⟨R,1,none⟩ (.int .i64 ((i:Int)+1))) (some R)):=gb_set (gb_refl w (some R)) 1 _
 obtain ⟨c0,c1,-,-,-,-,-,-,df⟩:=h.cells
 have df1:=df 1
 have HE:Hid (esc s.data.toList i=uFin i (four s.data.toList 4 (i+2) 0)):=esc_u _ _ hx
 rw [HE.out]
 have HXJ:Hid (∀(hj:i+1 < s.size),nx s.data.toList (i+1)=(s[i+1].toNat:Int)):=byte_at s (i+1)
 clear h df
 obtain ⟨j,hj⟩:∃j,i+1=j:=⟨_,rfl⟩
 have hij:i+2=j+1:=by omega
 have hlt:j < s.size:=by omega
 have hge:decide ((s.size:Int)<=(j:Int))=false:=by simp;omega
 have hge2:¬ (s.size:Int)<=(j:Int):=by omega
 rw [hj] at HS hx HXJ
 rw [hij]
 have HX:Hid (nx s.data.toList j=(s[j].toNat:Int)):=HXJ.out hlt
 clear hj hij HXJ hn HE
 have q98:((s[j].toNat:Int) == 98)=false:=by rw [<-HX.out,hx];rfl
 have q116:((s[j].toNat:Int) == 116)=false:=by rw [<-HX.out,hx];rfl
 have q110:((s[j].toNat:Int) == 110)=false:=by rw [<-HX.out,hx];rfl
 have q102:((s[j].toNat:Int) == 102)=false:=by rw [<-HX.out,hx];rfl
 have q114:((s[j].toNat:Int) == 114)=false:=by rw [<-HX.out,hx];rfl
 have q34:((s[j].toNat:Int) == 34)=false:=by rw [<-HX.out,hx];rfl
 have q92:((s[j].toNat:Int) == 92)=false:=by rw [<-HX.out,hx];rfl
 have q117:((s[j].toNat:Int) == 117)=true:=by rw [<-HX.out,hx];rfl
 clear HX hx
 have CFo:Hid (∀wx,Dd wx R s L O now de (j+1) 0 0->Calls Tryz.prog 123 #[.pointer (some ⟨R,0,none⟩)] wx (FoPost R s L O now de (four s.data.toList 4 (j+1) 0) wx)):=fun wx h=>dFour_any R s L O now de (j+1) wx h (by omega) hs
 have HFL:Hid (∀n k,four s.data.toList 4 (j+1) 0=.ok (n,k)->n < 65536):=fun n k hh=>by have:=four_lt _ _ _ _ _ _ hh;omega
 have CW:Hid (∀n:Nat,n < 65536->∀w,Calls Tryz.prog 124 #[.int .i64 (n:Nat)] w fun e w'=>e=.returned (.string ⟨(wrt n).toArray⟩)/\w.grownBy w' none):=dWritten_any
 have CW0:Hid (∀w,Calls Tryz.prog 124 #[.int .i64 0] w fun e w'=>e=.returned (.string ⟨(wrt 0).toArray⟩)/\w.grownBy w' none):=dWritten_any 0 (by omega)
 obtain ⟨F,hF⟩:∃F,four s.data.toList 4 (j+1) 0=F:=⟨_,rfl⟩
 rw [hF] at CFo HFL ⊢
 clear hF
 go_enter Tryz.func107,Tryz.ntmps107
 go_wp2
 obtain ⟨wA,hwA⟩:∃W,w.setCell ⟨R,1,none⟩ (.int .i64 ((i:Int)+1))=W:=⟨_,rfl⟩
 rw [hwA] at HS HGS ⊢
 obtain ⟨d0,d1,-,-,-,-,-,-,dg⟩:=HS.out.cells
 have dg1:=dg 1
 clear hwA dg c0 c1 df1
 go_quiet (fail)
 have HDB:Hid (Dd (wA.drewN nq) R s L O now de j 0 0):=HS.out
 have HGB:Hid (w.grownBy (wA.drewN nq) (some R)):=gb_drew HGS.out nq
 obtain ⟨wB,hwB⟩:∃W,wA.drewN nq=W:=⟨_,rfl⟩
 rw [hwB] at HDB HGB ⊢
 obtain ⟨f0,f1,-,-,-,-,-,-,fg⟩:=HDB.out.cells
 have fg1:=fg 1
 clear hwB fg d0 d1 dg1
 go_wp2
 go_quiet (fail)
 have HDC:Hid (Dd (wB.drewN nq) R s L O now de j 0 0):=HDB.out
 have HGC:Hid (w.grownBy (wB.drewN nq) (some R)):=gb_drew HGB.out nq
 obtain ⟨wC,hwC⟩:∃W,wB.drewN nq=W:=⟨_,rfl⟩
 rw [hwC] at HDC HGC ⊢
 obtain ⟨g0,g1,-,-,-,-,-,-,gg⟩:=HDC.out.cells
 have gg1:=gg 1
 have HDE:Hid (Dd (wC.setCell ⟨R,1,none⟩ (.int .i64 ((j:Int)+1))) R s L O now de (j+1) 0 0):=HDC.out.setI (j+1)
 have HGE:Hid (w.grownBy (wC.setCell ⟨R,1,none⟩ (.int .i64 ((j:Int)+1))) (some R)):=gb_set HGC.out 1 _
 clear hwC gg f0 f1 fg1
 go_wp2_with (first | (go_at_call 123;refine (CFo.out _ HDE.out).mono ?_))
 rintro e w2 ⟨h1,h2,hg2⟩
 have HG2:Hid (w.grownBy w2 (some R)):=gb_two HGE.out hg2
 clear hg2
 match F,h1,h2,HFL with
 | .error (c,p),h1,h2,_ =>
  obtain ⟨rfl,hne,k,hk,hd⟩:=h2 c p rfl
  obtain ⟨-,-,-,-,-,e5,-⟩:=hd.cells
  have hb:(c == 0)=false:=by simpa using hne
  have HD:Hid (Dd w2 R s L O now de k c p):=hd
  have HNE:Hid (c ≠ 0):=hne
  have HK:Hid (k<=s.size):=hk
  clear h1 h2 hd hne hk
  go_wp2_with (first | (go_at_call 124;refine (CW0.out _).mono ?_;rintro e w3 ⟨rfl,hg3⟩))
  go_ret
  exact ⟨fun t k hh=>(by have hh:(Except.error (c,p):Rs (List UInt8 × Nat))=.ok (t,k):=hh;cases hh),fun c' p' hh=>(by have hh:(Except.error (c,p):Rs (List UInt8 × Nat))=.error (c',p'):=hh;injection hh with hh;injection hh with e1 e2;subst e1 e2;exact ⟨⟨wrt 0,by decide,rfl⟩,HNE.out,k,HK.out,HD.out.grow hg3⟩),gb_more HG2.out hg3⟩
 | .ok (n,k),h1,h2,HFL =>
  obtain ⟨rfl,hk,hd⟩:=h1 n k rfl
  have hn:=HFL.out n k rfl
  obtain ⟨-,-,-,-,-,e5,-⟩:=hd.cells
  have HD:Hid (Dd w2 R s L O now de k 0 0):=hd
  have HK:Hid (k<=s.size):=hk
  have CWn:Hid (∀w,Calls Tryz.prog 124 #[.int .i64 (n:Nat)] w fun e w'=>e=.returned (.string ⟨(wrt n).toArray⟩)/\w.grownBy w' none):=CW.out n hn
  have HWL:Hid ((wrt n).length<=3):=by
   show _<=_
   have:=wrt_len n
   omega
  have CF:Hid (∀wx,Dd wx R s L O now de k 0 0->Calls Tryz.prog 55 #[.pointer (some ⟨R,0,none⟩),.int .i64 2,.int .i64 (i:Nat)] wx fun en w'=>en=.returned (.tuple #[])/\Dd w' R s L O now de k 2 i/\wx.grownBy w' (some R)):=fun wx hg=>dFail_yes R s L O now de k 2 i wx hg
  clear h1 h2 hd hk
  by_cases h55:55296<=n
  ·by_cases h57:n<=57343
   ·have HE:Hid (uFin i (.ok (n,k))=.error (2,i)):=by show (if _ then _ else _)=_;exact if_pos ⟨h55,h57⟩
    have g1':(55296:Int)<=(n:Int):=by omega
    have g2':(n:Int)<=57343:=by omega
    go_wp2_with (first | (go_at_call 55;refine (CF.out _ HD.out).mono ?_;rintro e w3 ⟨rfl,hd3,hg3⟩) | (go_at_call 124;refine (CWn.out _).mono ?_;rintro e w4 ⟨rfl,hg4⟩))
    go_ret
    rw [HE.out]
    exact ⟨fun t k hh=>(by cases hh),fun c p hh=>(by cases hh;exact ⟨⟨wrt n,HWL.out,rfl⟩,by decide,k,HK.out,hd3.grow hg4⟩),gb_more (gb_two HG2.out hg3) hg4⟩
   ·have HE:Hid (uFin i (.ok (n,k))=.ok (wrt n,k)):=by show (if _ then _ else _)=_;exact if_neg (fun h=>h57 h.2)
    have g1':(55296:Int)<=(n:Int):=by omega
    have g2':(57343:Int) < (n:Int):=by omega
    go_wp2_with (first | (go_at_call 124;refine (CWn.out _).mono ?_;rintro e w4 ⟨rfl,hg4⟩))
    go_ret
    rw [HE.out]
    exact ⟨fun t k hh=>(by cases hh;exact ⟨rfl,HK.out,HD.out.grow hg4⟩),fun c p hh=>(by cases hh),gb_more HG2.out hg4⟩
  ·have HE:Hid (uFin i (.ok (n,k))=.ok (wrt n,k)):=by show (if _ then _ else _)=_;exact if_neg (fun h=>h55 h.1)
   have g1':(n:Int) < 55296:=by omega
   have g0':decide ((55296:Int)<=(n:Int))=false:=by rw [decide_eq_false_iff_not];omega
   have g3':¬ (55296:Int)<=(n:Int):=by omega
   clear h55 hn g1'
   go_wp2_with (first | (go_at_call 124;refine (CWn.out _).mono ?_;rintro e w4 ⟨rfl,hg4⟩))
   go_ret
   rw [HE.out]
   exact ⟨fun t k hh=>(by cases hh;exact ⟨rfl,HK.out,HD.out.grow hg4⟩),fun c p hh=>(by cases hh),gb_more HG2.out hg4⟩
end Go.Proofs.YtbgnflcebafjjaaGreatDoor
namespace Go.Proofs.YtbgnflcebafjjaaGreatDoor
open Go.RowKit Go.Joins
set_option linter.unusedVariables false
theorem dEsc_any (R:Nat) (s:ByteArray) (L O:Value) (now de i:Nat) (w:World) (h:Dd w R s L O now de i 0 0) (hi:i < s.size) (hs:s.size<=1048576) :
  Calls Tryz.prog 107 #[.pointer (some ⟨R,0,none⟩)] w (TxPost 3 R s L O now de (esc s.data.toList i) w):=by
 by_cases hn:i+1 < s.size
 ·by_cases m98:nx s.data.toList (i+1)=98
  ·exact dEsc_98 R s L O now de i w h hi hs hn m98
  by_cases m116:nx s.data.toList (i+1)=116
  ·exact dEsc_116 R s L O now de i w h hi hs hn m116
  by_cases m110:nx s.data.toList (i+1)=110
  ·exact dEsc_110 R s L O now de i w h hi hs hn m110
  by_cases m102:nx s.data.toList (i+1)=102
  ·exact dEsc_102 R s L O now de i w h hi hs hn m102
  by_cases m114:nx s.data.toList (i+1)=114
  ·exact dEsc_114 R s L O now de i w h hi hs hn m114
  by_cases m34:nx s.data.toList (i+1)=34
  ·exact dEsc_34 R s L O now de i w h hi hs hn m34
  by_cases m92:nx s.data.toList (i+1)=92
  ·exact dEsc_92 R s L O now de i w h hi hs hn m92
  by_cases m117:nx s.data.toList (i+1)=117
  ·exact dEsc_117 R s L O now de i w h hi hs hn m117
  exact dEsc_bad R s L O now de i w h hi hs hn m98 m116 m110 m102 m114 m34 m92 m117
 ·exact dEsc_end R s L O now de i w h hi hs (by omega)
end Go.Proofs.YtbgnflcebafjjaaGreatDoor
namespace Go.Proofs.YtbgnflcebafjjaaGreatDoor
open Go.RowKit Go.Joins
set_option linter.unusedVariables false
set_option maxRecDepth 100000 in
set_option maxHeartbeats 6400000 in
theorem dQuoted_any (R:Nat) (s:ByteArray) (L O:Value) (now de i:Nat) (w:World) (h:Dd w R s L O now de i 0 0) (hi:i < s.size) (hq:nx s.data.toList i=34) (hs:s.size<=1048576) :
  Calls Tryz.prog 82 #[.pointer (some ⟨R,0,none⟩)] w (TxPost (4 * s.size+4) R s L O now de (str s.data.toList (s.data.toList.length+1) (i+1) []) w):=by
 have hl:s.data.toList.length=s.size:=by simp
 have CM:Hid (∀q w,Ds w R s L O now de q->Calls Tryz.prog 31 #[.pointer (some ⟨R,0,none⟩),.int .u8 34] w fun e w'=>e=.returned (.tuple #[])/\Ds w' R s L O now de (q.bind fun i=>must s.data.toList i 34)/\w.grownBy w' (some R)):=fun q w h=>dMust_any R s L O now de q 34 (by decide) w h hs
 have CI:Hid (∀q w,Ds w R s L O now de q->Calls Tryz.prog 27 #[.pointer (some ⟨R,0,none⟩),.int .u8 34] w fun e w'=>e=.returned (.bool (isQ s.data.toList q 34))/\w.grownBy w' none):=fun q w h=>dIs_any R s L O now de q 34 (by decide) w h hs
 have CE:Hid (∀k w,Dd w R s L O now de k 0 0->k < s.size->Calls Tryz.prog 107 #[.pointer (some ⟨R,0,none⟩)] w (TxPost 3 R s L O now de (esc s.data.toList k) w)):=fun k w h hk=>dEsc_any R s L O now de k w h hk hs
 have CSq:Hid (∀k w,k < s.size->Calls Tryz.prog 108 #[.string s,.int .i64 (k:Nat)] w fun e w'=>e=.returned (.int .i64 (seqN s.data.toList k:Nat))/\w'=w):=fun k w hk=>dSeq_any s k hk w hs
 have HST:Hid (∀f i acc,str s.data.toList (f+1) i acc =
  if nx s.data.toList i=34 then .ok (acc,i+1)
  else if nx s.data.toList i=92 then (match esc s.data.toList i with | .error e=>.error e | .ok (b,j)=>str s.data.toList f j (acc++b))
  else if nx s.data.toList i=-1\/isBr (nx s.data.toList i)=true then .error (2,i)
  else if seqN s.data.toList i=0 then .error (2,i)
  else str s.data.toList f (i+seqN s.data.toList i) (acc++subT s.data.toList i (seqN s.data.toList i))):=str_step _
 have HLT:Hid (∀k,0<=nx s.data.toList k->k < s.size):=fun k hb=>by rw [<-hl];exact nx_lt hb
 have HEO:Hid (∀k b j,k < s.size->esc s.data.toList k=.ok (b,j)->b.length<=3/\k+2<=j/\j<=s.size):=fun k b j hk he=>by
  rw [esc_escN] at he
  cases hN:escN s.data.toList k with
  | error e=>rw [hN] at he;cases he
  | ok q =>
   obtain ⟨n,j'⟩:=q
   rw [hN] at he
   have:=escN_ok _ k n j' (by omega) hN
   have e1:(Except.ok (wrt n,j'):Rs (List UInt8 × Nat))=.ok (b,j):=he
   injection e1 with e1
   injection e1 with e1 e2
   have:=wrt_len n
   subst e1 e2
   omega
 have HSO:Hid (∀k,k<=s.size->k+seqN s.data.toList k<=s.size):=fun k hk=>by rw [<-hl];exact seqN_ok _ k (by omega)
 have HSL:Hid (∀k,(subT s.data.toList k (seqN s.data.toList k)).length<=3 * seqN s.data.toList k):=fun k=>by
  have:(subT s.data.toList k (seqN s.data.toList k)).length<=seqN s.data.toList k:=by unfold subT;rw [List.length_take];omega
  show _<=_
  omega
 have HX:Hid (∀k (hk:k < s.size),nx s.data.toList k=(s[k].toNat:Int)):=byte_at s
 have HXE:Hid (∀k,nx s.data.toList k=-1->s.size<=k):=fun k hk=>by rw [<-hl];exact nx_end' hk
 obtain ⟨G,hG⟩:∃G,str s.data.toList (s.data.toList.length+1) (i+1) []=G:=⟨_,rfl⟩
 have HG0:Hid (str s.data.toList (s.data.toList.length+1) (i+1) []=G):=hG
 have HM0:Hid ((Except.bind (.ok i) fun i=>must s.data.toList i 34:Rs Nat)=.ok (i+1)):=by
  show must s.data.toList i 34=_
  unfold must;rw [if_pos hq]
 rw [hG]
 have H0:Hid (Ds w R s L O now de (.ok i)):=⟨by omega,h⟩
 clear h hG hq
 go_enter Tryz.func82,Tryz.ntmps82
 go_wp2_with (first | (go_at_call 31;refine (CM.out _ _ H0.out).mono ?_;rintro e w1 ⟨rfl,hd1,hg1⟩))
 rw [HM0.out] at hd1
 have HD1:Hid (Ds w1 R s L O now de (.ok (i+1))):=hd1
 have HG1:Hid (w.grownBy w1 (some R)):=hg1
 clear hd1 hg1 H0 HM0
 go_loopw [3] (fun vo wr=>∃(q:Rs Nat) (f:Nat) (acc:List UInt8),vo=.string ⟨acc.toArray⟩/\Ds wr R s L O now de q/\(∀k,q=.ok k->s.size - k < f/\str s.data.toList f k acc=G/\acc.length<=3 * k)/\(∀c p,q=.error (c,p)->G=.error (c,p)/\acc.length<=3 * s.size+3)/\w.grownBy wr (some R)) (fun _ wr=>dM wr R s)
 case atStart=>exact ⟨.ok (i+1),s.data.toList.length+1,[],rfl,HD1.out,fun k hk=>(by cases hk;exact ⟨by omega,HG0.out,by simp⟩),fun c p hk=>(by cases hk),HG1.out⟩
 case round =>
  obtain ⟨q,f,acc,rfl,hds,hok,her,hg⟩:=hrel
  have HG:Hid (w.grownBy _ (some R)):=hg
  clear hg
  match q,hds,hok,her with
  | .error (c,p),hds,_,her =>
   obtain ⟨hGE,hacc⟩:=her c p rfl
   have HGE:Hid (G=.error (c,p)):=hGE
   obtain ⟨hc,j,hj,hd⟩:=hds
   obtain ⟨-,-,-,-,-,c5,-⟩:=hd.cells
   have hn:(c == 0)=false:=by simpa using hc
   have HDS:Hid (Ds _ R s L O now de (.error (c,p))):=⟨hc,j,hj,hd⟩
   have HAC:Hid (acc.length<=3 * s.size+3):=hacc
   clear hd her hGE hc hj hacc
   go_wp2_with (first | (go_at_call 31;refine (CM.out _ _ HDS.out).mono ?_;rintro e w2 ⟨rfl,hd2,hg2⟩))
   refine bodyPost_ret (results_tmp (t:=2) rfl _ _ _) rfl ?_
   rw [HGE.out]
   exact ⟨fun t k hh=>(by cases hh),fun c p hh=>(by cases hh;exact ⟨⟨acc,by have:=HAC.out;omega,rfl⟩,hd2⟩),gb_two HG.out hg2⟩
  | .ok k,hds,hok,_ =>
   obtain ⟨hf,hstr,hacc⟩:=hok k rfl
   obtain ⟨hk,hd⟩:=hds
   obtain ⟨f,rfl⟩:∃f',f=f'+1:=⟨f - 1,by omega⟩
   rw [HST.out] at hstr
   obtain ⟨c0,c1,-,-,-,c5,-,-,df⟩:=hd.cells
   have df1:=df 1
   have HD:Hid (Dd _ R s L O now de k 0 0):=hd
   have HDS:Hid (Ds _ R s L O now de (.ok k)):=⟨hk,hd⟩
   have HM:Hid (dM _ R s=s.size - k+1):=dM_ok hd
   have CI1:Hid (∀w,Ds w R s L O now de (.ok k)->Calls Tryz.prog 27 #[.pointer (some ⟨R,0,none⟩),.int .u8 34] w fun e w'=>e=.returned (.bool (decide (nx s.data.toList k=34)))/\w.grownBy w' none):=fun w h=>CI.out (.ok k) w h
   have CF:Hid (∀wx,Dd wx R s L O now de k 0 0->Calls Tryz.prog 55 #[.pointer (some ⟨R,0,none⟩),.int .i64 2,.int .i64 (k:Nat)] wx fun en w'=>en=.returned (.tuple #[])/\Dd w' R s L O now de k 2 k/\wx.grownBy w' (some R)):=fun wx hg=>dFail_yes R s L O now de k 2 k wx hg
   have HKL:Hid (0<=nx s.data.toList k->k < s.size):=HLT.out k
   have HXE1:Hid (nx s.data.toList k=-1->s.size<=k):=HXE.out k
   have HXB:Hid (-1<=nx s.data.toList k):=(nx_bound s.data.toList k).1
   have HXK:Hid (∀(hk:k < s.size),nx s.data.toList k=(s[k].toNat:Int)):=HX.out k
   have HMU:Hid (nx s.data.toList k=34->(Except.bind (.ok k) fun i=>must s.data.toList i 34:Rs Nat)=.ok (k+1)):=fun h=>by
    show must s.data.toList k 34=_
    unfold must;rw [if_pos h]
   obtain ⟨x,hx⟩:∃x,nx s.data.toList k=x:=⟨_,rfl⟩
   rw [hx] at CI1 HKL HXE1 HXB HXK HMU hstr
   have HSX:Hid ((if x=34 then .ok (acc,k+1)
    else if x=92 then (match esc s.data.toList k with | .error e=>.error e | .ok (b,j)=>str s.data.toList f j (acc++b))
    else if x=-1\/isBr x=true then .error (2,k)
    else if seqN s.data.toList k=0 then .error (2,k)
    else str s.data.toList f (k+seqN s.data.toList k) (acc++subT s.data.toList k (seqN s.data.toList k)))=G):=hstr
   clear hd hx hstr hok df
   by_cases h34:x=34
   ·rw [decide_eq_true h34] at CI1
    have HGG:Hid (G=.ok (acc,k+1)):=by
     have:=HSX.out
     rw [if_pos h34] at this
     exact this.symm
    have HM1:=HMU.out h34
    have HM2:Hid ((Except.bind (.ok k) fun i=>must s.data.toList i 34:Rs Nat)=.ok (k+1)):=HM1
    clear h34 HM1
    go_wp2_with (first | (go_at_call 27;refine (CI1.out _ HDS.out).mono ?_;rintro e w2 ⟨rfl,hg2⟩) | (go_at_call 31;refine (CM.out _ _ (HDS.out.grow hg2)).mono ?_;rintro e w3 ⟨rfl,hd3,hg3⟩))
    refine bodyPost_ret (results_tmp (t:=2) rfl _ _ _) rfl ?_
    rw [HGG.out]
    rw [HM2.out] at hd3
    exact ⟨fun t k hh=>(by cases hh;exact ⟨rfl,hd3⟩),fun c p hh=>(by cases hh),gb_two (gb_more HG.out hg2) hg3⟩
   ·rw [decide_eq_false h34] at CI1
    go_wp2_with (first | (go_at_call 27;refine (CI1.out _ HDS.out).mono ?_;rintro e w2 ⟨rfl,hg2⟩))
    have HD2:Hid (Dd w2 R s L O now de k 0 0):=HD.out.grow hg2
    have HG2:Hid (w.grownBy w2 (some R)):=gb_more HG.out hg2
    obtain ⟨e0,e1,-,-,-,e5,-,-,ef⟩:=HD2.out.cells
    have ef1:=ef 1
    clear hg2 ef c0 c1 c5 df1
    by_cases hm1:x=-1
    ·have hge:=HXE1.out hm1
     have hgd:decide ((s.size:Int)<=(k:Int))=true:=by simp;omega
     have HGG:Hid (G=.error (2,k)):=by
      have:=HSX.out
      rw [if_neg h34,if_neg (by omega),if_pos (Or.inl hm1)] at this
      exact this.symm
     clear h34 hm1
     go_quiet (fail)
     go_wp2_with (first | (go_at_call 55;refine (CF.out _ ?_).mono ?_;exact HD2.out;rintro e w3 ⟨rfl,hd3,hg3⟩))
     refine bodyPost_ret (results_tmp (t:=2) rfl _ _ _) rfl ?_
     rw [HGG.out]
     exact ⟨fun t k hh=>(by cases hh),fun c p hh=>(by cases hh;exact ⟨⟨[],by simp,rfl⟩,by decide,k,hk,hd3⟩),gb_two (w1:=w2) HG2.out ⟨hg3.os,hg3.tape,hg3.output,hg3.size,hg3.block⟩⟩
    ·have hkl:k < s.size:=HKL.out (by have:=HXB.out;omega)
     have hgd:decide ((s.size:Int)<=(k:Int))=false:=by simp;omega
     have hgp:¬ (s.size:Int)<=(k:Int):=by omega
     have HXX:Hid (x=(s[k].toNat:Int)):=HXK.out hkl
     have CC:Hid (∀w,Calls Tryz.prog 58 #[.int .u8 (s[k].toNat:Int)] w fun e w'=>e=.returned (.bool (isBr x))/\w'=w):=fun w=>by rw [HXX.out];exact dControl_any s[k] w
     obtain ⟨bb,hbb⟩:∃b,isBr x=b:=⟨_,rfl⟩
     have HBB:Hid (isBr x=bb):=hbb
     rw [hbb] at CC
     clear hbb
     cases bb with
     | true =>
      have HGG:Hid (G=.error (2,k)):=by
       have:=HSX.out
       rw [if_neg h34,if_neg (fun e=>by have:=HBB.out;rw [e] at this;cases this),if_pos (Or.inr HBB.out)] at this
       exact this.symm
      clear h34 hm1
      go_quiet (first | (go_at_call 58;exact Calls.quiet_of_same (CC.out _)))
      go_wp2_with (first | (go_at_call 55;refine (CF.out _ ?_).mono ?_;exact HD2.out;rintro e w3 ⟨rfl,hd3,hg3⟩))
      refine bodyPost_ret (results_tmp (t:=2) rfl _ _ _) rfl ?_
      rw [HGG.out]
      exact ⟨fun t k hh=>(by cases hh),fun c p hh=>(by cases hh;exact ⟨⟨[],by simp,rfl⟩,by decide,k,hk,hd3⟩),gb_two (w1:=w2) HG2.out ⟨hg3.os,hg3.tape,hg3.output,hg3.size,hg3.block⟩⟩
     | false =>
      go_quiet (first | (go_at_call 58;exact Calls.quiet_of_same (CC.out _)))
      have HD3:Hid (Dd (w2.drewN nq) R s L O now de k 0 0):=HD2.out
      have HG3:Hid (w.grownBy (w2.drewN nq) (some R)):=gb_drew HG2.out nq
      obtain ⟨w3,hw3⟩:∃W,w2.drewN nq=W:=⟨_,rfl⟩
      rw [hw3] at HD3 HG3 ⊢
      obtain ⟨f0,f1,-,-,-,f5,-,-,ff⟩:=HD3.out.cells
      have ff1:=ff 1
      clear hw3 ff e0 e1 e5 ef1
      by_cases h92:x=92
      ·have hb92:((s[k].toNat:Int) == 92)=true:=by rw [<-HXX.out,h92];rfl
       have HSE:Hid ((match esc s.data.toList k with | .error e=>.error e | .ok (b,j)=>str s.data.toList f j (acc++b))=G):=by
        have:=HSX.out
        rw [if_neg h34,if_pos h92] at this
        exact this
       have CE1:Hid (∀w,Dd w R s L O now de k 0 0->Calls Tryz.prog 107 #[.pointer (some ⟨R,0,none⟩)] w (TxPost 3 R s L O now de (esc s.data.toList k) w)):=fun w h=>CE.out k w h hkl
       have HE1:Hid (∀b j,esc s.data.toList k=.ok (b,j)->b.length<=3/\k+2<=j/\j<=s.size):=fun b j h=>HEO.out k b j hkl h
       obtain ⟨q,hq⟩:∃q,esc s.data.toList k=q:=⟨_,rfl⟩
       rw [hq] at HSE CE1 HE1
       clear h34 h92 hm1 hq
       go_wp2
       go_quiet (fail)
       go_wp2_with (first | (go_at_call 107;refine (CE1.out _ ?_).mono ?_;exact HD3.out))
       rintro e w4 ⟨h1,h2,hg4⟩
       have HG4:Hid (w.grownBy w4 (some R)):=gb_two (w1:=w3) HG3.out ⟨hg4.os,hg4.tape,hg4.output,hg4.size,hg4.block⟩
       clear hg4
       match q,h1,h2,HSE,HE1 with
       | .error (c,p),_,h2,HSE,_ =>
        obtain ⟨⟨t,ht,rfl⟩,hd4⟩:=h2 c p rfl
        have HD4:Hid (Ds w4 R s L O now de (.error (c,p))):=hd4
        have HGG:Hid (G=.error (c,p)):=HSE.out.symm
        have ka:∀wx,(Op.stringOp .add ⟨acc.toArray⟩ ⟨t.toArray⟩).run Tryz.prog wx=.ok (.string ⟨(acc++t).toArray⟩) wx:=fun wx=>add_str acc t wx (by omega)
        have HT:Hid ((acc++t).length<=3 * s.size+3):=by
         show _<=_
         rw [List.length_append]
         omega
        clear h2 hd4
        go_wp2
        refine ⟨⟨.error (c,p),f,acc++t,rfl,HD4.out,fun k hk=>(by cases hk),fun c p hk=>(by cases hk;exact ⟨HGG.out,HT.out⟩),HG4.out⟩,?_⟩
        obtain ⟨hc,j,hj,hd⟩:=HD4.out
        rw [HM.out,dM_no hd hc]
        omega
       | .ok (b,j),h1,_,HSE,HE1 =>
        obtain ⟨rfl,hd4⟩:=h1 b j rfl
        obtain ⟨hb3,hj1,hj2⟩:=HE1.out b j rfl
        have HD4:Hid (Ds w4 R s L O now de (.ok j)):=hd4
        have HGG:Hid (str s.data.toList f j (acc++b)=G):=HSE.out
        have ka:∀wx,(Op.stringOp .add ⟨acc.toArray⟩ ⟨b.toArray⟩).run Tryz.prog wx=.ok (.string ⟨(acc++b).toArray⟩) wx:=fun wx=>add_str acc b wx (by omega)
        have HT:Hid ((acc++b).length<=3 * j):=by
         show _<=_
         rw [List.length_append]
         omega
        clear h1 hd4
        go_wp2
        refine ⟨⟨.ok j,f,acc++b,rfl,HD4.out,fun k hk=>(by cases hk;exact ⟨by omega,HGG.out,HT.out⟩),fun c p hk=>(by cases hk),HG4.out⟩,?_⟩
        rw [HM.out,dM_ok HD4.out.2]
        omega
      ·have hb92:((s[k].toNat:Int) == 92)=false:=by rw [<-HXX.out];simpa using h92
       have HSY:Hid ((if seqN s.data.toList k=0 then .error (2,k) else str s.data.toList f (k+seqN s.data.toList k) (acc++subT s.data.toList k (seqN s.data.toList k)))=G):=by
        have:=HSX.out
        rw [if_neg h34,if_neg h92,if_neg (by rintro (h | h);exact hm1 h;rw [HBB.out] at h;cases h)] at this
        exact this
       have CSk:Hid (∀w,Calls Tryz.prog 108 #[.string s,.int .i64 (k:Nat)] w fun e w'=>e=.returned (.int .i64 (seqN s.data.toList k:Nat))/\w'=w):=fun w=>CSq.out k w hkl
       have hso:=HSO.out k hk
       have HSLk:Hid ((subT s.data.toList k (seqN s.data.toList k)).length<=3 * seqN s.data.toList k):=HSL.out k
       obtain ⟨n,hn⟩:∃n,seqN s.data.toList k=n:=⟨_,rfl⟩
       rw [hn] at HSY CSk hso HSLk
       clear h34 h92 hm1 hn
       go_wp2
       go_quiet (fail)
       have HD4:Hid (Dd (w3.drewN nq) R s L O now de k 0 0):=HD3.out
       have HG4:Hid (w.grownBy (w3.drewN nq) (some R)):=gb_drew HG3.out nq
       obtain ⟨w4,hw4⟩:∃W,w3.drewN nq=W:=⟨_,rfl⟩
       rw [hw4] at HD4 HG4 ⊢
       obtain ⟨g0,g1,-,-,-,g5,-,-,gg⟩:=HD4.out.cells
       have gg1:=gg 1
       clear hw4 gg f0 f1 f5 ff1
       go_wp2
       go_quiet (first | (go_at_call 108;exact Calls.quiet_of_same (CSk.out _)))
       have HD5:Hid (Dd (w4.drewN nq) R s L O now de k 0 0):=HD4.out
       have HG5:Hid (w.grownBy (w4.drewN nq) (some R)):=gb_drew HG4.out nq
       obtain ⟨w5,hw5⟩:∃W,w4.drewN nq=W:=⟨_,rfl⟩
       rw [hw5] at HD5 HG5 ⊢
       obtain ⟨k0,k1,-,-,-,k5,-,-,kf⟩:=HD5.out.cells
       have kf1:=kf 1
       clear hw5 kf g0 g1 g5 gg1
       by_cases hn0:n=0
       ·have hz:((n:Int) == 0)=true:=by simp [hn0]
        have HGG:Hid (G=.error (2,k)):=by
         have:=HSY.out
         rw [if_pos hn0] at this
         exact this.symm
        clear hn0
        go_wp2_with (first | (go_at_call 55;refine (CF.out _ HD5.out).mono ?_;rintro e w6 ⟨rfl,hd6,hg6⟩))
        refine bodyPost_ret (results_tmp (t:=2) rfl _ _ _) rfl ?_
        rw [HGG.out]
        exact ⟨fun t k hh=>(by cases hh),fun c p hh=>(by cases hh;exact ⟨⟨[],by simp,rfl⟩,by decide,k,hk,hd6⟩),gb_two HG5.out hg6⟩
       ·have hz:((n:Int) == 0)=false:=by rw [beq_eq_false_iff_ne];omega
        have HGG:Hid (str s.data.toList f (k+n) (acc++subT s.data.toList k n)=G):=by
         have:=HSY.out
         rw [if_neg hn0] at this
         exact this
        obtain ⟨X,hX⟩:∃X:List UInt8,subT s.data.toList k n=X:=⟨_,rfl⟩
        have hwr:IntKind.i64.wrap ((k:Int)+(n:Int))=(k:Int)+(n:Int):=by rw [IntKind.wrap_i64];omega
        have sl:∀wx,(Instr.slice 9 (.string s) (some (.int .i64 (k:Int))) (some (.int .i64 ((k:Int)+(n:Int)))) none).run Tryz.prog wx=.ok (.string ⟨X.toArray⟩) wx:=fun wx=>by
         rw [<-hX]
         have:=run_sub s k (k+n) (by omega) hso wx
         rw [show k+n - k=n by omega,show ((k+n:Nat):Int)=(k:Int)+(n:Int) by omega] at this
         exact this
        rw [hX] at HGG HSLk
        have ka:∀wx,(Op.stringOp .add ⟨acc.toArray⟩ ⟨X.toArray⟩).run Tryz.prog wx=.ok (.string ⟨(acc++X).toArray⟩) wx:=fun wx=>add_str acc X wx (by have:=HSLk.out;omega)
        have HT:Hid ((acc++X).length<=3 * (k+n)):=by
         show _<=_
         rw [List.length_append]
         have:=HSLk.out
         omega
        clear hX
        go_wp2
        go_quiet (fail)
        have HD6:Hid (Dd (w5.drewN nq) R s L O now de k 0 0):=HD5.out
        have HG6:Hid (w.grownBy (w5.drewN nq) (some R)):=gb_drew HG5.out nq
        obtain ⟨w6,hw6⟩:∃W,w5.drewN nq=W:=⟨_,rfl⟩
        rw [hw6] at HD6 HG6 ⊢
        obtain ⟨m0,m1,-,-,-,m5,-,-,mf⟩:=HD6.out.cells
        have mf1:=mf 1
        clear hw6 mf k0 k1 k5 kf1
        have HD7:Hid (Dd (w6.setCell ⟨R,1,none⟩ (.int .i64 ((k:Int)+(n:Int)))) R s L O now de (k+n) 0 0):=HD6.out.setI (k+n)
        go_wp2
        refine ⟨⟨.ok (k+n),f,acc++X,rfl,⟨hso,HD7.out⟩,fun k hk=>(by cases hk;exact ⟨by omega,HGG.out,HT.out⟩),fun c p hk=>(by cases hk),gb_set HG6.out 1 _⟩,?_⟩
        rw [HM.out,dM_ok HD7.out]
        omega
end Go.Proofs.YtbgnflcebafjjaaGreatDoor
