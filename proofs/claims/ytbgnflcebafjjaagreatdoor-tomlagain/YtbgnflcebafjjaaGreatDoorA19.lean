import Derived.Test.YtbgnflcebafjjaaGreatDoorA11
import Derived.Test.YtbgnflcebafjjaaGreatDoorA03
namespace Go.Proofs.YtbgnflcebafjjaaGreatDoor
open Go.RowKit Go.Joins
set_option linter.unusedVariables false
def TxPost (M R:Nat) (s:ByteArray) (L O:Value) (now de:Nat) (g:Rs (List UInt8 × Nat)) (w:World) (e:Ending) (w':World):Prop:=(∀t j,g=.ok (t,j)->e=.returned (.string ⟨t.toArray⟩)/\Ds w' R s L O now de (.ok j))/\(∀c p,g=.error (c,p)->(∃t:List UInt8,t.length<=M/\e=.returned (.string ⟨t.toArray⟩))/\Ds w' R s L O now de (.error (c,p)))/\w.grownBy w' (some R)
theorem four_lt (l:List UInt8):∀(k i n N j:Nat),four l k i n=.ok (N,j)->N < (n+1) * 16 ^ k
 | 0,i,n,N,j,h=>by
  have h':(Except.ok (n,i):Rs (Nat × Nat))=.ok (N,j):=h
  injection h' with h'
  injection h' with h1 h2
  omega
 | k+1,i,n,N,j,h=>by
  rw [four_step] at h
  split at h
  ·cases h
  ·have:=four_lt l k _ _ N j h
   have hb:=hexV_bound (nx l i)
   have e:(16 * n+(hexV (nx l i)).toNat+1) * 16 ^ k<=(16 * (n+1)) * 16 ^ k:=Nat.mul_le_mul_right _ (by omega)
   rw [Nat.pow_succ]
   have e2:(n+1) * (16 ^ k * 16)=(16 * (n+1)) * 16 ^ k:=by rw [Nat.mul_comm (16 ^ k) 16,<-Nat.mul_assoc,Nat.mul_comm (n+1) 16]
   omega
def uFin (i:Nat):Rs (Nat × Nat)->Rs (List UInt8 × Nat)
 | .error e=>.error e
 | .ok (n,j)=>if 55296<=n/\n<=57343 then .error (2,i) else .ok (wrt n,j)
theorem esc_u (l:List UInt8) (i:Nat) (h:nx l (i+1)=117):esc l i=uFin i (four l 4 (i+2) 0):=by
 unfold esc;rw [if_pos h]
 cases four l 4 (i+2) 0 <;> rfl
theorem esc_no (l:List UInt8) (i:Nat) (h1:¬ nx l (i+1)=117) (h2:¬ nx l (i+1)=98) (h3:¬ nx l (i+1)=116) (h4:¬ nx l (i+1)=110) (h5:¬ nx l (i+1)=102) (h6:¬ nx l (i+1)=114) (h7:¬ nx l (i+1)=34) (h8:¬ nx l (i+1)=92):esc l i=.error (2,i+1):=by
 unfold esc;rw [if_neg h1,if_neg h2,if_neg h3,if_neg h4,if_neg h5,if_neg h6,if_neg h7,if_neg h8]
theorem esc_98 (l:List UInt8) (i:Nat) (h:nx l (i+1)=98):esc l i=.ok ([8],i+2):=by
 unfold esc;rw [if_neg (by rw [h];decide),if_pos h]
theorem esc_116 (l:List UInt8) (i:Nat) (h:nx l (i+1)=116):esc l i=.ok ([9],i+2):=by
 unfold esc;rw [if_neg (by rw [h];decide),if_neg (by rw [h];decide),if_pos h]
theorem esc_110 (l:List UInt8) (i:Nat) (h:nx l (i+1)=110):esc l i=.ok ([10],i+2):=by
 unfold esc;rw [if_neg (by rw [h];decide),if_neg (by rw [h];decide),if_neg (by rw [h];decide),if_pos h]
theorem esc_102 (l:List UInt8) (i:Nat) (h:nx l (i+1)=102):esc l i=.ok ([12],i+2):=by
 unfold esc;rw [if_neg (by rw [h];decide),if_neg (by rw [h];decide),if_neg (by rw [h];decide),if_neg (by rw [h];decide),if_pos h]
theorem esc_114 (l:List UInt8) (i:Nat) (h:nx l (i+1)=114):esc l i=.ok ([13],i+2):=by
 unfold esc;rw [if_neg (by rw [h];decide),if_neg (by rw [h];decide),if_neg (by rw [h];decide),if_neg (by rw [h];decide),if_neg (by rw [h];decide),if_pos h]
theorem esc_34 (l:List UInt8) (i:Nat) (h:nx l (i+1)=34):esc l i=.ok ([34],i+2):=by
 unfold esc;rw [if_neg (by rw [h];decide),if_neg (by rw [h];decide),if_neg (by rw [h];decide),if_neg (by rw [h];decide),if_neg (by rw [h];decide),if_neg (by rw [h];decide),if_pos h]
theorem esc_92 (l:List UInt8) (i:Nat) (h:nx l (i+1)=92):esc l i=.ok ([92],i+2):=by
 unfold esc;rw [if_neg (by rw [h];decide),if_neg (by rw [h];decide),if_neg (by rw [h];decide),if_neg (by rw [h];decide),if_neg (by rw [h];decide),if_neg (by rw [h];decide),if_neg (by rw [h];decide),if_pos h]
set_option maxRecDepth 100000 in
set_option maxHeartbeats 1600000 in
theorem dEsc_end (R:Nat) (s:ByteArray) (L O:Value) (now de i:Nat) (w:World) (h:Dd w R s L O now de i 0 0) (hi:i < s.size) (hs:s.size<=1048576) (he:s.size<=i+1) :
  Calls Tryz.prog 107 #[.pointer (some ⟨R,0,none⟩)] w (TxPost 3 R s L O now de (esc s.data.toList i) w):=by
 have hl:s.data.toList.length=s.size:=by simp
 have HS:Hid (Dd (w.setCell ⟨R,1,none⟩ (.int .i64 ((i:Int)+1))) R s L O now de (i+1) 0 0):=h.setI (i+1)
 have HGS:Hid (w.grownBy (w.setCell ⟨R,1,none⟩ (.int .i64 ((i:Int)+1))) (some R)):=gb_set (gb_refl w (some R)) 1 _
 obtain ⟨c0,c1,-,-,-,-,-,-,df⟩:=h.cells
 have df1:=df 1
 have HE:Hid (esc s.data.toList i=.error (2,i+1)):=by
  have e:nx s.data.toList (i+1)=-1:=nx_end _ _ (by omega)
  exact esc_no _ _ (by rw [e];decide) (by rw [e];decide) (by rw [e];decide) (by rw [e];decide) (by rw [e];decide) (by rw [e];decide) (by rw [e];decide) (by rw [e];decide)
 rw [HE.out]
 clear h df
 obtain ⟨j,hj⟩:∃j,i+1=j:=⟨_,rfl⟩
 have hjs:j<=s.size:=by omega
 have hge:decide ((s.size:Int)<=(j:Int))=true:=by simp;omega
 have hge2:(s.size:Int)<=(j:Int):=by omega
 rw [hj] at HS ⊢
 clear hj he
 go_enter Tryz.func107,Tryz.ntmps107
 go_wp2
 obtain ⟨wA,hwA⟩:∃W,w.setCell ⟨R,1,none⟩ (.int .i64 ((i:Int)+1))=W:=⟨_,rfl⟩
 rw [hwA] at HS HGS ⊢
 obtain ⟨d0,d1,-,-,-,-,-,-,dg⟩:=HS.out.cells
 have dg1:=dg 1
 clear hwA dg c0 c1 df1
 have CF:Hid (∀wx,Dd wx R s L O now de j 0 0->Calls Tryz.prog 55 #[.pointer (some ⟨R,0,none⟩),.int .i64 2,.int .i64 (j:Nat)] wx fun en w'=>en=.returned (.tuple #[])/\Dd w' R s L O now de j 2 j/\wx.grownBy w' (some R)):=fun wx hg=>dFail_yes R s L O now de j 2 j wx hg
 go_quiet (fail)
 go_wp2_with (first | (go_at_call 55;refine (CF.out _ ?_).mono ?_;exact HS.out;rintro e w2 ⟨rfl,hd2,hg2⟩))
 refine bodyPost_ret (results_tmp (t:=2) rfl _ _ _) rfl ?_
 exact ⟨fun t k hh=>(by cases hh),fun c p hh=>(by cases hh;exact ⟨⟨[],by simp,rfl⟩,by decide,j,by omega,hd2⟩),gb_two (w1:=wA) HGS.out ⟨hg2.os,hg2.tape,hg2.output,hg2.size,hg2.block⟩⟩
set_option maxRecDepth 100000 in
set_option maxHeartbeats 1600000 in
theorem dEsc_98 (R:Nat) (s:ByteArray) (L O:Value) (now de i:Nat) (w:World) (h:Dd w R s L O now de i 0 0) (hi:i < s.size) (hs:s.size<=1048576) (hn:i+1 < s.size) (hx:nx s.data.toList (i+1)=98) :
  Calls Tryz.prog 107 #[.pointer (some ⟨R,0,none⟩)] w (TxPost 3 R s L O now de (esc s.data.toList i) w):=by
 have hl:s.data.toList.length=s.size:=by simp
 have HS:Hid (Dd (w.setCell ⟨R,1,none⟩ (.int .i64 ((i:Int)+1))) R s L O now de (i+1) 0 0):=h.setI (i+1)
 have HGS:Hid (w.grownBy (w.setCell ⟨R,1,none⟩ (.int .i64 ((i:Int)+1))) (some R)):=gb_set (gb_refl w (some R)) 1 _
 obtain ⟨c0,c1,-,-,-,-,-,-,df⟩:=h.cells
 have df1:=df 1
 have HE:Hid (esc s.data.toList i=.ok ([8],i+2)):=esc_98 _ _ hx
 rw [HE.out]
 have HXJ:Hid (∀(hj:i+1 < s.size),nx s.data.toList (i+1)=(s[i+1].toNat:Int)):=byte_at s (i+1)
 clear h df
 obtain ⟨j,hj⟩:∃j,i+1=j:=⟨_,rfl⟩
 have hij:i+2=j+1:=by omega
 have hlt:j < s.size:=by omega
 have hge:decide ((s.size:Int)<=(j:Int))=false:=by simp;omega
 have hge2:¬ (s.size:Int)<=(j:Int):=by omega
 rw [hj] at HS hx HXJ
 rw [hij]
 have HX:Hid (nx s.data.toList j=(s[j].toNat:Int)):=HXJ.out hlt
 clear hj hij HXJ hn HE
 have q98:((s[j].toNat:Int) == 98)=true:=by rw [<-HX.out,hx];rfl
 clear HX hx
 go_enter Tryz.func107,Tryz.ntmps107
 go_wp2
 obtain ⟨wA,hwA⟩:∃W,w.setCell ⟨R,1,none⟩ (.int .i64 ((i:Int)+1))=W:=⟨_,rfl⟩
 rw [hwA] at HS HGS ⊢
 obtain ⟨d0,d1,-,-,-,-,-,-,dg⟩:=HS.out.cells
 have dg1:=dg 1
 clear hwA dg c0 c1 df1
 go_quiet (fail)
 have HDB:Hid (Dd (wA.drewN nq) R s L O now de j 0 0):=HS.out
 have HGB:Hid (w.grownBy (wA.drewN nq) (some R)):=gb_drew HGS.out nq
 obtain ⟨wB,hwB⟩:∃W,wA.drewN nq=W:=⟨_,rfl⟩
 rw [hwB] at HDB HGB ⊢
 obtain ⟨f0,f1,-,-,-,-,-,-,fg⟩:=HDB.out.cells
 have fg1:=fg 1
 clear hwB fg d0 d1 dg1
 go_wp2
 go_quiet (fail)
 have HDC:Hid (Dd (wB.drewN nq) R s L O now de j 0 0):=HDB.out
 have HGC:Hid (w.grownBy (wB.drewN nq) (some R)):=gb_drew HGB.out nq
 obtain ⟨wC,hwC⟩:∃W,wB.drewN nq=W:=⟨_,rfl⟩
 rw [hwC] at HDC HGC ⊢
 obtain ⟨g0,g1,-,-,-,-,-,-,gg⟩:=HDC.out.cells
 have gg1:=gg 1
 have HDE:Hid (Dd (wC.setCell ⟨R,1,none⟩ (.int .i64 ((j:Int)+1))) R s L O now de (j+1) 0 0):=HDC.out.setI (j+1)
 have HGE:Hid (w.grownBy (wC.setCell ⟨R,1,none⟩ (.int .i64 ((j:Int)+1))) (some R)):=gb_set HGC.out 1 _
 clear hwC gg f0 f1 fg1
 go_wp2
 go_ret
 exact ⟨fun t k hh=>(by cases hh;exact ⟨rfl,by omega,HDE.out⟩),fun c p hh=>(by cases hh),HGE.out⟩
set_option maxRecDepth 100000 in
set_option maxHeartbeats 1600000 in
theorem dEsc_116 (R:Nat) (s:ByteArray) (L O:Value) (now de i:Nat) (w:World) (h:Dd w R s L O now de i 0 0) (hi:i < s.size) (hs:s.size<=1048576) (hn:i+1 < s.size) (hx:nx s.data.toList (i+1)=116) :
  Calls Tryz.prog 107 #[.pointer (some ⟨R,0,none⟩)] w (TxPost 3 R s L O now de (esc s.data.toList i) w):=by
 have hl:s.data.toList.length=s.size:=by simp
 have HS:Hid (Dd (w.setCell ⟨R,1,none⟩ (.int .i64 ((i:Int)+1))) R s L O now de (i+1) 0 0):=h.setI (i+1)
 have HGS:Hid (w.grownBy (w.setCell ⟨R,1,none⟩ (.int .i64 ((i:Int)+1))) (some R)):=gb_set (gb_refl w (some R)) 1 _
 obtain ⟨c0,c1,-,-,-,-,-,-,df⟩:=h.cells
 have df1:=df 1
 have HE:Hid (esc s.data.toList i=.ok ([9],i+2)):=esc_116 _ _ hx
 rw [HE.out]
 have HXJ:Hid (∀(hj:i+1 < s.size),nx s.data.toList (i+1)=(s[i+1].toNat:Int)):=byte_at s (i+1)
 clear h df
 obtain ⟨j,hj⟩:∃j,i+1=j:=⟨_,rfl⟩
 have hij:i+2=j+1:=by omega
 have hlt:j < s.size:=by omega
 have hge:decide ((s.size:Int)<=(j:Int))=false:=by simp;omega
 have hge2:¬ (s.size:Int)<=(j:Int):=by omega
 rw [hj] at HS hx HXJ
 rw [hij]
 have HX:Hid (nx s.data.toList j=(s[j].toNat:Int)):=HXJ.out hlt
 clear hj hij HXJ hn HE
 have q98:((s[j].toNat:Int) == 98)=false:=by rw [<-HX.out,hx];rfl
 have q116:((s[j].toNat:Int) == 116)=true:=by rw [<-HX.out,hx];rfl
 clear HX hx
 go_enter Tryz.func107,Tryz.ntmps107
 go_wp2
 obtain ⟨wA,hwA⟩:∃W,w.setCell ⟨R,1,none⟩ (.int .i64 ((i:Int)+1))=W:=⟨_,rfl⟩
 rw [hwA] at HS HGS ⊢
 obtain ⟨d0,d1,-,-,-,-,-,-,dg⟩:=HS.out.cells
 have dg1:=dg 1
 clear hwA dg c0 c1 df1
 go_quiet (fail)
 have HDB:Hid (Dd (wA.drewN nq) R s L O now de j 0 0):=HS.out
 have HGB:Hid (w.grownBy (wA.drewN nq) (some R)):=gb_drew HGS.out nq
 obtain ⟨wB,hwB⟩:∃W,wA.drewN nq=W:=⟨_,rfl⟩
 rw [hwB] at HDB HGB ⊢
 obtain ⟨f0,f1,-,-,-,-,-,-,fg⟩:=HDB.out.cells
 have fg1:=fg 1
 clear hwB fg d0 d1 dg1
 go_wp2
 go_quiet (fail)
 have HDC:Hid (Dd (wB.drewN nq) R s L O now de j 0 0):=HDB.out
 have HGC:Hid (w.grownBy (wB.drewN nq) (some R)):=gb_drew HGB.out nq
 obtain ⟨wC,hwC⟩:∃W,wB.drewN nq=W:=⟨_,rfl⟩
 rw [hwC] at HDC HGC ⊢
 obtain ⟨g0,g1,-,-,-,-,-,-,gg⟩:=HDC.out.cells
 have gg1:=gg 1
 have HDE:Hid (Dd (wC.setCell ⟨R,1,none⟩ (.int .i64 ((j:Int)+1))) R s L O now de (j+1) 0 0):=HDC.out.setI (j+1)
 have HGE:Hid (w.grownBy (wC.setCell ⟨R,1,none⟩ (.int .i64 ((j:Int)+1))) (some R)):=gb_set HGC.out 1 _
 clear hwC gg f0 f1 fg1
 go_wp2
 go_ret
 exact ⟨fun t k hh=>(by cases hh;exact ⟨rfl,by omega,HDE.out⟩),fun c p hh=>(by cases hh),HGE.out⟩
set_option maxRecDepth 100000 in
set_option maxHeartbeats 1600000 in
theorem dEsc_110 (R:Nat) (s:ByteArray) (L O:Value) (now de i:Nat) (w:World) (h:Dd w R s L O now de i 0 0) (hi:i < s.size) (hs:s.size<=1048576) (hn:i+1 < s.size) (hx:nx s.data.toList (i+1)=110) :
  Calls Tryz.prog 107 #[.pointer (some ⟨R,0,none⟩)] w (TxPost 3 R s L O now de (esc s.data.toList i) w):=by
 have hl:s.data.toList.length=s.size:=by simp
 have HS:Hid (Dd (w.setCell ⟨R,1,none⟩ (.int .i64 ((i:Int)+1))) R s L O now de (i+1) 0 0):=h.setI (i+1)
 have HGS:Hid (w.grownBy (w.setCell ⟨R,1,none⟩ (.int .i64 ((i:Int)+1))) (some R)):=gb_set (gb_refl w (some R)) 1 _
 obtain ⟨c0,c1,-,-,-,-,-,-,df⟩:=h.cells
 have df1:=df 1
 have HE:Hid (esc s.data.toList i=.ok ([10],i+2)):=esc_110 _ _ hx
 rw [HE.out]
 have HXJ:Hid (∀(hj:i+1 < s.size),nx s.data.toList (i+1)=(s[i+1].toNat:Int)):=byte_at s (i+1)
 clear h df
 obtain ⟨j,hj⟩:∃j,i+1=j:=⟨_,rfl⟩
 have hij:i+2=j+1:=by omega
 have hlt:j < s.size:=by omega
 have hge:decide ((s.size:Int)<=(j:Int))=false:=by simp;omega
 have hge2:¬ (s.size:Int)<=(j:Int):=by omega
 rw [hj] at HS hx HXJ
 rw [hij]
 have HX:Hid (nx s.data.toList j=(s[j].toNat:Int)):=HXJ.out hlt
 clear hj hij HXJ hn HE
 have q98:((s[j].toNat:Int) == 98)=false:=by rw [<-HX.out,hx];rfl
 have q116:((s[j].toNat:Int) == 116)=false:=by rw [<-HX.out,hx];rfl
 have q110:((s[j].toNat:Int) == 110)=true:=by rw [<-HX.out,hx];rfl
 clear HX hx
 go_enter Tryz.func107,Tryz.ntmps107
 go_wp2
 obtain ⟨wA,hwA⟩:∃W,w.setCell ⟨R,1,none⟩ (.int .i64 ((i:Int)+1))=W:=⟨_,rfl⟩
 rw [hwA] at HS HGS ⊢
 obtain ⟨d0,d1,-,-,-,-,-,-,dg⟩:=HS.out.cells
 have dg1:=dg 1
 clear hwA dg c0 c1 df1
 go_quiet (fail)
 have HDB:Hid (Dd (wA.drewN nq) R s L O now de j 0 0):=HS.out
 have HGB:Hid (w.grownBy (wA.drewN nq) (some R)):=gb_drew HGS.out nq
 obtain ⟨wB,hwB⟩:∃W,wA.drewN nq=W:=⟨_,rfl⟩
 rw [hwB] at HDB HGB ⊢
 obtain ⟨f0,f1,-,-,-,-,-,-,fg⟩:=HDB.out.cells
 have fg1:=fg 1
 clear hwB fg d0 d1 dg1
 go_wp2
 go_quiet (fail)
 have HDC:Hid (Dd (wB.drewN nq) R s L O now de j 0 0):=HDB.out
 have HGC:Hid (w.grownBy (wB.drewN nq) (some R)):=gb_drew HGB.out nq
 obtain ⟨wC,hwC⟩:∃W,wB.drewN nq=W:=⟨_,rfl⟩
 rw [hwC] at HDC HGC ⊢
 obtain ⟨g0,g1,-,-,-,-,-,-,gg⟩:=HDC.out.cells
 have gg1:=gg 1
 have HDE:Hid (Dd (wC.setCell ⟨R,1,none⟩ (.int .i64 ((j:Int)+1))) R s L O now de (j+1) 0 0):=HDC.out.setI (j+1)
 have HGE:Hid (w.grownBy (wC.setCell ⟨R,1,none⟩ (.int .i64 ((j:Int)+1))) (some R)):=gb_set HGC.out 1 _
 clear hwC gg f0 f1 fg1
 go_wp2
 go_ret
 exact ⟨fun t k hh=>(by cases hh;exact ⟨rfl,by omega,HDE.out⟩),fun c p hh=>(by cases hh),HGE.out⟩
set_option maxRecDepth 100000 in
set_option maxHeartbeats 1600000 in
theorem dEsc_102 (R:Nat) (s:ByteArray) (L O:Value) (now de i:Nat) (w:World) (h:Dd w R s L O now de i 0 0) (hi:i < s.size) (hs:s.size<=1048576) (hn:i+1 < s.size) (hx:nx s.data.toList (i+1)=102) :
  Calls Tryz.prog 107 #[.pointer (some ⟨R,0,none⟩)] w (TxPost 3 R s L O now de (esc s.data.toList i) w):=by
 have hl:s.data.toList.length=s.size:=by simp
 have HS:Hid (Dd (w.setCell ⟨R,1,none⟩ (.int .i64 ((i:Int)+1))) R s L O now de (i+1) 0 0):=h.setI (i+1)
 have HGS:Hid (w.grownBy (w.setCell ⟨R,1,none⟩ (.int .i64 ((i:Int)+1))) (some R)):=gb_set (gb_refl w (some R)) 1 _
 obtain ⟨c0,c1,-,-,-,-,-,-,df⟩:=h.cells
 have df1:=df 1
 have HE:Hid (esc s.data.toList i=.ok ([12],i+2)):=esc_102 _ _ hx
 rw [HE.out]
 have HXJ:Hid (∀(hj:i+1 < s.size),nx s.data.toList (i+1)=(s[i+1].toNat:Int)):=byte_at s (i+1)
 clear h df
 obtain ⟨j,hj⟩:∃j,i+1=j:=⟨_,rfl⟩
 have hij:i+2=j+1:=by omega
 have hlt:j < s.size:=by omega
 have hge:decide ((s.size:Int)<=(j:Int))=false:=by simp;omega
 have hge2:¬ (s.size:Int)<=(j:Int):=by omega
 rw [hj] at HS hx HXJ
 rw [hij]
 have HX:Hid (nx s.data.toList j=(s[j].toNat:Int)):=HXJ.out hlt
 clear hj hij HXJ hn HE
 have q98:((s[j].toNat:Int) == 98)=false:=by rw [<-HX.out,hx];rfl
 have q116:((s[j].toNat:Int) == 116)=false:=by rw [<-HX.out,hx];rfl
 have q110:((s[j].toNat:Int) == 110)=false:=by rw [<-HX.out,hx];rfl
 have q102:((s[j].toNat:Int) == 102)=true:=by rw [<-HX.out,hx];rfl
 clear HX hx
 go_enter Tryz.func107,Tryz.ntmps107
 go_wp2
 obtain ⟨wA,hwA⟩:∃W,w.setCell ⟨R,1,none⟩ (.int .i64 ((i:Int)+1))=W:=⟨_,rfl⟩
 rw [hwA] at HS HGS ⊢
 obtain ⟨d0,d1,-,-,-,-,-,-,dg⟩:=HS.out.cells
 have dg1:=dg 1
 clear hwA dg c0 c1 df1
 go_quiet (fail)
 have HDB:Hid (Dd (wA.drewN nq) R s L O now de j 0 0):=HS.out
 have HGB:Hid (w.grownBy (wA.drewN nq) (some R)):=gb_drew HGS.out nq
 obtain ⟨wB,hwB⟩:∃W,wA.drewN nq=W:=⟨_,rfl⟩
 rw [hwB] at HDB HGB ⊢
 obtain ⟨f0,f1,-,-,-,-,-,-,fg⟩:=HDB.out.cells
 have fg1:=fg 1
 clear hwB fg d0 d1 dg1
 go_wp2
 go_quiet (fail)
 have HDC:Hid (Dd (wB.drewN nq) R s L O now de j 0 0):=HDB.out
 have HGC:Hid (w.grownBy (wB.drewN nq) (some R)):=gb_drew HGB.out nq
 obtain ⟨wC,hwC⟩:∃W,wB.drewN nq=W:=⟨_,rfl⟩
 rw [hwC] at HDC HGC ⊢
 obtain ⟨g0,g1,-,-,-,-,-,-,gg⟩:=HDC.out.cells
 have gg1:=gg 1
 have HDE:Hid (Dd (wC.setCell ⟨R,1,none⟩ (.int .i64 ((j:Int)+1))) R s L O now de (j+1) 0 0):=HDC.out.setI (j+1)
 have HGE:Hid (w.grownBy (wC.setCell ⟨R,1,none⟩ (.int .i64 ((j:Int)+1))) (some R)):=gb_set HGC.out 1 _
 clear hwC gg f0 f1 fg1
 go_wp2
 go_ret
 exact ⟨fun t k hh=>(by cases hh;exact ⟨rfl,by omega,HDE.out⟩),fun c p hh=>(by cases hh),HGE.out⟩
set_option maxRecDepth 100000 in
set_option maxHeartbeats 1600000 in
theorem dEsc_114 (R:Nat) (s:ByteArray) (L O:Value) (now de i:Nat) (w:World) (h:Dd w R s L O now de i 0 0) (hi:i < s.size) (hs:s.size<=1048576) (hn:i+1 < s.size) (hx:nx s.data.toList (i+1)=114) :
  Calls Tryz.prog 107 #[.pointer (some ⟨R,0,none⟩)] w (TxPost 3 R s L O now de (esc s.data.toList i) w):=by
 have hl:s.data.toList.length=s.size:=by simp
 have HS:Hid (Dd (w.setCell ⟨R,1,none⟩ (.int .i64 ((i:Int)+1))) R s L O now de (i+1) 0 0):=h.setI (i+1)
 have HGS:Hid (w.grownBy (w.setCell ⟨R,1,none⟩ (.int .i64 ((i:Int)+1))) (some R)):=gb_set (gb_refl w (some R)) 1 _
 obtain ⟨c0,c1,-,-,-,-,-,-,df⟩:=h.cells
 have df1:=df 1
 have HE:Hid (esc s.data.toList i=.ok ([13],i+2)):=esc_114 _ _ hx
 rw [HE.out]
 have HXJ:Hid (∀(hj:i+1 < s.size),nx s.data.toList (i+1)=(s[i+1].toNat:Int)):=byte_at s (i+1)
 clear h df
 obtain ⟨j,hj⟩:∃j,i+1=j:=⟨_,rfl⟩
 have hij:i+2=j+1:=by omega
 have hlt:j < s.size:=by omega
 have hge:decide ((s.size:Int)<=(j:Int))=false:=by simp;omega
 have hge2:¬ (s.size:Int)<=(j:Int):=by omega
 rw [hj] at HS hx HXJ
 rw [hij]
 have HX:Hid (nx s.data.toList j=(s[j].toNat:Int)):=HXJ.out hlt
 clear hj hij HXJ hn HE
 have q98:((s[j].toNat:Int) == 98)=false:=by rw [<-HX.out,hx];rfl
 have q116:((s[j].toNat:Int) == 116)=false:=by rw [<-HX.out,hx];rfl
 have q110:((s[j].toNat:Int) == 110)=false:=by rw [<-HX.out,hx];rfl
 have q102:((s[j].toNat:Int) == 102)=false:=by rw [<-HX.out,hx];rfl
 have q114:((s[j].toNat:Int) == 114)=true:=by rw [<-HX.out,hx];rfl
 clear HX hx
 go_enter Tryz.func107,Tryz.ntmps107
 go_wp2
 obtain ⟨wA,hwA⟩:∃W,w.setCell ⟨R,1,none⟩ (.int .i64 ((i:Int)+1))=W:=⟨_,rfl⟩
 rw [hwA] at HS HGS ⊢
 obtain ⟨d0,d1,-,-,-,-,-,-,dg⟩:=HS.out.cells
 have dg1:=dg 1
 clear hwA dg c0 c1 df1
 go_quiet (fail)
 have HDB:Hid (Dd (wA.drewN nq) R s L O now de j 0 0):=HS.out
 have HGB:Hid (w.grownBy (wA.drewN nq) (some R)):=gb_drew HGS.out nq
 obtain ⟨wB,hwB⟩:∃W,wA.drewN nq=W:=⟨_,rfl⟩
 rw [hwB] at HDB HGB ⊢
 obtain ⟨f0,f1,-,-,-,-,-,-,fg⟩:=HDB.out.cells
 have fg1:=fg 1
 clear hwB fg d0 d1 dg1
 go_wp2
 go_quiet (fail)
 have HDC:Hid (Dd (wB.drewN nq) R s L O now de j 0 0):=HDB.out
 have HGC:Hid (w.grownBy (wB.drewN nq) (some R)):=gb_drew HGB.out nq
 obtain ⟨wC,hwC⟩:∃W,wB.drewN nq=W:=⟨_,rfl⟩
 rw [hwC] at HDC HGC ⊢
 obtain ⟨g0,g1,-,-,-,-,-,-,gg⟩:=HDC.out.cells
 have gg1:=gg 1
 have HDE:Hid (Dd (wC.setCell ⟨R,1,none⟩ (.int .i64 ((j:Int)+1))) R s L O now de (j+1) 0 0):=HDC.out.setI (j+1)
 have HGE:Hid (w.grownBy (wC.setCell ⟨R,1,none⟩ (.int .i64 ((j:Int)+1))) (some R)):=gb_set HGC.out 1 _
 clear hwC gg f0 f1 fg1
 go_wp2
 go_ret
 exact ⟨fun t k hh=>(by cases hh;exact ⟨rfl,by omega,HDE.out⟩),fun c p hh=>(by cases hh),HGE.out⟩
set_option maxRecDepth 100000 in
set_option maxHeartbeats 1600000 in
theorem dEsc_34 (R:Nat) (s:ByteArray) (L O:Value) (now de i:Nat) (w:World) (h:Dd w R s L O now de i 0 0) (hi:i < s.size) (hs:s.size<=1048576) (hn:i+1 < s.size) (hx:nx s.data.toList (i+1)=34) :
  Calls Tryz.prog 107 #[.pointer (some ⟨R,0,none⟩)] w (TxPost 3 R s L O now de (esc s.data.toList i) w):=by
 have hl:s.data.toList.length=s.size:=by simp
 have HS:Hid (Dd (w.setCell ⟨R,1,none⟩ (.int .i64 ((i:Int)+1))) R s L O now de (i+1) 0 0):=h.setI (i+1)
 have HGS:Hid (w.grownBy (w.setCell ⟨R,1,none⟩ (.int .i64 ((i:Int)+1))) (some R)):=gb_set (gb_refl w (some R)) 1 _
 obtain ⟨c0,c1,-,-,-,-,-,-,df⟩:=h.cells
 have df1:=df 1
 have HE:Hid (esc s.data.toList i=.ok ([34],i+2)):=esc_34 _ _ hx
 rw [HE.out]
 have HXJ:Hid (∀(hj:i+1 < s.size),nx s.data.toList (i+1)=(s[i+1].toNat:Int)):=byte_at s (i+1)
 clear h df
 obtain ⟨j,hj⟩:∃j,i+1=j:=⟨_,rfl⟩
 have hij:i+2=j+1:=by omega
 have hlt:j < s.size:=by omega
 have hge:decide ((s.size:Int)<=(j:Int))=false:=by simp;omega
 have hge2:¬ (s.size:Int)<=(j:Int):=by omega
 rw [hj] at HS hx HXJ
 rw [hij]
 have HX:Hid (nx s.data.toList j=(s[j].toNat:Int)):=HXJ.out hlt
 clear hj hij HXJ hn HE
 have q98:((s[j].toNat:Int) == 98)=false:=by rw [<-HX.out,hx];rfl
 have q116:((s[j].toNat:Int) == 116)=false:=by rw [<-HX.out,hx];rfl
 have q110:((s[j].toNat:Int) == 110)=false:=by rw [<-HX.out,hx];rfl
 have q102:((s[j].toNat:Int) == 102)=false:=by rw [<-HX.out,hx];rfl
 have q114:((s[j].toNat:Int) == 114)=false:=by rw [<-HX.out,hx];rfl
 have q34:((s[j].toNat:Int) == 34)=true:=by rw [<-HX.out,hx];rfl
 have hb:s[j].toNat=34:=by have:=HX.out;omega
 clear HX hx
 go_enter Tryz.func107,Tryz.ntmps107
 go_wp2
 obtain ⟨wA,hwA⟩:∃W,w.setCell ⟨R,1,none⟩ (.int .i64 ((i:Int)+1))=W:=⟨_,rfl⟩
 rw [hwA] at HS HGS ⊢
 obtain ⟨d0,d1,-,-,-,-,-,-,dg⟩:=HS.out.cells
 have dg1:=dg 1
 clear hwA dg c0 c1 df1
 go_quiet (fail)
 have HDB:Hid (Dd (wA.drewN nq) R s L O now de j 0 0):=HS.out
 have HGB:Hid (w.grownBy (wA.drewN nq) (some R)):=gb_drew HGS.out nq
 obtain ⟨wB,hwB⟩:∃W,wA.drewN nq=W:=⟨_,rfl⟩
 rw [hwB] at HDB HGB ⊢
 obtain ⟨f0,f1,-,-,-,-,-,-,fg⟩:=HDB.out.cells
 have fg1:=fg 1
 clear hwB fg d0 d1 dg1
 go_wp2
 go_quiet (fail)
 have HDC:Hid (Dd (wB.drewN nq) R s L O now de j 0 0):=HDB.out
 have HGC:Hid (w.grownBy (wB.drewN nq) (some R)):=gb_drew HGB.out nq
 obtain ⟨wC,hwC⟩:∃W,wB.drewN nq=W:=⟨_,rfl⟩
 rw [hwC] at HDC HGC ⊢
 obtain ⟨g0,g1,-,-,-,-,-,-,gg⟩:=HDC.out.cells
 have gg1:=gg 1
 have HDE:Hid (Dd (wC.setCell ⟨R,1,none⟩ (.int .i64 ((j:Int)+1))) R s L O now de (j+1) 0 0):=HDC.out.setI (j+1)
 have HGE:Hid (w.grownBy (wC.setCell ⟨R,1,none⟩ (.int .i64 ((j:Int)+1))) (some R)):=gb_set HGC.out 1 _
 clear hwC gg f0 f1 fg1
 have HB:Hid (([UInt8.ofNat ((s[j].toNat:Int)).toNat]:List UInt8)=[34]):=by show _=_;simp [hb]
 have hbI:(s[j].toNat:Int)=34:=by omega
 have kd:=cv_one (wC.setCell ⟨R,1,none⟩ (.int .i64 ((j:Int)+1))) 34
 rw [show (wC.setCell ⟨R,1,none⟩ (.int .i64 ((j:Int)+1))).heap.size=wC.heap.size by simp [World.setCell]] at kd
 clear hb
 go_wp2
 go_ret
 refine ⟨fun t k hh=>?_,fun c p hh=>(by cases hh),gb_more HGE.out (World.grownBy_alloc _ _ none)⟩
 cases hh
 exact ⟨by first | exact ret_str HB.out | rfl,⟨by omega,HDE.out.grow (World.grownBy_alloc _ _ none)⟩⟩
set_option maxRecDepth 100000 in
set_option maxHeartbeats 1600000 in
theorem dEsc_92 (R:Nat) (s:ByteArray) (L O:Value) (now de i:Nat) (w:World) (h:Dd w R s L O now de i 0 0) (hi:i < s.size) (hs:s.size<=1048576) (hn:i+1 < s.size) (hx:nx s.data.toList (i+1)=92) :
  Calls Tryz.prog 107 #[.pointer (some ⟨R,0,none⟩)] w (TxPost 3 R s L O now de (esc s.data.toList i) w):=by
 have hl:s.data.toList.length=s.size:=by simp
 have HS:Hid (Dd (w.setCell ⟨R,1,none⟩ (.int .i64 ((i:Int)+1))) R s L O now de (i+1) 0 0):=h.setI (i+1)
 have HGS:Hid (w.grownBy (w.setCell ⟨R,1,none⟩ (.int .i64 ((i:Int)+1))) (some R)):=gb_set (gb_refl w (some R)) 1 _
 obtain ⟨c0,c1,-,-,-,-,-,-,df⟩:=h.cells
 have df1:=df 1
 have HE:Hid (esc s.data.toList i=.ok ([92],i+2)):=esc_92 _ _ hx
 rw [HE.out]
 have HXJ:Hid (∀(hj:i+1 < s.size),nx s.data.toList (i+1)=(s[i+1].toNat:Int)):=byte_at s (i+1)
 clear h df
 obtain ⟨j,hj⟩:∃j,i+1=j:=⟨_,rfl⟩
 have hij:i+2=j+1:=by omega
 have hlt:j < s.size:=by omega
 have hge:decide ((s.size:Int)<=(j:Int))=false:=by simp;omega
 have hge2:¬ (s.size:Int)<=(j:Int):=by omega
 rw [hj] at HS hx HXJ
 rw [hij]
 have HX:Hid (nx s.data.toList j=(s[j].toNat:Int)):=HXJ.out hlt
 clear hj hij HXJ hn HE
 have q98:((s[j].toNat:Int) == 98)=false:=by rw [<-HX.out,hx];rfl
 have q116:((s[j].toNat:Int) == 116)=false:=by rw [<-HX.out,hx];rfl
 have q110:((s[j].toNat:Int) == 110)=false:=by rw [<-HX.out,hx];rfl
 have q102:((s[j].toNat:Int) == 102)=false:=by rw [<-HX.out,hx];rfl
 have q114:((s[j].toNat:Int) == 114)=false:=by rw [<-HX.out,hx];rfl
 have q34:((s[j].toNat:Int) == 34)=false:=by rw [<-HX.out,hx];rfl
 have q92:((s[j].toNat:Int) == 92)=true:=by rw [<-HX.out,hx];rfl
 have hb:s[j].toNat=92:=by have:=HX.out;omega
 clear HX hx
 go_enter Tryz.func107,Tryz.ntmps107
 go_wp2
 obtain ⟨wA,hwA⟩:∃W,w.setCell ⟨R,1,none⟩ (.int .i64 ((i:Int)+1))=W:=⟨_,rfl⟩
 rw [hwA] at HS HGS ⊢
 obtain ⟨d0,d1,-,-,-,-,-,-,dg⟩:=HS.out.cells
 have dg1:=dg 1
 clear hwA dg c0 c1 df1
 go_quiet (fail)
 have HDB:Hid (Dd (wA.drewN nq) R s L O now de j 0 0):=HS.out
 have HGB:Hid (w.grownBy (wA.drewN nq) (some R)):=gb_drew HGS.out nq
 obtain ⟨wB,hwB⟩:∃W,wA.drewN nq=W:=⟨_,rfl⟩
 rw [hwB] at HDB HGB ⊢
 obtain ⟨f0,f1,-,-,-,-,-,-,fg⟩:=HDB.out.cells
 have fg1:=fg 1
 clear hwB fg d0 d1 dg1
 go_wp2
 go_quiet (fail)
 have HDC:Hid (Dd (wB.drewN nq) R s L O now de j 0 0):=HDB.out
 have HGC:Hid (w.grownBy (wB.drewN nq) (some R)):=gb_drew HGB.out nq
 obtain ⟨wC,hwC⟩:∃W,wB.drewN nq=W:=⟨_,rfl⟩
 rw [hwC] at HDC HGC ⊢
 obtain ⟨g0,g1,-,-,-,-,-,-,gg⟩:=HDC.out.cells
 have gg1:=gg 1
 have HDE:Hid (Dd (wC.setCell ⟨R,1,none⟩ (.int .i64 ((j:Int)+1))) R s L O now de (j+1) 0 0):=HDC.out.setI (j+1)
 have HGE:Hid (w.grownBy (wC.setCell ⟨R,1,none⟩ (.int .i64 ((j:Int)+1))) (some R)):=gb_set HGC.out 1 _
 clear hwC gg f0 f1 fg1
 have HB:Hid (([UInt8.ofNat ((s[j].toNat:Int)).toNat]:List UInt8)=[92]):=by show _=_;simp [hb]
 have hbI:(s[j].toNat:Int)=92:=by omega
 have kd:=cv_one (wC.setCell ⟨R,1,none⟩ (.int .i64 ((j:Int)+1))) 92
 rw [show (wC.setCell ⟨R,1,none⟩ (.int .i64 ((j:Int)+1))).heap.size=wC.heap.size by simp [World.setCell]] at kd
 clear hb
 go_wp2
 go_ret
 refine ⟨fun t k hh=>?_,fun c p hh=>(by cases hh),gb_more HGE.out (World.grownBy_alloc _ _ none)⟩
 cases hh
 exact ⟨by first | exact ret_str HB.out | rfl,⟨by omega,HDE.out.grow (World.grownBy_alloc _ _ none)⟩⟩
set_option maxRecDepth 100000 in
set_option maxHeartbeats 1600000 in
theorem dEsc_bad (R:Nat) (s:ByteArray) (L O:Value) (now de i:Nat) (w:World) (h:Dd w R s L O now de i 0 0) (hi:i < s.size) (hs:s.size<=1048576) (hn:i+1 < s.size) (m98:¬ nx s.data.toList (i+1)=98) (m116:¬ nx s.data.toList (i+1)=116) (m110:¬ nx s.data.toList (i+1)=110) (m102:¬ nx s.data.toList (i+1)=102) (m114:¬ nx s.data.toList (i+1)=114) (m34:¬ nx s.data.toList (i+1)=34) (m92:¬ nx s.data.toList (i+1)=92) (m117:¬ nx s.data.toList (i+1)=117) :
  Calls Tryz.prog 107 #[.pointer (some ⟨R,0,none⟩)] w (TxPost 3 R s L O now de (esc s.data.toList i) w):=by
 have hl:s.data.toList.length=s.size:=by simp
 have HS:Hid (Dd (w.setCell ⟨R,1,none⟩ (.int .i64 ((i:Int)+1))) R s L O now de (i+1) 0 0):=h.setI (i+1)
 have HGS:Hid (w.grownBy (w.setCell ⟨R,1,none⟩ (.int .i64 ((i:Int)+1))) (some R)):=gb_set (gb_refl w (some R)) 1 _
 obtain ⟨c0,c1,-,-,-,-,-,-,df⟩:=h.cells
 have df1:=df 1
 have HE:Hid (esc s.data.toList i=.error (2,i+1)):=esc_no _ _ m117 m98 m116 m110 m102 m114 m34 m92
 rw [HE.out]
 have HXJ:Hid (∀(hj:i+1 < s.size),nx s.data.toList (i+1)=(s[i+1].toNat:Int)):=byte_at s (i+1)
 clear h df
 obtain ⟨j,hj⟩:∃j,i+1=j:=⟨_,rfl⟩
 have hij:i+2=j+1:=by omega
 have hlt:j < s.size:=by omega
 have hge:decide ((s.size:Int)<=(j:Int))=false:=by simp;omega
 have hge2:¬ (s.size:Int)<=(j:Int):=by omega
 rw [hj] at HS HXJ m98 m116 m110 m102 m114 m34 m92 m117
 rw [hj]
 have HX:Hid (nx s.data.toList j=(s[j].toNat:Int)):=HXJ.out hlt
 clear hj hij HXJ hn HE
 have q98:((s[j].toNat:Int) == 98)=false:=by rw [beq_eq_false_iff_ne,<-HX.out];exact m98
 have q116:((s[j].toNat:Int) == 116)=false:=by rw [beq_eq_false_iff_ne,<-HX.out];exact m116
 have q110:((s[j].toNat:Int) == 110)=false:=by rw [beq_eq_false_iff_ne,<-HX.out];exact m110
 have q102:((s[j].toNat:Int) == 102)=false:=by rw [beq_eq_false_iff_ne,<-HX.out];exact m102
 have q114:((s[j].toNat:Int) == 114)=false:=by rw [beq_eq_false_iff_ne,<-HX.out];exact m114
 have q34:((s[j].toNat:Int) == 34)=false:=by rw [beq_eq_false_iff_ne,<-HX.out];exact m34
 have q92:((s[j].toNat:Int) == 92)=false:=by rw [beq_eq_false_iff_ne,<-HX.out];exact m92
 have q117:((s[j].toNat:Int) == 117)=false:=by rw [beq_eq_false_iff_ne,<-HX.out];exact m117
 clear HX m98 m116 m110 m102 m114 m34 m92 m117
 go_enter Tryz.func107,Tryz.ntmps107
 go_wp2
 obtain ⟨wA,hwA⟩:∃W,w.setCell ⟨R,1,none⟩ (.int .i64 ((i:Int)+1))=W:=⟨_,rfl⟩
 rw [hwA] at HS HGS ⊢
 obtain ⟨d0,d1,-,-,-,-,-,-,dg⟩:=HS.out.cells
 have dg1:=dg 1
 clear hwA dg c0 c1 df1
 go_quiet (fail)
 have HDB:Hid (Dd (wA.drewN nq) R s L O now de j 0 0):=HS.out
 have HGB:Hid (w.grownBy (wA.drewN nq) (some R)):=gb_drew HGS.out nq
 obtain ⟨wB,hwB⟩:∃W,wA.drewN nq=W:=⟨_,rfl⟩
 rw [hwB] at HDB HGB ⊢
 obtain ⟨f0,f1,-,-,-,-,-,-,fg⟩:=HDB.out.cells
 have fg1:=fg 1
 clear hwB fg d0 d1 dg1
 go_wp2
 go_quiet (fail)
 have HDC:Hid (Dd (wB.drewN nq) R s L O now de j 0 0):=HDB.out
 have HGC:Hid (w.grownBy (wB.drewN nq) (some R)):=gb_drew HGB.out nq
 obtain ⟨wC,hwC⟩:∃W,wB.drewN nq=W:=⟨_,rfl⟩
 rw [hwC] at HDC HGC ⊢
 obtain ⟨g0,g1,-,-,-,-,-,-,gg⟩:=HDC.out.cells
 have gg1:=gg 1
 have HDE:Hid (Dd (wC.setCell ⟨R,1,none⟩ (.int .i64 ((j:Int)+1))) R s L O now de (j+1) 0 0):=HDC.out.setI (j+1)
 have HGE:Hid (w.grownBy (wC.setCell ⟨R,1,none⟩ (.int .i64 ((j:Int)+1))) (some R)):=gb_set HGC.out 1 _
 clear hwC gg f0 f1 fg1
 have hsub:IntKind.i64.wrap ((j:Int)+1 - 1)=(j:Int):=by rw [IntKind.wrap_i64];omega
 have CF:Hid (∀wx,Dd wx R s L O now de (j+1) 0 0->Calls Tryz.prog 55 #[.pointer (some ⟨R,0,none⟩),.int .i64 2,.int .i64 (j:Nat)] wx fun en w'=>en=.returned (.tuple #[])/\Dd w' R s L O now de (j+1) 2 j/\wx.grownBy w' (some R)):=fun wx hg=>dFail_yes R s L O now de (j+1) 2 j wx hg
 obtain ⟨-,k1,-⟩:=HDE.out.cells
 go_wp2_with (first | (go_at_call 55;refine (CF.out _ HDE.out).mono ?_;rintro e w2 ⟨rfl,hd2,hg2⟩))
 refine bodyPost_ret (results_tmp (t:=2) rfl _ _ _) rfl ?_
 exact ⟨fun t k hh=>(by cases hh),fun c p hh=>(by cases hh;exact ⟨⟨[],by simp,rfl⟩,by decide,j+1,by omega,hd2⟩),gb_two HGE.out hg2⟩
set_option maxRecDepth 100000 in
set_option maxHeartbeats 1600000 in
theorem dEsc_117 (R:Nat) (s:ByteArray) (L O:Value) (now de i:Nat) (w:World) (h:Dd w R s L O now de i 0 0) (hi:i < s.size) (hs:s.size<=1048576) (hn:i+1 < s.size) (hx:nx s.data.toList (i+1)=117) :
  Calls Tryz.prog 107 #[.pointer (some ⟨R,0,none⟩)] w (TxPost 3 R s L O now de (esc s.data.toList i) w):=by
 have hl:s.data.toList.length=s.size:=by simp
 have HS:Hid (Dd (w.setCell ⟨R,1,none⟩ (.int .i64 ((i:Int)+1))) R s L O now de (i+1) 0 0):=h.setI (i+1)
 have HGS:Hid (w.grownBy (w.setCell ⟨R,1,none⟩ (.int .i64 ((i:Int)+1))) (some R)):=gb_set (gb_refl w (some R)) 1 _
 obtain ⟨c0,c1,-,-,-,-,-,-,df⟩:=h.cells
 have df1:=df 1
 have HE:Hid (esc s.data.toList i=uFin i (four s.data.toList 4 (i+2) 0)):=esc_u _ _ hx
 rw [HE.out]
 have HXJ:Hid (∀(hj:i+1 < s.size),nx s.data.toList (i+1)=(s[i+1].toNat:Int)):=byte_at s (i+1)
 clear h df
 obtain ⟨j,hj⟩:∃j,i+1=j:=⟨_,rfl⟩
 have hij:i+2=j+1:=by omega
 have hlt:j < s.size:=by omega
 have hge:decide ((s.size:Int)<=(j:Int))=false:=by simp;omega
 have hge2:¬ (s.size:Int)<=(j:Int):=by omega
 rw [hj] at HS hx HXJ
 rw [hij]
 have HX:Hid (nx s.data.toList j=(s[j].toNat:Int)):=HXJ.out hlt
 clear hj hij HXJ hn HE
 have q98:((s[j].toNat:Int) == 98)=false:=by rw [<-HX.out,hx];rfl
 have q116:((s[j].toNat:Int) == 116)=false:=by rw [<-HX.out,hx];rfl
 have q110:((s[j].toNat:Int) == 110)=false:=by rw [<-HX.out,hx];rfl
 have q102:((s[j].toNat:Int) == 102)=false:=by rw [<-HX.out,hx];rfl
 have q114:((s[j].toNat:Int) == 114)=false:=by rw [<-HX.out,hx];rfl
 have q34:((s[j].toNat:Int) == 34)=false:=by rw [<-HX.out,hx];rfl
 have q92:((s[j].toNat:Int) == 92)=false:=by rw [<-HX.out,hx];rfl
 have q117:((s[j].toNat:Int) == 117)=true:=by rw [<-HX.out,hx];rfl
 clear HX hx
 have CFo:Hid (∀wx,Dd wx R s L O now de (j+1) 0 0->Calls Tryz.prog 123 #[.pointer (some ⟨R,0,none⟩)] wx (FoPost R s L O now de (four s.data.toList 4 (j+1) 0) wx)):=fun wx h=>dFour_any R s L O now de (j+1) wx h (by omega) hs
 have HFL:Hid (∀n k,four s.data.toList 4 (j+1) 0=.ok (n,k)->n < 65536):=fun n k hh=>by have:=four_lt _ _ _ _ _ _ hh;omega
 have CW:Hid (∀n:Nat,n < 65536->∀w,Calls Tryz.prog 124 #[.int .i64 (n:Nat)] w fun e w'=>e=.returned (.string ⟨(wrt n).toArray⟩)/\w.grownBy w' none):=dWritten_any
 have CW0:Hid (∀w,Calls Tryz.prog 124 #[.int .i64 0] w fun e w'=>e=.returned (.string ⟨(wrt 0).toArray⟩)/\w.grownBy w' none):=dWritten_any 0 (by omega)
 obtain ⟨F,hF⟩:∃F,four s.data.toList 4 (j+1) 0=F:=⟨_,rfl⟩
 rw [hF] at CFo HFL ⊢
 clear hF
 go_enter Tryz.func107,Tryz.ntmps107
 go_wp2
 obtain ⟨wA,hwA⟩:∃W,w.setCell ⟨R,1,none⟩ (.int .i64 ((i:Int)+1))=W:=⟨_,rfl⟩
 rw [hwA] at HS HGS ⊢
 obtain ⟨d0,d1,-,-,-,-,-,-,dg⟩:=HS.out.cells
 have dg1:=dg 1
 clear hwA dg c0 c1 df1
 go_quiet (fail)
 have HDB:Hid (Dd (wA.drewN nq) R s L O now de j 0 0):=HS.out
 have HGB:Hid (w.grownBy (wA.drewN nq) (some R)):=gb_drew HGS.out nq
 obtain ⟨wB,hwB⟩:∃W,wA.drewN nq=W:=⟨_,rfl⟩
 rw [hwB] at HDB HGB ⊢
 obtain ⟨f0,f1,-,-,-,-,-,-,fg⟩:=HDB.out.cells
 have fg1:=fg 1
 clear hwB fg d0 d1 dg1
 go_wp2
 go_quiet (fail)
 have HDC:Hid (Dd (wB.drewN nq) R s L O now de j 0 0):=HDB.out
 have HGC:Hid (w.grownBy (wB.drewN nq) (some R)):=gb_drew HGB.out nq
 obtain ⟨wC,hwC⟩:∃W,wB.drewN nq=W:=⟨_,rfl⟩
 rw [hwC] at HDC HGC ⊢
 obtain ⟨g0,g1,-,-,-,-,-,-,gg⟩:=HDC.out.cells
 have gg1:=gg 1
 have HDE:Hid (Dd (wC.setCell ⟨R,1,none⟩ (.int .i64 ((j:Int)+1))) R s L O now de (j+1) 0 0):=HDC.out.setI (j+1)
 have HGE:Hid (w.grownBy (wC.setCell ⟨R,1,none⟩ (.int .i64 ((j:Int)+1))) (some R)):=gb_set HGC.out 1 _
 clear hwC gg f0 f1 fg1
 go_wp2_with (first | (go_at_call 123;refine (CFo.out _ HDE.out).mono ?_))
 rintro e w2 ⟨h1,h2,hg2⟩
 have HG2:Hid (w.grownBy w2 (some R)):=gb_two HGE.out hg2
 clear hg2
 match F,h1,h2,HFL with
 | .error (c,p),h1,h2,_ =>
  obtain ⟨rfl,hne,k,hk,hd⟩:=h2 c p rfl
  obtain ⟨-,-,-,-,-,e5,-⟩:=hd.cells
  have hb:(c == 0)=false:=by simpa using hne
  have HD:Hid (Dd w2 R s L O now de k c p):=hd
  have HNE:Hid (c ≠ 0):=hne
  have HK:Hid (k<=s.size):=hk
  clear h1 h2 hd hne hk
  go_wp2_with (first | (go_at_call 124;refine (CW0.out _).mono ?_;rintro e w3 ⟨rfl,hg3⟩))
  go_ret
  exact ⟨fun t k hh=>(by have hh:(Except.error (c,p):Rs (List UInt8 × Nat))=.ok (t,k):=hh;cases hh),fun c' p' hh=>(by have hh:(Except.error (c,p):Rs (List UInt8 × Nat))=.error (c',p'):=hh;injection hh with hh;injection hh with e1 e2;subst e1 e2;exact ⟨⟨wrt 0,by decide,rfl⟩,HNE.out,k,HK.out,HD.out.grow hg3⟩),gb_more HG2.out hg3⟩
 | .ok (n,k),h1,h2,HFL =>
  obtain ⟨rfl,hk,hd⟩:=h1 n k rfl
  have hn:=HFL.out n k rfl
  obtain ⟨-,-,-,-,-,e5,-⟩:=hd.cells
  have HD:Hid (Dd w2 R s L O now de k 0 0):=hd
  have HK:Hid (k<=s.size):=hk
  have CWn:Hid (∀w,Calls Tryz.prog 124 #[.int .i64 (n:Nat)] w fun e w'=>e=.returned (.string ⟨(wrt n).toArray⟩)/\w.grownBy w' none):=CW.out n hn
  have HWL:Hid ((wrt n).length<=3):=by
   show _<=_
   have:=wrt_len n
   omega
  have CF:Hid (∀wx,Dd wx R s L O now de k 0 0->Calls Tryz.prog 55 #[.pointer (some ⟨R,0,none⟩),.int .i64 2,.int .i64 (i:Nat)] wx fun en w'=>en=.returned (.tuple #[])/\Dd w' R s L O now de k 2 i/\wx.grownBy w' (some R)):=fun wx hg=>dFail_yes R s L O now de k 2 i wx hg
  clear h1 h2 hd hk
  by_cases h55:55296<=n
  ·by_cases h57:n<=57343
   ·have HE:Hid (uFin i (.ok (n,k))=.error (2,i)):=by show (if _ then _ else _)=_;exact if_pos ⟨h55,h57⟩
    have g1':(55296:Int)<=(n:Int):=by omega
    have g2':(n:Int)<=57343:=by omega
    go_wp2_with (first | (go_at_call 55;refine (CF.out _ HD.out).mono ?_;rintro e w3 ⟨rfl,hd3,hg3⟩) | (go_at_call 124;refine (CWn.out _).mono ?_;rintro e w4 ⟨rfl,hg4⟩))
    go_ret
    rw [HE.out]
    exact ⟨fun t k hh=>(by cases hh),fun c p hh=>(by cases hh;exact ⟨⟨wrt n,HWL.out,rfl⟩,by decide,k,HK.out,hd3.grow hg4⟩),gb_more (gb_two HG2.out hg3) hg4⟩
   ·have HE:Hid (uFin i (.ok (n,k))=.ok (wrt n,k)):=by show (if _ then _ else _)=_;exact if_neg (fun h=>h57 h.2)
    have g1':(55296:Int)<=(n:Int):=by omega
    have g2':(57343:Int) < (n:Int):=by omega
    go_wp2_with (first | (go_at_call 124;refine (CWn.out _).mono ?_;rintro e w4 ⟨rfl,hg4⟩))
    go_ret
    rw [HE.out]
    exact ⟨fun t k hh=>(by cases hh;exact ⟨rfl,HK.out,HD.out.grow hg4⟩),fun c p hh=>(by cases hh),gb_more HG2.out hg4⟩
  ·have HE:Hid (uFin i (.ok (n,k))=.ok (wrt n,k)):=by show (if _ then _ else _)=_;exact if_neg (fun h=>h55 h.1)
   have g1':(n:Int) < 55296:=by omega
   have g0':decide ((55296:Int)<=(n:Int))=false:=by rw [decide_eq_false_iff_not];omega
   have g3':¬ (55296:Int)<=(n:Int):=by omega
   clear h55 hn g1'
   go_wp2_with (first | (go_at_call 124;refine (CWn.out _).mono ?_;rintro e w4 ⟨rfl,hg4⟩))
   go_ret
   rw [HE.out]
   exact ⟨fun t k hh=>(by cases hh;exact ⟨rfl,HK.out,HD.out.grow hg4⟩),fun c p hh=>(by cases hh),gb_more HG2.out hg4⟩
theorem dEsc_any (R:Nat) (s:ByteArray) (L O:Value) (now de i:Nat) (w:World) (h:Dd w R s L O now de i 0 0) (hi:i < s.size) (hs:s.size<=1048576) :
  Calls Tryz.prog 107 #[.pointer (some ⟨R,0,none⟩)] w (TxPost 3 R s L O now de (esc s.data.toList i) w):=by
 by_cases hn:i+1 < s.size
 ·by_cases m98:nx s.data.toList (i+1)=98
  ·exact dEsc_98 R s L O now de i w h hi hs hn m98
  by_cases m116:nx s.data.toList (i+1)=116
  ·exact dEsc_116 R s L O now de i w h hi hs hn m116
  by_cases m110:nx s.data.toList (i+1)=110
  ·exact dEsc_110 R s L O now de i w h hi hs hn m110
  by_cases m102:nx s.data.toList (i+1)=102
  ·exact dEsc_102 R s L O now de i w h hi hs hn m102
  by_cases m114:nx s.data.toList (i+1)=114
  ·exact dEsc_114 R s L O now de i w h hi hs hn m114
  by_cases m34:nx s.data.toList (i+1)=34
  ·exact dEsc_34 R s L O now de i w h hi hs hn m34
  by_cases m92:nx s.data.toList (i+1)=92
  ·exact dEsc_92 R s L O now de i w h hi hs hn m92
  by_cases m117:nx s.data.toList (i+1)=117
  ·exact dEsc_117 R s L O now de i w h hi hs hn m117
  exact dEsc_bad R s L O now de i w h hi hs hn m98 m116 m110 m102 m114 m34 m92 m117
 ·exact dEsc_end R s L O now de i w h hi hs (by omega)
end Go.Proofs.YtbgnflcebafjjaaGreatDoor
