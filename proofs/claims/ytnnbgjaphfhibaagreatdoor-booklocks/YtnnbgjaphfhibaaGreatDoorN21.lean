import Derived.Test.YtnnbgjaphfhibaaGreatDoorN16
set_option linter.unusedVariables false
set_option linter.unusedSimpArgs false
set_option maxRecDepth 100000
set_option maxHeartbeats 6400000
open Go.Proofs.Tryz
namespace Go.Proofs.YtnnbgjaphfhibaaGreatDoor
open Go.RowKit Go.Joins
theorem aaC(R:Nat)(s:ByteArray)(L O:Value)(now de i:Nat)(w:World)(h:Dd w R s L O now de i 0 0)(hi:i<s.size)(hs:s.size<=1048576)(hn:i+1<s.size)(hx:nx s.data.toList (i+1)=34) :
  Calls prog 160 #[.pointer (some ⟨R,0,none⟩)] w (mP 3 R s L O now de (esc s.data.toList i) w):=by
 have hl:s.data.toList.length=s.size:=by simp
 have HS:Hd (Dd (w.setCell ⟨R,1,none⟩ (.int .i64 ((i:Int)+1))) R s L O now de (i+1) 0 0):=h.setI (i+1);have eP:Hd (w.grownBy (w.setCell ⟨R,1,none⟩ (.int .i64 ((i:Int)+1))) (some R)):=aV (ak w (some R)) 1 _;obtain⟨c0,c1,-,-,-,-,-,-,df⟩:=h.cells;have df1:=df 1;have HE:Hd (esc s.data.toList i=.ok ([34],i+2)):=ZX _ _ hx;rw[HE.o];have fG:Hd (∀(hj:i+1<s.size),nx s.data.toList (i+1)=(s[i+1].toNat:Int)):=byte_at s (i+1);clear h df;obtain⟨j,hj⟩:=zN (i+1);have hij:i+2=j+1:=by omega
 have hlt:j<s.size:=by omega
 have hge:decide ((s.size:Int)<=(j:Int))=false:=by simp;omega
 have kZ:¬(s.size:Int)<=(j:Int):=by omega
 rw[hj]at HS hx fG;rw[hij];have HX:Hd (nx s.data.toList j=(s[j].toNat:Int)):=fG.o hlt;clear hj hij fG hn HE;have q98:((s[j].toNat:Int) == 98)=false:=by rw[<-HX.o,hx];rfl
 have q116:((s[j].toNat:Int) == 116)=false:=by rw[<-HX.o,hx];rfl
 have q110:((s[j].toNat:Int) == 110)=false:=by rw[<-HX.o,hx];rfl
 have q102:((s[j].toNat:Int) == 102)=false:=by rw[<-HX.o,hx];rfl
 have q114:((s[j].toNat:Int) == 114)=false:=by rw[<-HX.o,hx];rfl
 have q34:((s[j].toNat:Int) == 34)=true:=by rw[<-HX.o,hx];rfl
 have hb:s[j].toNat=34:=by have:=HX.o;omega
 clear HX hx;go_enter func160,ntmps160;go_wp2;obtain⟨wA,hwA⟩:∃W,w.setCell ⟨R,1,none⟩ (.int .i64 ((i:Int)+1))=W:=⟨_,rfl⟩;rw[hwA]at HS eP ⊢;obtain⟨d0,d1,-,-,-,-,-,-,dg⟩:=HS.o.cells;have dg1:=dg 1;clear hwA dg c0 c1 df1;go_quiet (fail);have aK:Hd (Dd (wA.drewN nq) R s L O now de j 0 0):=HS.o;have aG:Hd (w.grownBy (wA.drewN nq) (some R)):=au eP.o nq;obtain⟨wB,hwB⟩:∃W,wA.drewN nq=W:=⟨_,rfl⟩;rw[hwB]at aK aG ⊢;obtain⟨f0,f1,-,-,-,-,-,-,fg⟩:=aK.o.cells;have fg1:=fg 1;clear hwB fg d0 d1 dg1;go_wp2;go_quiet (fail);have dJ:Hd (Dd (wB.drewN nq) R s L O now de j 0 0):=aK.o;have bC:Hd (w.grownBy (wB.drewN nq) (some R)):=au aG.o nq;obtain⟨wC,fH⟩:∃W,wB.drewN nq=W:=⟨_,rfl⟩;rw[fH]at dJ bC ⊢;obtain⟨g0,g1,-,-,-,-,-,-,gg⟩:=dJ.o.cells;have gg1:=gg 1;have eY:Hd (Dd (wC.setCell ⟨R,1,none⟩ (.int .i64 ((j:Int)+1))) R s L O now de (j+1) 0 0):=dJ.o.setI (j+1)
 have gu:Hd (w.grownBy (wC.setCell ⟨R,1,none⟩ (.int .i64 ((j:Int)+1))) (some R)):=aV bC.o 1 _;clear fH gg f0 f1 fg1;have HB:Hd (([UInt8.ofNat ((s[j].toNat:Int)).toNat]:List UInt8)=[34]):=by show _=_;simp[hb]
 have FY:(s[j].toNat:Int)=34:=by omega
 have kd:=JL (wC.setCell ⟨R,1,none⟩ (.int .i64 ((j:Int)+1))) 34;rw[show(wC.setCell ⟨R,1,none⟩ (.int .i64 ((j:Int)+1))).heap.size=wC.heap.size by simp[World.setCell]]at kd;clear hb;go_wp2;go_ret;refine⟨fun t k hh=>?_,fun c p hh=>(by cases hh),aF gu.o (World.grownBy_alloc _ _ none)⟩
 cases hh
 exact⟨by first|exact Bc HB.o|rfl,⟨by omega,eY.o.grow (World.grownBy_alloc _ _ none)⟩⟩
theorem aaD(R:Nat)(s:ByteArray)(L O:Value)(now de i:Nat)(w:World)(h:Dd w R s L O now de i 0 0)(hi:i<s.size)(hs:s.size<=1048576)(hn:i+1<s.size)(hx:nx s.data.toList (i+1)=92) :
  Calls prog 160 #[.pointer (some ⟨R,0,none⟩)] w (mP 3 R s L O now de (esc s.data.toList i) w):=by
 have hl:s.data.toList.length=s.size:=by simp
 have HS:Hd (Dd (w.setCell ⟨R,1,none⟩ (.int .i64 ((i:Int)+1))) R s L O now de (i+1) 0 0):=h.setI (i+1);have eP:Hd (w.grownBy (w.setCell ⟨R,1,none⟩ (.int .i64 ((i:Int)+1))) (some R)):=aV (ak w (some R)) 1 _;obtain⟨c0,c1,-,-,-,-,-,-,df⟩:=h.cells;have df1:=df 1;have HE:Hd (esc s.data.toList i=.ok ([92],i+2)):=ZY _ _ hx;rw[HE.o];have fG:Hd (∀(hj:i+1<s.size),nx s.data.toList (i+1)=(s[i+1].toNat:Int)):=byte_at s (i+1);clear h df;obtain⟨j,hj⟩:=zN (i+1);have hij:i+2=j+1:=by omega
 have hlt:j<s.size:=by omega
 have hge:decide ((s.size:Int)<=(j:Int))=false:=by simp;omega
 have kZ:¬(s.size:Int)<=(j:Int):=by omega
 rw[hj]at HS hx fG;rw[hij];have HX:Hd (nx s.data.toList j=(s[j].toNat:Int)):=fG.o hlt;clear hj hij fG hn HE;have q98:((s[j].toNat:Int) == 98)=false:=by rw[<-HX.o,hx];rfl
 have q116:((s[j].toNat:Int) == 116)=false:=by rw[<-HX.o,hx];rfl
 have q110:((s[j].toNat:Int) == 110)=false:=by rw[<-HX.o,hx];rfl
 have q102:((s[j].toNat:Int) == 102)=false:=by rw[<-HX.o,hx];rfl
 have q114:((s[j].toNat:Int) == 114)=false:=by rw[<-HX.o,hx];rfl
 have q34:((s[j].toNat:Int) == 34)=false:=by rw[<-HX.o,hx];rfl
 have q92:((s[j].toNat:Int) == 92)=true:=by rw[<-HX.o,hx];rfl
 have hb:s[j].toNat=92:=by have:=HX.o;omega
 clear HX hx;go_enter func160,ntmps160;go_wp2;obtain⟨wA,hwA⟩:∃W,w.setCell ⟨R,1,none⟩ (.int .i64 ((i:Int)+1))=W:=⟨_,rfl⟩;rw[hwA]at HS eP ⊢;obtain⟨d0,d1,-,-,-,-,-,-,dg⟩:=HS.o.cells;have dg1:=dg 1;clear hwA dg c0 c1 df1;go_quiet (fail);have aK:Hd (Dd (wA.drewN nq) R s L O now de j 0 0):=HS.o;have aG:Hd (w.grownBy (wA.drewN nq) (some R)):=au eP.o nq;obtain⟨wB,hwB⟩:∃W,wA.drewN nq=W:=⟨_,rfl⟩;rw[hwB]at aK aG ⊢;obtain⟨f0,f1,-,-,-,-,-,-,fg⟩:=aK.o.cells;have fg1:=fg 1;clear hwB fg d0 d1 dg1;go_wp2;go_quiet (fail);have dJ:Hd (Dd (wB.drewN nq) R s L O now de j 0 0):=aK.o;have bC:Hd (w.grownBy (wB.drewN nq) (some R)):=au aG.o nq;obtain⟨wC,fH⟩:∃W,wB.drewN nq=W:=⟨_,rfl⟩;rw[fH]at dJ bC ⊢;obtain⟨g0,g1,-,-,-,-,-,-,gg⟩:=dJ.o.cells;have gg1:=gg 1;have eY:Hd (Dd (wC.setCell ⟨R,1,none⟩ (.int .i64 ((j:Int)+1))) R s L O now de (j+1) 0 0):=dJ.o.setI (j+1)
 have gu:Hd (w.grownBy (wC.setCell ⟨R,1,none⟩ (.int .i64 ((j:Int)+1))) (some R)):=aV bC.o 1 _;clear fH gg f0 f1 fg1;have HB:Hd (([UInt8.ofNat ((s[j].toNat:Int)).toNat]:List UInt8)=[92]):=by show _=_;simp[hb]
 have FY:(s[j].toNat:Int)=92:=by omega
 have kd:=JL (wC.setCell ⟨R,1,none⟩ (.int .i64 ((j:Int)+1))) 92;rw[show(wC.setCell ⟨R,1,none⟩ (.int .i64 ((j:Int)+1))).heap.size=wC.heap.size by simp[World.setCell]]at kd;clear hb;go_wp2;go_ret;refine⟨fun t k hh=>?_,fun c p hh=>(by cases hh),aF gu.o (World.grownBy_alloc _ _ none)⟩
 cases hh
 exact⟨by first|exact Bc HB.o|rfl,⟨by omega,eY.o.grow (World.grownBy_alloc _ _ none)⟩⟩
open Go.RowKit Go.Joins
theorem aaE(R:Nat)(s:ByteArray)(L O:Value)(now de i:Nat)(w:World)(h:Dd w R s L O now de i 0 0)(hi:i<s.size)(hs:s.size<=1048576)(hn:i+1<s.size)(hx:nx s.data.toList (i+1)=98) :
  Calls prog 160 #[.pointer (some ⟨R,0,none⟩)] w (mP 3 R s L O now de (esc s.data.toList i) w):=by
 have hl:s.data.toList.length=s.size:=by simp
 have HS:Hd (Dd (w.setCell ⟨R,1,none⟩ (.int .i64 ((i:Int)+1))) R s L O now de (i+1) 0 0):=h.setI (i+1);have eP:Hd (w.grownBy (w.setCell ⟨R,1,none⟩ (.int .i64 ((i:Int)+1))) (some R)):=aV (ak w (some R)) 1 _;obtain⟨c0,c1,-,-,-,-,-,-,df⟩:=h.cells;have df1:=df 1;have HE:Hd (esc s.data.toList i=.ok ([8],i+2)):=ZR _ _ hx;rw[HE.o];have fG:Hd (∀(hj:i+1<s.size),nx s.data.toList (i+1)=(s[i+1].toNat:Int)):=byte_at s (i+1);clear h df;obtain⟨j,hj⟩:=zN (i+1);have hij:i+2=j+1:=by omega
 have hlt:j<s.size:=by omega
 have hge:decide ((s.size:Int)<=(j:Int))=false:=by simp;omega
 have kZ:¬(s.size:Int)<=(j:Int):=by omega
 rw[hj]at HS hx fG;rw[hij];have HX:Hd (nx s.data.toList j=(s[j].toNat:Int)):=fG.o hlt;clear hj hij fG hn HE;have q98:((s[j].toNat:Int) == 98)=true:=by rw[<-HX.o,hx];rfl
 clear HX hx;go_enter func160,ntmps160;go_wp2;obtain⟨wA,hwA⟩:∃W,w.setCell ⟨R,1,none⟩ (.int .i64 ((i:Int)+1))=W:=⟨_,rfl⟩;rw[hwA]at HS eP ⊢;obtain⟨d0,d1,-,-,-,-,-,-,dg⟩:=HS.o.cells;have dg1:=dg 1;clear hwA dg c0 c1 df1;go_quiet (fail);have aK:Hd (Dd (wA.drewN nq) R s L O now de j 0 0):=HS.o;have aG:Hd (w.grownBy (wA.drewN nq) (some R)):=au eP.o nq;obtain⟨wB,hwB⟩:∃W,wA.drewN nq=W:=⟨_,rfl⟩;rw[hwB]at aK aG ⊢;obtain⟨f0,f1,-,-,-,-,-,-,fg⟩:=aK.o.cells;have fg1:=fg 1;clear hwB fg d0 d1 dg1;go_wp2;go_quiet (fail);have dJ:Hd (Dd (wB.drewN nq) R s L O now de j 0 0):=aK.o;have bC:Hd (w.grownBy (wB.drewN nq) (some R)):=au aG.o nq;obtain⟨wC,fH⟩:∃W,wB.drewN nq=W:=⟨_,rfl⟩;rw[fH]at dJ bC ⊢;obtain⟨g0,g1,-,-,-,-,-,-,gg⟩:=dJ.o.cells;have gg1:=gg 1;have eY:Hd (Dd (wC.setCell ⟨R,1,none⟩ (.int .i64 ((j:Int)+1))) R s L O now de (j+1) 0 0):=dJ.o.setI (j+1)
 have gu:Hd (w.grownBy (wC.setCell ⟨R,1,none⟩ (.int .i64 ((j:Int)+1))) (some R)):=aV bC.o 1 _;clear fH gg f0 f1 fg1;go_wp2;go_ret;exact⟨fun t k hh=>(by cases hh;exact⟨rfl,by omega,eY.o⟩),fun c p hh=>(by cases hh),gu.o⟩
theorem aaF(R:Nat)(s:ByteArray)(L O:Value)(now de i:Nat)(w:World)(h:Dd w R s L O now de i 0 0)(hi:i<s.size)(hs:s.size<=1048576)(hn:i+1<s.size)(hx:nx s.data.toList (i+1)=116) :
  Calls prog 160 #[.pointer (some ⟨R,0,none⟩)] w (mP 3 R s L O now de (esc s.data.toList i) w):=by
 have hl:s.data.toList.length=s.size:=by simp
 have HS:Hd (Dd (w.setCell ⟨R,1,none⟩ (.int .i64 ((i:Int)+1))) R s L O now de (i+1) 0 0):=h.setI (i+1);have eP:Hd (w.grownBy (w.setCell ⟨R,1,none⟩ (.int .i64 ((i:Int)+1))) (some R)):=aV (ak w (some R)) 1 _;obtain⟨c0,c1,-,-,-,-,-,-,df⟩:=h.cells;have df1:=df 1;have HE:Hd (esc s.data.toList i=.ok ([9],i+2)):=ZT _ _ hx;rw[HE.o];have fG:Hd (∀(hj:i+1<s.size),nx s.data.toList (i+1)=(s[i+1].toNat:Int)):=byte_at s (i+1);clear h df;obtain⟨j,hj⟩:=zN (i+1);have hij:i+2=j+1:=by omega
 have hlt:j<s.size:=by omega
 have hge:decide ((s.size:Int)<=(j:Int))=false:=by simp;omega
 have kZ:¬(s.size:Int)<=(j:Int):=by omega
 rw[hj]at HS hx fG;rw[hij];have HX:Hd (nx s.data.toList j=(s[j].toNat:Int)):=fG.o hlt;clear hj hij fG hn HE;have q98:((s[j].toNat:Int) == 98)=false:=by rw[<-HX.o,hx];rfl
 have q116:((s[j].toNat:Int) == 116)=true:=by rw[<-HX.o,hx];rfl
 clear HX hx;go_enter func160,ntmps160;go_wp2;obtain⟨wA,hwA⟩:∃W,w.setCell ⟨R,1,none⟩ (.int .i64 ((i:Int)+1))=W:=⟨_,rfl⟩;rw[hwA]at HS eP ⊢;obtain⟨d0,d1,-,-,-,-,-,-,dg⟩:=HS.o.cells;have dg1:=dg 1;clear hwA dg c0 c1 df1;go_quiet (fail);have aK:Hd (Dd (wA.drewN nq) R s L O now de j 0 0):=HS.o;have aG:Hd (w.grownBy (wA.drewN nq) (some R)):=au eP.o nq;obtain⟨wB,hwB⟩:∃W,wA.drewN nq=W:=⟨_,rfl⟩;rw[hwB]at aK aG ⊢;obtain⟨f0,f1,-,-,-,-,-,-,fg⟩:=aK.o.cells;have fg1:=fg 1;clear hwB fg d0 d1 dg1;go_wp2;go_quiet (fail);have dJ:Hd (Dd (wB.drewN nq) R s L O now de j 0 0):=aK.o;have bC:Hd (w.grownBy (wB.drewN nq) (some R)):=au aG.o nq;obtain⟨wC,fH⟩:∃W,wB.drewN nq=W:=⟨_,rfl⟩;rw[fH]at dJ bC ⊢;obtain⟨g0,g1,-,-,-,-,-,-,gg⟩:=dJ.o.cells;have gg1:=gg 1;have eY:Hd (Dd (wC.setCell ⟨R,1,none⟩ (.int .i64 ((j:Int)+1))) R s L O now de (j+1) 0 0):=dJ.o.setI (j+1)
 have gu:Hd (w.grownBy (wC.setCell ⟨R,1,none⟩ (.int .i64 ((j:Int)+1))) (some R)):=aV bC.o 1 _;clear fH gg f0 f1 fg1;go_wp2;go_ret;exact⟨fun t k hh=>(by cases hh;exact⟨rfl,by omega,eY.o⟩),fun c p hh=>(by cases hh),gu.o⟩
theorem aaG(R:Nat)(s:ByteArray)(L O:Value)(now de i:Nat)(w:World)(h:Dd w R s L O now de i 0 0)(hi:i<s.size)(hs:s.size<=1048576)(hn:i+1<s.size)(hx:nx s.data.toList (i+1)=110) :
  Calls prog 160 #[.pointer (some ⟨R,0,none⟩)] w (mP 3 R s L O now de (esc s.data.toList i) w):=by
 have hl:s.data.toList.length=s.size:=by simp
 have HS:Hd (Dd (w.setCell ⟨R,1,none⟩ (.int .i64 ((i:Int)+1))) R s L O now de (i+1) 0 0):=h.setI (i+1);have eP:Hd (w.grownBy (w.setCell ⟨R,1,none⟩ (.int .i64 ((i:Int)+1))) (some R)):=aV (ak w (some R)) 1 _;obtain⟨c0,c1,-,-,-,-,-,-,df⟩:=h.cells;have df1:=df 1;have HE:Hd (esc s.data.toList i=.ok ([10],i+2)):=ZU _ _ hx;rw[HE.o];have fG:Hd (∀(hj:i+1<s.size),nx s.data.toList (i+1)=(s[i+1].toNat:Int)):=byte_at s (i+1);clear h df;obtain⟨j,hj⟩:=zN (i+1);have hij:i+2=j+1:=by omega
 have hlt:j<s.size:=by omega
 have hge:decide ((s.size:Int)<=(j:Int))=false:=by simp;omega
 have kZ:¬(s.size:Int)<=(j:Int):=by omega
 rw[hj]at HS hx fG;rw[hij];have HX:Hd (nx s.data.toList j=(s[j].toNat:Int)):=fG.o hlt;clear hj hij fG hn HE;have q98:((s[j].toNat:Int) == 98)=false:=by rw[<-HX.o,hx];rfl
 have q116:((s[j].toNat:Int) == 116)=false:=by rw[<-HX.o,hx];rfl
 have q110:((s[j].toNat:Int) == 110)=true:=by rw[<-HX.o,hx];rfl
 clear HX hx;go_enter func160,ntmps160;go_wp2;obtain⟨wA,hwA⟩:∃W,w.setCell ⟨R,1,none⟩ (.int .i64 ((i:Int)+1))=W:=⟨_,rfl⟩;rw[hwA]at HS eP ⊢;obtain⟨d0,d1,-,-,-,-,-,-,dg⟩:=HS.o.cells;have dg1:=dg 1;clear hwA dg c0 c1 df1;go_quiet (fail);have aK:Hd (Dd (wA.drewN nq) R s L O now de j 0 0):=HS.o;have aG:Hd (w.grownBy (wA.drewN nq) (some R)):=au eP.o nq;obtain⟨wB,hwB⟩:∃W,wA.drewN nq=W:=⟨_,rfl⟩;rw[hwB]at aK aG ⊢;obtain⟨f0,f1,-,-,-,-,-,-,fg⟩:=aK.o.cells;have fg1:=fg 1;clear hwB fg d0 d1 dg1;go_wp2;go_quiet (fail);have dJ:Hd (Dd (wB.drewN nq) R s L O now de j 0 0):=aK.o;have bC:Hd (w.grownBy (wB.drewN nq) (some R)):=au aG.o nq;obtain⟨wC,fH⟩:∃W,wB.drewN nq=W:=⟨_,rfl⟩;rw[fH]at dJ bC ⊢;obtain⟨g0,g1,-,-,-,-,-,-,gg⟩:=dJ.o.cells;have gg1:=gg 1;have eY:Hd (Dd (wC.setCell ⟨R,1,none⟩ (.int .i64 ((j:Int)+1))) R s L O now de (j+1) 0 0):=dJ.o.setI (j+1)
 have gu:Hd (w.grownBy (wC.setCell ⟨R,1,none⟩ (.int .i64 ((j:Int)+1))) (some R)):=aV bC.o 1 _;clear fH gg f0 f1 fg1;go_wp2;go_ret;exact⟨fun t k hh=>(by cases hh;exact⟨rfl,by omega,eY.o⟩),fun c p hh=>(by cases hh),gu.o⟩
theorem aaH(R:Nat)(s:ByteArray)(L O:Value)(now de i:Nat)(w:World)(h:Dd w R s L O now de i 0 0)(hi:i<s.size)(hs:s.size<=1048576)(hn:i+1<s.size)(hx:nx s.data.toList (i+1)=102) :
  Calls prog 160 #[.pointer (some ⟨R,0,none⟩)] w (mP 3 R s L O now de (esc s.data.toList i) w):=by
 have hl:s.data.toList.length=s.size:=by simp
 have HS:Hd (Dd (w.setCell ⟨R,1,none⟩ (.int .i64 ((i:Int)+1))) R s L O now de (i+1) 0 0):=h.setI (i+1);have eP:Hd (w.grownBy (w.setCell ⟨R,1,none⟩ (.int .i64 ((i:Int)+1))) (some R)):=aV (ak w (some R)) 1 _;obtain⟨c0,c1,-,-,-,-,-,-,df⟩:=h.cells;have df1:=df 1;have HE:Hd (esc s.data.toList i=.ok ([12],i+2)):=ZV _ _ hx;rw[HE.o];have fG:Hd (∀(hj:i+1<s.size),nx s.data.toList (i+1)=(s[i+1].toNat:Int)):=byte_at s (i+1);clear h df;obtain⟨j,hj⟩:=zN (i+1);have hij:i+2=j+1:=by omega
 have hlt:j<s.size:=by omega
 have hge:decide ((s.size:Int)<=(j:Int))=false:=by simp;omega
 have kZ:¬(s.size:Int)<=(j:Int):=by omega
 rw[hj]at HS hx fG;rw[hij];have HX:Hd (nx s.data.toList j=(s[j].toNat:Int)):=fG.o hlt;clear hj hij fG hn HE;have q98:((s[j].toNat:Int) == 98)=false:=by rw[<-HX.o,hx];rfl
 have q116:((s[j].toNat:Int) == 116)=false:=by rw[<-HX.o,hx];rfl
 have q110:((s[j].toNat:Int) == 110)=false:=by rw[<-HX.o,hx];rfl
 have q102:((s[j].toNat:Int) == 102)=true:=by rw[<-HX.o,hx];rfl
 clear HX hx;go_enter func160,ntmps160;go_wp2;obtain⟨wA,hwA⟩:∃W,w.setCell ⟨R,1,none⟩ (.int .i64 ((i:Int)+1))=W:=⟨_,rfl⟩;rw[hwA]at HS eP ⊢;obtain⟨d0,d1,-,-,-,-,-,-,dg⟩:=HS.o.cells;have dg1:=dg 1;clear hwA dg c0 c1 df1;go_quiet (fail);have aK:Hd (Dd (wA.drewN nq) R s L O now de j 0 0):=HS.o;have aG:Hd (w.grownBy (wA.drewN nq) (some R)):=au eP.o nq;obtain⟨wB,hwB⟩:∃W,wA.drewN nq=W:=⟨_,rfl⟩;rw[hwB]at aK aG ⊢;obtain⟨f0,f1,-,-,-,-,-,-,fg⟩:=aK.o.cells;have fg1:=fg 1;clear hwB fg d0 d1 dg1;go_wp2;go_quiet (fail);have dJ:Hd (Dd (wB.drewN nq) R s L O now de j 0 0):=aK.o;have bC:Hd (w.grownBy (wB.drewN nq) (some R)):=au aG.o nq;obtain⟨wC,fH⟩:∃W,wB.drewN nq=W:=⟨_,rfl⟩;rw[fH]at dJ bC ⊢;obtain⟨g0,g1,-,-,-,-,-,-,gg⟩:=dJ.o.cells;have gg1:=gg 1;have eY:Hd (Dd (wC.setCell ⟨R,1,none⟩ (.int .i64 ((j:Int)+1))) R s L O now de (j+1) 0 0):=dJ.o.setI (j+1)
 have gu:Hd (w.grownBy (wC.setCell ⟨R,1,none⟩ (.int .i64 ((j:Int)+1))) (some R)):=aV bC.o 1 _;clear fH gg f0 f1 fg1;go_wp2;go_ret;exact⟨fun t k hh=>(by cases hh;exact⟨rfl,by omega,eY.o⟩),fun c p hh=>(by cases hh),gu.o⟩
theorem aaI(R:Nat)(s:ByteArray)(L O:Value)(now de i:Nat)(w:World)(h:Dd w R s L O now de i 0 0)(hi:i<s.size)(hs:s.size<=1048576)(hn:i+1<s.size)(hx:nx s.data.toList (i+1)=114) :
  Calls prog 160 #[.pointer (some ⟨R,0,none⟩)] w (mP 3 R s L O now de (esc s.data.toList i) w):=by
 have hl:s.data.toList.length=s.size:=by simp
 have HS:Hd (Dd (w.setCell ⟨R,1,none⟩ (.int .i64 ((i:Int)+1))) R s L O now de (i+1) 0 0):=h.setI (i+1);have eP:Hd (w.grownBy (w.setCell ⟨R,1,none⟩ (.int .i64 ((i:Int)+1))) (some R)):=aV (ak w (some R)) 1 _;obtain⟨c0,c1,-,-,-,-,-,-,df⟩:=h.cells;have df1:=df 1;have HE:Hd (esc s.data.toList i=.ok ([13],i+2)):=ZW _ _ hx;rw[HE.o];have fG:Hd (∀(hj:i+1<s.size),nx s.data.toList (i+1)=(s[i+1].toNat:Int)):=byte_at s (i+1);clear h df;obtain⟨j,hj⟩:=zN (i+1);have hij:i+2=j+1:=by omega
 have hlt:j<s.size:=by omega
 have hge:decide ((s.size:Int)<=(j:Int))=false:=by simp;omega
 have kZ:¬(s.size:Int)<=(j:Int):=by omega
 rw[hj]at HS hx fG;rw[hij];have HX:Hd (nx s.data.toList j=(s[j].toNat:Int)):=fG.o hlt;clear hj hij fG hn HE;have q98:((s[j].toNat:Int) == 98)=false:=by rw[<-HX.o,hx];rfl
 have q116:((s[j].toNat:Int) == 116)=false:=by rw[<-HX.o,hx];rfl
 have q110:((s[j].toNat:Int) == 110)=false:=by rw[<-HX.o,hx];rfl
 have q102:((s[j].toNat:Int) == 102)=false:=by rw[<-HX.o,hx];rfl
 have q114:((s[j].toNat:Int) == 114)=true:=by rw[<-HX.o,hx];rfl
 clear HX hx;go_enter func160,ntmps160;go_wp2;obtain⟨wA,hwA⟩:∃W,w.setCell ⟨R,1,none⟩ (.int .i64 ((i:Int)+1))=W:=⟨_,rfl⟩;rw[hwA]at HS eP ⊢;obtain⟨d0,d1,-,-,-,-,-,-,dg⟩:=HS.o.cells;have dg1:=dg 1;clear hwA dg c0 c1 df1;go_quiet (fail);have aK:Hd (Dd (wA.drewN nq) R s L O now de j 0 0):=HS.o;have aG:Hd (w.grownBy (wA.drewN nq) (some R)):=au eP.o nq;obtain⟨wB,hwB⟩:∃W,wA.drewN nq=W:=⟨_,rfl⟩;rw[hwB]at aK aG ⊢;obtain⟨f0,f1,-,-,-,-,-,-,fg⟩:=aK.o.cells;have fg1:=fg 1;clear hwB fg d0 d1 dg1;go_wp2;go_quiet (fail);have dJ:Hd (Dd (wB.drewN nq) R s L O now de j 0 0):=aK.o;have bC:Hd (w.grownBy (wB.drewN nq) (some R)):=au aG.o nq;obtain⟨wC,fH⟩:∃W,wB.drewN nq=W:=⟨_,rfl⟩;rw[fH]at dJ bC ⊢;obtain⟨g0,g1,-,-,-,-,-,-,gg⟩:=dJ.o.cells;have gg1:=gg 1;have eY:Hd (Dd (wC.setCell ⟨R,1,none⟩ (.int .i64 ((j:Int)+1))) R s L O now de (j+1) 0 0):=dJ.o.setI (j+1)
 have gu:Hd (w.grownBy (wC.setCell ⟨R,1,none⟩ (.int .i64 ((j:Int)+1))) (some R)):=aV bC.o 1 _;clear fH gg f0 f1 fg1;go_wp2;go_ret;exact⟨fun t k hh=>(by cases hh;exact⟨rfl,by omega,eY.o⟩),fun c p hh=>(by cases hh),gu.o⟩
end Go.Proofs.YtnnbgjaphfhibaaGreatDoor
