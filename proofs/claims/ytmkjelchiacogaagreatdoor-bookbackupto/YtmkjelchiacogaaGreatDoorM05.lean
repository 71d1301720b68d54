import Derived.Test.YtmkjelchiacogaaGreatDoorM03
import Derived.Deep.RegionHeld3
import Derived.Test.YtmkjelchiacogaaGreatDoorM04
set_option linter.unusedVariables false
set_option linter.unusedSimpArgs false
set_option maxRecDepth 100000
set_option maxHeartbeats 6400000
open Go.Proofs.Tryz
namespace Go.Proofs.YtmkjelchiacogaaGreatDoor
open Go.RowKit Go.Joins
theorem aah(s:ByteArray)(k:Nat)(hk:k<=s.size)(w:World) :
  (Instr.slice 9 (.string s) (some (.int .i64 (k:Int))) none none).run prog w=.ok (.string ⟨(s.data.toList.drop k).toArray⟩) w:=by
 have h1:(0:Int)<=(k:Int):=by omega
 have h5:(k:Int)<=(s.size:Int):=by omega
 have e:s.extract k s.size=⟨(s.data.toList.drop k).toArray⟩:=by
  apply ByteArray.ext;rw[ByteArray.data_extract];apply Array.ext';simp;exact List.take_of_length_le (by simp)
 rw[<-e];simp[go_sem,underlying9,h1,h5]
def FT(R:Nat)(s:ByteArray)(T:Nat)(E:Int->TypeId × Value)(g:Rs (List UInt8 × Nat))(w:World)(e:Ending)(w':World):Prop:=(∀t j,g=.ok (t,j)->e=.returned (.tuple #[.string ⟨t.toArray⟩,.nilIface])/\Rd w' R s j T)/\(∀c p,g=.error (c,p)->∃v,e=.returned (.tuple #[.string ⟨#[]⟩,v])/\aF w' v E c p/\∃j,Rd w' R s j T)/\w.grownBy w' (some R)
theorem QD(R:Nat)(s:ByteArray)(i T:Nat)(E:Int->TypeId × Value)(w:World)(h:Rd w R s i T)(hi:i<s.size)(hs:s.size<=1048576)(he:Es w E)(hR:Far R)
  (hT:Lib.Utf8Tabs 10 11 w) (h3:¬R=10) (h4:¬R=11) :
  Calls prog 163 #[.pointer (some ⟨R,0,none⟩)] w (FT R s T E (str s.data.toList (s.data.toList.length+1) (i+1) []) w):=by
 have hl:s.data.toList.length=s.size:=by simp
 have CN:Hd (∀k w,Rd w R s k T->k<=s.size->Calls prog 74 #[.pointer (some ⟨R,0,none⟩)] w fun e w'=>e=.returned (.int .i64 (nx s.data.toList k))/\w.grownBy w' none):=fun k w h1 h2=>mr R s k T w h1 h2 hs
 have CE:Hd (∀k w',w.grownBy w' (some R)->Rd w' R s k T->k<s.size->Calls prog 201 #[.pointer (some ⟨R,0,none⟩)] w' (yZ R s T E (mF s.data.toList k) w')):=fun k w' hg hr hk=>ZE R s k T E w' hr hk hs (he.grow hR hg) hR
 have CB:Hd (∀c w,Calls prog 124 #[.int .i64 c] w fun e w'=>e=.returned (.bool (lg c))/\w'=w):=P7;have CH:Hd (∀k w',w.grownBy w' (some R)->Rd w' R s k T->Calls prog 125 #[.pointer (some ⟨R,0,none⟩)] w' fun e w''=>(∃v,e=.returned v/\aF w'' v E 2 k)/\w'.grownBy w'' none):=fun k w' hg hr=>uU R s k T (E 2).1 (E 2).2 w' hr (he.grow hR hg).te
 have CD:Hd (∀k w',w.grownBy w' (some R)->k<s.size->Calls prog 203 #[.string ⟨(s.data.toList.drop k).toArray⟩] w' fun e w''=>∃r n:Nat,e=.returned (.tuple #[.int .i32 (r:Nat),.int .i64 (n:Nat)])/\Told (aX s.data.toList k) (r,n)/\Below w'.heap.size w' w''):=fun k w' hg hk=>ZH s.data.toList k (by omega) w' (ZU hT h3 h4 hg)
 have HST:Hd (∀f i acc,str s.data.toList (f+1) i acc =
  if nx s.data.toList i=34 then .ok (acc,i+1)
  else if nx s.data.toList i=92 then(match esc s.data.toList i with | .error e=>.error e | .ok (b,j)=>str s.data.toList f j (acc++b))
  else if nx s.data.toList i=-1\/lg (nx s.data.toList i)=true then .error (2,i)
  else if aX s.data.toList i=0 then .error (2,i)
  else str s.data.toList f (i+aX s.data.toList i) (acc++ah s.data.toList i (aX s.data.toList i))):=y9 _
 have dE:Hd (∀k,0<=nx s.data.toList k->k<s.size):=fun k hb=>by rw[<-hl];exact cZ hb
 have HEO:Hd (∀k n j,k<s.size->mF s.data.toList k=.ok (n,j)->n<65536/\nH n=false/\k+2<=j/\j<=s.size):=fun k n j hk he=>by rw[<-hl];exact Qq _ k n j (by omega) he
 have HSO:Hd (∀k,k<=s.size->k+aX s.data.toList k<=s.size):=fun k hk=>by rw[<-hl];exact Qs _ k (by omega)
 obtain⟨G,hG⟩:=zN (str s.data.toList (s.data.toList.length+1) (i+1) []);have iZ:Hd (str s.data.toList (s.data.toList.length+1) (i+1) []=G):=hG;rw[hG];have H0:Hd (Rd w R s i T):=h;have lq:Hd (R<w.heap.size):=h.lt;have HS:Hd (Rd (w.setCell ⟨R,1,none⟩ (.int .i64 ((i:Int)+1))) R s (i+1) T):=h.set (i+1);have uY:Hd (w.grownBy (w.setCell ⟨R,1,none⟩ (.int .i64 ((i:Int)+1))) (some R)):=dD (ai w (some R)) 1 _;obtain⟨-,c1,-,df⟩:=h.cells;have df1:=df 1;clear h hG he df hT;go_enter func163,ntmps163;go_wp2;have zl:Hd (Bd ((w.setCell ⟨R,1,none⟩ (.int .i64 ((i:Int)+1))).alloc (.cells #[.pointer none,.slice none 0 0] 71)) w.heap.size w.heap.size []):=by
  refine Or.inl ⟨Nat.le_refl _,.slice none 0 0,?_,World.ownsRowF_nil _ _ _ _,by simp[Value.ownBlock]⟩;have:=heap_alloc_new (w.setCell ⟨R,1,none⟩ (.int .i64 ((i:Int)+1))) (.cells #[.pointer none,.slice none 0 0] 71);have e:(w.setCell ⟨R,1,none⟩ (.int .i64 ((i:Int)+1))).heap.size=w.heap.size:=by simp[World.setCell]
  rw[e]at this;exact this
 have uo:Hd ((w.setCell ⟨R,1,none⟩ (.int .i64 ((i:Int)+1))).grownBy ((w.setCell ⟨R,1,none⟩ (.int .i64 ((i:Int)+1))).alloc (.cells #[.pointer none,.slice none 0 0] 71)) none):=World.grownBy_alloc _ _ none;have HR1:Hd (Rd ((w.setCell ⟨R,1,none⟩ (.int .i64 ((i:Int)+1))).alloc (.cells #[.pointer none,.slice none 0 0] 71)) R s (i+1) T):=HS.o.grow uo.o;have aB:Hd (w.grownBy ((w.setCell ⟨R,1,none⟩ (.int .i64 ((i:Int)+1))).alloc (.cells #[.pointer none,.slice none 0 0] 71)) (some R)):=aI uY.o uo.o;have zn:Hd (∀w',w.grownBy w' (some R)->w.heap.size<=w'.heap.size):=fun w' hg=>hg.size
 have bY:Hd (∀w1 w2,w.grownBy w1 (some R)->Below w.heap.size w1 w2->w.grownBy w2 (some R)):=fun w1 w2 h1 h2=>ZT h1 (Nat.le_refl _) h2
 obtain⟨B,hB⟩:=zN (w.heap.size);rw[hB]at zl lq zn bY ⊢;obtain⟨wA,hwA⟩:=zN (((w.setCell ⟨R,1,none⟩ (.int .i64 ((i:Int)+1))).alloc (.cells #[.pointer none,.slice none 0 0] 71)));rw[hwA]at zl HR1 aB ⊢;clear hB hwA uo HS uY c1 df1 H0;go_loopw [] (fun wr=>∃(k f:Nat) (acc:List UInt8),Rd wr R s k T/\k<=s.size/\s.size-k<f/\str s.data.toList f k acc=G/\acc.length<=3*k/\Bd wr B B acc/\w.grownBy wr (some R)) (fun wr=>s.size-(match wr.cell? ⟨R,1,none⟩ with|some (.int _ k)=>k.toNat|_=>0))
 case atStart=>exact⟨i+1,s.data.toList.length+1,[],HR1.o,by omega,by omega,iZ.o,by simp,zl.o,aB.o⟩
 case round =>
  obtain⟨k,f,acc,hrd,hk,hf,hstr,hacc,hbd,hg⟩:=hrel;obtain⟨f,rfl⟩:∃f',f=f'+1:=⟨f-1,by omega⟩;have jJ:Hd (Rd wr R s k T):=hrd;have jZ:Hd (w.grownBy wr (some R)):=hg;have jC:Hd (Bd wr B B acc):=hbd;have jB:Hd ((match wr.cell? ⟨R,1,none⟩ with|some (.int _ k)=>k.toNat|_=>0)=k):=by show _=_;rw[hrd.cells.2.1];simp
  have C1:Hd (∀w',Rd w' R s k T->Calls prog 74 #[.pointer (some ⟨R,0,none⟩)] w' fun e w''=>e=.returned (.int .i64 (nx s.data.toList k))/\w'.grownBy w'' none):=fun w' h1=>CN.o k w' h1 hk
  have zo:Hd (0<=nx s.data.toList k->k<s.size):=dE.o k;have HXB:Hd (-1<=nx s.data.toList k):=(PM s.data.toList k).1;rw[HST.o]at hstr;obtain⟨x,hx⟩:=zN (nx s.data.toList k);rw[hx]at C1 zo HXB hstr;have Ju:Hd ((if x=34 then .ok (acc,k+1)
   else if x=92 then(match esc s.data.toList k with | .error e=>.error e | .ok (b,j)=>str s.data.toList f j (acc++b))
   else if x=-1\/lg x=true then .error (2,k)
   else if aX s.data.toList k=0 then .error (2,k)
   else str s.data.toList f (k+aX s.data.toList k) (acc++ah s.data.toList k (aX s.data.toList k)))=G):=hstr
  clear hrd hg hbd hx hstr
  by_cases h34:x=34
  ·have hb:(x != 34)=false:=by simp[h34]
   have bC:Hd (G=.ok (acc,k+1)):=by
    have:=Ju.o;rw[if_pos h34]at this;exact this.symm
   have hkl:=zo.o (by omega);clear h34;go_wp2_with (go_at_call 74;refine(C1.o _ jJ.o).mono ?_);rintro e w2 ⟨rfl,hg2⟩;have HR2:Hd (Rd w2 R s k T):=jJ.o.grow hg2;have HG2:Hd (w.grownBy w2 (some R)):=aI jZ.o hg2;obtain⟨-,d1,-,df⟩:=HR2.o.cells;have df2:=df 1;have HR3:Hd (Rd (w2.setCell ⟨R,1,none⟩ (.int .i64 ((k:Int)+1))) R s (k+1) T):=HR2.o.set (k+1);have aQ:Hd (w.grownBy (w2.setCell ⟨R,1,none⟩ (.int .i64 ((k:Int)+1))) (some R)):=dD HG2.o 1 _;have CS:Hd (Calls prog 34 #[.pointer (some ⟨B,0,none⟩)] (w2.setCell ⟨R,1,none⟩ (.int .i64 ((k:Int)+1))) fun e w'=>e=.returned (.string ⟨acc.toArray⟩)/\Below B (w2.setCell ⟨R,1,none⟩ (.int .i64 ((k:Int)+1))) w'):=Qn B B acc _ ((jC.o.grow (R:=R) (dD (aI (ai wr (some R)) hg2) 1 _) lq.o)) (zn.o _ aQ.o);clear hg2 df;go_wp2_with (go_at_call 34;refine CS.o.mono ?_;rintro e w4 ⟨rfl,hb4⟩)
   refine bodyPost_ret (results_tmp2 (t:=2) (u:=3) rfl _ _ _) rfl ?_;rw[bC.o];exact⟨fun t j hh=>(by cases hh;exact⟨rfl,HR3.o.bel lq.o hb4⟩),fun c p hh=>(by cases hh),bY.o _ _ aQ.o hb4⟩
  ·have hb:(x != 34)=true:=by simp[h34]
   by_cases h92:x=92
   ·have hb2:(x == 92)=true:=by simp[h92]
    have hkl:=zo.o (by omega);have aj:Hd ((match Qg (mF s.data.toList k) with | .error e=>.error e | .ok (b,j)=>str s.data.toList f j (acc++b))=G):=by
     have:=Ju.o;rw[if_neg h34,if_pos h92,Qh]at this;exact this
    have xQ:Hd (∀w',w.grownBy w' (some R)->Rd w' R s k T->Calls prog 201 #[.pointer (some ⟨R,0,none⟩)] w' (yZ R s T E (mF s.data.toList k) w')):=fun w' h1 h2=>CE.o k w' h1 h2 hkl
    have sJ:Hd (∀n j,mF s.data.toList k=.ok (n,j)->n<65536/\nH n=false/\k+2<=j/\j<=s.size):=fun n j h=>HEO.o k n j hkl h
    obtain⟨q,hq⟩:=zN (mF s.data.toList k);rw[hq]at aj xQ sJ;clear h34 h92 hq;go_wp2_with (go_at_call 74;refine(C1.o _ jJ.o).mono ?_);rintro e w2 ⟨rfl,hg2⟩;have HR2:Hd (Rd w2 R s k T):=jJ.o.grow hg2;have HG2:Hd (w.grownBy w2 (some R)):=aI jZ.o hg2;have HB2:Hd (Bd w2 B B acc):=jC.o.grow (R:=R) (aI (ai wr (some R)) hg2) lq.o;clear hg2;go_wp2_with (go_at_call 74;refine(C1.o _ HR2.o).mono ?_);rintro e w3 ⟨rfl,hg3⟩;have HR3:Hd (Rd w3 R s k T):=HR2.o.grow hg3;have aQ:Hd (w.grownBy w3 (some R)):=aI HG2.o hg3;have HB3:Hd (Bd w3 B B acc):=HB2.o.grow (R:=R) (aI (ai w2 (some R)) hg3) lq.o;clear hg3
    cases q with
    | error q =>
     obtain⟨c,q⟩:=q;have bC:Hd (G=.error (c,q)):=aj.o.symm;go_wp2_with (go_at_call 201;refine(xQ.o _ aQ.o HR3.o).mono ?_);rintro e w4 ⟨h1,h2,hg4⟩;obtain⟨v,rfl,⟨F,rfl,hF⟩,jj,hjj⟩:=h2 c q rfl;have HJJ:Hd (Rd w4 R s jj T):=hjj;clear hjj;have aZ:Hd (aF w4 (.iface 104 (.pointer (some ⟨F,0,none⟩))) E c q):=⟨F,rfl,hF⟩;have fD:Hd (w.grownBy w4 (some R)):=kK aQ.o hg4;clear h1 h2 hF hg4;go_wp2;refine bodyPost_ret (results_tmp2 (t:=2) (u:=3) rfl _ _ _) rfl ?_;rw[bC.o];exact⟨fun t j hh=>(by cases hh),fun c p hh=>(by cases hh;exact⟨_,rfl,aZ.o,jj,HJJ.o⟩),fD.o⟩
    | ok q =>
     obtain⟨n,j⟩:=q;obtain⟨hn1,hn2,hn3,hn4⟩:=sJ.o n j rfl;have bC:Hd (str s.data.toList f j (acc++jV n)=G):=aj.o;have hwl:=Qr n;go_wp2_with (go_at_call 201;refine(xQ.o _ aQ.o HR3.o).mono ?_);rintro e w4 ⟨h1,h2,hg4⟩;obtain⟨rfl,hr4⟩:=h1 n j rfl;have HR4:Hd (Rd w4 R s j T):=hr4;have fD:Hd (w.grownBy w4 (some R)):=kK aQ.o hg4;have CWR:Hd (Calls prog 202 #[.pointer (some ⟨B,0,none⟩),.int .i32 (n:Nat)] w4 fun e w'=>(∃k:Int,e=.returned (.tuple #[.int .i64 k,.nilIface]))/\Bd w' B B (acc++jV n)/\Below B w4 w'):=ZJ B B n acc w4 (HB3.o.grow hg4 lq.o) hn1 hn2 (by omega) (zn.o _ fD.o);clear h1 h2 hr4 hg4 hn1 hn2;go_wp2_with (go_at_call 202;refine CWR.o.mono ?_);rintro e w5 ⟨⟨kk,rfl⟩,hb5,hbel⟩;have iy:Hd (Rd w5 R s j T):=HR4.o.bel lq.o hbel;have lQ:Hd (w.grownBy w5 (some R)):=bY.o _ _ fD.o hbel;have kz:Hd (Bd w5 B B (acc++jV n)):=hb5
     clear hb5 hbel;go_wp2;refine⟨⟨j,f,acc++jV n,iy.o,hn4,by omega,bC.o,by rw[List.length_append];omega,kz.o,lQ.o⟩,?_⟩;rw[jB.o,iy.o.cells.2.1];simp;omega
   ·have hb2:(x == 92)=false:=by simp[h92]
    go_wp2_with (go_at_call 74;refine(C1.o _ jJ.o).mono ?_);rintro e w2 ⟨rfl,hg2⟩;have HR2:Hd (Rd w2 R s k T):=jJ.o.grow hg2;have HG2:Hd (w.grownBy w2 (some R)):=aI jZ.o hg2;have HB2:Hd (Bd w2 B B acc):=jC.o.grow (R:=R) (aI (ai wr (some R)) hg2) lq.o;clear hg2;go_wp2_with (go_at_call 74;refine(C1.o _ HR2.o).mono ?_);rintro e w3 ⟨rfl,hg3⟩;have HR3:Hd (Rd w3 R s k T):=HR2.o.grow hg3;have aQ:Hd (w.grownBy w3 (some R)):=aI HG2.o hg3;have HB3:Hd (Bd w3 B B acc):=HB2.o.grow (R:=R) (aI (ai w2 (some R)) hg3) lq.o;clear hg3;have FU:Hd ((if x=-1\/lg x=true then .error (2,k)
     else if aX s.data.toList k=0 then .error (2,k)
     else str s.data.toList f (k+aX s.data.toList k) (acc++ah s.data.toList k (aX s.data.toList k)))=G):=by
     have:=Ju.o;rw[if_neg h34,if_neg h92]at this;exact this
    clear h34 h92
    by_cases he1:x=-1
    ·have hb3:(x == -1)=true:=by simp[he1]
     have bC:Hd (G=.error (2,k)):=by
      have:=FU.o;rw[if_pos (Or.inl he1)]at this;exact this.symm
     clear he1;go_wp2_with (first|(go_at_call 74;refine(C1.o _ HR3.o).mono ?_;rintro e w4 ⟨rfl,hg4⟩)|(go_at_call 125;refine(CH.o k _ (aI aQ.o hg4) (HR3.o.grow hg4)).mono ?_;rintro e w5 ⟨⟨v,rfl,hv⟩,hg5⟩));refine bodyPost_ret (results_tmp2 (t:=2) (u:=3) rfl _ _ _) rfl ?_;rw[bC.o];exact⟨fun t j hh=>(by cases hh),fun c p hh=>(by cases hh;exact⟨v,rfl,hv,_,(HR3.o.grow hg4).grow hg5⟩),aI (aI aQ.o hg4) hg5⟩
    ·have hb3:(x == -1)=false:=by simp[he1]
     have fC:Hd (∀w,Calls prog 124 #[.int .i64 x] w fun e w'=>e=.returned (.bool (lg x))/\w'=w):=fun w=>CB.o x w
     obtain⟨br,hbr⟩:=zN (lg x);rw[hbr]at fC FU;have oz:Hd (¬x=-1):=he1;clear hbr he1;go_wp2_with (go_at_call 74;refine(C1.o _ HR3.o).mono ?_);rintro e w4 ⟨rfl,hg4⟩;have HR4:Hd (Rd w4 R s k T):=HR3.o.grow hg4;have fD:Hd (w.grownBy w4 (some R)):=aI aQ.o hg4;have HB4:Hd (Bd w4 B B acc):=HB3.o.grow (R:=R) (aI (ai w3 (some R)) hg4) lq.o;clear hg4;go_wp2_with (go_at_call 74;refine(C1.o _ HR4.o).mono ?_);rintro e w5 ⟨rfl,hg5⟩;have iy:Hd (Rd w5 R s k T):=HR4.o.grow hg5;have lQ:Hd (w.grownBy w5 (some R)):=aI fD.o hg5;have kz:Hd (Bd w5 B B acc):=HB4.o.grow (R:=R) (aI (ai w4 (some R)) hg5) lq.o;clear hg5
     cases br with
     | true =>
      have bC:Hd (G=.error (2,k)):=by
       have:=FU.o;rw[if_pos (Or.inr rfl)]at this;exact this.symm
      go_wp2_with (first|(go_at_call 124;refine(fC.o _).mono ?_;rintro e w' ⟨rfl,rfl⟩)|(go_at_call 125;refine(CH.o k _ lQ.o iy.o).mono ?_;rintro e w6 ⟨⟨v,rfl,hv⟩,bG⟩));refine bodyPost_ret (results_tmp2 (t:=2) (u:=3) rfl _ _ _) rfl ?_;rw[bC.o];exact⟨fun t j hh=>(by cases hh),fun c p hh=>(by cases hh;exact⟨v,rfl,hv,_,iy.o.grow bG⟩),aI lQ.o bG⟩
     | false =>
      have hkl:k<s.size:=zo.o (by have:=HXB.o;have:=oz.o;omega);have lu:Hd ((if aX s.data.toList k=0 then .error (2,k) else str s.data.toList f (k+aX s.data.toList k) (acc++ah s.data.toList k (aX s.data.toList k)))=G):=by
       have:=FU.o;rw[if_neg (by rintro(h|h);exact oz.o h;cases h)]at this;exact this
      have Jv:=HSO.o k hk;have Jw:Hd (∀w',w.grownBy w' (some R)->Calls prog 203 #[.string ⟨(s.data.toList.drop k).toArray⟩] w' fun e w''=>∃(ri:Int) (n:Nat),e=.returned (.tuple #[.int .i32 ri,.int .i64 (n:Nat)])/\(aX s.data.toList k=0->ri=65533/\n=1)/\(0<aX s.data.toList k->n=aX s.data.toList k/\(ri=65533->¬n=1))/\w'.grownBy w'' none):=fun w' hg=>by
       refine(CD.o k w' hg hkl).mono ?_;rintro e w'' ⟨r,n,rfl,⟨t1,t2⟩,hb⟩;refine⟨(r:Nat),n,rfl,fun h0=>?_,fun h0=>?_,⟨hb.os,hb.tape,hb.output,hb.size,fun k hk _=>hb.block k hk⟩⟩
       ·have:=t1 h0;simp only[Prod.mk.injEq]at this;omega
       ·obtain⟨a1,a2⟩:=t2 h0;refine⟨a1,fun hr hn=>a2 ⟨?_,hn⟩⟩;show r=65533;omega
      have iO:Hd ((ah s.data.toList k (aX s.data.toList k)).length<=aX s.data.toList k):=by
       show _<=_;unfold ah;rw[List.length_take];omega
      have s1:∀wx,(Instr.slice 9 (.string s) (some (.int .i64 (k:Int))) none none).run prog wx=.ok (.string ⟨(s.data.toList.drop k).toArray⟩) wx:=fun wx=>aah s k hk wx
      have s2:∀wx,(Instr.slice 9 (.string s) (some (.int .i64 (k:Int))) (some (.int .i64 ((k:Int)+((aX s.data.toList k:Nat):Int)))) none).run prog wx=.ok (.string ⟨(ah s.data.toList k (aX s.data.toList k)).toArray⟩) wx:=fun wx=>by
       have:=qF s k (k+aX s.data.toList k) (by omega) Jv wx;rw[show k+aX s.data.toList k-k=aX s.data.toList k by omega]at this;simpa using this
      obtain⟨X,hX⟩:∃X:ByteArray,⟨(s.data.toList.drop k).toArray⟩=X:=⟨_,rfl⟩;rw[hX]at s1 Jw;obtain⟨S,hS⟩:=zN (aX s.data.toList k);rw[hS]at lu Jv Jw s2 iO;obtain⟨Y,hY⟩:=zN (ah s.data.toList k S);rw[hY]at lu s2 iO;have hYl:=iO.o;have QE:Hd (∀w',Bd w' B B acc->B<=w'.heap.size->Calls prog 30 #[.pointer (some ⟨B,0,none⟩),.string ⟨Y.toArray⟩] w' fun e w''=>(∃k:Int,e=.returned (.tuple #[.int .i64 k,.nilIface]))/\Bd w'' B B (acc++Y)/\Below B w' w''):=fun w' h1 h2=>Qm B B acc Y w' h1 (by omega) (by omega) h2
      obtain⟨Z,hZ⟩:∃Z:ByteArray,⟨Y.toArray⟩=Z:=⟨_,rfl⟩;rw[hZ]at QE s2;clear hX hS hY hZ;go_wp2_with (go_at_call 124;refine(fC.o _).mono ?_;rintro e w' ⟨rfl,rfl⟩);obtain⟨d0,d1,-,-⟩:=iy.o.cells;have Bg:=Jw.o w'.drew (au lQ.o 1);have CD2:Hd (Calls prog 203 #[.string X] w'.drew fun e w''=>∃(ri:Int) (n:Nat),e=.returned (.tuple #[.int .i32 ri,.int .i64 (n:Nat)])/\(S=0->ri=65533/\n=1)/\(0<S->n=S/\(ri=65533->¬n=1))/\w'.drew.grownBy w'' none):=Bg;clear Bg
      go_region_held3 (fun u=>u.cell? ⟨R,0,none⟩=some (.string s)/\u.cell? ⟨R,1,none⟩=some (.int .i64 (k:Int))) ((first|exact⟨World.grownBy.cell (by assumption) (And.left (by assumption)) (by simp),World.grownBy.cell (by assumption) (And.right (by assumption)) (by simp)⟩|go_keep)) (first|(go_at_call 203;refine CD2.o.mono ?_;rintro e w6 ⟨ri,n,rfl,t1,t2,bG⟩))
      have kN:w'.grownBy w6 none:=af (show w'.grownBy w'.drew none from⟨rfl,rfl,rfl,Nat.le_refl _,fun _ _ _=>rfl⟩) bG;have fG:Hd (Rd w6 R s k T):=iy.o.grow kN;have lS:Hd (w.grownBy w6 (some R)):=aI lQ.o kN;have oK:Hd (Bd w6 B B acc):=kz.o.grow (R:=R) (aI (ai w' (some R)) kN) lq.o
      by_cases hS0:S=0
      ·obtain⟨rfl,rfl⟩:=t1 hS0;have bC:Hd (G=.error (2,k)):=by
        have:=lu.o;rw[if_pos hS0]at this;exact this.symm
       clear t1 t2 bG kN hS0;go_wp2_with (go_at_call 125;refine(CH.o k _ lS.o fG.o).mono ?_;rintro e w7 ⟨⟨v,rfl,hv⟩,fU⟩);refine bodyPost_ret (results_tmp2 (t:=2) (u:=3) rfl _ _ _) rfl ?_;rw[bC.o];exact⟨fun t j hh=>(by cases hh),fun c p hh=>(by cases hh;exact⟨v,rfl,hv,_,fG.o.grow fU⟩),aI lS.o fU⟩
      ·obtain⟨hnS,hne⟩:=t2 (by omega);subst hnS;have bC:Hd (str s.data.toList f (k+n) (acc++Y)=G):=by
        have:=lu.o;rw[if_neg hS0]at this;exact this
       have hcase:((ri == 65533)=true/\((n:Int) == 1)=false)\/(ri == 65533)=false:=by
        by_cases hr:ri=65533
        ·refine Or.inl ⟨by simp[hr],?_⟩;have:=hne hr;rw[beq_eq_false_iff_ne];omega
        ·exact Or.inr (by simp[hr])
       have CWS:Hd (Calls prog 30 #[.pointer (some ⟨B,0,none⟩),.string Z] w6.drew fun e w''=>(∃k:Int,e=.returned (.tuple #[.int .i64 k,.nilIface]))/\Hd (Rd w'' R s k T/\w.grownBy w'' (some R)/\Bd w'' B B (acc++Y))/\(w''.cell? ⟨R,0,none⟩=some (.string s)/\w''.cell? ⟨R,1,none⟩=some (.int .i64 (k:Int)))):=by
        refine(QE.o w6.drew (oK.o.grow (R:=R) (show w6.grownBy w6.drew (some R) from⟨rfl,rfl,rfl,Nat.le_refl _,fun _ _ _=>rfl⟩) lq.o) (zn.o w6.drew (au lS.o 1))).mono ?_;rintro e w'' ⟨h1,h2,h3⟩;have hr:Rd w'' R s k T:=Rd.bel (w:=w6.drew) fG.o lq.o h3;exact⟨h1,⟨hr,bY.o _ _ (au lS.o 1) h3,h2⟩,hr.cells.1,hr.cells.2.1⟩
       obtain⟨d0,d1,-,-⟩:=fG.o.cells;have hn0:0<n:=by omega
       clear t1 t2 bG kN hS0 hne;have hwr:IntKind.i64.wrap ((k:Int)+(n:Int))=(k:Int)+(n:Int):=by
        simp[IntKind.wrap,IntKind.bits,IntKind.signed];omega
       rcases hcase with⟨hq1,hq2⟩|hq1
       all_goals (
        go_wp2
        go_region_held3 (fun u=>u.cell? ⟨R,0,none⟩=some (.string s)/\u.cell? ⟨R,1,none⟩=some (.int .i64 (k:Int))) ((first|assumption|go_keep)) (first|(go_at_call 30;refine CWS.o.mono ?_;rintro e w7 ⟨⟨kk,rfl⟩,hall,hcl⟩))
        have lw:Hd (Rd w7 R s k T):=hall.o.1;have uq:Hd (w.grownBy w7 (some R)):=hall.o.2.1;have gJ:Hd (Bd w7 B B (acc++Y)):=hall.o.2.2;obtain⟨-,e1,-,ef⟩:=lw.o.cells;have ef1:=ef 1;have mJ:Hd (Rd (w7.setCell ⟨R,1,none⟩ (.int .i64 ((k:Int)+(n:Int)))) R s (k+n) T):=by
         have:=lw.o.set (k+n);rw[Int.natCast_add]at this;exact this
        have zq:Hd (w.grownBy (w7.setCell ⟨R,1,none⟩ (.int .i64 ((k:Int)+(n:Int)))) (some R)):=dD uq.o 1 _;have lC:Hd (Bd (w7.setCell ⟨R,1,none⟩ (.int .i64 ((k:Int)+(n:Int)))) B B (acc++Y)):=gJ.o.grow (R:=R) (dD (ai w7 (some R)) 1 _) lq.o;clear hall hcl ef;go_wp2;clear hwr;refine⟨⟨k+n,f,acc++Y,mJ.o,Jv,by omega,bC.o,by rw[List.length_append];omega,lC.o,zq.o⟩,?_⟩;rw[jB.o,mJ.o.cells.2.1];show s.size-((k+n:Nat):Int).toNat<s.size-k;rw[Int.toNat_natCast];omega)
open Go.RowKit Go.Maps Go.WideMaps Go.Joins
theorem QF(ns:List Tn)(own:List Nat)(t:Nat)(k:List UInt8)(h0:ag ns t=0):hold ns own t k=(aG ns t k).map fun q=>(q,decide (q∈own)):=by unfold hold;rw[if_pos h0]
theorem xR{w w':World}{E:Int->TypeId × Value}(h:Es w E)(hg:w.grownBy w' none):Es w' E:=⟨hg.cell h.te (by simp),hg.cell h.ra (by simp),hg.cell h.ma (by simp),hg.cell h.tw (by simp)⟩
theorem pJ(w:World)(o:Obj):w.grownBy (w.alloc o).drew none:=by
 have:=World.grownBy_alloc w o none;exact⟨this.os,this.tape,this.output,this.size,this.block⟩
def aai(E:Int->TypeId × Value)(r:Option Nat)(pl:Nat)(w:World)(e:Ending)(w':World):Prop:=(r=none->e=.returned .nilIface)/\(∀q,r=some q->∃v,e=.returned v/\aF w' v E 5 pl)/\w.grownBy w' none
theorem aaj(B T:Nat)(ns:List Tn)(own:List Nat)(now:Nat)(E:Int->TypeId × Value)(k:List UInt8)(pl:Nat)(w:World)(h:Tr w B T ns own now)(h0:ag ns now=0)(hnw:now<=1000000)(hk:k.length<=1048576)(he:Es w E) :
  Calls prog 122 #[.pointer (some ⟨T,0,none⟩),.agg #[.string ⟨k.toArray⟩,.int .i64 (pl:Nat)]] w (aai E (aG ns now k) pl w):=by
 obtain⟨N,c,M,xs,ks,hD⟩:=h;have CW:Hd (∀w,Calls prog 165 #[.iface (E 5).1 (E 5).2,.int .i64 (pl:Nat)] w fun e w'=>(∃v,e=.returned v/\FaultV w' v pl (E 5).1 (E 5).2)/\w.grownBy w' none):=fun w=>rZ pl _ _ w
 have gy:w.grownBy (w.alloc (.cells #[.string ⟨k.toArray⟩,.int .i64 (pl:Nat)] 196)) none:=World.grownBy_alloc w _ none;have dZ:=heap_alloc_new w (.cells #[.string ⟨k.toArray⟩,.int .i64 (pl:Nat)] 196);obtain⟨K,oI⟩:=zN (w.heap.size);rw[oI]at dZ;have hD1:=hD.keeps (mG gy);have he1:=xR he gy;obtain⟨w1,hw1⟩:=zN (w.alloc (.cells #[.string ⟨k.toArray⟩,.int .i64 (pl:Nat)] 196));rw[hw1]at dZ hD1 gy he1;obtain⟨-,t1,t2,-⟩:=hD1.cells;have k0:w1.cell? ⟨K,0,none⟩=some (.string ⟨k.toArray⟩):=by rw[ae dZ];rfl
 have k1:w1.cell? ⟨K,1,none⟩=some (.int .i64 (pl:Nat)):=by rw[ae dZ];rfl
 have gA:w1.grownBy (w1.alloc (.cells #[.int .i64 0,.bool false] 249)) none:=World.grownBy_alloc w1 _ none;have t1A:=gA.cell t1 (by simp);have t2A:=gA.cell t2 (by simp);have k0A:=gA.cell k0 (by simp);have hl:∀W:World,W.heap[M]?=w1.heap[M]?->(Instr.lookup 101 (.map (some M)) (oH now k) true).run prog W=.ok (match hold ns own now k with|some v=>.tuple #[.agg #[.int .i64 (v.1:Nat),.bool v.2],.bool true]|none=>.tuple #[.agg #[.int .i64 0,.bool false],.bool false]) W:=fun W hW=>(hD1.map.block hW).look now k (by omega) hk
 obtain⟨es,cc,hm0⟩:=hD1.map.map;have l1:=hl w1.drew rfl;have l2:=hl (w1.alloc (.cells #[.int .i64 0,.bool false] 249)).drew ((gA.block M (aA hm0) (by simp)));rw[QF ns own now k h0]at l1 l2;unfold oH at l1 l2;have aB:Hd (w.grownBy w1 none):=gy;have sJ:Hd (Es w1 E):=he1;have fF:Hd (∀w' v,FaultV w' v pl (E 5).1 (E 5).2->aF w' v E 5 pl):=fun _ _ h=>h
 obtain⟨ty,hty⟩:=zN ((E 5).1);obtain⟨pv,hpv⟩:=zN ((E 5).2);have tw1:=he1.tw;rw[hty,hpv]at CW fF tw1;clear hD dZ hD1 gy he1 he hl hm0 hty hpv gA
 cases hq:aG ns now k with
 | none =>
  rw[hq]at l1 l2;simp only[Option.map_none]at l1 l2;clear hq;go_enter func122,ntmps122;go_wp2
  go_region
  all_goals (
   go_wp2;exact bodyPost_ret (results_tmp (t:=4) rfl _ _ _) rfl ⟨fun _=>rfl,fun q hh=>(by cases hh),af aB.o (pJ w1 _)⟩)
 | some q =>
  rw[hq]at l1 l2;simp only[Option.map_some]at l1 l2;have gB:w1.grownBy (w1.alloc (.cells #[.int .i64 (q:Nat),.bool (decide (q∈own))] 249)) none:=World.grownBy_alloc w1 _ none;have twB:=gB.cell tw1 (by simp);have k1B:=gB.cell k1 (by simp);clear hq gB;generalize decide (q∈own)=bb at l1 l2 twB k1B;go_enter func122,ntmps122;go_wp2
  go_region
  all_goals (
   go_wp2_with (go_at_call 165;refine(CW.o _).mono ?_;rintro e w3 ⟨⟨v,rfl,hv⟩,hg3⟩);exact bodyPost_ret (results_tmp (t:=4) rfl _ _ _) rfl ⟨fun hh=>(by cases hh),fun q hh=>⟨v,rfl,fF.o _ _ hv⟩,af (af aB.o (pJ w1 _)) hg3⟩)
open Go.RowKit Go.Maps Go.WideMaps Go.Joins
def Jy(B T:Nat)(own:List Nat)(now:Nat)(E:Int->TypeId × Value)(r:Rs (Nat × List Tn))(w:World)(e:Ending)(w':World):Prop :=
 (∀t ns,r=.ok (t,ns)->e=.returned (.tuple #[.int .i64 (t:Nat),.nilIface])/\Tr w' B T ns own now)/\(∀c p,r=.error (c,p)->∃v,e=.returned (.tuple #[.int .i64 0,v])/\aF w' v E c p)/\Fr B w w'
theorem Jz{ns:List Tn}{own:List Nat}(W:WF ns own){t q:Nat}{k:List UInt8}(h:aG ns t k=some q):q<ns.length:=W.lt _ _ (Fa h).1
theorem Tr.gb{w w':World}{B T:Nat}{ns:List Tn}{own:List Nat}{now:Nat}(h:Tr w B T ns own now)(hg:w.grownBy w' none):Tr w' B T ns own now:=by
 obtain⟨N,c,M,xs,ks,hD⟩:=h;exact⟨N,c,M,xs,ks,hD.keeps (mG hg)⟩
theorem Tr.base{w:World}{B T:Nat}{ns:List Tn}{own:List Nat}{now:Nat}(h:Tr w B T ns own now):B<=w.heap.size:=by
 obtain⟨N,c,M,xs,ks,hD⟩:=h;exact Nat.le_of_lt (Nat.lt_of_le_of_lt hD.bT (aA hD.blk))
theorem gQ{w:World}{b:Nat}{v0 v1:Value}{t:TypeId}(h:w.heap[b]?=some (.cells #[v0,v1] t (0,0))):w.cell? ⟨b,0,none⟩=some v0/\w.cell? ⟨b,1,none⟩=some v1/\∀i,w.frozen? ⟨b,i,none⟩=false :=
 ⟨by rw[ae h];rfl,by rw[ae h];rfl,fun i=>Lib.frozen_of_heap h i⟩
theorem aak{w:World}{b:Nat}{v0 v1 v2 v3 v4 v5:Value}{t:TypeId}(h:w.heap[b]?=some (.cells #[v0,v1,v2,v3,v4,v5] t (0,0))):w.cell? ⟨b,0,none⟩=some v0/\w.cell? ⟨b,4,none⟩=some v4 :=
 ⟨by rw[ae h];rfl,by rw[ae h];rfl⟩
theorem jl{w w':World}{b:Nat}{o:Obj}(h:w.heap[b]?=some o)(hg:w.grownBy w' none):w'.heap[b]?=some o:=(hg.block b (aA h) (by simp)).trans h
theorem zt{w1:World}{B T:Nat}{ns:List Tn}{now N c M:Nat}{xs:List Value}{ks:Nat->Value}{n:Nat}{own:List Nat}(hD1:TrD w1 B T ns now N c M xs ks n (hold ns own))(t:Nat)(k:List UInt8)(h0:ag ns t=0)(ht:t<4611686018427387904)(hk:k.length<=1048576)(W:World)(hW:w1.grownBy W none) :
  (Instr.lookup 101 (.map (some M)) (.agg #[.int .i64 (t:Nat),.string ⟨k.toArray⟩]) true).run prog W=.ok (match aG ns t k with|some q=>.tuple #[.agg #[.int .i64 (q:Nat),.bool (decide (q∈own))],.bool true]|none=>.tuple #[.agg #[.int .i64 0,.bool false],.bool false]) W:=by
 obtain⟨es,cc,hm0⟩:=hD1.map.map;have h1:=(hD1.map.block (hW.block M (aA hm0) (by simp))).look t k ht hk;rw[QF ns own t k h0]at h1;unfold oH at h1
 cases hq:aG ns t k with
 | none=>rw[hq]at h1;exact h1
 | some q=>rw[hq]at h1;exact h1
theorem JA(j:Nat)(h:j<=1000000):wrap64 (j:Int)=(j:Int):=by
 unfold wrap64;omega
theorem kP(w:World):w.grownBy w.drew none:=⟨rfl,rfl,rfl,Nat.le_refl _,fun _ _ _=>rfl⟩
theorem aal(B T:Nat)(ns:List Tn)(own:List Nat)(now t:Nat)(E:Int->TypeId × Value)(k:List UInt8)(pl:Nat)(w:World)(h:Tr w B T ns own now)(W:WF ns own)(WW:WT ns)(ht:t<ns.length)(h0:ag ns t=0)(hsz:ns.length+own.length<=1000000)(hk:k.length<=1048576)(he:Es w E) :
  Calls prog 160 #[.pointer (some ⟨T,0,none⟩),.int .i64 (t:Nat),.agg #[.string ⟨k.toArray⟩,.int .i64 (pl:Nat)]] w (Jy B T own now E (iK ns t k pl) w):=by
 have CW:Hd (∀w,Calls prog 165 #[.iface (E 5).1 (E 5).2,.int .i64 (pl:Nat)] w fun e w'=>(∃v,e=.returned v/\FaultV w' v pl (E 5).1 (E 5).2)/\w.grownBy w' none):=fun w=>rZ pl _ _ w
 have CA:Hd (aG ns t k=none->∀w',w.grownBy w' none->Calls prog 166 #[.pointer (some ⟨T,0,none⟩),.int .i64 (t:Nat),.int .i64 0,.agg #[.string ⟨k.toArray⟩,.int .i64 (pl:Nat)]] w' (qI B T ns own now t ⟨0,k,[],0,[],pl⟩ w')):=fun hn w' hg=>zg B T ns own now t 0 k pl w' (h.gb hg) W ht (fun _=>hn) hsz hk
 have mM:Hd (iK ns t k pl=match aG ns t k with|none=>.ok (ns.length,addN ns t ⟨0,k,[],0,[],pl⟩)|some q=>if ag ns q=0 then .ok (q,ns) else if ag ns q=2 then(match ns[q]? with|some u=>.ok (u.ks.getLastD 0,ns)|none=>.error (5,pl)) else .error (5,pl)):=rfl;have ut:Hd (∀q,aG ns t k=some q->q<ns.length):=fun q hq=>Jz W hq
 have zo:Hd (∀p,(ax ns p).length<=ns.length):=W.len;have mO:Hd (Tr w B T ns own now):=h;have hB:B<=w.heap.size:=h.base;obtain⟨N,c,M,xs,ks,hD⟩:=h;have gy:w.grownBy (w.alloc (.cells #[.string ⟨k.toArray⟩,.int .i64 (pl:Nat)] 196)) none:=World.grownBy_alloc w _ none;have dZ:=heap_alloc_new w (.cells #[.string ⟨k.toArray⟩,.int .i64 (pl:Nat)] 196);obtain⟨K,oI⟩:=zN (w.heap.size);rw[oI]at dZ;have hD1:=hD.keeps (mG gy);have he1:=xR he gy;obtain⟨w1,hw1⟩:=zN (w.alloc (.cells #[.string ⟨k.toArray⟩,.int .i64 (pl:Nat)] 196));rw[hw1]at dZ hD1 gy he1;obtain⟨-,t1,-,-⟩:=hD1.cells;have k0:=(gQ dZ).1;have gA:w1.grownBy (w1.alloc (.cells #[.int .i64 0,.bool false] 249)) none:=World.grownBy_alloc w1 _ none;have t1A:=gA.cell t1 (by simp);have k0A:=gA.cell k0 (by simp);have l1:=zt hD1 t k h0 (by omega) hk w1.drew (kP w1);have l2:=zt hD1 t k h0 (by omega) hk (w1.alloc (.cells #[.int .i64 0,.bool false] 249)).drew (pJ w1 _)
 have aB:Hd (w.grownBy w1 none):=gy;have sJ:Hd (Es w1 E):=he1;have jC:Hd (w1.heap[K]?=some (.cells #[.string ⟨k.toArray⟩,.int .i64 (pl:Nat)] 196 (0,0))):=dZ;have HD1:Hd (TrD w1 B T ns now N c M xs ks (ns.length+own.length) (hold ns own)):=hD1;have HWW:Hd (WT ns):=WW;have fF:Hd (∀w' v,FaultV w' v pl (E 5).1 (E 5).2->aF w' v E 5 pl):=fun _ _ h=>h
 have qK:Hd (∀w',w1.grownBy w' none->w'.cell? ⟨3,0,none⟩=some (.iface (E 5).1 (E 5).2)):=fun w' hg=>(xR he1 hg).tw
 obtain⟨ty,hty⟩:=zN ((E 5).1);obtain⟨pv,hpv⟩:=zN ((E 5).2);rw[hty,hpv]at CW fF qK;obtain⟨S,hS⟩:=zN (iK ns t k pl);rw[hS]at mM ⊢;clear hD dZ hD1 gy he1 he hty hpv gA hS W WW
 cases hq:aG ns t k with
 | none =>
  have aj:Hd (S=.ok (ns.length,addN ns t ⟨0,k,[],0,[],pl⟩)):=by show S=_;rw[mM.o,hq]
  have vG:=CA.o hq;have Bh:Hd (∀w',w.grownBy w' none->Calls prog 166 #[.pointer (some ⟨T,0,none⟩),.int .i64 (t:Nat),.int .i64 0,.agg #[.string ⟨k.toArray⟩,.int .i64 (pl:Nat)]] w' (qI B T ns own now t ⟨0,k,[],0,[],pl⟩ w')):=vG;rw[hq]at l1 l2;clear hq vG;simp only[]at l1 l2;go_enter func160,ntmps160;go_upto_region 1 with fail
  go_cut [8,9] from 11 (fun v8 v9 wx=>v9=.bool false/\w1.grownBy wx none)
  case first =>
   go_region
   all_goals (
    go_wp2_with fail;go_meet;exact⟨rfl,pJ w1 _⟩)
  case rest =>
   obtain⟨rfl,hgc⟩:=hcut;have iF:Hd (w.grownBy wc none):=af aB.o hgc;have hbk:=jl jC.o hgc;obtain⟨kc0,kc1,-⟩:=gQ hbk;clear hgc hbk t1 k0 t1A k0A l1 l2;go_wp2_with (go_at_call 166;refine(Bh.o _ iF.o).mono ?_;rintro e w3 ⟨rfl,ht3,hf3⟩);refine bodyPost_ret (results_tmp2 (t:=6) (u:=7) rfl _ _ _) rfl ?_;rw[aj.o];exact⟨fun t' ns' hh=>(by cases hh;exact⟨rfl,ht3⟩),fun c p hh=>(by cases hh),(Fr.gb iF.o hB).two hf3⟩
 | some q =>
  have gI:=ut.o q hq;obtain⟨x,hx⟩:=zN (ns[q]);have hkx:ag ns q=x.kd:=by unfold ag;rw[List.getElem?_eq_getElem gI,hx]
  have aj:Hd (S=if x.kd=0 then .ok (q,ns) else if x.kd=2 then .ok (x.ks.getLastD 0,ns) else .error (5,pl)):=by
   show S=_;rw[mM.o,hq];simp only[hkx,List.getElem?_eq_getElem gI,hx]
  have QG:Hd (x.kd=2->x.ks≠[]):=fun h2=>by
   have:=(HWW.o q (hkx.trans h2)).1;unfold ax at this;rw[List.getElem?_eq_getElem gI,hx]at this;exact this
  have Bi:Hd (ns[q]=x):=hx;have hxl:x.ks.length<=1000000:=by
   have:=zo.o q;unfold ax at this;rw[List.getElem?_eq_getElem gI,hx]at this;simp only[]at this;omega
  have JB:Hd (x.ks.length<=1000000):=hxl;clear hxl;rw[hq]at l1 l2;simp only[]at l1 l2;generalize decide (q∈own)=bb at l1 l2;clear hq hx hkx;go_enter func160,ntmps160;go_upto_region 1 with fail
  go_cut [8,9] from 11 (fun v8 v9 wx=>∃H:Nat,v8=.pointer (some ⟨H,0,none⟩)/\wx.heap[H]?=some (.cells #[.int .i64 (q:Nat),.bool bb] 249 (0,0))/\v9=.bool true/\w1.grownBy wx none)
  case first =>
   go_region
   all_goals (
    go_wp2_with fail;go_meet;exact⟨_,rfl,heap_alloc_new w1 _,rfl,pJ w1 _⟩)
  case rest =>
   obtain⟨H,rfl,hH,rfl,hgc⟩:=hcut;obtain⟨w2,hw2⟩:∃w2,w2=wc:=⟨_,rfl⟩;subst hw2;have HG2:Hd (w.grownBy w2 none):=af aB.o hgc;have iF:Hd (w1.grownBy w2 none):=hgc;have hbk:=jl jC.o hgc;have hD2:=HD1.o.keeps (mG hgc);obtain⟨T0,-,-,-⟩:=hD2.cells;obtain⟨n0,n1,n2,n3,n4,n5,-⟩:=hD2.node q gI;have hkr:=hD2.kid q gI;rw[Bi.o]at n0 n1 n2 n3 n5 hkr;obtain⟨o4,m4,hv4⟩:=ku hkr;rw[hv4]at n4 hkr;obtain⟨H0,H1,-⟩:=gQ hH;have QH:Hd (w2.ownsRow B 3 1 (.slice o4 x.ks.length m4) x.ks.length (x.ks.map fun q=>.int .i64 (q:Nat))):=hkr;have Jn:Hd (w2.heap[H]?=some (.cells #[.int .i64 (q:Nat),.bool bb] 249 (0,0))):=hH;have HB2:Hd (w2.heap[K]?=some (.cells #[.string ⟨k.toArray⟩,.int .i64 (pl:Nat)] 196 (0,0))):=hbk;have gZ:w2.grownBy (w2.alloc (.cells #[.int .i64 0,.string ⟨#[]⟩,.string ⟨#[]⟩,.int .i64 0,.slice none 0 0,.int .i64 0] 90)) none:=World.grownBy_alloc w2 _ none
   have T0Z:=gZ.cell T0 (by simp);have n0Z:=gZ.cell n0 (by simp);have n1Z:=gZ.cell n1 (by simp);have n2Z:=gZ.cell n2 (by simp);have n3Z:=gZ.cell n3 (by simp);have n4Z:=gZ.cell n4 (by simp);have n5Z:=gZ.cell n5 (by simp);have H0Z:=gZ.cell H0 (by simp);generalize hkm:x.ks.length=m at n4 n4Z QH;have zu:Hd (x.ks.length=m):=hkm;clear hgc hbk hD2 hkr hv4 hH gZ hkm t1 k0 t1A k0A l1 l2;go_upto_region 4 with fail
   go_cut [10] from 29 (fun v10 wx=>∃Z:Nat,v10=.pointer (some ⟨Z,0,none⟩)/\wx.heap[Z]?=some (.cells #[.int .i64 x.kd,.string ⟨x.ky.toArray⟩,.string ⟨x.tx.toArray⟩,.int .i64 x.nu,.slice o4 m m4,.int .i64 (x.pl:Nat)] 90 (0,0))/\w2.grownBy wx none)
   case first =>
    go_region
    all_goals (
     go_wp2_with fail;go_meet;exact⟨_,rfl,heap_alloc_new w2 _,pJ w2 _⟩)
   case rest =>
    obtain⟨Z,rfl,hZ,hgc⟩:=hcut;obtain⟨z0,z4⟩:=aak hZ;have aQ:Hd (w.grownBy wc none):=af HG2.o hgc;obtain⟨H0c,-,-⟩:=gQ (jl Jn.o hgc);obtain⟨-,k1c,-⟩:=gQ (jl HB2.o hgc);have twc:=qK.o _ (af iF.o hgc);have hkr:=QH.o.kept hgc (by cases (Value.slice o4 m m4).ownBlock<;>simp);have QI:Hd (wc.ownsRow B 3 1 (.slice o4 m m4) m (x.ks.map fun q=>.int .i64 (q:Nat))):=hkr;clear hZ hgc hkr T0 T0Z n0 n1 n2 n3 n4 n5 n0Z n1Z n2Z n3Z n4Z n5Z H0 H1 H0Z;obtain⟨z,hz⟩:=zN (x.kd);have HZ:Hd (x.kd=z):=hz;rw[hz]at z0;clear hz
    by_cases c0:z=0
    ·have hb0:(z == 0)=true:=by simp[c0]
     have HRR:Hd (S=.ok (q,ns)):=by show S=_;rw[aj.o,if_pos (HZ.o.trans c0)]
     clear c0;go_wp2;refine bodyPost_ret (results_tmp2 (t:=6) (u:=7) rfl _ _ _) rfl ?_;rw[HRR.o];exact⟨fun t' ns' hh=>(by cases hh;exact⟨rfl,mO.o.gb aQ.o⟩),fun c p hh=>(by cases hh),Fr.gb aQ.o hB⟩
    ·have hb0:(z == 0)=false:=by simp[c0]
     by_cases c2:z=2
     ·have hb2:(z == 2)=true:=by simp[c2]
      have hkn:=QG.o (HZ.o.trans c2);have HRR:Hd (S=.ok (x.ks.getLastD 0,ns)):=by show S=_;rw[aj.o,if_neg (by rw[HZ.o];exact c0),if_pos (HZ.o.trans c2)]
      obtain⟨j,hj⟩:∃j,m=j+1:=⟨m-1,by have:=zu.o;have:=List.length_pos_iff.2 hkn;omega⟩;obtain⟨g,cap,QJ,-,-⟩:=QI.o.form (by omega);have hlast:x.ks[j]?=some (x.ks.getLastD 0):=by
       have hl:x.ks.length=j+1:=zu.o.trans hj;rw[List.getLastD_eq_getLast?,List.getLast?_eq_getElem?,hl];have:x.ks[j+1-1]?=some (x.ks[j]'(by omega)):=List.getElem?_eq_getElem (by omega);rw[this];exact List.getElem?_eq_getElem (by omega)
      have hcl:=QI.o.cells (g:=g) (by rw[QJ];rfl) j (.int .i64 ((x.ks.getLastD 0:Nat):Int)) (by rw[List.getElem?_map,hlast];rfl);rw[sD]at hcl;obtain⟨la,hla⟩:=zN (x.ks.getLastD 0);rw[hla]at hcl;have HLA:Hd (x.ks.getLastD 0=la):=hla
      cases QJ
      subst hj;have hj1:j<=1000000:=by
       have h1:=JB.o;have h2:=zu.o;omega
      have hwj:wrap64 (j:Int)=(j:Int):=JA j hj1;have hwk:(wrap64 (j:Int)).toNat=j:=by rw[hwj];exact Int.toNat_natCast j
      clear hj1;clear c0 c2 hkn hlast hla;go_wp2;refine bodyPost_ret (results_tmp2 (t:=6) (u:=7) rfl _ _ _) rfl ?_;rw[HRR.o,HLA.o];exact⟨fun t' ns' hh=>(by cases hh;exact⟨rfl,mO.o.gb aQ.o⟩),fun c p hh=>(by cases hh),Fr.gb aQ.o hB⟩
     ·have hb2:(z == 2)=false:=by simp[c2]
      have HRR:Hd (S=.error (5,pl)):=by show S=_;rw[aj.o,if_neg (by rw[HZ.o];exact c0),if_neg (by rw[HZ.o];exact c2)]
      clear c0 c2;go_wp2_with (go_at_call 165;refine(CW.o _).mono ?_;rintro e w5 ⟨⟨v,rfl,hv⟩,hg5⟩);refine bodyPost_ret (results_tmp2 (t:=6) (u:=7) rfl _ _ _) rfl ?_;rw[HRR.o];exact⟨fun t' ns' hh=>(by cases hh),fun c p hh=>(by cases hh;exact⟨v,rfl,fF.o _ _ hv⟩),Fr.gb (af aQ.o hg5) hB⟩
open Go.RowKit Go.Maps Go.WideMaps Go.Joins
def zx(B T:Nat)(own:List Nat)(now:Nat)(E:Int->TypeId × Value)(r:Rs (Nat × List Tn))(w:World)(e:Ending)(w':World):Prop :=
 (∀t ns,r=.ok (t,ns)->e=.returned (.tuple #[.int .i64 (t:Nat),.nilIface])/\Tr w' B T ns (t :: own) now)/\(∀c p,r=.error (c,p)->∃v,e=.returned (.tuple #[.int .i64 0,v])/\aF w' v E c p/\∃ns0,Tr w' B T ns0 own now)/\Fr B w w'
theorem FV{w:World}{b:Nat}{cs:Array Value}{t:TypeId}{fz:Nat × Nat}(hb:w.heap[b]?=some (.cells cs t fz))(h1:¬t=103)(h2:¬t=90)(h3:¬t=3)(o:Nat)(v:Value):FO w (w.setCell ⟨b,o,none⟩ v) :=
 ⟨fun b' cs' t' fz' hb' ht=>heap_setCell_other _ _ _ _ (aY hb' hb (fun e=>by subst e;rcases ht with e|e|e;exact h1 e;exact h2 e;exact h3 e)),fun b' es c hb'=>heap_setCell_other _ _ _ _ (fun e=>pI hb hb' e.symm)⟩
theorem FW{w w1:World}{B b:Nat}(h:Fr B w w1)(hB:B<=w.heap.size)(hb:w.heap.size<=b)(o:Nat)(v:Value):Fr B w (w1.setCell ⟨b,o,none⟩ v) :=
 ⟨⟨h.bel.os,h.bel.tape,h.bel.output,by have:=h.bel.size;simpa [World.setCell] using this,fun k hk=>(heap_setCell_other _ _ _ _ (by simp;omega)).trans (h.bel.block k hk)⟩,fun b' cs t fz hb' h1 h2 h3=>(heap_setCell_other _ _ _ _ (by have:=aA hb';simp;omega)).trans (h.oth b' cs t fz hb' h1 h2 h3)⟩
theorem aam(B T:Nat)(ns:List Tn)(own:List Nat)(now t:Nat)(E:Int->TypeId × Value)(k:List UInt8)(pl:Nat)(w:World)(h:Tr w B T ns own now)(W:WF ns own)(ht:t<ns.length)(h0:ag ns t=0)(hsz:ns.length+own.length<=900000)(hk:k.length<=1048576)(he:Es w E) :
  Calls prog 162 #[.pointer (some ⟨T,0,none⟩),.int .i64 (t:Nat),.agg #[.string ⟨k.toArray⟩,.int .i64 (pl:Nat)]] w (zx B T own now E (jA ns own t k pl) w):=by
 have CW:Hd (∀w,Calls prog 165 #[.iface (E 5).1 (E 5).2,.int .i64 (pl:Nat)] w fun e w'=>(∃v,e=.returned v/\FaultV w' v pl (E 5).1 (E 5).2)/\w.grownBy w' none):=fun w=>rZ pl _ _ w
 have CA:Hd (aG ns t k=none->∀w',w.grownBy w' none->Calls prog 166 #[.pointer (some ⟨T,0,none⟩),.int .i64 (t:Nat),.int .i64 0,.agg #[.string ⟨k.toArray⟩,.int .i64 (pl:Nat)]] w' (qI B T ns own now t ⟨0,k,[],0,[],pl⟩ w')):=fun hn w' hg=>zg B T ns own now t 0 k pl w' (h.gb hg) W ht (fun _=>hn) (by omega) hk
 have mM:Hd (jA ns own t k pl=match aG ns t k with|none=>.ok (ns.length,addN ns t ⟨0,k,[],0,[],pl⟩)|some q=>if ag ns q=0/\¬q∈own then .ok (q,ns) else .error (5,pl)):=rfl;have ut:Hd (∀q,aG ns t k=some q->q<ns.length):=fun q hq=>Jz W hq
 have mO:Hd (Tr w B T ns own now):=h;have zy:Hd (WF ns own):=W;have hB:B<=w.heap.size:=h.base;obtain⟨N,c,M,xs,ks,hD⟩:=h;have gy:w.grownBy (w.alloc (.cells #[.string ⟨k.toArray⟩,.int .i64 (pl:Nat)] 196)) none:=World.grownBy_alloc w _ none;have dZ:=heap_alloc_new w (.cells #[.string ⟨k.toArray⟩,.int .i64 (pl:Nat)] 196);obtain⟨K,oI⟩:=zN (w.heap.size);rw[oI]at dZ;have zh:(w.alloc (.cells #[.string ⟨k.toArray⟩,.int .i64 (pl:Nat)] 196)).heap.size=K+1:=by rw[World.size_alloc,oI]
 obtain⟨wa,Bj⟩:∃w1,w.alloc (.cells #[.string ⟨k.toArray⟩,.int .i64 (pl:Nat)] 196)=w1:=⟨_,rfl⟩;rw[Bj]at dZ gy zh;have FX:wa.grownBy (wa.alloc (.cells #[.int .i64 (t:Nat),.string ⟨k.toArray⟩] 252)) none:=World.grownBy_alloc wa _ none;have hbS:=heap_alloc_new wa (.cells #[.int .i64 (t:Nat),.string ⟨k.toArray⟩] 252);rw[zh]at hbS;obtain⟨S8,hS8⟩:=zN (K+1);rw[hS8]at hbS zh;obtain⟨w1,hw1⟩:=zN (wa.alloc (.cells #[.int .i64 (t:Nat),.string ⟨k.toArray⟩] 252));rw[hw1]at hbS FX;have k0a:=(gQ dZ).1;have QK:=jl dZ FX;have FY:=af gy FX;have hD1:=hD.keeps (mG FY);have he1:=xR he FY;obtain⟨-,t1,-,-⟩:=hD1.cells;obtain⟨s0,s1,-⟩:=gQ hbS;have gA:w1.grownBy (w1.alloc (.cells #[.int .i64 0,.bool false] 249)) none:=World.grownBy_alloc w1 _ none;have t1A:=gA.cell t1 (by simp);have s0A:=gA.cell s0 (by simp);have s1A:=gA.cell s1 (by simp)
 have l1:=zt hD1 t k h0 (by omega) hk w1.drew (kP w1);have l2:=zt hD1 t k h0 (by omega) hk (w1.alloc (.cells #[.int .i64 0,.bool false] 249)).drew (pJ w1 _);have aB:Hd (w.grownBy w1 none):=FY;have jC:Hd (w1.heap[K]?=some (.cells #[.string ⟨k.toArray⟩,.int .i64 (pl:Nat)] 196 (0,0))):=QK;have FZ:Hd (w1.heap[S8]?=some (.cells #[.int .i64 (t:Nat),.string ⟨k.toArray⟩] 252 (0,0))):=hbS;have HD1:Hd (TrD w1 B T ns now N c M xs ks (ns.length+own.length) (hold ns own)):=hD1;have fF:Hd (∀w' v,FaultV w' v pl (E 5).1 (E 5).2->aF w' v E 5 pl):=fun _ _ h=>h
 have qK:Hd (∀w',w1.grownBy w' none->w'.cell? ⟨3,0,none⟩=some (.iface (E 5).1 (E 5).2)):=fun w' hg=>(xR he1 hg).tw
 obtain⟨ty,hty⟩:=zN ((E 5).1);obtain⟨pv,hpv⟩:=zN ((E 5).2);rw[hty,hpv]at CW fF qK;obtain⟨S,hS⟩:=zN (jA ns own t k pl);rw[hS]at mM ⊢;clear hD dZ QK hbS hD1 gy FX FY he1 he hty hpv gA hS W
 cases hq:aG ns t k with
 | none =>
  have aj:Hd (S=.ok (ns.length,addN ns t ⟨0,k,[],0,[],pl⟩)):=by show S=_;rw[mM.o,hq]
  have Bh:Hd (∀w',w.grownBy w' none->Calls prog 166 #[.pointer (some ⟨T,0,none⟩),.int .i64 (t:Nat),.int .i64 0,.agg #[.string ⟨k.toArray⟩,.int .i64 (pl:Nat)]] w' (qI B T ns own now t ⟨0,k,[],0,[],pl⟩ w')):=CA.o hq;have Bl:Hd (WF (addN ns t ⟨0,k,[],0,[],pl⟩) own):=rW ns own t ⟨0,k,[],0,[],pl⟩ rfl ht zy.o;have xU:Hd (ag (addN ns t ⟨0,k,[],0,[],pl⟩) t=0):=by
   show _=_;rw[eH ns t ⟨0,k,[],0,[],pl⟩ ht,if_neg (by omega)];exact h0
  have nI:Hd (aG (addN ns t ⟨0,k,[],0,[],pl⟩) t k=some ns.length):=by
   show _=_;rw[Ja ns own t ⟨0,k,[],0,[],pl⟩ rfl ht zy.o,if_pos rfl,hq];simp only[if_true]
  have jM:Hd ((addN ns t ⟨0,k,[],0,[],pl⟩).length=ns.length+1):=bV _ _ _;rw[hq]at l1 l2;simp only[]at l1 l2;clear hq;go_enter func162,ntmps162;go_upto_region 2 with fail
  go_cut [9,10] from 15 (fun v9 v10 wx=>∃H:Nat,v9=.pointer (some ⟨H,0,none⟩)/\wx.heap[H]?=some (.cells #[.int .i64 0,.bool false] 249 (0,0))/\v10=.bool false/\w1.grownBy wx none/\w1.heap.size<=H)
  case first =>
   go_region
   all_goals (
    go_wp2_with fail;go_meet;exact⟨_,rfl,heap_alloc_new w1 _,rfl,pJ w1 _,Nat.le_refl _⟩)
  case rest =>
   obtain⟨H,rfl,hH,rfl,hgc,hHw⟩:=hcut;have zA:Hd (w.heap.size<=H):=Nat.le_trans aB.o.size hHw;have iF:Hd (w.grownBy wc none):=af aB.o hgc;obtain⟨kc0,kc1,-⟩:=gQ (jl jC.o hgc);have qL:Hd (wc.heap[H]?=some (.cells #[.int .i64 0,.bool false] 249 (0,0))):=hH;have HSc:Hd (wc.heap[S8]?=some (.cells #[.int .i64 (t:Nat),.string ⟨k.toArray⟩] 252 (0,0))):=jl FZ.o hgc;clear hgc hH hHw t1 t1A s0 s1 s0A s1A k0a l1 l2;go_wp2_with (go_at_call 166;refine(Bh.o _ iF.o).mono ?_;rintro e w3 ⟨rfl,ht3,hf3⟩;obtain⟨hh0,hh1,sK⟩:=gQ ((hf3.oth _ _ _ _ qL.o (by decide) (by decide) (by decide)).trans qL.o);have QL:=sK 0);obtain⟨N',c',M',xs',ks',hD3⟩:=ht3;have hH3:=(hf3.oth _ _ _ _ qL.o (by decide) (by decide) (by decide)).trans qL.o;have hS3:=(hf3.oth _ _ _ _ HSc.o (by decide) (by decide) (by decide)).trans HSc.o;have F5:(w3.setCell ⟨H,0,none⟩ (.int .i64 (ns.length:Nat))).heap[H]?=some (.cells #[.int .i64 (ns.length:Nat),.bool false] 249 (0,0)):=block_setCell (i:=0) hH3 _
   have hS4:=(heap_setCell_other w3 ⟨H,0,none⟩ S8 (.int .i64 (ns.length:Nat)) (aY hS3 hH3 (by decide))).trans hS3;have hH7:((w3.setCell ⟨H,0,none⟩ (.int .i64 (ns.length:Nat))).setCell ⟨H,1,none⟩ (.bool true)).heap[H]?=some (.cells #[.int .i64 (ns.length:Nat),.bool true] 249 (0,0)):=block_setCell (i:=1) F5 _;have hS7:=(heap_setCell_other (w3.setCell ⟨H,0,none⟩ (.int .i64 (ns.length:Nat))) ⟨H,1,none⟩ S8 (.bool true) (aY hS4 F5 (by decide))).trans hS4;have hD7:=(hD3.keeps (FV hH3 (by decide) (by decide) (by decide) 0 (.int .i64 (ns.length:Nat)))).keeps (FV F5 (by decide) (by decide) (by decide) 1 (.bool true));have xW:=FW (FW ((Fr.gb iF.o hB).two hf3) hB zA.o 0 (.int .i64 (ns.length:Nat))) hB zA.o 1 (.bool true);have hln:=jM.o;clear hD3 hH3 hS3 F5 hS4 hf3 hh0 hh1 sK QL;obtain⟨w7,hw7⟩:=zN ((w3.setCell ⟨H,0,none⟩ (.int .i64 (ns.length:Nat))).setCell ⟨H,1,none⟩ (.bool true))
   rw[hw7]at hD7 hH7 hS7 xW ⊢;obtain⟨w8,mP,Bo,nJ⟩:=(hD7.map.block (w':=w7.drew) rfl).put t k (by omega) hk (by omega) ns.length true;unfold oH at mP;obtain⟨es,cc,hm0⟩:=hD7.map.map;have Bq:B<=w7.heap.size:=Nat.le_of_lt (Nat.lt_of_le_of_lt hD7.bT (aA hD7.blk));have Bv:w8.heap[H]?=some (.cells #[.int .i64 (ns.length:Nat),.bool true] 249 (0,0)):=(nJ.block H (aA (w:=w7.drew) hH7) (by simp only[ne_eq,Option.some.injEq];exact pI hH7 hm0)).trans hH7;obtain⟨-,t17,-,-⟩:=hD7.cells;obtain⟨s0,s1,-⟩:=gQ hS7;obtain⟨g0,g1,-⟩:=gQ hH7;obtain⟨q0,-,-⟩:=gQ Bv;have JC:Hd (Tr w8 B T (addN ns t ⟨0,k,[],0,[],pl⟩) (ns.length :: own) now):=by
    refine⟨N',c',M',xs',ks',?_⟩;rw[PO (addN ns t ⟨0,k,[],0,[],pl⟩) own Bl.o t ns.length k xU.o nI.o];have e:=(hD7.keeps (w':=w7.drew) (mG (kP w7))).mapd Bo nJ;exact⟨e.blk,e.bT,e.row,e.cel,e.kid,e.apart,e.map.mono (by simp;omega),e.bM⟩
   have uZ:Hd (Fr B w w8):=(xW.two (Fr.gb (kP w7) Bq)).two (Fr.mapd nJ Bq hD7.bM hm0);clear hD7 hH7 hS7 xW Bo nJ hm0 Bv hw7
   go_region
   all_goals (
    go_wp2;refine bodyPost_ret (results_tmp2 (t:=6) (u:=7) rfl _ _ _) rfl ?_;rw[aj.o];exact⟨fun t' ns' hh=>(by cases hh;exact⟨rfl,JC.o⟩),fun c p hh=>(by cases hh),uZ.o⟩)
 | some q =>
  have gI:=ut.o q hq;have Bl:Hd (WF ns own):=zy.o;have xU:Hd (ag ns t=0):=h0;have nI:Hd (aG ns t k=some q):=hq;obtain⟨x,hx⟩:=zN (ns[q]);have hkx:ag ns q=x.kd:=by unfold ag;rw[List.getElem?_eq_getElem gI,hx]
  have eP:Hd (S=if x.kd=0/\¬decide (q∈own)=true then .ok (q,ns) else .error (5,pl)):=by
   show S=_;rw[mM.o,hq];simp only[hkx,decide_eq_true_eq]
  have Bi:Hd (ns[q]=x):=hx;rw[hq]at l1 l2;simp only[]at l1 l2;generalize decide (q∈own)=bb at l1 l2 eP;clear hq hx hkx;go_enter func162,ntmps162;go_upto_region 2 with fail
  go_cut [9,10] from 15 (fun v9 v10 wx=>∃H:Nat,v9=.pointer (some ⟨H,0,none⟩)/\wx.heap[H]?=some (.cells #[.int .i64 (q:Nat),.bool bb] 249 (0,0))/\v10=.bool true/\w1.grownBy wx none/\w1.heap.size<=H)
  case first =>
   go_region
   all_goals (
    go_wp2_with fail;go_meet;exact⟨_,rfl,heap_alloc_new w1 _,rfl,pJ w1 _,Nat.le_refl _⟩)
  case rest =>
   obtain⟨H,rfl,hH,rfl,hgc,hHw⟩:=hcut;have zA:Hd (w.heap.size<=H):=Nat.le_trans aB.o.size hHw;have iF:Hd (w.grownBy wc none):=af aB.o hgc;obtain⟨kc0,kc1,-⟩:=gQ (jl jC.o hgc);have qL:Hd (wc.heap[H]?=some (.cells #[.int .i64 (q:Nat),.bool bb] 249 (0,0))):=hH;have HSc:Hd (wc.heap[S8]?=some (.cells #[.int .i64 (t:Nat),.string ⟨k.toArray⟩] 252 (0,0))):=jl FZ.o hgc;have hDc:=HD1.o.keeps (mG hgc);have HDc:Hd (TrD wc B T ns now N c M xs ks (ns.length+own.length) (hold ns own)):=hDc;obtain⟨hh0,hh1,sK⟩:=gQ hH;have aan:=sK 1;obtain⟨T0,-,-,-⟩:=hDc.cells;obtain⟨n0,-,-,-,-,-,-⟩:=hDc.node q gI;rw[Bi.o]at n0;have twc:=qK.o _ hgc;obtain⟨z,hz⟩:=zN (x.kd);rw[hz]at n0 eP;clear hgc hH hHw hDc sK hz t1 t1A s0 s1 s0A s1A k0a l1 l2
   by_cases hok:z=0/\¬bb=true
   ·have aj:Hd (S=.ok (q,ns)):=by show S=_;rw[eP.o,if_pos hok]
    have hbb:bb=false:=by simpa using hok.2
    have hzb:(z != 0)=false:=by simp[hok.1]
    subst hbb;clear hok;go_upto_region 5 with fail
    go_quiet (fail);go_upto_region 8 with fail
    have hH7:((wc.drewN nq).setCell ⟨H,1,none⟩ (.bool true)).heap[H]?=some (.cells #[.int .i64 (q:Nat),.bool true] 249 (0,0)):=block_setCell (i:=1) (w:=wc.drewN nq) qL.o _;have hS7:=(heap_setCell_other (wc.drewN nq) ⟨H,1,none⟩ S8 (.bool true) (aY HSc.o qL.o (by decide))).trans HSc.o;have hgn:wc.grownBy (wc.drewN nq) none:=au (ai wc none) nq;have hD7:=(HDc.o.keeps (mG hgn)).keeps (FV (w:=wc.drewN nq) qL.o (by decide) (by decide) (by decide) 1 (.bool true));have xW:=FW ((Fr.gb iF.o hB).two (Fr.gb hgn (Nat.le_trans hB iF.o.size))) hB zA.o 1 (.bool true);clear hgn hh0 hh1 aan T0 n0 twc kc0 kc1;obtain⟨w7,hw7⟩:=zN ((wc.drewN nq).setCell ⟨H,1,none⟩ (.bool true));rw[hw7]at hD7 hH7 hS7 xW ⊢;obtain⟨w8,mP,Bo,nJ⟩:=(hD7.map.block (w':=w7.drew) rfl).put t k (by omega) hk (by omega) q true;unfold oH at mP;obtain⟨es,cc,hm0⟩:=hD7.map.map
    have Bq:B<=w7.heap.size:=Nat.le_of_lt (Nat.lt_of_le_of_lt hD7.bT (aA hD7.blk));have Bv:w8.heap[H]?=some (.cells #[.int .i64 (q:Nat),.bool true] 249 (0,0)):=(nJ.block H (aA (w:=w7.drew) hH7) (by simp only[ne_eq,Option.some.injEq];exact pI hH7 hm0)).trans hH7;obtain⟨-,t17,-,-⟩:=hD7.cells;obtain⟨s0,s1,-⟩:=gQ hS7;obtain⟨g0,g1,-⟩:=gQ hH7;obtain⟨q0,-,-⟩:=gQ Bv;have JC:Hd (Tr w8 B T ns (q :: own) now):=by
     refine⟨N,c,M,xs,ks,?_⟩;rw[PO ns own Bl.o t q k xU.o nI.o];have e:=(hD7.keeps (w':=w7.drew) (mG (kP w7))).mapd Bo nJ;exact⟨e.blk,e.bT,e.row,e.cel,e.kid,e.apart,e.map.mono (by simp;omega),e.bM⟩
    have uZ:Hd (Fr B w w8):=(xW.two (Fr.gb (kP w7) Bq)).two (Fr.mapd nJ Bq hD7.bM hm0);clear hD7 hH7 hS7 xW Bo nJ hm0 Bv hw7
    go_region
    all_goals (
     go_wp2;refine bodyPost_ret (results_tmp2 (t:=6) (u:=7) rfl _ _ _) rfl ?_;rw[aj.o];exact⟨fun t' ns' hh=>(by cases hh;exact⟨rfl,JC.o⟩),fun c p hh=>(by cases hh),uZ.o⟩)
   ·have aj:Hd (S=.error (5,pl)):=by show S=_;rw[eP.o,if_neg hok]
    have hcase:bb=true\/(bb=false/\(z != 0)=true):=by
     cases bb with
     | true=>exact Or.inl rfl
     | false=>exact Or.inr ⟨rfl,by simp at hok;simp[hok]⟩
    clear hok;go_upto_region 5 with fail
    rcases hcase with rfl|⟨rfl,hzb⟩
    all_goals (
     go_quiet (fail);go_wp2_with (go_at_call 165;refine(CW.o _).mono ?_;rintro e w5 ⟨⟨v,rfl,hv⟩,hg5⟩);refine bodyPost_ret (results_tmp2 (t:=6) (u:=7) rfl _ _ _) rfl ?_;rw[aj.o];exact⟨fun t' ns' hh=>(by cases hh),fun c p hh=>(by cases hh;exact⟨v,rfl,fF.o _ _ hv,ns,mO.o.gb (af (au iF.o _) hg5)⟩),Fr.gb (af (au iF.o _) hg5) hB⟩)
end Go.Proofs.YtmkjelchiacogaaGreatDoor
