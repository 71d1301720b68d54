import Derived.Test.YtnnbgjaphfhibaaGreatDoorM10
import Derived.Deep.RegionHeld3
import Derived.Test.YtnnbgjaphfhibaaGreatDoorM06
import Derived.Test.YtnnbgjaphfhibaaGreatDoorM08
import Derived.Maps.OwnOps
import Derived.Maps.Views
import Derived.DeepKeys4
import Derived.Deep.AppendLies
set_option linter.unusedVariables false
set_option linter.unusedSimpArgs false
set_option maxRecDepth 100000
set_option maxHeartbeats 6400000
open Go.Proofs.Tryz
namespace Go.Proofs.YtnnbgjaphfhibaaGreatDoor
open Go.RowKit Go.Joins
theorem aam(s:ByteArray)(k:Nat)(hk:k<=s.size)(w:World) :
  (Instr.slice 9 (.string s) (some (.int .i64 (k:Int))) none none).run prog w=.ok (.string ⟨(s.data.toList.drop k).toArray⟩) w:=by
 have h1:(0:Int)<=(k:Int):=by omega
 have h5:(k:Int)<=(s.size:Int):=by omega
 have e:s.extract k s.size=⟨(s.data.toList.drop k).toArray⟩:=by
  apply ByteArray.ext;rw[ByteArray.data_extract];apply Array.ext';simp;exact List.take_of_length_le (by simp)
 rw[<-e];simp[go_sem,underlying9,h1,h5]
def F7(R:Nat)(s:ByteArray)(T:Nat)(E:Int->TypeId × Value)(g:Rs (List UInt8 × Nat))(w:World)(e:Ending)(w':World):Prop:=(∀t j,g=.ok (t,j)->e=.returned (.tuple #[.string ⟨t.toArray⟩,.nilIface])/\Rd w' R s j T)/\(∀c p,g=.error (c,p)->∃v,e=.returned (.tuple #[.string ⟨#[]⟩,v])/\aV w' v E c p/\∃j,Rd w' R s j T)/\w.grownBy w' (some R)
theorem RG(R:Nat)(s:ByteArray)(i T:Nat)(E:Int->TypeId × Value)(w:World)(h:Rd w R s i T)(hi:i<s.size)(hs:s.size<=1048576)(he:Es w E)(hR:Far R)
  (hT:Lib.Utf8Tabs 10 11 w) (h3:¬R=10) (h4:¬R=11) :
  Calls prog 193 #[.pointer (some ⟨R,0,none⟩)] w (F7 R s T E (str s.data.toList (s.data.toList.length+1) (i+1) []) w):=by
 have hl:s.data.toList.length=s.size:=by simp
 have CN:Hd (∀k w,Rd w R s k T->k<=s.size->Calls prog 104 #[.pointer (some ⟨R,0,none⟩)] w fun e w'=>e=.returned (.int .i64 (nx s.data.toList k))/\w.grownBy w' none):=fun k w h1 h2=>mV R s k T w h1 h2 hs
 have CE:Hd (∀k w',w.grownBy w' (some R)->Rd w' R s k T->k<s.size->Calls prog 214 #[.pointer (some ⟨R,0,none⟩)] w' (yZ R s T E (l7 s.data.toList k) w')):=fun k w' hg hr hk=>ZI R s k T E w' hr hk hs (he.grow hR hg) hR
 have CB:Hd (∀c w,Calls prog 155 #[.int .i64 c] w fun e w'=>e=.returned (.bool (ik c))/\w'=w):=QC;have CH:Hd (∀k w',w.grownBy w' (some R)->Rd w' R s k T->Calls prog 156 #[.pointer (some ⟨R,0,none⟩)] w' fun e w''=>(∃v,e=.returned v/\aV w'' v E 2 k)/\w'.grownBy w'' none):=fun k w' hg hr=>vO R s k T (E 2).1 (E 2).2 w' hr (he.grow hR hg).te
 have CD:Hd (∀k w',w.grownBy w' (some R)->k<s.size->Calls prog 216 #[.string ⟨(s.data.toList.drop k).toArray⟩] w' fun e w''=>∃r n:Nat,e=.returned (.tuple #[.int .i32 (r:Nat),.int .i64 (n:Nat)])/\Told (aJ s.data.toList k) (r,n)/\Below w'.heap.size w' w''):=fun k w' hg hk=>ZL s.data.toList k (by omega) w' (ZR hT h3 h4 hg)
 have HST:Hd (∀f i acc,str s.data.toList (f+1) i acc =
  if nx s.data.toList i=34 then .ok (acc,i+1)
  else if nx s.data.toList i=92 then(match esc s.data.toList i with | .error e=>.error e | .ok (b,j)=>str s.data.toList f j (acc++b))
  else if nx s.data.toList i=-1\/ik (nx s.data.toList i)=true then .error (2,i)
  else if aJ s.data.toList i=0 then .error (2,i)
  else str s.data.toList f (i+aJ s.data.toList i) (acc++ag s.data.toList i (aJ s.data.toList i))):=BD _
 have cZ:Hd (∀k,0<=nx s.data.toList k->k<s.size):=fun k hb=>by rw[<-hl];exact bH hb
 have KH:Hd (∀k n j,k<s.size->l7 s.data.toList k=.ok (n,j)->n<65536/\nO n=false/\k+2<=j/\j<=s.size):=fun k n j hk he=>by rw[<-hl];exact KC _ k n j (by omega) he
 have KI:Hd (∀k,k<=s.size->k+aJ s.data.toList k<=s.size):=fun k hk=>by rw[<-hl];exact KE _ k (by omega)
 obtain⟨G,hG⟩:=zN (str s.data.toList (s.data.toList.length+1) (i+1) []);have jl:Hd (str s.data.toList (s.data.toList.length+1) (i+1) []=G):=hG;rw[hG];have H0:Hd (Rd w R s i T):=h;have ng:Hd (R<w.heap.size):=h.lt;have HS:Hd (Rd (w.setCell ⟨R,1,none⟩ (.int .i64 ((i:Int)+1))) R s (i+1) T):=h.set (i+1);have fB:Hd (w.grownBy (w.setCell ⟨R,1,none⟩ (.int .i64 ((i:Int)+1))) (some R)):=aQ (ax w (some R)) 1 _;obtain⟨-,c1,-,df⟩:=h.cells;have df1:=df 1;clear h hG he df hT;go_enter func193,ntmps193;go_wp2;have zg:Hd (Bd ((w.setCell ⟨R,1,none⟩ (.int .i64 ((i:Int)+1))).alloc (.cells #[.pointer none,.slice none 0 0] 92)) w.heap.size w.heap.size []):=by
  refine Or.inl ⟨Nat.le_refl _,.slice none 0 0,?_,World.ownsRowF_nil _ _ _ _,by simp[Value.ownBlock]⟩;have:=heap_alloc_new (w.setCell ⟨R,1,none⟩ (.int .i64 ((i:Int)+1))) (.cells #[.pointer none,.slice none 0 0] 92);have e:(w.setCell ⟨R,1,none⟩ (.int .i64 ((i:Int)+1))).heap.size=w.heap.size:=by simp[World.setCell]
  rw[e]at this;exact this
 have dO:Hd ((w.setCell ⟨R,1,none⟩ (.int .i64 ((i:Int)+1))).grownBy ((w.setCell ⟨R,1,none⟩ (.int .i64 ((i:Int)+1))).alloc (.cells #[.pointer none,.slice none 0 0] 92)) none):=World.grownBy_alloc _ _ none;have HR1:Hd (Rd ((w.setCell ⟨R,1,none⟩ (.int .i64 ((i:Int)+1))).alloc (.cells #[.pointer none,.slice none 0 0] 92)) R s (i+1) T):=HS.o.grow dO.o;have ay:Hd (w.grownBy ((w.setCell ⟨R,1,none⟩ (.int .i64 ((i:Int)+1))).alloc (.cells #[.pointer none,.slice none 0 0] 92)) (some R)):=aG fB.o dO.o;have zh:Hd (∀w',w.grownBy w' (some R)->w.heap.size<=w'.heap.size):=fun w' hg=>hg.size
 have aH:Hd (∀w1 w2,w.grownBy w1 (some R)->Below w.heap.size w1 w2->w.grownBy w2 (some R)):=fun w1 w2 h1 h2=>ZQ h1 (Nat.le_refl _) h2
 obtain⟨B,hB⟩:=zN (w.heap.size);rw[hB]at zg ng zh aH ⊢;obtain⟨wA,hwA⟩:=zN (((w.setCell ⟨R,1,none⟩ (.int .i64 ((i:Int)+1))).alloc (.cells #[.pointer none,.slice none 0 0] 92)));rw[hwA]at zg HR1 ay ⊢;clear hB hwA dO HS fB c1 df1 H0;go_loopw [] (fun wr=>∃(k f:Nat) (acc:List UInt8),Rd wr R s k T/\k<=s.size/\s.size-k<f/\str s.data.toList f k acc=G/\acc.length<=3*k/\Bd wr B B acc/\w.grownBy wr (some R)) (fun wr=>s.size-(match wr.cell? ⟨R,1,none⟩ with|some (.int _ k)=>k.toNat|_=>0))
 case atStart=>exact⟨i+1,s.data.toList.length+1,[],HR1.o,by omega,by omega,jl.o,by simp,zg.o,ay.o⟩
 case round =>
  obtain⟨k,f,acc,hrd,hk,hf,hstr,hacc,hbd,hg⟩:=hrel;obtain⟨f,rfl⟩:∃f',f=f'+1:=⟨f-1,by omega⟩;have kV:Hd (Rd wr R s k T):=hrd;have jY:Hd (w.grownBy wr (some R)):=hg;have kY:Hd (Bd wr B B acc):=hbd;have gK:Hd ((match wr.cell? ⟨R,1,none⟩ with|some (.int _ k)=>k.toNat|_=>0)=k):=by show _=_;rw[hrd.cells.2.1];simp
  have C1:Hd (∀w',Rd w' R s k T->Calls prog 104 #[.pointer (some ⟨R,0,none⟩)] w' fun e w''=>e=.returned (.int .i64 (nx s.data.toList k))/\w'.grownBy w'' none):=fun w' h1=>CN.o k w' h1 hk
  have qO:Hd (0<=nx s.data.toList k->k<s.size):=cZ.o k;have HXB:Hd (-1<=nx s.data.toList k):=(Fa s.data.toList k).1;rw[HST.o]at hstr;obtain⟨x,hx⟩:=zN (nx s.data.toList k);rw[hx]at C1 qO HXB hstr;have qP:Hd ((if x=34 then .ok (acc,k+1)
   else if x=92 then(match esc s.data.toList k with | .error e=>.error e | .ok (b,j)=>str s.data.toList f j (acc++b))
   else if x=-1\/ik x=true then .error (2,k)
   else if aJ s.data.toList k=0 then .error (2,k)
   else str s.data.toList f (k+aJ s.data.toList k) (acc++ag s.data.toList k (aJ s.data.toList k)))=G):=hstr
  clear hrd hg hbd hx hstr
  by_cases h34:x=34
  ·have hb:(x != 34)=false:=by simp[h34]
   have aA:Hd (G=.ok (acc,k+1)):=by
    have:=qP.o;rw[if_pos h34]at this;exact this.symm
   have hkl:=qO.o (by omega);clear h34;go_wp2_with (go_at_call 104;refine(C1.o _ kV.o).mono ?_);rintro e w2 ⟨rfl,hg2⟩;have HR2:Hd (Rd w2 R s k T):=kV.o.grow hg2;have HG2:Hd (w.grownBy w2 (some R)):=aG jY.o hg2;obtain⟨-,d1,-,df⟩:=HR2.o.cells;have df2:=df 1;have HR3:Hd (Rd (w2.setCell ⟨R,1,none⟩ (.int .i64 ((k:Int)+1))) R s (k+1) T):=HR2.o.set (k+1);have aK:Hd (w.grownBy (w2.setCell ⟨R,1,none⟩ (.int .i64 ((k:Int)+1))) (some R)):=aQ HG2.o 1 _;have CS:Hd (Calls prog 46 #[.pointer (some ⟨B,0,none⟩)] (w2.setCell ⟨R,1,none⟩ (.int .i64 ((k:Int)+1))) fun e w'=>e=.returned (.string ⟨acc.toArray⟩)/\Below B (w2.setCell ⟨R,1,none⟩ (.int .i64 ((k:Int)+1))) w'):=ZP B B acc _ ((kY.o.grow (R:=R) (aQ (aG (ax wr (some R)) hg2) 1 _) ng.o)) (zh.o _ aK.o);clear hg2 df;go_wp2_with (go_at_call 46;refine CS.o.mono ?_;rintro e w4 ⟨rfl,hb4⟩)
   refine bodyPost_ret (results_tmp2 (t:=2) (u:=3) rfl _ _ _) rfl ?_;rw[aA.o];exact⟨fun t j hh=>(by cases hh;exact⟨rfl,HR3.o.bel ng.o hb4⟩),fun c p hh=>(by cases hh),aH.o _ _ aK.o hb4⟩
  ·have hb:(x != 34)=true:=by simp[h34]
   by_cases h92:x=92
   ·have hb2:(x == 92)=true:=by simp[h92]
    have hkl:=qO.o (by omega);have az:Hd ((match Q8 (l7 s.data.toList k) with | .error e=>.error e | .ok (b,j)=>str s.data.toList f j (acc++b))=G):=by
     have:=qP.o;rw[if_neg h34,if_pos h92,Ky]at this;exact this
    have su:Hd (∀w',w.grownBy w' (some R)->Rd w' R s k T->Calls prog 214 #[.pointer (some ⟨R,0,none⟩)] w' (yZ R s T E (l7 s.data.toList k) w')):=fun w' h1 h2=>CE.o k w' h1 h2 hkl
    have jZ:Hd (∀n j,l7 s.data.toList k=.ok (n,j)->n<65536/\nO n=false/\k+2<=j/\j<=s.size):=fun n j h=>KH.o k n j hkl h
    obtain⟨q,hq⟩:=zN (l7 s.data.toList k);rw[hq]at az su jZ;clear h34 h92 hq;go_wp2_with (go_at_call 104;refine(C1.o _ kV.o).mono ?_);rintro e w2 ⟨rfl,hg2⟩;have HR2:Hd (Rd w2 R s k T):=kV.o.grow hg2;have HG2:Hd (w.grownBy w2 (some R)):=aG jY.o hg2;have HB2:Hd (Bd w2 B B acc):=kY.o.grow (R:=R) (aG (ax wr (some R)) hg2) ng.o;clear hg2;go_wp2_with (go_at_call 104;refine(C1.o _ HR2.o).mono ?_);rintro e w3 ⟨rfl,hg3⟩;have HR3:Hd (Rd w3 R s k T):=HR2.o.grow hg3;have aK:Hd (w.grownBy w3 (some R)):=aG HG2.o hg3;have HB3:Hd (Bd w3 B B acc):=HB2.o.grow (R:=R) (aG (ax w2 (some R)) hg3) ng.o;clear hg3
    cases q with
    | error q =>
     obtain⟨c,q⟩:=q;have aA:Hd (G=.error (c,q)):=az.o.symm;go_wp2_with (go_at_call 214;refine(su.o _ aK.o HR3.o).mono ?_);rintro e w4 ⟨h1,h2,hg4⟩;obtain⟨v,rfl,⟨F,rfl,hF⟩,jj,hjj⟩:=h2 c q rfl;have HJJ:Hd (Rd w4 R s jj T):=hjj;clear hjj;have dU:Hd (aV w4 (.iface 130 (.pointer (some ⟨F,0,none⟩))) E c q):=⟨F,rfl,hF⟩;have dS:Hd (w.grownBy w4 (some R)):=dH aK.o hg4;clear h1 h2 hF hg4;go_wp2;refine bodyPost_ret (results_tmp2 (t:=2) (u:=3) rfl _ _ _) rfl ?_;rw[aA.o];exact⟨fun t j hh=>(by cases hh),fun c p hh=>(by cases hh;exact⟨_,rfl,dU.o,jj,HJJ.o⟩),dS.o⟩
    | ok q =>
     obtain⟨n,j⟩:=q;obtain⟨hn1,hn2,hn3,hn4⟩:=jZ.o n j rfl;have aA:Hd (str s.data.toList f j (acc++gz n)=G):=az.o;have hwl:=FQ n;go_wp2_with (go_at_call 214;refine(su.o _ aK.o HR3.o).mono ?_);rintro e w4 ⟨h1,h2,hg4⟩;obtain⟨rfl,hr4⟩:=h1 n j rfl;have HR4:Hd (Rd w4 R s j T):=hr4;have dS:Hd (w.grownBy w4 (some R)):=dH aK.o hg4;have CWR:Hd (Calls prog 215 #[.pointer (some ⟨B,0,none⟩),.int .i32 (n:Nat)] w4 fun e w'=>(∃k:Int,e=.returned (.tuple #[.int .i64 k,.nilIface]))/\Bd w' B B (acc++gz n)/\Below B w4 w'):=ZN B B n acc w4 (HB3.o.grow hg4 ng.o) hn1 hn2 (by omega) (zh.o _ dS.o);clear h1 h2 hr4 hg4 hn1 hn2;go_wp2_with (go_at_call 215;refine CWR.o.mono ?_);rintro e w5 ⟨⟨kk,rfl⟩,hb5,hbel⟩;have oI:Hd (Rd w5 R s j T):=HR4.o.bel ng.o hbel;have iy:Hd (w.grownBy w5 (some R)):=aH.o _ _ dS.o hbel;have sD:Hd (Bd w5 B B (acc++gz n)):=hb5
     clear hb5 hbel;go_wp2;refine⟨⟨j,f,acc++gz n,oI.o,hn4,by omega,aA.o,by rw[List.length_append];omega,sD.o,iy.o⟩,?_⟩;rw[gK.o,oI.o.cells.2.1];simp;omega
   ·have hb2:(x == 92)=false:=by simp[h92]
    go_wp2_with (go_at_call 104;refine(C1.o _ kV.o).mono ?_);rintro e w2 ⟨rfl,hg2⟩;have HR2:Hd (Rd w2 R s k T):=kV.o.grow hg2;have HG2:Hd (w.grownBy w2 (some R)):=aG jY.o hg2;have HB2:Hd (Bd w2 B B acc):=kY.o.grow (R:=R) (aG (ax wr (some R)) hg2) ng.o;clear hg2;go_wp2_with (go_at_call 104;refine(C1.o _ HR2.o).mono ?_);rintro e w3 ⟨rfl,hg3⟩;have HR3:Hd (Rd w3 R s k T):=HR2.o.grow hg3;have aK:Hd (w.grownBy w3 (some R)):=aG HG2.o hg3;have HB3:Hd (Bd w3 B B acc):=HB2.o.grow (R:=R) (aG (ax w2 (some R)) hg3) ng.o;clear hg3;have oH:Hd ((if x=-1\/ik x=true then .error (2,k)
     else if aJ s.data.toList k=0 then .error (2,k)
     else str s.data.toList f (k+aJ s.data.toList k) (acc++ag s.data.toList k (aJ s.data.toList k)))=G):=by
     have:=qP.o;rw[if_neg h34,if_neg h92]at this;exact this
    clear h34 h92
    by_cases he1:x=-1
    ·have hb3:(x == -1)=true:=by simp[he1]
     have aA:Hd (G=.error (2,k)):=by
      have:=oH.o;rw[if_pos (Or.inl he1)]at this;exact this.symm
     clear he1;go_wp2_with (first|(go_at_call 104;refine(C1.o _ HR3.o).mono ?_;rintro e w4 ⟨rfl,hg4⟩)|(go_at_call 156;refine(CH.o k _ (aG aK.o hg4) (HR3.o.grow hg4)).mono ?_;rintro e w5 ⟨⟨v,rfl,hv⟩,hg5⟩));refine bodyPost_ret (results_tmp2 (t:=2) (u:=3) rfl _ _ _) rfl ?_;rw[aA.o];exact⟨fun t j hh=>(by cases hh),fun c p hh=>(by cases hh;exact⟨v,rfl,hv,_,(HR3.o.grow hg4).grow hg5⟩),aG (aG aK.o hg4) hg5⟩
    ·have hb3:(x == -1)=false:=by simp[he1]
     have iK:Hd (∀w,Calls prog 155 #[.int .i64 x] w fun e w'=>e=.returned (.bool (ik x))/\w'=w):=fun w=>CB.o x w
     obtain⟨br,hbr⟩:=zN (ik x);rw[hbr]at iK oH;have o6:Hd (¬x=-1):=he1;clear hbr he1;go_wp2_with (go_at_call 104;refine(C1.o _ HR3.o).mono ?_);rintro e w4 ⟨rfl,hg4⟩;have HR4:Hd (Rd w4 R s k T):=HR3.o.grow hg4;have dS:Hd (w.grownBy w4 (some R)):=aG aK.o hg4;have HB4:Hd (Bd w4 B B acc):=HB3.o.grow (R:=R) (aG (ax w3 (some R)) hg4) ng.o;clear hg4;go_wp2_with (go_at_call 104;refine(C1.o _ HR4.o).mono ?_);rintro e w5 ⟨rfl,hg5⟩;have oI:Hd (Rd w5 R s k T):=HR4.o.grow hg5;have iy:Hd (w.grownBy w5 (some R)):=aG dS.o hg5;have sD:Hd (Bd w5 B B acc):=HB4.o.grow (R:=R) (aG (ax w4 (some R)) hg5) ng.o;clear hg5
     cases br with
     | true =>
      have aA:Hd (G=.error (2,k)):=by
       have:=oH.o;rw[if_pos (Or.inr rfl)]at this;exact this.symm
      go_wp2_with (first|(go_at_call 155;refine(iK.o _).mono ?_;rintro e w' ⟨rfl,rfl⟩)|(go_at_call 156;refine(CH.o k _ iy.o oI.o).mono ?_;rintro e w6 ⟨⟨v,rfl,hv⟩,dK⟩));refine bodyPost_ret (results_tmp2 (t:=2) (u:=3) rfl _ _ _) rfl ?_;rw[aA.o];exact⟨fun t j hh=>(by cases hh),fun c p hh=>(by cases hh;exact⟨v,rfl,hv,_,oI.o.grow dK⟩),aG iy.o dK⟩
     | false =>
      have hkl:k<s.size:=qO.o (by have:=HXB.o;have:=o6.o;omega);have sF:Hd ((if aJ s.data.toList k=0 then .error (2,k) else str s.data.toList f (k+aJ s.data.toList k) (acc++ag s.data.toList k (aJ s.data.toList k)))=G):=by
       have:=oH.o;rw[if_neg (by rintro(h|h);exact o6.o h;cases h)]at this;exact this
      have KQ:=KI.o k hk;have KT:Hd (∀w',w.grownBy w' (some R)->Calls prog 216 #[.string ⟨(s.data.toList.drop k).toArray⟩] w' fun e w''=>∃(ri:Int) (n:Nat),e=.returned (.tuple #[.int .i32 ri,.int .i64 (n:Nat)])/\(aJ s.data.toList k=0->ri=65533/\n=1)/\(0<aJ s.data.toList k->n=aJ s.data.toList k/\(ri=65533->¬n=1))/\w'.grownBy w'' none):=fun w' hg=>by
       refine(CD.o k w' hg hkl).mono ?_;rintro e w'' ⟨r,n,rfl,⟨t1,t2⟩,hb⟩;refine⟨(r:Nat),n,rfl,fun h0=>?_,fun h0=>?_,⟨hb.os,hb.tape,hb.output,hb.size,fun k hk _=>hb.block k hk⟩⟩
       ·have:=t1 h0;simp only[Prod.mk.injEq]at this;omega
       ·obtain⟨a1,a2⟩:=t2 h0;refine⟨a1,fun hr hn=>a2 ⟨?_,hn⟩⟩;show r=65533;omega
      have ji:Hd ((ag s.data.toList k (aJ s.data.toList k)).length<=aJ s.data.toList k):=by
       show _<=_;unfold ag;rw[List.length_take];omega
      have s1:∀wx,(Instr.slice 9 (.string s) (some (.int .i64 (k:Int))) none none).run prog wx=.ok (.string ⟨(s.data.toList.drop k).toArray⟩) wx:=fun wx=>aam s k hk wx
      have s2:∀wx,(Instr.slice 9 (.string s) (some (.int .i64 (k:Int))) (some (.int .i64 ((k:Int)+((aJ s.data.toList k:Nat):Int)))) none).run prog wx=.ok (.string ⟨(ag s.data.toList k (aJ s.data.toList k)).toArray⟩) wx:=fun wx=>by
       have:=lC s k (k+aJ s.data.toList k) (by omega) KQ wx;rw[show k+aJ s.data.toList k-k=aJ s.data.toList k by omega]at this;simpa using this
      obtain⟨X,hX⟩:∃X:ByteArray,⟨(s.data.toList.drop k).toArray⟩=X:=⟨_,rfl⟩;rw[hX]at s1 KT;obtain⟨S,hS⟩:=zN (aJ s.data.toList k);rw[hS]at sF KQ KT s2 ji;obtain⟨Y,hY⟩:=zN (ag s.data.toList k S);rw[hY]at sF s2 ji;have hYl:=ji.o;have RH:Hd (∀w',Bd w' B B acc->B<=w'.heap.size->Calls prog 42 #[.pointer (some ⟨B,0,none⟩),.string ⟨Y.toArray⟩] w' fun e w''=>(∃k:Int,e=.returned (.tuple #[.int .i64 k,.nilIface]))/\Bd w'' B B (acc++Y)/\Below B w' w''):=fun w' h1 h2=>ZO B B acc Y w' h1 (by omega) (by omega) h2
      obtain⟨Z,hZ⟩:∃Z:ByteArray,⟨Y.toArray⟩=Z:=⟨_,rfl⟩;rw[hZ]at RH s2;clear hX hS hY hZ;go_wp2_with (go_at_call 155;refine(iK.o _).mono ?_;rintro e w' ⟨rfl,rfl⟩);obtain⟨d0,d1,-,-⟩:=oI.o.cells;have BJ:=KT.o w'.drew (aj iy.o 1);have CD2:Hd (Calls prog 216 #[.string X] w'.drew fun e w''=>∃(ri:Int) (n:Nat),e=.returned (.tuple #[.int .i32 ri,.int .i64 (n:Nat)])/\(S=0->ri=65533/\n=1)/\(0<S->n=S/\(ri=65533->¬n=1))/\w'.drew.grownBy w'' none):=BJ;clear BJ
      go_region_held3 (fun u=>u.cell? ⟨R,0,none⟩=some (.string s)/\u.cell? ⟨R,1,none⟩=some (.int .i64 (k:Int))) ((first|exact⟨World.grownBy.cell (by assumption) (And.left (by assumption)) (by simp),World.grownBy.cell (by assumption) (And.right (by assumption)) (by simp)⟩|go_keep)) (first|(go_at_call 216;refine CD2.o.mono ?_;rintro e w6 ⟨ri,n,rfl,t1,t2,dK⟩))
      have kZ:w'.grownBy w6 none:=ah (show w'.grownBy w'.drew none from⟨rfl,rfl,rfl,Nat.le_refl _,fun _ _ _=>rfl⟩) dK;have l9:Hd (Rd w6 R s k T):=oI.o.grow kZ;have kX:Hd (w.grownBy w6 (some R)):=aG iy.o kZ;have F8:Hd (Bd w6 B B acc):=sD.o.grow (R:=R) (aG (ax w' (some R)) kZ) ng.o
      by_cases hS0:S=0
      ·obtain⟨rfl,rfl⟩:=t1 hS0;have aA:Hd (G=.error (2,k)):=by
        have:=sF.o;rw[if_pos hS0]at this;exact this.symm
       clear t1 t2 dK kZ hS0;go_wp2_with (go_at_call 156;refine(CH.o k _ kX.o l9.o).mono ?_;rintro e w7 ⟨⟨v,rfl,hv⟩,lK⟩);refine bodyPost_ret (results_tmp2 (t:=2) (u:=3) rfl _ _ _) rfl ?_;rw[aA.o];exact⟨fun t j hh=>(by cases hh),fun c p hh=>(by cases hh;exact⟨v,rfl,hv,_,l9.o.grow lK⟩),aG kX.o lK⟩
      ·obtain⟨hnS,hne⟩:=t2 (by omega);subst hnS;have aA:Hd (str s.data.toList f (k+n) (acc++Y)=G):=by
        have:=sF.o;rw[if_neg hS0]at this;exact this
       have hcase:((ri == 65533)=true/\((n:Int) == 1)=false)\/(ri == 65533)=false:=by
        by_cases hr:ri=65533
        ·refine Or.inl ⟨by simp[hr],?_⟩;have:=hne hr;rw[beq_eq_false_iff_ne];omega
        ·exact Or.inr (by simp[hr])
       have CWS:Hd (Calls prog 42 #[.pointer (some ⟨B,0,none⟩),.string Z] w6.drew fun e w''=>(∃k:Int,e=.returned (.tuple #[.int .i64 k,.nilIface]))/\Hd (Rd w'' R s k T/\w.grownBy w'' (some R)/\Bd w'' B B (acc++Y))/\(w''.cell? ⟨R,0,none⟩=some (.string s)/\w''.cell? ⟨R,1,none⟩=some (.int .i64 (k:Int)))):=by
        refine(RH.o w6.drew (F8.o.grow (R:=R) (show w6.grownBy w6.drew (some R) from⟨rfl,rfl,rfl,Nat.le_refl _,fun _ _ _=>rfl⟩) ng.o) (zh.o w6.drew (aj kX.o 1))).mono ?_;rintro e w'' ⟨h1,h2,h3⟩;have hr:Rd w'' R s k T:=Rd.bel (w:=w6.drew) l9.o ng.o h3;exact⟨h1,⟨hr,aH.o _ _ (aj kX.o 1) h3,h2⟩,hr.cells.1,hr.cells.2.1⟩
       obtain⟨d0,d1,-,-⟩:=l9.o.cells;have hn0:0<n:=by omega
       clear t1 t2 dK kZ hS0 hne;have hwr:IntKind.i64.wrap ((k:Int)+(n:Int))=(k:Int)+(n:Int):=by
        simp[IntKind.wrap,IntKind.bits,IntKind.signed];omega
       rcases hcase with⟨hq1,hq2⟩|hq1
       all_goals (
        go_wp2
        go_region_held3 (fun u=>u.cell? ⟨R,0,none⟩=some (.string s)/\u.cell? ⟨R,1,none⟩=some (.int .i64 (k:Int))) ((first|assumption|go_keep)) (first|(go_at_call 42;refine CWS.o.mono ?_;rintro e w7 ⟨⟨kk,rfl⟩,hall,hcl⟩))
        have vX:Hd (Rd w7 R s k T):=hall.o.1;have oJ:Hd (w.grownBy w7 (some R)):=hall.o.2.1;have qR:Hd (Bd w7 B B (acc++Y)):=hall.o.2.2;obtain⟨-,e1,-,ef⟩:=vX.o.cells;have ef1:=ef 1;have uq:Hd (Rd (w7.setCell ⟨R,1,none⟩ (.int .i64 ((k:Int)+(n:Int)))) R s (k+n) T):=by
         have:=vX.o.set (k+n);rw[Int.natCast_add]at this;exact this
        have F9:Hd (w.grownBy (w7.setCell ⟨R,1,none⟩ (.int .i64 ((k:Int)+(n:Int)))) (some R)):=aQ oJ.o 1 _;have BK:Hd (Bd (w7.setCell ⟨R,1,none⟩ (.int .i64 ((k:Int)+(n:Int)))) B B (acc++Y)):=qR.o.grow (R:=R) (aQ (ax w7 (some R)) 1 _) ng.o;clear hall hcl ef;go_wp2;clear hwr;refine⟨⟨k+n,f,acc++Y,uq.o,KQ,by omega,aA.o,by rw[List.length_append];omega,BK.o,F9.o⟩,?_⟩;rw[gK.o,uq.o.cells.2.1];show s.size-((k+n:Nat):Int).toNat<s.size-k;rw[Int.toNat_natCast];omega)
open Go.RowKit Go.Maps Go.WideMaps
theorem aan:laidOutB prog=true:=by kernel_rfl
theorem RI:(268:TypeId)<prog.types.size:=of_decide_eq_true (by kernel_rfl)
theorem aao:KeyLaw prog 268:=deep_law_laid aan (m:=2) (by omega) RI (by kernel_rfl) (by rw[underlying268])
theorem Gg:Keyed prog 268:=Keyed.of_law aao
def holdL:List Value->Option (DataW Unit × List MemPlace)
 | [.int q n,.bool b]=>some (.agg [.lit (.int q n),.lit (.bool b)],[])
 | _=>none
def Gh(v:Value):Option (DataW Unit × List MemPlace) :=
 match v with
 | .agg cs=>holdL cs.toList
 | _=>none
theorem aap(q:IntKind)(n:Int)(b:Bool):Gh (.agg #[.int q n,.bool b])=some (.agg [.lit (.int q n),.lit (.bool b)],[]):=rfl
theorem aaq{l:List Value}{q:IntKind}{n:Int}{b:Bool}{ps:List MemPlace}(h:holdL l=some (.agg [.lit (.int q n),.lit (.bool b)],ps)):l=[.int q n,.bool b]:=by
 unfold holdL at h;split at h
 ·injection h with h
  injection h with h _
  injection h with h
  injection h with h1 h2
  injection h2 with h2 _
  injection h1 with h1
  injection h2 with h2
  injection h1 with h3 h4
  injection h2 with h5
  rw[h3,h4,h5]
 ·cases h
theorem aar{v:Value}{q:IntKind}{n:Int}{b:Bool}{ps:List MemPlace}(h:Gh v=some (.agg [.lit (.int q n),.lit (.bool b)],ps)):v=.agg #[.int q n,.bool b]:=by
 unfold Gh at h;split at h
 ·rename_i cs;have:=aaq h;congr 1;exact Array.ext' this
 ·cases h
def oL(t:Nat)(k:List UInt8):Value:=.agg #[.int .i64 (t:Nat),.string ⟨k.toArray⟩]
noncomputable def zi(t:Nat)(k:List UInt8):Lit:=(keyOf prog 268 (oL t k)).getD (.bool false)
theorem aas(t:Nat)(k:List UInt8)(ht:t<4611686018427387904)(hk:k.length<=1048576):∃l,keyOf prog 268 (oL t k)=some l:=by
 have h1:prog.keyType 268=true:=by kernel_rfl
 have h2:∀a b:Value,(Value.agg #[a,b]).formed prog 268=true:=fun a b=>by
  have hc:prog.cellsOf 268=2:=by kernel_rfl
  simp[Value.formed,underlying268,hc]
 obtain⟨m,hm⟩:∃m,prog.types.size=m+1:=⟨prog.types.size-1,by have h0:0<prog.types.size:=Nat.lt_of_le_of_lt (Nat.zero_le _) RI;omega⟩;have hc:prog.cellsOf 268=2:=by kernel_rfl
 have hci:prog.cellsOf 3=1:=by kernel_rfl
 have hcs:prog.cellsOf 9=1:=by kernel_rfl
 have hw:(Lit.int .i64 (t:Nat)).wf=true:=by
  have h1:IntKind.i64.min=-9223372036854775808:=by decide
  have h2:IntKind.i64.max=9223372036854775807:=by decide
  simp only[Lit.wf,h1,h2];simp;omega
 have hz:(⟨k.toArray⟩:ByteArray).size<=maxLen:=by
  show k.toArray.size<=_;unfold maxLen;simp;omega
 unfold keyOf oL;simp only[underlying268,h1,h2,Bool.and_self,if_true,hm];have e1:prog.keyLits (m+1) 3 [.int .i64 (t:Nat)]=some [.int .i64 (t:Nat)]:=by
  simp[Program.keyLits,underlying3,hw]
 have e2:prog.keyLits (m+1) 9 [.string ⟨k.toArray⟩]=some [.string k]:=by
  simp[Program.keyLits,underlying9,hz]
 refine⟨.string (keyBytes ([.int .i64 (t:Nat)]++[.string k])),?_⟩;unfold Program.keyLits;simp[underlying268,hc,hci,hcs,e1,e2,Value.cells]
theorem BL(t:Nat)(k:List UInt8)(ht:t<4611686018427387904)(hk:k.length<=1048576):keyOf prog 268 (oL t k)=some (zi t k):=by
 obtain⟨l,hl⟩:=aas t k ht hk;unfold zi;rw[hl];rfl
theorem aat{t t':Nat}{k k':List UInt8}(ht:t<4611686018427387904)(hk:k.length<=1048576)(ht':t'<4611686018427387904)(hk':k'.length<=1048576)(h:zi t k=zi t' k'):t=t'/\k=k':=by
 have h1:=BL t k ht hk;have h2:=BL t' k' ht' hk';rw[<-h]at h2;have h3:=Gg.inj h1 h2;unfold oL at h3;injection h3 with h3
 have h4:=congrArg Array.toList h3;simp only[List.cons.injEq,Value.int.injEq,Value.string.injEq,true_and,and_true]at h4;obtain⟨h5,h6⟩:=h4;refine⟨Int.ofNat_inj.1 h5,?_⟩;have h7:=congrArg (fun b:ByteArray=>b.data.toList) h6;simpa using h7
def HM(w:World)(M n:Nat)(f:Nat->List UInt8->Option (Nat × Bool)):Prop:=∃D:DataW Unit,w.ownsMap prog 268 Gh M n D/\IsMap D/\∀t k,t<4611686018427387904->k.length<=1048576->∀zd,D.atKey (zi t k) zd=match f t k with|some v=>.agg [.lit (.int .i64 (v.1:Nat)),.lit (.bool v.2)]|none=>zd
theorem HM.mono{w:World}{M n n':Nat}{f:Nat->List UInt8->Option (Nat × Bool)}(h:HM w M n f)(hn:n<=n'):HM w M n' f:=by
 obtain⟨D,h1,h2,h3⟩:=h;exact⟨D,h1.mono hn,h2,h3⟩
theorem HM.block{w w':World}{M n:Nat}{f:Nat->List UInt8->Option (Nat × Bool)}(h:HM w M n f)(hb:w'.heap[M]?=w.heap[M]?):HM w' M n f:=by
 obtain⟨D,⟨es,c,h1,h1'⟩,h2,h3⟩:=h;exact⟨D,⟨es,c,hb.trans h1,h1'⟩,h2,h3⟩
theorem HM.map{w:World}{M n:Nat}{f:Nat->List UInt8->Option (Nat × Bool)}(h:HM w M n f):∃es c,w.heap[M]?=some (.map es c):=by
 obtain⟨D,⟨es,c,h1,h1'⟩,h2,h3⟩:=h;exact⟨es,c,h1⟩
theorem HM.made(w:World):HM (w.alloc (.map #[] 0)) w.heap.size 0 (fun _ _=>none):=⟨.map [],World.ownsMap_made w _ _ _,isMap_empty,fun _ _ _ _ _=>rfl⟩
theorem aau(w:World):(zeroValue 265).run prog w=.ok (.agg #[.int .i64 0,.bool false]) w:=by kernel_rfl
theorem HM.look{w:World}{M n:Nat}{f:Nat->List UInt8->Option (Nat × Bool)}(h:HM w M n f)(t:Nat)(k:List UInt8)(ht:t<4611686018427387904)(hk:k.length<=1048576) :
  (Instr.lookup 127 (.map (some M)) (oL t k) true).run prog w=.ok (match f t k with|some v=>.tuple #[.agg #[.int .i64 (v.1:Nat),.bool v.2],.bool true]|none=>.tuple #[.agg #[.int .i64 0,.bool false],.bool false]) w:=by
 obtain⟨D,⟨es,c,h1,F,hs,rfl⟩,h2,h3⟩:=h;have h4:=h3 t k ht hk
 rcases Maps.fit_look true Gg underlying127 (aau w) h1 F (BL t k ht hk) with⟨hrun,-,hat⟩|⟨e0,y,-,-,hrun,hRv,hat,-⟩
 ·rw[hrun]
  cases hf:f t k with
  | none=>rfl
  | some v =>
   exfalso;have:=h4 .nil;rw[hf,hat .nil]at this
   cases this
 ·rw[hrun]
  cases hf:f t k with
  | none =>
   exfalso;have a1:=h4 .nil;have a2:=h4 (.map []);rw[hf,hat]at a1 a2;simp only[]at a1 a2;rw[a1]at a2
   cases a2
  | some v =>
   have a1:=h4 .nil;rw[hf,hat]at a1;obtain⟨y1,y2⟩:=y;simp only[]at a1;subst a1;have:=aar hRv;rw[this];rfl
theorem HM.put{w:World}{M n:Nat}{f:Nat->List UInt8->Option (Nat × Bool)}(h:HM w M n f)(t:Nat)(k:List UInt8)(ht:t<4611686018427387904)(hk:k.length<=1048576)(hn:n<1099511627776)(q:Nat)(b:Bool) :
  ∃w',(Instr.mapUpdate 127 (.map (some M)) (oL t k) (.agg #[.int .i64 (q:Nat),.bool b])).run prog w=.ok () w'/\HM w' M (n+1) (xO f t k (q,b))/\w.grownBy w' (some M):=by
 obtain⟨D,h1,h2,h3⟩:=h;obtain⟨w',hr,ho,hg⟩:=h1.update Gg underlying127 (by unfold maxLen;omega) (BL t k ht hk) (aap .i64 (q:Nat) b);refine⟨w',hr,⟨_,ho,h2.put _ _,fun t' k' ht' hk' zd=>?_⟩,hg⟩;unfold xO
 by_cases he:t'=t/\k'=k
 ·rw[if_pos he];obtain⟨rfl,rfl⟩:=he;have hk1:=BL t' k' ht hk;have hk2:=Keyed.key Gg hk1;generalize zi t' k'=kl at hk2;rw[atKey_put_same h2 hk2]
 ·rw[if_neg he,atKey_put_other (fun e=>he (aat ht' hk' ht hk e))];exact h3 t' k' ht' hk' zd
open Go.RowKit Go.Maps Go.WideMaps Go.Joins
theorem bP{w w':World}{B:Nat}{e:TypeId}{s:Nat}{v:Value}{n:Nat}{xs:List Value}(h:w.ownsRow B e s v n xs)(hb:∀g cur,v.ownBlock=some g->w.heap[g]?=some (.cells cur e (0,0))->w'.heap[g]?=w.heap[g]?):w'.ownsRow B e s v n xs:=by
 refine⟨h.1,?_⟩
 rcases h.2 with h1|⟨g,cap,cur,rfl,h2,h3,h4⟩
 ·exact Or.inl h1
 ·exact Or.inr ⟨g,cap,cur,rfl,h2,(hb g cur rfl h3).trans h3,h4⟩
theorem bz{w:World}{B:Nat}{e:TypeId}{s:Nat}{v:Value}{n:Nat}{xs:List Value}(h:w.ownsRow B e s v n xs){g:Nat}(hg:v.ownBlock=some g):B<=g/\∃cur,w.heap[g]?=some (.cells cur e (0,0)):=by
 rcases h.2 with⟨rfl,_⟩|⟨g',cap,cur,rfl,h2,h3,h4⟩
 ·cases hg
 ·cases hg
  exact⟨h2,cur,h3⟩
theorem aP{w:World}{a b:Nat}{c1 c2:Array Value}{t1 t2:TypeId}{f1 f2:Nat × Nat}(h1:w.heap[a]?=some (.cells c1 t1 f1))(h2:w.heap[b]?=some (.cells c2 t2 f2))(h:¬t1=t2):¬a=b:=fun e=>by
 subst e;rw[h1]at h2;injection h2 with h2
 injection h2 with _ e2 _
 exact h e2
theorem pK{w:World}{a b:Nat}{c1:Array Value}{t1:TypeId}{f1:Nat × Nat}{es:Array MapEntry}{c:Nat}(h1:w.heap[a]?=some (.cells c1 t1 f1))(h2:w.heap[b]?=some (.map es c)):¬a=b:=fun e=>by
 subst e;rw[h1]at h2
 cases h2
theorem aB{w:World}{b:Nat}{o:Obj}(h:w.heap[b]?=some o):b<w.heap.size:=(jU h)
structure TrD(w:World)(B T:Nat)(ns:List Tn)(now N c M:Nat)(xs:List Value)(ks:Nat->Value)(n:Nat)(f:Nat->List UInt8->Option (Nat × Bool)):Prop where
 blk:w.heap[T]?=some (.cells #[.slice (some ⟨N,0,none⟩) ns.length c,.map (some M),.int .i64 (now:Nat)] 129 (0,0))
 bT:B<=T
 row:w.ownsRow B 64 6 (.slice (some ⟨N,0,none⟩) ns.length c) ns.length xs
 cel:∀i (hi:i<ns.length),xs[i*6]?=some (.int .i64 ns[i].kd)/\xs[i*6+1]?=some (.string ⟨ns[i].ky.toArray⟩)/\xs[i*6+2]?=some (.string ⟨ns[i].tx.toArray⟩)/\xs[i*6+3]?=some (.int .i64 ns[i].nu)/\xs[i*6+4]?=some (ks i)/\xs[i*6+5]?=some (.int .i64 (ns[i].pl:Nat))
 kid:∀i (hi:i<ns.length),w.ownsRow B 3 1 (ks i) ns[i].ks.length (ns[i].ks.map fun q=>.int .i64 (q:Nat))
 apart:∀i j g,i<ns.length->j<ns.length->(ks i).ownBlock=some g->(ks j).ownBlock=some g->i=j
 map:HM w M n f
 bM:B<=M
section
variable {w w':World} {B T:Nat} {ns:List Tn} {now N c M:Nat} {xs:List Value} {ks:Nat->Value} {n:Nat} {f:Nat->List UInt8->Option (Nat × Bool)}
theorem TrD.rowT(h:TrD w B T ns now N c M xs ks n f):∃cur,w.heap[N]?=some (.cells cur 64 (0,0)):=(bz h.row rfl).2
theorem TrD.cells(h:TrD w B T ns now N c M xs ks n f):w.cell? ⟨T,0,none⟩=some (.slice (some ⟨N,0,none⟩) ns.length c)/\w.cell? ⟨T,1,none⟩=some (.map (some M))/\w.cell? ⟨T,2,none⟩=some (.int .i64 (now:Nat))/\∀k,w.frozen? ⟨T,k,none⟩=false :=
 ⟨by rw[af h.blk];rfl,by rw[af h.blk];rfl,by rw[af h.blk];rfl,fun k=>Lib.frozen_of_heap h.blk k⟩
theorem ni(g k:Nat):(⟨g,0,none⟩:Addr).add k=⟨g,k,none⟩:=by
 unfold Addr.add;split
 ·rename_i h;rw[h]
 ·simp
theorem TrD.node(h:TrD w B T ns now N c M xs ks n f)(i:Nat)(hi:i<ns.length):w.cell? ⟨N,i*6,none⟩=some (.int .i64 ns[i].kd)/\w.cell? ⟨N,i*6+1,none⟩=some (.string ⟨ns[i].ky.toArray⟩)/\w.cell? ⟨N,i*6+2,none⟩=some (.string ⟨ns[i].tx.toArray⟩)/\w.cell? ⟨N,i*6+3,none⟩=some (.int .i64 ns[i].nu)/\w.cell? ⟨N,i*6+4,none⟩=some (ks i)/\w.cell? ⟨N,i*6+5,none⟩=some (.int .i64 (ns[i].pl:Nat))/\∀k,w.frozen? ⟨N,k,none⟩=false:=by
 obtain⟨h0,h1,h2,h3,h4,h5⟩:=h.cel i hi;have key:∀j u,xs[j]?=some u->w.cell? ⟨N,j,none⟩=some u:=fun j u hu=>by
  have:=h.row.cells (g:=N) rfl j u hu;rw[ni]at this;exact this
 obtain⟨cur,hc⟩:=h.rowT;exact⟨key _ _ h0,key _ _ h1,key _ _ h2,key _ _ h3,key _ _ h4,key _ _ h5,fun k=>Lib.frozen_of_heap hc k⟩
def Gj(w w':World):Prop:=(∀(b:Nat) (cs:Array Value) (t:TypeId) (fz:Nat × Nat),w.heap[b]?=some (.cells cs t fz)->(t=129\/t=64\/t=3)->w'.heap[b]?=w.heap[b]?)/\∀(b:Nat) (es:Array MapEntry) (c:Nat),w.heap[b]?=some (.map es c)->w'.heap[b]?=w.heap[b]?
theorem TrD.keeps(h:TrD w B T ns now N c M xs ks n f)(hk:Gj w w'):TrD w' B T ns now N c M xs ks n f:=by
 refine⟨(hk.1 _ _ _ _ h.blk (Or.inl rfl)).trans h.blk,h.bT,bP h.row fun g cur _ hc=>hk.1 _ _ _ _ hc (Or.inr (Or.inl rfl)),h.cel,fun i hi=>bP (h.kid i hi) fun g cur _ hc=>hk.1 _ _ _ _ hc (Or.inr (Or.inr rfl)),h.apart,?_,h.bM⟩;obtain⟨es,cc,hm⟩:=h.map.map;exact h.map.block (hk.2 _ _ _ hm)
theorem ny(hg:w.grownBy w' none):Gj w w':=⟨fun b cs t fz hb _=>hg.block b (aB hb) (by simp),fun b es c hb=>hg.block b (aB hb) (by simp)⟩
theorem aav{R:Nat}{s:ByteArray}{i T':Nat}(h:Rd w R s i T')(hg:w.grownBy w' (some R)):Gj w w' :=
 ⟨fun b cs t fz hb ht=>hg.block b (aB hb) (by
  simp only[ne_eq,Option.some.injEq];refine aP hb h ?_
  rcases ht with rfl|rfl|rfl<;>decide),fun b es c hb=>hg.block b (aB hb) (by
  simp only[ne_eq,Option.some.injEq];exact fun e=>pK h hb e.symm)⟩
structure Fr(B:Nat)(w w':World):Prop where
 bel:Below B w w'
 oth:∀(b:Nat) (cs:Array Value) (t:TypeId) (fz:Nat × Nat),w.heap[b]?=some (.cells cs t fz)->¬t=129->¬t=64->¬t=3->w'.heap[b]?=w.heap[b]?
theorem Fr.two{w1 w2:World}(h:Fr B w w1)(h':Fr B w1 w2):Fr B w w2 :=
 ⟨h.bel.trans h'.bel,fun b cs t fz hb h1 h2 h3=>by
  have e1:=h.oth b cs t fz hb h1 h2 h3;exact(h'.oth b cs t fz (e1.trans hb) h1 h2 h3).trans e1⟩
theorem Fr.gb(hg:w.grownBy w' none)(hB:B<=w.heap.size):Fr B w w' :=
 ⟨⟨hg.os,hg.tape,hg.output,hg.size,fun k hk=>hg.block k (by omega) (by simp)⟩,fun b cs t fz hb _ _ _=>hg.block b (aB hb) (by simp)⟩
theorem Fr.row{t:TypeId}{g:Nat}{cur:Array Value}{fz:Nat × Nat}(hg:w.grownBy w' (some g))(hB:B<=w.heap.size)(hgB:B<=g)(hb:w.heap[g]?=some (.cells cur t fz))(ht:t=129\/t=64\/t=3):Fr B w w' :=
 ⟨⟨hg.os,hg.tape,hg.output,hg.size,fun k hk=>hg.block k (by omega) (by simp;omega)⟩,fun b cs t' fz' hb' h1 h2 h3=>hg.block b (aB hb') (by
  simp only[ne_eq,Option.some.injEq];refine aP hb' hb ?_
  rcases ht with rfl|rfl|rfl
  ·exact h1
  ·exact h2
  ·exact h3)⟩
theorem Fr.mapd{M:Nat}{es:Array MapEntry}{c:Nat}(hg:w.grownBy w' (some M))(hB:B<=w.heap.size)(hgB:B<=M)(hb:w.heap[M]?=some (.map es c)):Fr B w w' :=
 ⟨⟨hg.os,hg.tape,hg.output,hg.size,fun k hk=>hg.block k (by omega) (by simp;omega)⟩,fun b cs t' fz' hb' h1 h2 h3=>hg.block b (aB hb') (by
  simp only[ne_eq,Option.some.injEq];exact pK hb' hb)⟩
theorem iM(w:World)(g o:Nat)(v:Value):w.grownBy (w.setCell ⟨g,o,none⟩ v) (some g) :=
 ⟨rfl,rfl,rfl,by simp[World.setCell],fun k hk hn=>heap_setCell_other w _ k v (fun e=>hn (by rw[e]))⟩
theorem TrD.push(h:TrD w B T ns now N c M xs ks n f){w1:World}{g cap L:Nat}(x:Tn)(hx:x.ks=[])(hL:ns.length+1=L)
  (ho:w1.ownsRow B 64 6 (.slice (some ⟨g,0,none⟩) L cap) L (xs++[.int .i64 x.kd,.string ⟨x.ky.toArray⟩,.string ⟨x.tx.toArray⟩,.int .i64 x.nu,.slice none 0 0,.int .i64 (x.pl:Nat)])) (hg:w.grownBy w1 (some N)) :
  TrD (w1.setCell ⟨T,0,none⟩ (.slice (some ⟨g,0,none⟩) L cap)) B T (ns++[x]) now g cap M (xs++[.int .i64 x.kd,.string ⟨x.ky.toArray⟩,.string ⟨x.tx.toArray⟩,.int .i64 x.nu,.slice none 0 0,.int .i64 (x.pl:Nat)]) (fun i=>if i=ns.length then .slice none 0 0 else ks i) n f:=by
 obtain⟨cur,hN⟩:=h.rowT;have hT1:w1.heap[T]?=w.heap[T]?:=hg.block T (aB h.blk) (by simp only[ne_eq,Option.some.injEq];exact aP h.blk hN (by decide));have hb1:=hT1.trans h.blk;obtain⟨cg,hcg⟩:=(bz ho rfl).2;have hxl:xs.length=ns.length*6:=h.row.1;have hlen:(ns++[x]).length=L:=by simp[hL]
 have hset:=block_setCell (i:=0) hb1 (.slice (some ⟨g,0,none⟩) L cap);refine⟨?_,h.bT,?_,?_,?_,?_,?_,h.bM⟩
 ·rw[hlen];exact hset
 ·rw[hlen];exact bP ho fun g' cur' _ hc=>heap_setCell_other _ _ _ _ (aP hc hb1 (by decide))
 ·intro i hi;rw[hlen]at hi
  by_cases he:i=ns.length
  ·subst he;simp only[List.getElem_append_right (Nat.le_refl _),Nat.sub_self,List.getElem_cons_zero];rw[<-hxl];refine⟨?_,?_,?_,?_,?_,?_⟩
   ·rw[List.getElem?_append_right (by omega),Nat.sub_self];rfl
   ·rw[List.getElem?_append_right (by omega),show xs.length+1-xs.length=1 by omega];rfl
   ·rw[List.getElem?_append_right (by omega),show xs.length+2-xs.length=2 by omega];rfl
   ·rw[List.getElem?_append_right (by omega),show xs.length+3-xs.length=3 by omega];rfl
   ·rw[List.getElem?_append_right (by omega),show xs.length+4-xs.length=4 by omega];simp
   ·rw[List.getElem?_append_right (by omega),show xs.length+5-xs.length=5 by omega];rfl
  ·have hlt:i<ns.length:=by omega
   obtain⟨h0,h1,h2,h3,h4,h5⟩:=h.cel i hlt;simp only[List.getElem_append_left hlt,if_neg he];refine⟨?_,?_,?_,?_,?_,?_⟩
   all_goals (rw[List.getElem?_append_left (by omega)];assumption)
 ·intro i hi;rw[hlen]at hi
  by_cases he:i=ns.length
  ·subst he;simp only[List.getElem_append_right (Nat.le_refl _),Nat.sub_self,List.getElem_cons_zero,hx,if_true];exact⟨rfl,Or.inl ⟨rfl,rfl⟩⟩
  ·have hlt:i<ns.length:=by omega
   simp only[List.getElem_append_left hlt,if_neg he];refine bP (h.kid i hlt) fun g' cur' _ hc=>?_
   have e1:w1.heap[g']?=w.heap[g']?:=hg.block g' (aB hc) (by simp only[ne_eq,Option.some.injEq];exact aP hc hN (by decide));exact(heap_setCell_other _ _ _ _ (aP (e1.trans hc) hb1 (by decide))).trans e1
 ·intro i j g' hi hj h1 h2;rw[hlen]at hi hj
  by_cases hei:i=ns.length
  ·rw[if_pos hei]at h1;cases h1
  ·by_cases hej:j=ns.length
   ·rw[if_pos hej]at h2;cases h2
   ·rw[if_neg hei]at h1;rw[if_neg hej]at h2;exact h.apart i j g' (by omega) (by omega) h1 h2
 ·obtain⟨es,cc,hm⟩:=h.map.map;have e1:w1.heap[M]?=w.heap[M]?:=hg.block M (aB hm) (by simp only[ne_eq,Option.some.injEq];exact fun e=>pK hN hm e.symm);exact h.map.block ((heap_setCell_other _ _ _ _ (fun e=>pK hb1 (e1.trans hm) e.symm)).trans e1)
theorem TrD.kidOwn(h:TrD w B T ns now N c M xs ks n f){i:Nat}(hi:i<ns.length){g:Nat}(hg:(ks i).ownBlock=some g):∃cur,w.heap[g]?=some (.cells cur 3 (0,0)):=(bz (h.kid i hi) hg).2
theorem TrD.kidp(h:TrD w B T ns now N c M xs ks n f){w1:World}{g cap L:Nat}(p:Nat)(hp:p<ns.length)(q:Nat)(hL:ns[p].ks.length+1=L)
  (ho:w1.ownsRow B 3 1 (.slice (some ⟨g,0,none⟩) L cap) L ((ns[p].ks.map fun q=>.int .i64 (q:Nat))++[.int .i64 (q:Nat)])) (hg:w.grownBy w1 (ks p).ownBlock) (hat:(ks p).ownBlock=some g\/w.heap.size<=g) :
  TrD (w1.setCell ⟨N,p*6+4,none⟩ (.slice (some ⟨g,0,none⟩) L cap)) B T (ns.set p { ns[p] with ks:=ns[p].ks++[q] }) now N c M (xs.set (p*6+4) (.slice (some ⟨g,0,none⟩) L cap)) (fun i=>if i=p then .slice (some ⟨g,0,none⟩) L cap else ks i) n f:=by
 obtain⟨cur,hN⟩:=h.rowT;have xX:∀(b:Nat) (cs:Array Value) (t:TypeId) (fz:Nat × Nat),w.heap[b]?=some (.cells cs t fz)->¬t=3->w1.heap[b]?=w.heap[b]?:=fun b cs t fz hb ht=>hg.block b (aB hb) (fun e=>by
  obtain⟨cc,hcc⟩:=h.kidOwn hp e.symm;exact aP hb hcc ht rfl)
 have hN1:=xX _ _ _ _ hN (by decide);have hT1:=xX _ _ _ _ h.blk (by decide);have hxl:xs.length=ns.length*6:=h.row.1;have hlen:(ns.set p { ns[p] with ks:=ns[p].ks++[q] }).length=ns.length:=by simp
 obtain⟨cg,hcg⟩:=(bz ho rfl).2;refine⟨?_,h.bT,?_,?_,?_,?_,?_,h.bM⟩
 ·rw[hlen];exact(heap_setCell_other _ _ _ _ (aP (hT1.trans h.blk) (hN1.trans hN) (by decide))).trans (hT1.trans h.blk)
 ·rw[hlen];have r1:w1.ownsRow B 64 6 (.slice (some ⟨N,0,none⟩) ns.length c) ns.length xs:=bP h.row fun g' cur' hh hc=>xX _ _ _ _ hc (by decide)
  refine⟨by rw[List.length_set];exact r1.1,?_⟩
  rcases r1.2 with⟨e1,_⟩|⟨g',cap',cu,e1,hb,hgg,hn,hm,hs,ht⟩
  ·cases e1
  ·cases e1
   refine Or.inr ⟨N,c,cu.setIfInBounds (p*6+4) _,rfl,hb,block_setCell hgg _,hn,hm,by simpa using hs,?_⟩;rw[Array.toList_setIfInBounds,List.take_set,ht]
 ·intro i hi;rw[hlen]at hi;obtain⟨h0,h1,h2,h3,h4,h5⟩:=h.cel i hi;have keep:∀j,j<xs.length->¬j=p*6+4->(xs.set (p*6+4) (.slice (some ⟨g,0,none⟩) L cap))[j]?=xs[j]?:=fun j hj hne=>List.getElem?_set_ne (fun e=>hne e.symm)
  by_cases he:i=p
  ·subst he;simp only[List.getElem_set_self,if_true];refine⟨(keep _ (by omega) (by omega)).trans h0,(keep _ (by omega) (by omega)).trans h1,(keep _ (by omega) (by omega)).trans h2,(keep _ (by omega) (by omega)).trans h3,List.getElem?_set_self (by omega),(keep _ (by omega) (by omega)).trans h5⟩
  ·have hpi:¬p=i:=fun e=>he e.symm
   simp only[List.getElem_set_ne hpi,if_neg he];refine⟨(keep _ (by omega) (by omega)).trans h0,(keep _ (by omega) (by omega)).trans h1,(keep _ (by omega) (by omega)).trans h2,(keep _ (by omega) (by omega)).trans h3,(keep _ (by omega) (by omega)).trans h4,(keep _ (by omega) (by omega)).trans h5⟩
 ·intro i hi;rw[hlen]at hi;have hs:∀(g':Nat) (cur':Array Value),w1.heap[g']?=some (.cells cur' 3 (0,0))->(w1.setCell ⟨N,p*6+4,none⟩ (.slice (some ⟨g,0,none⟩) L cap)).heap[g']?=w1.heap[g']?:=fun g' cur' hc=>heap_setCell_other _ _ _ _ (aP hc (hN1.trans hN) (by decide))
  by_cases he:i=p
  ·subst he;simp only[List.getElem_set_self,if_true];rw[List.map_append,List.length_append,List.length_singleton,hL];exact bP ho fun g' cur' _ hc=>hs g' cur' hc
  ·have hpi:¬p=i:=fun e=>he e.symm
   simp only[List.getElem_set_ne hpi,if_neg he];refine bP (h.kid i hi) fun g' cur' hgo hc=>?_
   have e1:w1.heap[g']?=w.heap[g']?:=hg.block g' (aB hc) (fun e=>he (h.apart i p g' hi hp hgo e.symm));exact(hs g' cur' (e1.trans hc)).trans e1
 ·intro i j g' hi hj h1 h2;rw[hlen]at hi hj;have fresh:∀k,k<ns.length->¬k=p->(ks k).ownBlock=some g->False:=fun k hk hne e=>by
   rcases hat with e2|e2
   ·exact hne (h.apart k p g hk hp e e2)
   ·obtain⟨cc,hcc⟩:=h.kidOwn hk e;have:=aB hcc;omega
  by_cases hei:i=p
  ·by_cases hej:j=p
   ·rw[hei,hej]
   ·rw[if_pos hei]at h1;rw[if_neg hej]at h2
    cases h1
    exact(fresh j hj hej h2).elim
  ·by_cases hej:j=p
   ·rw[if_pos hej]at h2;rw[if_neg hei]at h1
    cases h2
    exact(fresh i hi hei h1).elim
   ·rw[if_neg hei]at h1;rw[if_neg hej]at h2;exact h.apart i j g' hi hj h1 h2
 ·obtain⟨es,cc,hm⟩:=h.map.map;have e1:w1.heap[M]?=w.heap[M]?:=hg.block M (aB hm) (fun e=>by
   obtain⟨cc,hcc⟩:=h.kidOwn hp e.symm;exact pK hcc hm rfl)
  exact h.map.block ((heap_setCell_other _ _ _ _ (fun e=>pK (hN1.trans hN) (e1.trans hm) e.symm)).trans e1)
theorem TrD.mapd(h:TrD w B T ns now N c M xs ks n f){n':Nat}{f':Nat->List UInt8->Option (Nat × Bool)}(hm:HM w' M n' f')(hg:w.grownBy w' (some M)):TrD w' B T ns now N c M xs ks n' f':=by
 obtain⟨es,cc,hm0⟩:=h.map.map;have hb:∀(b:Nat) (cs:Array Value) (t:TypeId) (fz:Nat × Nat),w.heap[b]?=some (.cells cs t fz)->w'.heap[b]?=w.heap[b]?:=fun b cs t fz hb=>hg.block b (aB hb) (by simp only[ne_eq,Option.some.injEq];exact pK hb hm0)
 exact⟨(hb _ _ _ _ h.blk).trans h.blk,h.bT,bP h.row fun g cur _ hc=>hb _ _ _ _ hc,h.cel,fun i hi=>bP (h.kid i hi) fun g cur _ hc=>hb _ _ _ _ hc,h.apart,hm,h.bM⟩
theorem TrD.hand(h:TrD w B T ns now N c M xs ks n f)(m:Nat):TrD (w.setCell ⟨T,2,none⟩ (.int .i64 (m:Nat))) B T ns m N c M xs ks n f:=by
 have hb:∀(b:Nat) (cs:Array Value) (t:TypeId) (fz:Nat × Nat),w.heap[b]?=some (.cells cs t fz)->¬t=129->(w.setCell ⟨T,2,none⟩ (.int .i64 (m:Nat))).heap[b]?=w.heap[b]?:=fun b cs t fz hb ht=>heap_setCell_other _ _ _ _ (aP hb h.blk ht)
 refine⟨block_setCell (i:=2) h.blk _,h.bT,bP h.row fun g cur _ hc=>hb _ _ _ _ hc (by decide),h.cel,fun i hi=>bP (h.kid i hi) fun g cur _ hc=>hb _ _ _ _ hc (by decide),h.apart,?_,h.bM⟩;obtain⟨es,cc,hm⟩:=h.map.map;exact h.map.block (heap_setCell_other _ _ _ _ (fun e=>pK h.blk hm e.symm))
theorem TrD.cellSet(h:TrD w B T ns now N c M xs ks n f)(q o:Nat)(v:Value)(x:Tn)(hq:q<ns.length)(ho:o<6)(h4:¬o=4)(hk:x.ks=ns[q].ks)
  (hv:∀j u,(if j=o then some v else([.int .i64 ns[q].kd,.string ⟨ns[q].ky.toArray⟩,.string ⟨ns[q].tx.toArray⟩,.int .i64 ns[q].nu,ks q,.int .i64 (ns[q].pl:Nat)]:List Value)[j]?)=some u->([.int .i64 x.kd,.string ⟨x.ky.toArray⟩,.string ⟨x.tx.toArray⟩,.int .i64 x.nu,ks q,.int .i64 (x.pl:Nat)]:List Value)[j]?=some u) :
  TrD (w.setCell ⟨N,q*6+o,none⟩ v) B T (ns.set q x) now N c M (xs.set (q*6+o) v) ks n f:=by
 obtain⟨cur,hN⟩:=h.rowT;have hb:∀(b:Nat) (cs:Array Value) (t:TypeId) (fz:Nat × Nat),w.heap[b]?=some (.cells cs t fz)->¬t=64->(w.setCell ⟨N,q*6+o,none⟩ v).heap[b]?=w.heap[b]?:=fun b cs t fz hb ht=>heap_setCell_other _ _ _ _ (aP hb hN ht)
 have hxl:xs.length=ns.length*6:=h.row.1;have hlen:(ns.set q x).length=ns.length:=by simp
 refine⟨?_,h.bT,?_,?_,?_,?_,?_,h.bM⟩
 ·rw[hlen];exact(hb _ _ _ _ h.blk (by decide)).trans h.blk
 ·rw[hlen];refine⟨by rw[List.length_set];exact h.row.1,?_⟩
  rcases h.row.2 with⟨e1,_⟩|⟨g',cap',cu,e1,hb,hgg,hn,hm,hs,ht⟩
  ·cases e1
  ·cases e1
   refine Or.inr ⟨N,c,cu.setIfInBounds (q*6+o) v,rfl,hb,block_setCell hgg _,hn,hm,by simpa using hs,?_⟩;rw[Array.toList_setIfInBounds,List.take_set,ht]
 ·intro i hi;rw[hlen]at hi;obtain⟨h0,h1,h2,h3,h4',h5⟩:=h.cel i hi;have keep:∀j,¬j=q*6+o->(xs.set (q*6+o) v)[j]?=xs[j]?:=fun j hne=>List.getElem?_set_ne (fun e=>hne e.symm)
  by_cases he:i=q
  ·subst he;simp only[List.getElem_set_self];have get:∀j u,j<6->([.int .i64 ns[i].kd,.string ⟨ns[i].ky.toArray⟩,.string ⟨ns[i].tx.toArray⟩,.int .i64 ns[i].nu,ks i,.int .i64 (ns[i].pl:Nat)]:List Value)[j]?=some u->xs[i*6+j]?=some u:=fun j u hj hu=>by
    match j,hj,hu with
    | 0,_,hu=>cases hu;exact h0
    | 1,_,hu=>cases hu;exact h1
    | 2,_,hu=>cases hu;exact h2
    | 3,_,hu=>cases hu;exact h3
    | 4,_,hu=>cases hu;exact h4'
    | 5,_,hu=>cases hu;exact h5
   have main:∀j (hj:j<6),∀u,(xs.set (i*6+o) v)[i*6+j]?=some u->([.int .i64 x.kd,.string ⟨x.ky.toArray⟩,.string ⟨x.tx.toArray⟩,.int .i64 x.nu,ks i,.int .i64 (x.pl:Nat)]:List Value)[j]?=some u:=fun j hj u hu=>by
    apply hv j u
    by_cases hjo:j=o
    ·subst hjo;rw[List.getElem?_set_self (by omega)]at hu;rw[if_pos rfl];exact hu
    ·rw[keep _ (by omega)]at hu;rw[if_neg hjo];have hlt:j<([.int .i64 ns[i].kd,.string ⟨ns[i].ky.toArray⟩,.string ⟨ns[i].tx.toArray⟩,.int .i64 ns[i].nu,ks i,.int .i64 (ns[i].pl:Nat)]:List Value).length:=hj;have:=get j _ hj (List.getElem?_eq_getElem hlt);rw[this]at hu;rw[List.getElem?_eq_getElem hlt];exact hu
   have has:∀j,j<6->∃u,(xs.set (i*6+o) v)[i*6+j]?=some u:=fun j hj=>⟨_,List.getElem?_eq_getElem (by rw[List.length_set];omega)⟩
   have fin:∀j (hj:j<6),(xs.set (i*6+o) v)[i*6+j]?=([.int .i64 x.kd,.string ⟨x.ky.toArray⟩,.string ⟨x.tx.toArray⟩,.int .i64 x.nu,ks i,.int .i64 (x.pl:Nat)]:List Value)[j]?:=fun j hj=>by
    obtain⟨u,hu⟩:=has j hj;rw[hu,main j hj u hu]
   exact⟨fin 0 (by omega),fin 1 (by omega),fin 2 (by omega),fin 3 (by omega),fin 4 (by omega),fin 5 (by omega)⟩
  ·have hqi:¬q=i:=fun e=>he e.symm
   simp only[List.getElem_set_ne hqi];exact⟨(keep _ (by omega)).trans h0,(keep _ (by omega)).trans h1,(keep _ (by omega)).trans h2,(keep _ (by omega)).trans h3,(keep _ (by omega)).trans h4',(keep _ (by omega)).trans h5⟩
 ·intro i hi;rw[hlen]at hi
  by_cases he:i=q
  ·subst he;simp only[List.getElem_set_self,hk];exact bP (h.kid i hq) fun g cur _ hc=>hb _ _ _ _ hc (by decide)
  ·have hqi:¬q=i:=fun e=>he e.symm
   simp only[List.getElem_set_ne hqi];exact bP (h.kid i hi) fun g cur _ hc=>hb _ _ _ _ hc (by decide)
 ·intro i j g' hi hj;rw[hlen]at hi hj;exact h.apart i j g' hi hj
 ·obtain⟨es,cc,hm⟩:=h.map.map;exact h.map.block (heap_setCell_other _ _ _ _ (fun e=>pK hN hm e.symm))
end
def Tr(w:World)(B T:Nat)(ns:List Tn)(own:List Nat)(now:Nat):Prop:=∃N c M xs ks,TrD w B T ns now N c M xs ks (ns.length+own.length) (hold ns own)
end Go.Proofs.YtnnbgjaphfhibaaGreatDoor
