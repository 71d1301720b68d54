import Derived.Test.YtnnbgjaphfhibaaGreatDoorN11
import Derived.Deep.RegionHeld3
set_option linter.unusedVariables false
set_option linter.unusedSimpArgs false
set_option maxRecDepth 100000
set_option maxHeartbeats 6400000
open Go.Proofs.Tryz
namespace Go.Proofs.YtnnbgjaphfhibaaGreatDoor
open Go.RowKit Go.Joins
theorem Y5(s:ByteArray)(k:Nat)(hk:k<=s.size)(w:World) :
  (Instr.slice 9 (.string s) (some (.int .i64 (k:Int))) none none).run prog w=.ok (.string ⟨(s.data.toList.drop k).toArray⟩) w:=by
 have h1:(0:Int)<=(k:Int):=by omega
 have h5:(k:Int)<=(s.size:Int):=by omega
 have e:s.extract k s.size=⟨(s.data.toList.drop k).toArray⟩:=by
  apply ByteArray.ext;rw[ByteArray.data_extract];apply Array.ext';simp;exact List.take_of_length_le (by simp)
 rw[<-e];simp[go_sem,underlying9,h1,h5]
def Fe(R:Nat)(s:ByteArray)(T:Nat)(E:Int->TypeId × Value)(g:Rs (List UInt8 × Nat))(w:World)(e:Ending)(w':World):Prop:=(∀t j,g=.ok (t,j)->e=.returned (.tuple #[.string ⟨t.toArray⟩,.nilIface])/\Rd w' R s j T)/\(∀c p,g=.error (c,p)->∃v,e=.returned (.tuple #[.string ⟨#[]⟩,v])/\aS w' v E c p/\∃j,Rd w' R s j T)/\w.grownBy w' (some R)
theorem QR(R:Nat)(s:ByteArray)(i T:Nat)(E:Int->TypeId × Value)(w:World)(h:Rd w R s i T)(hi:i<s.size)(hs:s.size<=1048576)(he:Es w E)(hR:Far R)
  (hT:Lib.Utf8Tabs 10 11 w) (h3:¬R=10) (h4:¬R=11) :
  Calls prog 193 #[.pointer (some ⟨R,0,none⟩)] w (Fe R s T E (str s.data.toList (s.data.toList.length+1) (i+1) []) w):=by
 have hl:s.data.toList.length=s.size:=by simp
 have CN:Hd (∀k w,Rd w R s k T->k<=s.size->Calls prog 104 #[.pointer (some ⟨R,0,none⟩)] w fun e w'=>e=.returned (.int .i64 (nx s.data.toList k))/\w.grownBy w' none):=fun k w h1 h2=>l7 R s k T w h1 h2 hs
 have CE:Hd (∀k w',w.grownBy w' (some R)->Rd w' R s k T->k<s.size->Calls prog 214 #[.pointer (some ⟨R,0,none⟩)] w' (yD R s T E (lJ s.data.toList k) w')):=fun k w' hg hr hk=>XA R s k T E w' hr hk hs (he.grow hR hg) hR
 have CB:Hd (∀c w,Calls prog 155 #[.int .i64 c] w fun e w'=>e=.returned (.bool (gG c))/\w'=w):=O9;have CH:Hd (∀k w',w.grownBy w' (some R)->Rd w' R s k T->Calls prog 156 #[.pointer (some ⟨R,0,none⟩)] w' fun e w''=>(∃v,e=.returned v/\aS w'' v E 2 k)/\w'.grownBy w'' none):=fun k w' hg hr=>uS R s k T (E 2).1 (E 2).2 w' hr (he.grow hR hg).te
 have CD:Hd (∀k w',w.grownBy w' (some R)->k<s.size->Calls prog 216 #[.string ⟨(s.data.toList.drop k).toArray⟩] w' fun e w''=>∃r n:Nat,e=.returned (.tuple #[.int .i32 (r:Nat),.int .i64 (n:Nat)])/\Told (aJ s.data.toList k) (r,n)/\Below w'.heap.size w' w''):=fun k w' hg hk=>Yn s.data.toList k (by omega) w' (Yu hT h3 h4 hg)
 have HST:Hd (∀f i acc,str s.data.toList (f+1) i acc =
  if nx s.data.toList i=34 then .ok (acc,i+1)
  else if nx s.data.toList i=92 then(match esc s.data.toList i with | .error e=>.error e | .ok (b,j)=>str s.data.toList f j (acc++b))
  else if nx s.data.toList i=-1\/gG (nx s.data.toList i)=true then .error (2,i)
  else if aJ s.data.toList i=0 then .error (2,i)
  else str s.data.toList f (i+aJ s.data.toList i) (acc++ag s.data.toList i (aJ s.data.toList i))):=Az _
 have cZ:Hd (∀k,0<=nx s.data.toList k->k<s.size):=fun k hb=>by rw[<-hl];exact bu hb
 have Jz:Hd (∀k n j,k<s.size->lJ s.data.toList k=.ok (n,j)->n<65536/\ny n=false/\k+2<=j/\j<=s.size):=fun k n j hk he=>by rw[<-hl];exact Ji _ k n j (by omega) he
 have JA:Hd (∀k,k<=s.size->k+aJ s.data.toList k<=s.size):=fun k hk=>by rw[<-hl];exact Jj _ k (by omega)
 obtain⟨G,hG⟩:=zN (str s.data.toList (s.data.toList.length+1) (i+1) []);have iV:Hd (str s.data.toList (s.data.toList.length+1) (i+1) []=G):=hG;rw[hG];have H0:Hd (Rd w R s i T):=h;have mM:Hd (R<w.heap.size):=h.lt;have HS:Hd (Rd (w.setCell ⟨R,1,none⟩ (.int .i64 ((i:Int)+1))) R s (i+1) T):=h.set (i+1);have eP:Hd (w.grownBy (w.setCell ⟨R,1,none⟩ (.int .i64 ((i:Int)+1))) (some R)):=aV (ak w (some R)) 1 _;obtain⟨-,c1,-,df⟩:=h.cells;have df1:=df 1;clear h hG he df hT;go_enter func193,ntmps193;go_wp2;have yP:Hd (Bd ((w.setCell ⟨R,1,none⟩ (.int .i64 ((i:Int)+1))).alloc (.cells #[.pointer none,.slice none 0 0] 92)) w.heap.size w.heap.size []):=by
  refine Or.inl ⟨Nat.le_refl _,.slice none 0 0,?_,World.ownsRowF_nil _ _ _ _,by simp[Value.ownBlock]⟩;have:=heap_alloc_new (w.setCell ⟨R,1,none⟩ (.int .i64 ((i:Int)+1))) (.cells #[.pointer none,.slice none 0 0] 92);have e:(w.setCell ⟨R,1,none⟩ (.int .i64 ((i:Int)+1))).heap.size=w.heap.size:=by simp[World.setCell]
  rw[e]at this;exact this
 have dO:Hd ((w.setCell ⟨R,1,none⟩ (.int .i64 ((i:Int)+1))).grownBy ((w.setCell ⟨R,1,none⟩ (.int .i64 ((i:Int)+1))).alloc (.cells #[.pointer none,.slice none 0 0] 92)) none):=World.grownBy_alloc _ _ none;have HR1:Hd (Rd ((w.setCell ⟨R,1,none⟩ (.int .i64 ((i:Int)+1))).alloc (.cells #[.pointer none,.slice none 0 0] 92)) R s (i+1) T):=HS.o.grow dO.o;have ay:Hd (w.grownBy ((w.setCell ⟨R,1,none⟩ (.int .i64 ((i:Int)+1))).alloc (.cells #[.pointer none,.slice none 0 0] 92)) (some R)):=aF eP.o dO.o;have yQ:Hd (∀w',w.grownBy w' (some R)->w.heap.size<=w'.heap.size):=fun w' hg=>hg.size
 have aG:Hd (∀w1 w2,w.grownBy w1 (some R)->Below w.heap.size w1 w2->w.grownBy w2 (some R)):=fun w1 w2 h1 h2=>Yt h1 (Nat.le_refl _) h2
 obtain⟨B,hB⟩:=zN (w.heap.size);rw[hB]at yP mM yQ aG ⊢;obtain⟨wA,hwA⟩:=zN (((w.setCell ⟨R,1,none⟩ (.int .i64 ((i:Int)+1))).alloc (.cells #[.pointer none,.slice none 0 0] 92)));rw[hwA]at yP HR1 ay ⊢;clear hB hwA dO HS eP c1 df1 H0;go_loopw [] (fun wr=>∃(k f:Nat) (acc:List UInt8),Rd wr R s k T/\k<=s.size/\s.size-k<f/\str s.data.toList f k acc=G/\acc.length<=3*k/\Bd wr B B acc/\w.grownBy wr (some R)) (fun wr=>s.size-(match wr.cell? ⟨R,1,none⟩ with|some (.int _ k)=>k.toNat|_=>0))
 case atStart=>exact⟨i+1,s.data.toList.length+1,[],HR1.o,by omega,by omega,iV.o,by simp,yP.o,ay.o⟩
 case round =>
  obtain⟨k,f,acc,hrd,hk,hf,hstr,hacc,hbd,hg⟩:=hrel;obtain⟨f,rfl⟩:∃f',f=f'+1:=⟨f-1,by omega⟩;have kJ:Hd (Rd wr R s k T):=hrd;have jI:Hd (w.grownBy wr (some R)):=hg;have kK:Hd (Bd wr B B acc):=hbd;have gI:Hd ((match wr.cell? ⟨R,1,none⟩ with|some (.int _ k)=>k.toNat|_=>0)=k):=by show _=_;rw[hrd.cells.2.1];simp
  have C1:Hd (∀w',Rd w' R s k T->Calls prog 104 #[.pointer (some ⟨R,0,none⟩)] w' fun e w''=>e=.returned (.int .i64 (nx s.data.toList k))/\w'.grownBy w'' none):=fun w' h1=>CN.o k w' h1 hk
  have qG:Hd (0<=nx s.data.toList k->k<s.size):=cZ.o k;have HXB:Hd (-1<=nx s.data.toList k):=(Eo s.data.toList k).1;rw[HST.o]at hstr;obtain⟨x,hx⟩:=zN (nx s.data.toList k);rw[hx]at C1 qG HXB hstr;have qH:Hd ((if x=34 then .ok (acc,k+1)
   else if x=92 then(match esc s.data.toList k with | .error e=>.error e | .ok (b,j)=>str s.data.toList f j (acc++b))
   else if x=-1\/gG x=true then .error (2,k)
   else if aJ s.data.toList k=0 then .error (2,k)
   else str s.data.toList f (k+aJ s.data.toList k) (acc++ag s.data.toList k (aJ s.data.toList k)))=G):=hstr
  clear hrd hg hbd hx hstr
  by_cases h34:x=34
  ·have hb:(x != 34)=false:=by simp[h34]
   have aB:Hd (G=.ok (acc,k+1)):=by
    have:=qH.o;rw[if_pos h34]at this;exact this.symm
   have hkl:=qG.o (by omega);clear h34;go_wp2_with (go_at_call 104;refine(C1.o _ kJ.o).mono ?_);rintro e w2 ⟨rfl,hg2⟩;have HR2:Hd (Rd w2 R s k T):=kJ.o.grow hg2;have HG2:Hd (w.grownBy w2 (some R)):=aF jI.o hg2;obtain⟨-,d1,-,df⟩:=HR2.o.cells;have df2:=df 1;have HR3:Hd (Rd (w2.setCell ⟨R,1,none⟩ (.int .i64 ((k:Int)+1))) R s (k+1) T):=HR2.o.set (k+1);have aO:Hd (w.grownBy (w2.setCell ⟨R,1,none⟩ (.int .i64 ((k:Int)+1))) (some R)):=aV HG2.o 1 _;have CS:Hd (Calls prog 46 #[.pointer (some ⟨B,0,none⟩)] (w2.setCell ⟨R,1,none⟩ (.int .i64 ((k:Int)+1))) fun e w'=>e=.returned (.string ⟨acc.toArray⟩)/\Below B (w2.setCell ⟨R,1,none⟩ (.int .i64 ((k:Int)+1))) w'):=Yr B B acc _ ((kK.o.grow (R:=R) (aV (aF (ak wr (some R)) hg2) 1 _) mM.o)) (yQ.o _ aO.o);clear hg2 df;go_wp2_with (go_at_call 46;refine CS.o.mono ?_;rintro e w4 ⟨rfl,hb4⟩)
   refine bodyPost_ret (results_tmp2 (t:=2) (u:=3) rfl _ _ _) rfl ?_;rw[aB.o];exact⟨fun t j hh=>(by cases hh;exact⟨rfl,HR3.o.bel mM.o hb4⟩),fun c p hh=>(by cases hh),aG.o _ _ aO.o hb4⟩
  ·have hb:(x != 34)=true:=by simp[h34]
   by_cases h92:x=92
   ·have hb2:(x == 92)=true:=by simp[h92]
    have hkl:=qG.o (by omega);have az:Hd ((match Pn (lJ s.data.toList k) with | .error e=>.error e | .ok (b,j)=>str s.data.toList f j (acc++b))=G):=by
     have:=qH.o;rw[if_neg h34,if_pos h92,I4]at this;exact this
    have rP:Hd (∀w',w.grownBy w' (some R)->Rd w' R s k T->Calls prog 214 #[.pointer (some ⟨R,0,none⟩)] w' (yD R s T E (lJ s.data.toList k) w')):=fun w' h1 h2=>CE.o k w' h1 h2 hkl
    have jK:Hd (∀n j,lJ s.data.toList k=.ok (n,j)->n<65536/\ny n=false/\k+2<=j/\j<=s.size):=fun n j h=>Jz.o k n j hkl h
    obtain⟨q,hq⟩:=zN (lJ s.data.toList k);rw[hq]at az rP jK;clear h34 h92 hq;go_wp2_with (go_at_call 104;refine(C1.o _ kJ.o).mono ?_);rintro e w2 ⟨rfl,hg2⟩;have HR2:Hd (Rd w2 R s k T):=kJ.o.grow hg2;have HG2:Hd (w.grownBy w2 (some R)):=aF jI.o hg2;have HB2:Hd (Bd w2 B B acc):=kK.o.grow (R:=R) (aF (ak wr (some R)) hg2) mM.o;clear hg2;go_wp2_with (go_at_call 104;refine(C1.o _ HR2.o).mono ?_);rintro e w3 ⟨rfl,hg3⟩;have HR3:Hd (Rd w3 R s k T):=HR2.o.grow hg3;have aO:Hd (w.grownBy w3 (some R)):=aF HG2.o hg3;have HB3:Hd (Bd w3 B B acc):=HB2.o.grow (R:=R) (aF (ak w2 (some R)) hg3) mM.o;clear hg3
    cases q with
    | error q =>
     obtain⟨c,q⟩:=q;have aB:Hd (G=.error (c,q)):=az.o.symm;go_wp2_with (go_at_call 214;refine(rP.o _ aO.o HR3.o).mono ?_);rintro e w4 ⟨h1,h2,hg4⟩;obtain⟨v,rfl,⟨F,rfl,hF⟩,jj,hjj⟩:=h2 c q rfl;have Y6:Hd (Rd w4 R s jj T):=hjj;clear hjj;have dS:Hd (aS w4 (.iface 130 (.pointer (some ⟨F,0,none⟩))) E c q):=⟨F,rfl,hF⟩;have dQ:Hd (w.grownBy w4 (some R)):=dH aO.o hg4;clear h1 h2 hF hg4;go_wp2;refine bodyPost_ret (results_tmp2 (t:=2) (u:=3) rfl _ _ _) rfl ?_;rw[aB.o];exact⟨fun t j hh=>(by cases hh),fun c p hh=>(by cases hh;exact⟨_,rfl,dS.o,jj,Y6.o⟩),dQ.o⟩
    | ok q =>
     obtain⟨n,j⟩:=q;obtain⟨hn1,hn2,hn3,hn4⟩:=jK.o n j rfl;have aB:Hd (str s.data.toList f j (acc++fO n)=G):=az.o;have hwl:=EW n;go_wp2_with (go_at_call 214;refine(rP.o _ aO.o HR3.o).mono ?_);rintro e w4 ⟨h1,h2,hg4⟩;obtain⟨rfl,hr4⟩:=h1 n j rfl;have HR4:Hd (Rd w4 R s j T):=hr4;have dQ:Hd (w.grownBy w4 (some R)):=dH aO.o hg4;have Y7:Hd (Calls prog 215 #[.pointer (some ⟨B,0,none⟩),.int .i32 (n:Nat)] w4 fun e w'=>(∃k:Int,e=.returned (.tuple #[.int .i64 k,.nilIface]))/\Bd w' B B (acc++fO n)/\Below B w4 w'):=Yp B B n acc w4 (HB3.o.grow hg4 mM.o) hn1 hn2 (by omega) (yQ.o _ dQ.o);clear h1 h2 hr4 hg4 hn1 hn2;go_wp2_with (go_at_call 215;refine Y7.o.mono ?_);rintro e w5 ⟨⟨kk,rfl⟩,hb5,hbel⟩;have ou:Hd (Rd w5 R s j T):=HR4.o.bel mM.o hbel;have gQ:Hd (w.grownBy w5 (some R)):=aG.o _ _ dQ.o hbel;have rQ:Hd (Bd w5 B B (acc++fO n)):=hb5
     clear hb5 hbel;go_wp2;refine⟨⟨j,f,acc++fO n,ou.o,hn4,by omega,aB.o,by rw[List.length_append];omega,rQ.o,gQ.o⟩,?_⟩;rw[gI.o,ou.o.cells.2.1];simp;omega
   ·have hb2:(x == 92)=false:=by simp[h92]
    go_wp2_with (go_at_call 104;refine(C1.o _ kJ.o).mono ?_);rintro e w2 ⟨rfl,hg2⟩;have HR2:Hd (Rd w2 R s k T):=kJ.o.grow hg2;have HG2:Hd (w.grownBy w2 (some R)):=aF jI.o hg2;have HB2:Hd (Bd w2 B B acc):=kK.o.grow (R:=R) (aF (ak wr (some R)) hg2) mM.o;clear hg2;go_wp2_with (go_at_call 104;refine(C1.o _ HR2.o).mono ?_);rintro e w3 ⟨rfl,hg3⟩;have HR3:Hd (Rd w3 R s k T):=HR2.o.grow hg3;have aO:Hd (w.grownBy w3 (some R)):=aF HG2.o hg3;have HB3:Hd (Bd w3 B B acc):=HB2.o.grow (R:=R) (aF (ak w2 (some R)) hg3) mM.o;clear hg3;have oz:Hd ((if x=-1\/gG x=true then .error (2,k)
     else if aJ s.data.toList k=0 then .error (2,k)
     else str s.data.toList f (k+aJ s.data.toList k) (acc++ag s.data.toList k (aJ s.data.toList k)))=G):=by
     have:=qH.o;rw[if_neg h34,if_neg h92]at this;exact this
    clear h34 h92
    by_cases he1:x=-1
    ·have hb3:(x == -1)=true:=by simp[he1]
     have aB:Hd (G=.error (2,k)):=by
      have:=oz.o;rw[if_pos (Or.inl he1)]at this;exact this.symm
     clear he1;go_wp2_with (first|(go_at_call 104;refine(C1.o _ HR3.o).mono ?_;rintro e w4 ⟨rfl,hg4⟩)|(go_at_call 156;refine(CH.o k _ (aF aO.o hg4) (HR3.o.grow hg4)).mono ?_;rintro e w5 ⟨⟨v,rfl,hv⟩,hg5⟩));refine bodyPost_ret (results_tmp2 (t:=2) (u:=3) rfl _ _ _) rfl ?_;rw[aB.o];exact⟨fun t j hh=>(by cases hh),fun c p hh=>(by cases hh;exact⟨v,rfl,hv,_,(HR3.o.grow hg4).grow hg5⟩),aF (aF aO.o hg4) hg5⟩
    ·have hb3:(x == -1)=false:=by simp[he1]
     have iU:Hd (∀w,Calls prog 155 #[.int .i64 x] w fun e w'=>e=.returned (.bool (gG x))/\w'=w):=fun w=>CB.o x w
     obtain⟨br,hbr⟩:=zN (gG x);rw[hbr]at iU oz;have oU:Hd (¬x=-1):=he1;clear hbr he1;go_wp2_with (go_at_call 104;refine(C1.o _ HR3.o).mono ?_);rintro e w4 ⟨rfl,hg4⟩;have HR4:Hd (Rd w4 R s k T):=HR3.o.grow hg4;have dQ:Hd (w.grownBy w4 (some R)):=aF aO.o hg4;have HB4:Hd (Bd w4 B B acc):=HB3.o.grow (R:=R) (aF (ak w3 (some R)) hg4) mM.o;clear hg4;go_wp2_with (go_at_call 104;refine(C1.o _ HR4.o).mono ?_);rintro e w5 ⟨rfl,hg5⟩;have ou:Hd (Rd w5 R s k T):=HR4.o.grow hg5;have gQ:Hd (w.grownBy w5 (some R)):=aF dQ.o hg5;have rQ:Hd (Bd w5 B B acc):=HB4.o.grow (R:=R) (aF (ak w4 (some R)) hg5) mM.o;clear hg5
     cases br with
     | true =>
      have aB:Hd (G=.error (2,k)):=by
       have:=oz.o;rw[if_pos (Or.inr rfl)]at this;exact this.symm
      go_wp2_with (first|(go_at_call 155;refine(iU.o _).mono ?_;rintro e w' ⟨rfl,rfl⟩)|(go_at_call 156;refine(CH.o k _ gQ.o ou.o).mono ?_;rintro e w6 ⟨⟨v,rfl,hv⟩,eu⟩));refine bodyPost_ret (results_tmp2 (t:=2) (u:=3) rfl _ _ _) rfl ?_;rw[aB.o];exact⟨fun t j hh=>(by cases hh),fun c p hh=>(by cases hh;exact⟨v,rfl,hv,_,ou.o.grow eu⟩),aF gQ.o eu⟩
     | false =>
      have hkl:k<s.size:=qG.o (by have:=HXB.o;have:=oU.o;omega);have rU:Hd ((if aJ s.data.toList k=0 then .error (2,k) else str s.data.toList f (k+aJ s.data.toList k) (acc++ag s.data.toList k (aJ s.data.toList k)))=G):=by
       have:=oz.o;rw[if_neg (by rintro(h|h);exact oU.o h;cases h)]at this;exact this
      have JB:=JA.o k hk;have JC:Hd (∀w',w.grownBy w' (some R)->Calls prog 216 #[.string ⟨(s.data.toList.drop k).toArray⟩] w' fun e w''=>∃(ri:Int) (n:Nat),e=.returned (.tuple #[.int .i32 ri,.int .i64 (n:Nat)])/\(aJ s.data.toList k=0->ri=65533/\n=1)/\(0<aJ s.data.toList k->n=aJ s.data.toList k/\(ri=65533->¬n=1))/\w'.grownBy w'' none):=fun w' hg=>by
       refine(CD.o k w' hg hkl).mono ?_;rintro e w'' ⟨r,n,rfl,⟨t1,t2⟩,hb⟩;refine⟨(r:Nat),n,rfl,fun h0=>?_,fun h0=>?_,⟨hb.os,hb.tape,hb.output,hb.size,fun k hk _=>hb.block k hk⟩⟩
       ·have:=t1 h0;simp only[Prod.mk.injEq]at this;omega
       ·obtain⟨a1,a2⟩:=t2 h0;refine⟨a1,fun hr hn=>a2 ⟨?_,hn⟩⟩;show r=65533;omega
      have iW:Hd ((ag s.data.toList k (aJ s.data.toList k)).length<=aJ s.data.toList k):=by
       show _<=_;unfold ag;rw[List.length_take];omega
      have s1:∀wx,(Instr.slice 9 (.string s) (some (.int .i64 (k:Int))) none none).run prog wx=.ok (.string ⟨(s.data.toList.drop k).toArray⟩) wx:=fun wx=>Y5 s k hk wx
      have s2:∀wx,(Instr.slice 9 (.string s) (some (.int .i64 (k:Int))) (some (.int .i64 ((k:Int)+((aJ s.data.toList k:Nat):Int)))) none).run prog wx=.ok (.string ⟨(ag s.data.toList k (aJ s.data.toList k)).toArray⟩) wx:=fun wx=>by
       have:=kS s k (k+aJ s.data.toList k) (by omega) JB wx;rw[show k+aJ s.data.toList k-k=aJ s.data.toList k by omega]at this;simpa using this
      obtain⟨X,hX⟩:∃X:ByteArray,⟨(s.data.toList.drop k).toArray⟩=X:=⟨_,rfl⟩;rw[hX]at s1 JC;obtain⟨S,hS⟩:=zN (aJ s.data.toList k);rw[hS]at rU JB JC s2 iW;obtain⟨Y,hY⟩:=zN (ag s.data.toList k S);rw[hY]at rU s2 iW;have hYl:=iW.o;have QS:Hd (∀w',Bd w' B B acc->B<=w'.heap.size->Calls prog 42 #[.pointer (some ⟨B,0,none⟩),.string ⟨Y.toArray⟩] w' fun e w''=>(∃k:Int,e=.returned (.tuple #[.int .i64 k,.nilIface]))/\Bd w'' B B (acc++Y)/\Below B w' w''):=fun w' h1 h2=>Yq B B acc Y w' h1 (by omega) (by omega) h2
      obtain⟨Z,hZ⟩:∃Z:ByteArray,⟨Y.toArray⟩=Z:=⟨_,rfl⟩;rw[hZ]at QS s2;clear hX hS hY hZ;go_wp2_with (go_at_call 155;refine(iU.o _).mono ?_;rintro e w' ⟨rfl,rfl⟩);obtain⟨d0,d1,-,-⟩:=ou.o.cells;have AZ:=JC.o w'.drew (au gQ.o 1);have Y8:Hd (Calls prog 216 #[.string X] w'.drew fun e w''=>∃(ri:Int) (n:Nat),e=.returned (.tuple #[.int .i32 ri,.int .i64 (n:Nat)])/\(S=0->ri=65533/\n=1)/\(0<S->n=S/\(ri=65533->¬n=1))/\w'.drew.grownBy w'' none):=AZ;clear AZ
      go_region_held3 (fun u=>u.cell? ⟨R,0,none⟩=some (.string s)/\u.cell? ⟨R,1,none⟩=some (.int .i64 (k:Int))) ((first|exact⟨World.grownBy.cell (by assumption) (And.left (by assumption)) (by simp),World.grownBy.cell (by assumption) (And.right (by assumption)) (by simp)⟩|go_keep)) (first|(go_at_call 216;refine Y8.o.mono ?_;rintro e w6 ⟨ri,n,rfl,t1,t2,eu⟩))
      have nC:w'.grownBy w6 none:=ai (show w'.grownBy w'.drew none from⟨rfl,rfl,rfl,Nat.le_refl _,fun _ _ _=>rfl⟩) eu;have nD:Hd (Rd w6 R s k T):=ou.o.grow nC;have lK:Hd (w.grownBy w6 (some R)):=aF gQ.o nC;have Ff:Hd (Bd w6 B B acc):=rQ.o.grow (R:=R) (aF (ak w' (some R)) nC) mM.o
      by_cases hS0:S=0
      ·obtain⟨rfl,rfl⟩:=t1 hS0;have aB:Hd (G=.error (2,k)):=by
        have:=rU.o;rw[if_pos hS0]at this;exact this.symm
       clear t1 t2 eu nC hS0;go_wp2_with (go_at_call 156;refine(CH.o k _ lK.o nD.o).mono ?_;rintro e w7 ⟨⟨v,rfl,hv⟩,kX⟩);refine bodyPost_ret (results_tmp2 (t:=2) (u:=3) rfl _ _ _) rfl ?_;rw[aB.o];exact⟨fun t j hh=>(by cases hh),fun c p hh=>(by cases hh;exact⟨v,rfl,hv,_,nD.o.grow kX⟩),aF lK.o kX⟩
      ·obtain⟨hnS,hne⟩:=t2 (by omega);subst hnS;have aB:Hd (str s.data.toList f (k+n) (acc++Y)=G):=by
        have:=rU.o;rw[if_neg hS0]at this;exact this
       have hcase:((ri == 65533)=true/\((n:Int) == 1)=false)\/(ri == 65533)=false:=by
        by_cases hr:ri=65533
        ·refine Or.inl ⟨by simp[hr],?_⟩;have:=hne hr;rw[beq_eq_false_iff_ne];omega
        ·exact Or.inr (by simp[hr])
       have Y9:Hd (Calls prog 42 #[.pointer (some ⟨B,0,none⟩),.string Z] w6.drew fun e w''=>(∃k:Int,e=.returned (.tuple #[.int .i64 k,.nilIface]))/\Hd (Rd w'' R s k T/\w.grownBy w'' (some R)/\Bd w'' B B (acc++Y))/\(w''.cell? ⟨R,0,none⟩=some (.string s)/\w''.cell? ⟨R,1,none⟩=some (.int .i64 (k:Int)))):=by
        refine(QS.o w6.drew (Ff.o.grow (R:=R) (show w6.grownBy w6.drew (some R) from⟨rfl,rfl,rfl,Nat.le_refl _,fun _ _ _=>rfl⟩) mM.o) (yQ.o w6.drew (au lK.o 1))).mono ?_;rintro e w'' ⟨h1,h2,h3⟩;have hr:Rd w'' R s k T:=Rd.bel (w:=w6.drew) nD.o mM.o h3;exact⟨h1,⟨hr,aG.o _ _ (au lK.o 1) h3,h2⟩,hr.cells.1,hr.cells.2.1⟩
       obtain⟨d0,d1,-,-⟩:=nD.o.cells;have hn0:0<n:=by omega
       clear t1 t2 eu nC hS0 hne;have hwr:IntKind.i64.wrap ((k:Int)+(n:Int))=(k:Int)+(n:Int):=by
        simp[IntKind.wrap,IntKind.bits,IntKind.signed];omega
       rcases hcase with⟨hq1,hq2⟩|hq1
       all_goals (
        go_wp2
        go_region_held3 (fun u=>u.cell? ⟨R,0,none⟩=some (.string s)/\u.cell? ⟨R,1,none⟩=some (.int .i64 (k:Int))) ((first|assumption|go_keep)) (first|(go_at_call 42;refine Y9.o.mono ?_;rintro e w7 ⟨⟨kk,rfl⟩,hall,hcl⟩))
        have vJ:Hd (Rd w7 R s k T):=hall.o.1;have oC:Hd (w.grownBy w7 (some R)):=hall.o.2.1;have qI:Hd (Bd w7 B B (acc++Y)):=hall.o.2.2;obtain⟨-,e1,-,ef⟩:=vJ.o.cells;have ef1:=ef 1;have uf:Hd (Rd (w7.setCell ⟨R,1,none⟩ (.int .i64 ((k:Int)+(n:Int)))) R s (k+n) T):=by
         have:=vJ.o.set (k+n);rw[Int.natCast_add]at this;exact this
        have Fg:Hd (w.grownBy (w7.setCell ⟨R,1,none⟩ (.int .i64 ((k:Int)+(n:Int)))) (some R)):=aV oC.o 1 _;have A7:Hd (Bd (w7.setCell ⟨R,1,none⟩ (.int .i64 ((k:Int)+(n:Int)))) B B (acc++Y)):=qI.o.grow (R:=R) (aV (ak w7 (some R)) 1 _) mM.o;clear hall hcl ef;go_wp2;clear hwr;refine⟨⟨k+n,f,acc++Y,uf.o,JB,by omega,aB.o,by rw[List.length_append];omega,A7.o,Fg.o⟩,?_⟩;rw[gI.o,uf.o.cells.2.1];show s.size-((k+n:Nat):Int).toNat<s.size-k;rw[Int.toNat_natCast];omega)
end Go.Proofs.YtnnbgjaphfhibaaGreatDoor
