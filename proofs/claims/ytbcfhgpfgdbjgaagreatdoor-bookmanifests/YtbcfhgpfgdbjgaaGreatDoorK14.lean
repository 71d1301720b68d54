import Derived.Test.YtbcfhgpfgdbjgaaGreatDoorK08
import Derived.Test.YtbcfhgpfgdbjgaaGreatDoorK06
import Derived.Carry
import Derived.OwnWalk
import Derived.Laws.AppendOwn
import Derived.Deep.OwnRows
set_option linter.all false
set_option maxRecDepth 100000
set_option maxHeartbeats 0
open Go.Proofs.Tryz
namespace Go.Proofs.YtbcfhgpfgdbjgaaGreatDoor
open Go.RowKit Go.Joins
variable{s:ByteArray}{v:Value}{w w':World}
theorem ad9(s:ByteArray)(k:Nat)(hk:k<=s.size)(w:World) :
  (Instr.slice 9 (.string s) (some (.int .i64 (k:Int))) none none).run prog w=.ok (.string ⟨(s.data.toList.drop k).toArray⟩) w:=by
 have h1:(0:Int)<=(k:Int):=by omega
 have h5:(k:Int)<=(s.size:Int):=by omega
 have e:s.extract k s.size=⟨(s.data.toList.drop k).toArray⟩:=by
  apply ByteArray.ext;rw[ByteArray.data_extract];apply Array.ext';simp;exact List.take_of_length_le (by simp)
 rw[<-e];simp[go_sem,underlying9,h1,h5]
def aea(R:Nat)(s:ByteArray)(T:Nat)(E:Int->TypeId × Value)(g:Rs (List UInt8 × Nat))(w:World)(e:Ending)(w':World):Prop:=(∀t j,g=.ok (t,j)->e=.returned (.tuple #[.string ⟨t.toArray⟩,.nilIface])/\Rd w' R s j T)/\(∀c p,g=.error (c,p)->∃v,e=.returned (.tuple #[.string ⟨#[]⟩,v])/\dD w' v E c p/\∃j,Rd w' R s j T)/\w.grownBy w' (some R)
theorem WB(R:Nat)(s:ByteArray)(i T:Nat)(E:Int->TypeId × Value)(w:World)(h:Rd w R s i T)(hi:i<s.size)(hs:s.size<=1048576)(he:Es w E)(hR:Far R)
  (hT:Lib.Utf8Tabs 6 7 w) (h3:¬R=6) (h4:¬R=7) :
  Calls prog 122 #[.pointer (some ⟨R,0,none⟩)] w (aea R s T E (str s.data.toList (s.data.toList.length+1) (i+1) []) w):=by
 have hl:s.data.toList.length=s.size:=by simp
 have CN:=ae (fun k w (h1:Rd w R s k T) (h2:k<=s.size)=>nN R s k T w h1 h2 hs);have CE:=ae (fun k w' (hg:w.grownBy w' (some R)) (hr:Rd w' R s k T) (hk:k<s.size)=>ace R s k T E w' hr hk hs (he.grow hR hg) hR);have CB:=ae TF;have CH:Hd (∀k w',w.grownBy w' (some R)->Rd w' R s k T->Calls prog 104 #[.pointer (some ⟨R,0,none⟩)] w' fun e w''=>(∃v,e=.returned v/\dD w'' v E 2 k)/\w'.grownBy w'' none):=fun k w' hg hr=>xC R s k T (E 2).1 (E 2).2 w' hr (he.grow hR hg).te
 have CD:=ae (fun k w' (hg:w.grownBy w' (some R)) (hk:k<s.size)=>acn s.data.toList k (by omega) w' (acD hT h3 h4 hg));have HST:Hd (∀f i acc,str s.data.toList (f+1) i acc =
  if nx s.data.toList i=34 then .ok (acc,i+1)
  else if nx s.data.toList i=92 then(match esc s.data.toList i with | .error e=>.error e | .ok (b,j)=>str s.data.toList f j (acc++b))
  else if nx s.data.toList i=-1\/jG (nx s.data.toList i)=true then .error (2,i)
  else if bi s.data.toList i=0 then .error (2,i)
  else str s.data.toList f (i+bi s.data.toList i) (acc++au s.data.toList i (bi s.data.toList i))):=EK _
 have dC:Hd (∀k,0<=nx s.data.toList k->k<s.size):=fun k hb=>by rw[<-hl];exact bD hb
 have Oj:Hd (∀k n j,k<s.size->oL s.data.toList k=.ok (n,j)->n<65536/\rQ n=false/\k+2<=j/\j<=s.size):=fun k n j hk he=>by rw[<-hl];exact Nu _ k n j (by omega) he
 have BJ:Hd (∀k,k<=s.size->k+bi s.data.toList k<=s.size):=fun k hk=>by rw[<-hl];exact Nv _ k (by omega)
 obtain⟨G,hG⟩:=zN (str s.data.toList (s.data.toList.length+1) (i+1) []);have iT:=ae hG;rw[hG];have H0:=ae h;have nZ:=ae h.lt;have HS:Hd (Rd (w.setCell ⟨R,1,none⟩ (.int .i64 ((i:Int)+1))) R s (i+1) T):=h.set (i+1);have kC:Hd (w.grownBy (w.setCell ⟨R,1,none⟩ (.int .i64 ((i:Int)+1))) (some R)):=aT (ax w (some R)) 1 _;obtain⟨-,c1,-,df⟩:=h.cells;have df1:=df 1;clear h hG he df hT;go_enter func122,ntmps122;go_wp2;have BM:Hd (Bd ((w.setCell ⟨R,1,none⟩ (.int .i64 ((i:Int)+1))).alloc (.cells #[.pointer none,.slice none 0 0] 251)) w.heap.size w.heap.size []):=by
  refine Or.inl ⟨Nat.le_refl _,.slice none 0 0,?_,World.ownsRowF_nil _ _ _ _,by simp[Value.ownBlock]⟩;have:=heap_alloc_new (w.setCell ⟨R,1,none⟩ (.int .i64 ((i:Int)+1))) (.cells #[.pointer none,.slice none 0 0] 251);have e:(w.setCell ⟨R,1,none⟩ (.int .i64 ((i:Int)+1))).heap.size=w.heap.size:=by simp[World.setCell]
  rw[e]at this;exact this
 have dh:Hd ((w.setCell ⟨R,1,none⟩ (.int .i64 ((i:Int)+1))).grownBy ((w.setCell ⟨R,1,none⟩ (.int .i64 ((i:Int)+1))).alloc (.cells #[.pointer none,.slice none 0 0] 251)) none):=World.grownBy_alloc _ _ none;have HR1:=ae (HS.o.grow dh.o);have aC:=ae (aP kC.o dh.o);have x9:=ae (fun w' (hg:w.grownBy w' (some R))=>hg.size);have aW:=ae (fun w1 w2 (h1:w.grownBy w1 (some R)) (h2:Below w.heap.size w1 w2)=>acC h1 (Nat.le_refl _) h2);obtain⟨B,hB⟩:=zN (w.heap.size);rw[hB]at BM nZ x9 aW ⊢;obtain⟨wA,hwA⟩:=zN (((w.setCell ⟨R,1,none⟩ (.int .i64 ((i:Int)+1))).alloc (.cells #[.pointer none,.slice none 0 0] 251)));rw[hwA]at BM HR1 aC ⊢;clear hB hwA dh HS kC c1 df1 H0;go_loopw [] (fun wr=>∃(k f:Nat) (acc:List UInt8),Rd wr R s k T/\k<=s.size/\s.size-k<f/\str s.data.toList f k acc=G/\acc.length<=3*k/\Bd wr B B acc/\w.grownBy wr (some R)) (fun wr=>s.size-(match wr.cell? ⟨R,1,none⟩ with|some (.int _ k)=>k.toNat|_=>0))
 case atStart=>exact⟨i+1,s.data.toList.length+1,[],HR1.o,by omega,by omega,iT.o,by simp,BM.o,aC.o⟩
 case round=>
  obtain⟨k,f,acc,hrd,hk,hf,hstr,hacc,hbd,hg⟩:=hrel;obtain⟨f,rfl⟩:∃f',f=f'+1:=⟨f-1,by omega⟩;have lI:=ae hrd;have kz:=ae hg;have lQ:=ae hbd;have eY:Hd ((match wr.cell? ⟨R,1,none⟩ with|some (.int _ k)=>k.toNat|_=>0)=k):=by show _=_;rw[hrd.cells.2.1];simp
  have C1:=ae (fun w' (h1:Rd w' R s k T)=>CN.o k w' h1 hk);have uC:=ae (dC.o k);have HXB:=ae ((Ip s.data.toList k).1);rw[HST.o]at hstr;obtain⟨x,hx⟩:=zN (nx s.data.toList k);rw[hx]at C1 uC HXB hstr;have vY:Hd ((if x=34 then .ok (acc,k+1)
   else if x=92 then(match esc s.data.toList k with | .error e=>.error e | .ok (b,j)=>str s.data.toList f j (acc++b))
   else if x=-1\/jG x=true then .error (2,k)
   else if bi s.data.toList k=0 then .error (2,k)
   else str s.data.toList f (k+bi s.data.toList k) (acc++au s.data.toList k (bi s.data.toList k)))=G):=hstr
  clear hrd hg hbd hx hstr
  by_cases h34:x=34
  ·have hb:(x != 34)=false:=by simp[h34]
   have aJ:Hd (G=.ok (acc,k+1)):=by
    have:=vY.o;rw[if_pos h34]at this;exact this.symm
   have hkl:=uC.o (by omega);clear h34;go_wp2_with (first|(go_at_call 67;refine(C1.o _ lI.o).mono ?_));rintro e w2 ⟨rfl,hg2⟩;have HR2:=ae (lI.o.grow hg2);have HG2:=ae (aP kz.o hg2);obtain⟨-,d1,-,df⟩:=HR2.o.cells;have df2:=df 1;have HR3:Hd (Rd (w2.setCell ⟨R,1,none⟩ (.int .i64 ((k:Int)+1))) R s (k+1) T):=HR2.o.set (k+1);have aU:Hd (w.grownBy (w2.setCell ⟨R,1,none⟩ (.int .i64 ((k:Int)+1))) (some R)):=aT HG2.o 1 _;have CS:=ae (acB B B acc _ ((lQ.o.grow (R:=R) (aT (aP (ax wr (some R)) hg2) 1 _) nZ.o)) (x9.o _ aU.o));clear hg2 df;go_wp2_with (go_at_call 154;refine CS.o.mono ?_;rintro e w4 ⟨rfl,hb4⟩);refine bodyPost_ret (results_tmp2 (t:=2) (u:=3) rfl _ _ _) rfl ?_;rw[aJ.o];exact⟨fun t j hh=>(by cases hh;exact⟨rfl,HR3.o.bel nZ.o hb4⟩),fun c p hh=>(by cases hh),aW.o _ _ aU.o hb4⟩
  ·have hb:(x != 34)=true:=by simp[h34]
   by_cases h92:x=92
   ·have hb2:(x == 92)=true:=by simp[h92]
    have hkl:=uC.o (by omega);have aB:Hd ((match UC (oL s.data.toList k) with | .error e=>.error e | .ok (b,j)=>str s.data.toList f j (acc++b))=G):=by
     have:=vY.o;rw[if_neg h34,if_pos h92,Nj]at this;exact this
    have ny:=ae (fun w' (h1:w.grownBy w' (some R)) (h2:Rd w' R s k T)=>CE.o k w' h1 h2 hkl);have lK:=ae (fun n j (h:oL s.data.toList k=.ok (n,j))=>Oj.o k n j hkl h);obtain⟨q,hq⟩:=zN (oL s.data.toList k);rw[hq]at aB ny lK;clear h34 h92 hq;go_wp2_with (go_at_call 67;refine(C1.o _ lI.o).mono ?_);rintro e w2 ⟨rfl,hg2⟩;have HR2:=ae (lI.o.grow hg2);have HG2:=ae (aP kz.o hg2);have HB2:=ae (lQ.o.grow (R:=R) (aP (ax wr (some R)) hg2) nZ.o);clear hg2;go_wp2_with (go_at_call 67;refine(C1.o _ HR2.o).mono ?_);rintro e w3 ⟨rfl,hg3⟩;have HR3:=ae (HR2.o.grow hg3);have aU:=ae (aP HG2.o hg3);have HB3:=ae (HB2.o.grow (R:=R) (aP (ax w2 (some R)) hg3) nZ.o);clear hg3
    cases q with
    |error q=>
     obtain⟨c,q⟩:=q;have aJ:Hd (G=.error (c,q)):=aB.o.symm;go_wp2_with (go_at_call 150;refine(ny.o _ aU.o HR3.o).mono ?_);rintro e w4 ⟨h1,h2,hg4⟩;obtain⟨v,rfl,⟨F,rfl,hF⟩,jj,hjj⟩:=h2 c q rfl;have Oo:=ae hjj;clear hjj;have dS:Hd (dD w4 (.iface 99 (.pointer (some ⟨F,0,none⟩))) E c q):=⟨F,rfl,hF⟩;have dn:=ae (dK aU.o hg4);clear h1 h2 hF hg4;go_wp2;refine bodyPost_ret (results_tmp2 (t:=2) (u:=3) rfl _ _ _) rfl ?_;rw[aJ.o];exact⟨fun t j hh=>(by cases hh),fun c p hh=>(by cases hh;exact⟨_,rfl,dS.o,jj,Oo.o⟩),dn.o⟩
    |ok q=>
     obtain⟨n,j⟩:=q;obtain⟨hn1,hn2,hn3,hn4⟩:=lK.o n j rfl;have aJ:Hd (str s.data.toList f j (acc++gU n)=G):=aB.o;have hwl:=IZ n;go_wp2_with (first|(go_at_call 150;refine(ny.o _ aU.o HR3.o).mono ?_));rintro e w4 ⟨h1,h2,hg4⟩;obtain⟨rfl,hr4⟩:=h1 n j rfl;have HR4:=ae hr4;have dn:=ae (dK aU.o hg4);have CWR:=ae (acz B B n acc w4 (HB3.o.grow hg4 nZ.o) hn1 hn2 (by omega) (x9.o _ dn.o));clear h1 h2 hr4 hg4 hn1 hn2;go_wp2_with (go_at_call 151;refine CWR.o.mono ?_);rintro e w5 ⟨⟨kk,rfl⟩,hb5,hbel⟩;have nz:=ae (HR4.o.bel nZ.o hbel);have fJ:=ae (aW.o _ _ dn.o hbel);have uG:=ae hb5;clear hb5 hbel;go_wp2;refine⟨⟨j,f,acc++gU n,nz.o,hn4,by omega,aJ.o,by rw[List.length_append];omega,uG.o,fJ.o⟩,?_⟩;rw[eY.o,nz.o.cells.2.1];simp;omega
   ·have hb2:(x == 92)=false:=by simp[h92]
    go_wp2_with (go_at_call 67;refine(C1.o _ lI.o).mono ?_);rintro e w2 ⟨rfl,hg2⟩;have HR2:=ae (lI.o.grow hg2);have HG2:=ae (aP kz.o hg2);have HB2:=ae (lQ.o.grow (R:=R) (aP (ax wr (some R)) hg2) nZ.o);clear hg2;go_wp2_with (go_at_call 67;refine(C1.o _ HR2.o).mono ?_);rintro e w3 ⟨rfl,hg3⟩;have HR3:=ae (HR2.o.grow hg3);have aU:=ae (aP HG2.o hg3);have HB3:=ae (HB2.o.grow (R:=R) (aP (ax w2 (some R)) hg3) nZ.o);clear hg3;have x8:Hd ((if x=-1\/jG x=true then .error (2,k)
     else if bi s.data.toList k=0 then .error (2,k)
     else str s.data.toList f (k+bi s.data.toList k) (acc++au s.data.toList k (bi s.data.toList k)))=G):=by
     have:=vY.o;rw[if_neg h34,if_neg h92]at this;exact this
    clear h34 h92
    by_cases he1:x=-1
    ·have hb3:(x == -1)=true:=by simp[he1]
     have aJ:Hd (G=.error (2,k)):=by
      have:=x8.o;rw[if_pos (Or.inl he1)]at this;exact this.symm
     clear he1;go_wp2_with (first|(go_at_call 67;refine(C1.o _ HR3.o).mono ?_;rintro e w4 ⟨rfl,hg4⟩)|(go_at_call 104;refine(CH.o k _ (aP aU.o hg4) (HR3.o.grow hg4)).mono ?_;rintro e w5 ⟨⟨v,rfl,hv⟩,hg5⟩));refine bodyPost_ret (results_tmp2 (t:=2) (u:=3) rfl _ _ _) rfl ?_;rw[aJ.o];exact⟨fun t j hh=>(by cases hh),fun c p hh=>(by cases hh;exact⟨v,rfl,hv,_,(HR3.o.grow hg4).grow hg5⟩),aP (aP aU.o hg4) hg5⟩
    ·have hb3:(x == -1)=false:=by simp[he1]
     have fZ:=ae (fun w=>CB.o x w);obtain⟨br,hbr⟩:=zN (jG x);rw[hbr]at fZ x8;have nP:=ae he1;clear hbr he1;go_wp2_with (go_at_call 67;refine(C1.o _ HR3.o).mono ?_);rintro e w4 ⟨rfl,hg4⟩;have HR4:=ae (HR3.o.grow hg4);have dn:=ae (aP aU.o hg4);have HB4:=ae (HB3.o.grow (R:=R) (aP (ax w3 (some R)) hg4) nZ.o);clear hg4;go_wp2_with (go_at_call 67;refine(C1.o _ HR4.o).mono ?_);rintro e w5 ⟨rfl,hg5⟩;have nz:=ae (HR4.o.grow hg5);have fJ:=ae (aP dn.o hg5);have uG:=ae (HB4.o.grow (R:=R) (aP (ax w4 (some R)) hg5) nZ.o);clear hg5
     cases br with
     |true=>
      have aJ:Hd (G=.error (2,k)):=by
       have:=x8.o;rw[if_pos (Or.inr rfl)]at this;exact this.symm
      go_wp2_with (first|(go_at_call 103;refine(fZ.o _).mono ?_;rintro e w' ⟨rfl,rfl⟩)|(go_at_call 104;refine(CH.o k _ fJ.o nz.o).mono ?_;rintro e w6 ⟨⟨v,rfl,hv⟩,dV⟩));refine bodyPost_ret (results_tmp2 (t:=2) (u:=3) rfl _ _ _) rfl ?_;rw[aJ.o];exact⟨fun t j hh=>(by cases hh),fun c p hh=>(by cases hh;exact⟨v,rfl,hv,_,nz.o.grow dV⟩),aP fJ.o dV⟩
     |false=>
      have hkl:=uC.o (by have:=HXB.o;have:=nP.o;omega);have lM:Hd ((if bi s.data.toList k=0 then .error (2,k) else str s.data.toList f (k+bi s.data.toList k) (acc++au s.data.toList k (bi s.data.toList k)))=G):=by
       have:=x8.o;rw[if_neg (by rintro(h|h);exact nP.o h;cases h)]at this;exact this
      have Oq:=BJ.o k hk;have Ot:Hd (∀w',w.grownBy w' (some R)->Calls prog 152 #[.string ⟨(s.data.toList.drop k).toArray⟩] w' fun e w''=>∃(ri:Int) (n:Nat),e=.returned (.tuple #[.int .i32 ri,.int .i64 (n:Nat)])/\(bi s.data.toList k=0->ri=65533/\n=1)/\(0<bi s.data.toList k->n=bi s.data.toList k/\(ri=65533->¬n=1))/\w'.grownBy w'' none):=fun w' hg=>by
       refine(CD.o k w' hg hkl).mono ?_;rintro e w'' ⟨r,n,rfl,⟨t1,t2⟩,hb⟩;refine⟨(r:Nat),n,rfl,fun h0=>?_,fun h0=>?_,⟨hb.os,hb.tape,hb.output,hb.size,fun k hk _=>hb.block k hk⟩⟩
       ·have:=t1 h0;simp only[Prod.mk.injEq]at this;omega
       ·obtain⟨a1,a2⟩:=t2 h0;refine⟨a1,fun hr hn=>a2 ⟨?_,hn⟩⟩;show r=65533;omega
      have jc:Hd ((au s.data.toList k (bi s.data.toList k)).length<=bi s.data.toList k):=by
       show _<=_;unfold au;rw[List.length_take];omega
      have s1:=fun wx=>ad9 s k hk wx
      have s2:∀wx,(Instr.slice 9 (.string s) (some (.int .i64 (k:Int))) (some (.int .i64 ((k:Int)+((bi s.data.toList k:Nat):Int)))) none).run prog wx=.ok (.string ⟨(au s.data.toList k (bi s.data.toList k)).toArray⟩) wx:=fun wx=>by
       have:=mM s k (k+bi s.data.toList k) (by omega) Oq wx;rw[show k+bi s.data.toList k-k=bi s.data.toList k by omega]at this;simpa using this
      obtain⟨X,hX⟩:∃X:ByteArray,⟨(s.data.toList.drop k).toArray⟩=X:=⟨_,rfl⟩;rw[hX]at s1 Ot;obtain⟨S,hS⟩:=zN (bi s.data.toList k);rw[hS]at lM Oq Ot s2 jc;obtain⟨Y,hY⟩:=zN (au s.data.toList k S);rw[hY]at lM s2 jc;have hYl:=jc.o;have WC:=ae (fun w' (h1:Bd w' B B acc) (h2:B<=w'.heap.size)=>acA B B acc Y w' h1 (by omega) (by omega) h2);obtain⟨Z,hZ⟩:∃Z:ByteArray,⟨Y.toArray⟩=Z:=⟨_,rfl⟩;rw[hZ]at WC s2;clear hX hS hY hZ;go_wp2_with (go_at_call 103;refine(fZ.o _).mono ?_;rintro e w' ⟨rfl,rfl⟩);obtain⟨d0,d1,-,-⟩:=nz.o.cells;have Fv:=Ot.o w'.drew (az fJ.o 1);have CD2:=ae Fv;clear Fv
      go_region_held3 (fun u=>u.cell? ⟨R,0,none⟩=some (.string s)/\u.cell? ⟨R,1,none⟩=some (.int .i64 (k:Int))) ((first|exact⟨World.grownBy.cell (by assumption) (And.left (by assumption)) (by simp),World.grownBy.cell (by assumption) (And.right (by assumption)) (by simp)⟩|go_keep)) (first|(go_at_call 152;refine CD2.o.mono ?_;rintro e w6 ⟨ri,n,rfl,t1,t2,dV⟩))
      have oM:=ak (show w'.grownBy w'.drew none from⟨rfl,rfl,rfl,Nat.le_refl _,fun _ _ _=>rfl⟩) dV;have oN:=ae (nz.o.grow oM);have lL:=ae (aP fJ.o oM);have Jn:=ae (uG.o.grow (R:=R) (aP (ax w' (some R)) oM) nZ.o)
      by_cases hS0:S=0
      ·obtain⟨rfl,rfl⟩:=t1 hS0;have aJ:Hd (G=.error (2,k)):=by
        have:=lM.o;rw[if_pos hS0]at this;exact this.symm
       clear t1 t2 dV oM hS0;go_wp2_with (go_at_call 104;refine(CH.o k _ lL.o oN.o).mono ?_;rintro e w7 ⟨⟨v,rfl,hv⟩,iV⟩);refine bodyPost_ret (results_tmp2 (t:=2) (u:=3) rfl _ _ _) rfl ?_;rw[aJ.o];exact⟨fun t j hh=>(by cases hh),fun c p hh=>(by cases hh;exact⟨v,rfl,hv,_,oN.o.grow iV⟩),aP lL.o iV⟩
      ·obtain⟨hnS,hne⟩:=t2 (by omega);subst hnS;have aJ:Hd (str s.data.toList f (k+n) (acc++Y)=G):=by
        have:=lM.o;rw[if_neg hS0]at this;exact this
       have hcase:((ri == 65533)=true/\((n:Int) == 1)=false)\/(ri == 65533)=false:=by
        by_cases hr:ri=65533
        ·refine Or.inl ⟨by simp[hr],?_⟩;have:=hne hr;rw[beq_eq_false_iff_ne];omega
        ·exact Or.inr (by simp[hr])
       have CWS:Hd (Calls prog 153 #[.pointer (some ⟨B,0,none⟩),.string Z] w6.drew fun e w''=>(∃k:Int,e=.returned (.tuple #[.int .i64 k,.nilIface]))/\Hd (Rd w'' R s k T/\w.grownBy w'' (some R)/\Bd w'' B B (acc++Y))/\(w''.cell? ⟨R,0,none⟩=some (.string s)/\w''.cell? ⟨R,1,none⟩=some (.int .i64 (k:Int)))):=by
        refine(WC.o w6.drew (Jn.o.grow (R:=R) (show w6.grownBy w6.drew (some R) from⟨rfl,rfl,rfl,Nat.le_refl _,fun _ _ _=>rfl⟩) nZ.o) (x9.o w6.drew (az lL.o 1))).mono ?_;rintro e w'' ⟨h1,h2,h3⟩;have hr:=Rd.bel (w:=w6.drew) oN.o nZ.o h3;exact⟨h1,⟨hr,aW.o _ _ (az lL.o 1) h3,h2⟩,hr.cells.1,hr.cells.2.1⟩
       obtain⟨d0,d1,-,-⟩:=oN.o.cells;have hn0:0<n:=by omega
       clear t1 t2 dV oM hS0 hne;have hwr:IntKind.i64.wrap ((k:Int)+(n:Int))=(k:Int)+(n:Int):=by
        simp[IntKind.wrap,IntKind.bits,IntKind.signed];omega
       rcases hcase with⟨hq1,hq2⟩|hq1
       all_goals (
        go_wp2
        go_region_held3 (fun u=>u.cell? ⟨R,0,none⟩=some (.string s)/\u.cell? ⟨R,1,none⟩=some (.int .i64 (k:Int))) ((first|assumption|go_keep)) (first|(go_at_call 153;refine CWS.o.mono ?_;rintro e w7 ⟨⟨kk,rfl⟩,hall,hcl⟩))
        have yc:=ae hall.o.1;have BN:=ae hall.o.2.1;have BO:=ae hall.o.2.2;obtain⟨-,e1,-,ef⟩:=yc.o.cells;have ef1:=ef 1;have sD:Hd (Rd (w7.setCell ⟨R,1,none⟩ (.int .i64 ((k:Int)+(n:Int)))) R s (k+n) T):=by
         have:=yc.o.set (k+n);rw[Int.natCast_add]at this;exact this
        have BP:Hd (w.grownBy (w7.setCell ⟨R,1,none⟩ (.int .i64 ((k:Int)+(n:Int)))) (some R)):=aT BN.o 1 _;have Fz:Hd (Bd (w7.setCell ⟨R,1,none⟩ (.int .i64 ((k:Int)+(n:Int)))) B B (acc++Y)):=BO.o.grow (R:=R) (aT (ax w7 (some R)) 1 _) nZ.o;clear hall hcl ef;go_wp2;clear hwr;refine⟨⟨k+n,f,acc++Y,sD.o,Oq,by omega,aJ.o,by rw[List.length_append];omega,Fz.o,BP.o⟩,?_⟩;rw[eY.o,sD.o.cells.2.1];show s.size-((k+n:Nat):Int).toNat<s.size-k;rw[Int.toNat_natCast];omega)
theorem Jo(l:List UInt8)(i k:Nat):nx l (i+k)=nx (l.drop i) k:=by unfold nx;rw[List.getElem?_drop]
def FB(c a b d:Int):Nat :=
 if c<0 then 0
 else if c<128 then 1
 else if c<194\/244<c then 0
 else if decide ((if c=224 then 160 else if c=240 then 144 else 128)<=a/\a<=(if c=237 then 159 else if c=244 then 143 else 191))=false then 0
 else if c<224 then 2
 else if decide (128<=b/\b<=191)=false then 0
 else if c<240 then 3
 else if decide (128<=d/\d<=191)=false then 0
 else 4
theorem aeb(l:List UInt8)(i:Nat):bi l i=FB (nx l i) (nx l (i+1)) (nx l (i+2)) (nx l (i+3)):=rfl
theorem aec{a b c d a' b' c' d':Int}(h1:a=a')(h2:b=b')(h3:c=c')(h4:d=d'):FB a b c d=FB a' b' c' d':=by subst h1 h2 h3 h4;rfl
theorem aed(l:List UInt8)(i:Nat):bi l i=bi (l.drop i) 0:=aec (Jo l i 0) (Jo l i 1) (Jo l i 2) (Jo l i 3)
theorem yg(c:UInt8)(s:List UInt8):bi (c :: s) 0=if(c.toNat:Int)<128 then 1
 else if(c.toNat:Int)<194\/244<(c.toNat:Int) then 0
 else if decide ((if(c.toNat:Int)=224 then 160 else if(c.toNat:Int)=240 then 144 else 128)<=nx s 0/\nx s 0<=(if(c.toNat:Int)=237 then 159 else if(c.toNat:Int)=244 then 143 else 191))=false then 0
 else if(c.toNat:Int)<224 then 2
 else if decide (128<=nx s 1/\nx s 1<=191)=false then 0
 else if(c.toNat:Int)<240 then 3
 else if decide (128<=nx s 2/\nx s 2<=191)=false then 0
 else 4:=by
 have e:bi (c :: s) 0=FB (c.toNat:Int) (nx s 0) (nx s 1) (nx s 2):=aeb _ _;rw[e,FB,if_neg (by omega)]
theorem aee(s:List UInt8)(h:0<bi s 0):∃q r,s=q++r/\q.length=bi s 0/\(∀r',bi (q++r') 0=q.length)/\((∃c,q=[c]/\c.toNat<128)\/∃c q',q=c :: q'/\128<=c.toNat/\∀b∈q,128<=b.toNat):=by
 match s,h with
 | [],h=>exact absurd h (by decide)
 | c :: s,h =>
  rw[yg]at h ⊢
  by_cases h1:(c.toNat:Int)<128
  ·exact⟨[c],s,rfl,by rw[if_pos h1];rfl,fun r'=>by show bi (c :: r') 0=1;rw[yg,if_pos h1],Or.inl ⟨c,rfl,by omega⟩⟩
  ·rw[if_neg h1]at h ⊢
   by_cases h2:(c.toNat:Int)<194\/244<(c.toNat:Int)
   ·rw[if_pos h2]at h;exact absurd h (by decide)
   ·rw[if_neg h2]at h ⊢
    match s,h with
    | [],h =>
     rw[if_pos]at h
     ·exact absurd h (by decide)
     ·apply decide_eq_false;intro hh;have:nx [] 0=-1:=rfl;rw[this]at hh;have:=hh.1;split at this
      ·omega
      ·split at this<;>omega
    | b :: s,h =>
     have e0:∀r,nx (b :: r) 0=(b.toNat:Int):=fun _=>rfl
     rw[e0]at h ⊢
     by_cases h3:decide ((if(c.toNat:Int)=224 then 160 else if(c.toNat:Int)=240 then 144 else 128)<=(b.toNat:Int)/\(b.toNat:Int)<=(if(c.toNat:Int)=237 then 159 else if(c.toNat:Int)=244 then 143 else 191))=false
     ·rw[if_pos h3]at h;exact absurd h (by decide)
     ·rw[if_neg h3]at h ⊢;have hb:128<=b.toNat:=by
       have:=(of_decide_eq_true ((Bool.not_eq_false _).mp h3)).1;split at this
       ·omega
       ·split at this<;>omega
      by_cases h4:(c.toNat:Int)<224
      ·refine⟨[c,b],s,rfl,by rw[if_pos h4];rfl,fun r'=>?_,Or.inr ⟨c,[b],rfl,by omega,?_⟩⟩
       ·show bi (c :: (b :: r')) 0=2;rw[yg,if_neg h1,if_neg h2,e0,if_neg h3,if_pos h4]
       ·intro x hx;simp only[List.mem_cons,List.not_mem_nil,or_false]at hx
        rcases hx with rfl|rfl<;>omega
      ·rw[if_neg h4]at h ⊢
       match s,h with
       | [],h =>
        rw[if_pos]at h
        ·exact absurd h (by decide)
        ·apply decide_eq_false;intro hh;have:nx [b] 1=-1:=rfl;omega
       | d :: s,h =>
        have e1:∀r,nx (b :: d :: r) 1=(d.toNat:Int):=fun _=>rfl
        rw[e1]at h ⊢
        by_cases h5:decide (128<=(d.toNat:Int)/\(d.toNat:Int)<=191)=false
        ·rw[if_pos h5]at h;exact absurd h (by decide)
        ·rw[if_neg h5]at h ⊢;have hd:128<=d.toNat:=by
          have:=(of_decide_eq_true ((Bool.not_eq_false _).mp h5)).1;omega
         by_cases h6:(c.toNat:Int)<240
         ·refine⟨[c,b,d],s,rfl,by rw[if_pos h6];rfl,fun r'=>?_,Or.inr ⟨c,[b,d],rfl,by omega,?_⟩⟩
          ·show bi (c :: (b :: d :: r')) 0=3;rw[yg,if_neg h1,if_neg h2,e0,if_neg h3,if_neg h4,e1,if_neg h5,if_pos h6]
          ·intro x hx;simp only[List.mem_cons,List.not_mem_nil,or_false]at hx
           rcases hx with rfl|rfl|rfl<;>omega
         ·rw[if_neg h6]at h ⊢
          match s,h with
          | [],h =>
           rw[if_pos]at h
           ·exact absurd h (by decide)
           ·apply decide_eq_false;intro hh;have:nx [b,d] 2=-1:=rfl;omega
          | x :: s,h =>
           have e2:∀r,nx (b :: d :: x :: r) 2=(x.toNat:Int):=fun _=>rfl
           rw[e2]at h ⊢
           by_cases h7:decide (128<=(x.toNat:Int)/\(x.toNat:Int)<=191)=false
           ·rw[if_pos h7]at h;exact absurd h (by decide)
           ·rw[if_neg h7]at h ⊢;have hx':128<=x.toNat:=by
             have:=(of_decide_eq_true ((Bool.not_eq_false _).mp h7)).1;omega
            refine⟨[c,b,d,x],s,rfl,rfl,fun r'=>?_,Or.inr ⟨c,[b,d,x],rfl,by omega,?_⟩⟩
            ·show bi (c :: (b :: d :: x :: r')) 0=4;rw[yg,if_neg h1,if_neg h2,e0,if_neg h3,if_neg h4,e1,if_neg h5,if_neg h6,e2,if_neg h7]
            ·intro y hy;simp only[List.mem_cons,List.not_mem_nil,or_false]at hy
             rcases hy with rfl|rfl|rfl|rfl<;>omega
inductive Us:List UInt8->Prop
 | nil:Us []
 | cons (q r:List UInt8):0<q.length->(∀r',bi (q++r') 0=q.length)->((∃c,q=[c]/\c.toNat<128)\/∃c q',q=c :: q'/\128<=c.toNat/\∀b∈q,128<=b.toNat)->Us r->Us (q++r)
theorem Us.app{a b:List UInt8}(ha:Us a)(hb:Us b):Us (a++b):=by
 induction ha with
 |nil=>exact hb
 |cons q r h1 h2 h3 _ ih=>rw[List.append_assoc];exact Us.cons q _ h1 h2 h3 ih
theorem WE(s:List UInt8)(h:0<bi s 0):Us (s.take (bi s 0)):=by
 obtain⟨q,r,h1,h2,h3,h4⟩:=aee s h;rw[<-h2,h1,List.take_left' rfl];have:=Us.cons q [] (by omega) h3 h4 Us.nil;simpa using this
theorem Ou(c:UInt8)(h:c.toNat<128):Us [c]:=Us.cons [c] [] (by simp) (fun r'=>by show bi (c :: r') 0=1;rw[yg,if_pos (by omega)]) (Or.inl ⟨c,rfl,h⟩) Us.nil
theorem WG(s:List UInt8)(h:bi s 0=s.length)(h0:0<s.length):Us s:=by
 have:=WE s (by omega);rw[h,List.take_length]at this;exact this
theorem aef(n:Nat)(h:n<65536)(hs:¬(55296<=n/\n<=57343)):Us (gU n):=by
 unfold gU;have tn:∀m,m<256->((UInt8.ofNat m).toNat:Int)=(m:Int):=fun m hm=>by
  rw[UInt8.toNat_ofNat_of_lt' (by simpa using hm)]
 split
 ·exact Ou _ (by rw[UInt8.toNat_ofNat_of_lt' (by show n<256;omega)];assumption)
 ·split
  ·refine WG _ ?_ (by simp);rw[yg,tn _ (by omega),if_neg (by omega),if_neg (by omega),if_neg,if_pos (by omega)]
   ·rfl
   ·rw[decide_eq_false_iff_not,Classical.not_not];have e:nx [UInt8.ofNat (128+n % 64)] 0=((UInt8.ofNat (128+n % 64)).toNat:Int):=rfl;rw[e,tn _ (by omega),if_neg (by omega),if_neg (by omega),if_neg (by omega),if_neg (by omega)];omega
  ·refine WG _ ?_ (by simp);have e0:∀r,nx (UInt8.ofNat (128+n / 64 % 64) :: r) 0=((UInt8.ofNat (128+n / 64 % 64)).toNat:Int):=fun _=>rfl
   have e1:∀b,nx [b,UInt8.ofNat (128+n % 64)] 1=((UInt8.ofNat (128+n % 64)).toNat:Int):=fun _=>rfl
   rw[yg,tn _ (by omega),if_neg (by omega),if_neg (by omega),if_neg,if_neg (by omega),if_neg,if_pos (by omega)]
   ·rfl
   ·rw[decide_eq_false_iff_not,Classical.not_not,e1,tn _ (by omega)];omega
   ·rw[decide_eq_false_iff_not,Classical.not_not,e0,tn _ (by omega)];split
    ·rw[if_neg (by omega)];rw[if_neg (by omega)];omega
    ·rw[if_neg (by omega)];split
     ·omega
     ·rw[if_neg (by omega)];omega
theorem aeg(l:List UInt8)(i:Nat)(b:List UInt8)(j:Nat)(h:esc l i=.ok (b,j)):Us b:=by
 unfold esc at h;have one:∀c:UInt8,c.toNat<128->∀m,(Except.ok ([c],m):Rs (List UInt8 × Nat))=.ok (b,j)->Us b:=fun c hc m hh=>by
  injection hh with hh
  injection hh with h1 h2
  rw[<-h1];exact Ou c hc
 split at h
 ·rename_i hu;have hl:i+1<l.length:=bD (by omega);split at h
  ·cases h
  ·rename_i n m hf;split at h
   ·cases h
   ·rename_i hs;injection h with h
    injection h with h1 h2
    rw[<-h1];have:=(Ns l 4 (i+2) 0 n m (by omega) hf).2.2;exact aef n (by omega) hs
 ·split at h
  ·exact one _ (by decide) _ h
  ·split at h
   ·exact one _ (by decide) _ h
   ·split at h
    ·exact one _ (by decide) _ h
    ·split at h
     ·exact one _ (by decide) _ h
     ·split at h
      ·exact one _ (by decide) _ h
      ·split at h
       ·exact one _ (by decide) _ h
       ·split at h
        ·exact one _ (by decide) _ h
        ·cases h
theorem Jp(l:List UInt8):∀(f i:Nat) (acc t:List UInt8) (j:Nat),Us acc->str l f i acc=.ok (t,j)->Us t
 | 0,i,acc,t,j,_,h=>by cases h
 | f+1,i,acc,t,j,ha,h=>by
  rw[EK]at h;split at h
  ·injection h with h
   injection h with h1 h2
   rw[<-h1];exact ha
  ·split at h
   ·split at h
    ·cases h
    ·rename_i b k he;exact Jp l f k _ t j (ha.app (aeg l i b k he)) h
   ·split at h
    ·cases h
    ·split at h
     ·cases h
     ·rename_i hs;refine Jp l f _ _ t j (ha.app ?_) h;have h0:=aed l i;unfold au;rw[h0];exact WE _ (by omega)
structure Nd where
 n:ByteArray
 r:ByteArray
def kF(x:Nd):List Value:=[.string x.n,.string x.r]
structure Re where
 nm:ByteArray
 ve:ByteArray
 nd:List Nd
 da:ByteArray
def NdAt(w:World)(p:Addr)(x:Nd):Prop:=w.cell? p=some (.string x.n)/\w.cell? ⟨p.block,p.off+1,none⟩=some (.string x.r)
theorem NdAt.grow{p:Addr}{x:Nd}(h:NdAt w p x)(hg:w.grownBy w' none):NdAt w' p x:=⟨hg.cell h.1 (by simp),hg.cell h.2 (by simp)⟩
def NdS(w:World)(v:Value)(L:List Nd):Prop:=(v=.slice none 0 0/\L=[])\/∃a cap,v=.slice (some a) L.length cap/\L.length<=cap/\∀i (hi:i<L.length),NdAt w (a.add (i*2)) L[i]
theorem NdS.grow{L:List Nd}(h:NdS w v L)(hg:w.grownBy w' none):NdS w' v L:=by
 rcases h with h|⟨a,cap,h1,h2,h3⟩
 ·exact Or.inl h
 ·exact Or.inr ⟨a,cap,h1,h2,fun i hi=>(h3 i hi).grow hg⟩
theorem WH{L:List Nd}(h:NdS w v L):∃o c,v=.slice o L.length c:=by
 rcases h with⟨rfl,rfl⟩|⟨a,cap,rfl,-⟩
 ·exact⟨_,_,rfl⟩
 ·exact⟨_,_,rfl⟩
def ReAt(w:World)(p:Addr)(x:Re):Prop:=w.cell? p=some (.string x.nm)/\w.cell? ⟨p.block,p.off+1,none⟩=some (.string x.ve)/\(∃v,w.cell? ⟨p.block,p.off+2,none⟩=some v/\NdS w v x.nd)/\w.cell? ⟨p.block,p.off+3,none⟩=some (.string x.da)
theorem ReAt.grow{p:Addr}{x:Re}(h:ReAt w p x)(hg:w.grownBy w' none):ReAt w' p x:=by
 obtain⟨h0,h1,⟨v,h2,h3⟩,h4⟩:=h;exact⟨hg.cell h0 (by simp),hg.cell h1 (by simp),⟨v,hg.cell h2 (by simp),h3.grow hg⟩,hg.cell h4 (by simp)⟩
def ReS(w:World)(v:Value)(L:List Re):Prop:=(v=.slice none 0 0/\L=[])\/∃a cap,v=.slice (some a) L.length cap/\L.length<=cap/\∀i (hi:i<L.length),ReAt w (a.add (i*4)) L[i]
theorem ReS.grow{L:List Re}(h:ReS w v L)(hg:w.grownBy w' none):ReS w' v L:=by
 rcases h with h|⟨a,cap,h1,h2,h3⟩
 ·exact Or.inl h
 ·exact Or.inr ⟨a,cap,h1,h2,fun i hi=>(h3 i hi).grow hg⟩
theorem aeh(a:Addr)(n k:Nat)(hk:0<k):a.add (n+k)=⟨(a.add n).block,(a.add n).off+k,none⟩:=by
 unfold Addr.add;rw[if_neg (by omega)]
 by_cases h:n=0
 ·rw[if_pos h,h];simp
 ·rw[if_neg h];simp[Nat.add_assoc]
theorem aei:(prog.info? 35).map (fun i=>(i.zero,i.size,i.bytes))=some (some (.agg #[.string ⟨#[]⟩,.string ⟨#[]⟩]),2,32):=by kernel_rfl
theorem WI(l:List Nd):∀(i:Nat) (hi:i<l.length) (k:Nat) (u:Value),(kF l[i])[k]?=some u->(l.flatMap kF)[i*2+k]?=some u:=by
 induction l with
 |nil=>intro i hi;simp at hi
 |cons t l ih=>
  intro i hi k u h;rw[List.flatMap_cons];have hl:(kF t).length=2:=rfl
  cases i with
  |zero=>
   simp only[List.getElem_cons_zero]at h;have hk:=(List.getElem?_eq_some_iff.1 h).1;rw[Nat.zero_mul,Nat.zero_add,List.getElem?_append_left hk];exact h
  |succ i=>
   simp only[List.getElem_cons_succ]at h;rw[List.getElem?_append_right (by rw[hl];omega),hl,show(i+1)*2+k-2=i*2+k by omega];exact ih i (by simpa using hi) k u h
def uH(c:UInt8):Bool:=decide (97<=c.toNat/\c.toNat<=122)
def wo(c:UInt8):Bool:=uH c || aY c || decide (c.toNat=45) || decide (c.toNat=95)
def Ov(s:ByteArray):Prop:=1<=s.size/\s.size<=30/\(∀h:0<s.size,uH s[0]=true)/\∀j,(hj:j<s.size)->1<=j->wo s[j]=true
open Classical in
noncomputable def nameB(s:ByteArray):Bool:=decide (Ov s)
theorem WJ(h:Ov s):nameB s=true:=by simp[nameB,h]
theorem wu(h:¬Ov s):nameB s=false:=by simp[nameB,h]
theorem FC(c:UInt8)(w:World):Calls prog 35 #[.int .u8 (c.toNat:Int)] w fun e w'=>e=.returned (.bool (uH c))/\w'=w:=by
 go_enter func35,ntmps35;go_wp2
 all_goals go_ret
 all_goals (refine⟨bu ?_,rfl⟩;rw[Bool.eq_iff_iff];simp_all [uH]<;>omega)
theorem Jq(c:UInt8)(w:World):Calls prog 36 #[.int .u8 (c.toNat:Int)] w fun e w'=>e=.returned (.bool (wo c))/\w'=w:=by
 go_enter func36,ntmps36;go_wp2_with (go_at_call 35;refine(FC _ _).mono ?_;rintro e w' ⟨rfl,rfl⟩)
 all_goals go_ret
 all_goals (refine⟨bu ?_,rfl⟩;rw[Bool.eq_iff_iff];simp_all [wo,aY]<;>omega)
theorem zF(c:UInt8)(w:World):Calls prog 46 #[.int .u8 (c.toNat:Int)] w fun e w'=>e=.returned (.bool (uH c))/\w'=w:=by
 go_enter func46,ntmps46;go_wp2
 all_goals go_ret
 all_goals (refine⟨bu ?_,rfl⟩;rw[Bool.eq_iff_iff];simp_all [uH]<;>omega)
theorem name_any(s:ByteArray)(w:World)(hs:s.size<2 ^ 62) :
  Calls prog 23 #[.string s] w fun e w'=>e=.returned (.bool (nameB s))/\w'=w:=by
 obtain⟨R,hR⟩:∃R,R=nameB s:=⟨_,rfl⟩;have HR:=ae hR;rw[<-hR];clear hR
 by_cases h0:s.size=0
 ·have HN:=ae (HR.o.trans (wu fun h=>absurd h.1 (by omega)));go_enter func23,ntmps23;go_wp2;go_ret;exact⟨bu HN.o.symm,rfl⟩
 by_cases h30:30<s.size
 ·have HN:=ae (HR.o.trans (wu fun h=>absurd h.2.1 (by omega)));have h1:¬s.size<1:=by omega
  go_enter func23,ntmps23;go_wp2;go_ret;exact⟨bu HN.o.symm,rfl⟩
 have hpos:0<s.size:=by omega
 have g1:((s.size:Int) == 0)=false:=by rw[beq_eq_false_iff_ne];omega
 have g2:decide (30<(s.size:Int))=false:=by rw[decide_eq_false_iff_not];omega
 have g3:decide ((s.size:Int)<1)=false:=by rw[decide_eq_false_iff_not];omega
 cases hl:uH s[0] with
 |false=>
  have HN:=ae (HR.o.trans (wu fun h=>by have:=h.2.2.1 hpos;rw[hl]at this;cases this));go_enter func23,ntmps23;go_wp2_with (first|(go_at_call 35;refine(FC _ _).mono ?_;rintro e w' ⟨rfl,rfl⟩)|(go_at_call 36;refine(Jq _ _).mono ?_;rintro e w' ⟨rfl,rfl⟩));go_ret;exact⟨bu HN.o.symm,rfl⟩
 |true=>
  go_enter func23,ntmps23;go_wp2_with (first|(go_at_call 35;refine(FC _ _).mono ?_;rintro e w' ⟨rfl,rfl⟩)|(go_at_call 36;refine(Jq _ _).mono ?_;rintro e w' ⟨rfl,rfl⟩))
  go_loop [3] (fun i=>∃k:Nat,1<=k/\k<=s.size/\i=.int .i64 k/\∀j,(hj:j<s.size)->j<k->1<=j->wo s[j]=true) (fun i=>s.size-(intOf i).toNat)
  case atStart=>exact⟨1,Nat.le_refl _,by omega,rfl,fun j hj h h'=>absurd h (by omega)⟩
  case round=>
   obtain⟨k,hk1,hk,rfl,hp⟩:=hrel;have HP:=ae hp;clear hp;clear g1 g2 g3
   by_cases hlt:k<s.size
   ·cases hd:wo s[k] with
    |true=>
     go_wp2_with (first|(go_at_call 35;refine(FC _ _).mono ?_;rintro e w' ⟨rfl,rfl⟩)|(go_at_call 36;refine(Jq _ _).mono ?_;rintro e w' ⟨rfl,rfl⟩))
     all_goals go_round
     case rel=>
      refine⟨k+1,by omega,by omega,by go_num,fun j hj hjk hj1=>?_⟩
      by_cases hjk':j<k
      ·exact HP.o j hj hjk' hj1
      ·have e:j=k:=by omega
       subst e;exact hd
     case measure=>simp[intOf];omega
    |false=>
     have HN:=ae (HR.o.trans (wu fun h=>by have:=h.2.2.2 k hlt hk1;rw[hd]at this;cases this));go_wp2_with (first|(go_at_call 35;refine(FC _ _).mono ?_;rintro e w' ⟨rfl,rfl⟩)|(go_at_call 36;refine(Jq _ _).mono ?_;rintro e w' ⟨rfl,rfl⟩));go_ret;exact⟨bu HN.o.symm,rfl⟩
   ·have HN:=ae (HR.o.trans (WJ ⟨by omega,by omega,fun _=>hl,fun j hj h=>HP.o j hj (by omega) h⟩));clear hk;go_wp2;go_ret;exact⟨bu HN.o.symm,rfl⟩
theorem WL(s:ByteArray)(w:World)(hs:s.size<2 ^ 62) :
  Calls prog 29 #[.string s] w fun e w'=>e=.returned (.bool (nameB s))/\w'=w:=by
 obtain⟨R,hR⟩:∃R,R=nameB s:=⟨_,rfl⟩;have HR:=ae hR;rw[<-hR];clear hR
 by_cases h0:s.size=0
 ·have HN:=ae (HR.o.trans (wu fun h=>absurd h.1 (by omega)));go_enter func29,ntmps29;go_wp2;go_ret;exact⟨bu HN.o.symm,rfl⟩
 by_cases h30:30<s.size
 ·have HN:=ae (HR.o.trans (wu fun h=>absurd h.2.1 (by omega)));have h1:¬s.size<1:=by omega
  go_enter func29,ntmps29;go_wp2;go_ret;exact⟨bu HN.o.symm,rfl⟩
 have hpos:0<s.size:=by omega
 have g1:((s.size:Int) == 0)=false:=by rw[beq_eq_false_iff_ne];omega
 have g2:decide (30<(s.size:Int))=false:=by rw[decide_eq_false_iff_not];omega
 have g3:decide ((s.size:Int)<1)=false:=by rw[decide_eq_false_iff_not];omega
 cases hl:uH s[0] with
 |false=>
  have HN:=ae (HR.o.trans (wu fun h=>by have:=h.2.2.1 hpos;rw[hl]at this;cases this));go_enter func29,ntmps29;go_wp2_with (first|(go_at_call 46;refine(zF _ _).mono ?_;rintro e w' ⟨rfl,rfl⟩)|(go_at_call 47;refine(pK _ _).mono ?_;rintro e w' ⟨rfl,rfl⟩));go_ret;exact⟨bu HN.o.symm,rfl⟩
 |true=>
  go_enter func29,ntmps29;go_wp2_with (first|(go_at_call 46;refine(zF _ _).mono ?_;rintro e w' ⟨rfl,rfl⟩)|(go_at_call 47;refine(pK _ _).mono ?_;rintro e w' ⟨rfl,rfl⟩))
  go_loop [3] (fun i=>∃k:Nat,1<=k/\k<=s.size/\i=.int .i64 k/\∀j,(hj:j<s.size)->j<k->1<=j->wo s[j]=true) (fun i=>s.size-(intOf i).toNat)
  case atStart=>exact⟨1,Nat.le_refl _,by omega,rfl,fun j hj h h'=>absurd h (by omega)⟩
  case round=>
   obtain⟨k,hk1,hk,rfl,hp⟩:=hrel;have HP:=ae hp;clear hp;clear g1 g2 g3
   by_cases hlt:k<s.size
   ·cases hd:wo s[k] with
    |true=>
     rcases Bool.eq_false_or_eq_true (uH s[k]) with a1|a1
     ·go_wp2_with (first|(go_at_call 46;refine(zF _ _).mono ?_;rintro e w' ⟨rfl,rfl⟩)|(go_at_call 47;refine(pK _ _).mono ?_;rintro e w' ⟨rfl,rfl⟩))
      go_round
      case rel=>
       refine⟨k+1,by omega,by omega,by go_num,fun j hj hjk hj1=>?_⟩
       by_cases hjk':j<k
       ·exact HP.o j hj hjk' hj1
       ·have e:j=k:=by omega
        subst e;exact hd
      case measure=>simp[intOf];omega
     rcases Bool.eq_false_or_eq_true (aY s[k]) with a2|a2
     ·go_wp2_with (first|(go_at_call 46;refine(zF _ _).mono ?_;rintro e w' ⟨rfl,rfl⟩)|(go_at_call 47;refine(pK _ _).mono ?_;rintro e w' ⟨rfl,rfl⟩))
      go_round
      case rel=>
       refine⟨k+1,by omega,by omega,by go_num,fun j hj hjk hj1=>?_⟩
       by_cases hjk':j<k
       ·exact HP.o j hj hjk' hj1
       ·have e:j=k:=by omega
        subst e;exact hd
      case measure=>simp[intOf];omega
     by_cases a3:s[k].toNat=45
     ·have b3:((s[k].toNat:Int) != 45)=false:=by rw[a3];rfl
      have b5:((s[k].toNat:Int) != 95)=true:=by rw[a3];rfl
      clear a3;go_wp2_with (first|(go_at_call 46;refine(zF _ _).mono ?_;rintro e w' ⟨rfl,rfl⟩)|(go_at_call 47;refine(pK _ _).mono ?_;rintro e w' ⟨rfl,rfl⟩))
      go_round
      case rel=>
       refine⟨k+1,by omega,by omega,by go_num,fun j hj hjk hj1=>?_⟩
       by_cases hjk':j<k
       ·exact HP.o j hj hjk' hj1
       ·have e:j=k:=by omega
        subst e;exact hd
      case measure=>simp[intOf];omega
     ·have b3:((s[k].toNat:Int) != 45)=true:=by rw[bne_iff_ne];omega
      have b4:((s[k].toNat:Int) != 95)=false:=by unfold wo at hd;simp[a1,a2,a3]at hd;rw[hd];rfl
      clear a3;go_wp2_with (first|(go_at_call 46;refine(zF _ _).mono ?_;rintro e w' ⟨rfl,rfl⟩)|(go_at_call 47;refine(pK _ _).mono ?_;rintro e w' ⟨rfl,rfl⟩))
      go_round
      case rel=>
       refine⟨k+1,by omega,by omega,by go_num,fun j hj hjk hj1=>?_⟩
       by_cases hjk':j<k
       ·exact HP.o j hj hjk' hj1
       ·have e:j=k:=by omega
        subst e;exact hd
      case measure=>simp[intOf];omega
    |false=>
     have HN:=ae (HR.o.trans (wu fun h=>by have:=h.2.2.2 k hlt hk1;rw[hd]at this;cases this));obtain⟨a1,a2,a3,a4⟩:uH s[k]=false/\aY s[k]=false/\¬s[k].toNat=45/\¬s[k].toNat=95:=by
      unfold wo at hd;simpa [and_assoc] using hd
     have b3:((s[k].toNat:Int) != 45)=true:=by rw[bne_iff_ne];omega
     have b4:((s[k].toNat:Int) != 95)=true:=by rw[bne_iff_ne];omega
     clear a3 a4;go_wp2_with (first|(go_at_call 46;refine(zF _ _).mono ?_;rintro e w' ⟨rfl,rfl⟩)|(go_at_call 47;refine(pK _ _).mono ?_;rintro e w' ⟨rfl,rfl⟩));go_ret;exact⟨bu HN.o.symm,rfl⟩
   ·have HN:=ae (HR.o.trans (WJ ⟨by omega,by omega,fun _=>hl,fun j hj h=>HP.o j hj (by omega) h⟩));clear hk;go_wp2;go_ret;exact⟨bu HN.o.symm,rfl⟩
end Go.Proofs.YtbcfhgpfgdbjgaaGreatDoor
