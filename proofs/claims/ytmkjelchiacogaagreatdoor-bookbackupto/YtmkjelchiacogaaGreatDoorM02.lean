import Derived.Test.YtmkjelchiacogaaGreatDoorProg
import Derived.Test.YtmkjelchiacogaaGreatDoorM01
import Derived.WalkKit
import Derived.WalkSpells
import Derived.WalkLawsBesides
import Derived.Deep.QuietTactic
import Derived.BigQuiet
import Derived.Lib.SmallJoins
import Derived.Deep.RegionWith
import Derived.Shelf.Small.Strs
set_option linter.unusedVariables false
set_option linter.unusedSimpArgs false
set_option maxRecDepth 100000
set_option maxHeartbeats 6400000
open Go.Proofs.Tryz
namespace Go.Proofs.YtmkjelchiacogaaGreatDoor
open Go.RowKit
theorem zN{α:Sort _}(a:α):∃z,a=z:=⟨a,rfl⟩
theorem bz{α:Type _}{xs:Array α}{i:Nat}{v:α}(h:xs[i]?=some v):i<xs.size:=(Array.getElem?_eq_some_iff.1 h).1
theorem ae{w:World}{b:Nat}{cs:Array Value}{T:TypeId}{fr:Nat×Nat}(hb:w.heap[b]?=some (.cells cs T fr))(j:Nat):w.cell? ⟨b,j,none⟩=cs[j]?:=by simp[World.cell?,hb]
def Hd(p:Prop):Prop:=p
theorem Hd.o{p:Prop}(h:Hd p):p:=h
theorem eX{k:IntKind}{a b:Int}(h:a=b):Ending.returned (.int k a)=.returned (.int k b):=by rw[h]
theorem bn{a b:Bool}(h:a=b):Ending.returned (.bool a)=.returned (.bool b):=by rw[h]
theorem xJ(c:UInt8)(w:World):Calls prog 237 #[.int .u8 (c.toNat:Int)] w fun e w'=>e=.returned (.bool (aC c))/\w'=w:=by
 go_enter func237,ntmps237;go_wp2
 all_goals go_ret
 all_goals (refine⟨bn ?_,rfl⟩;rw[Bool.eq_iff_iff];unfold aC;simp;omega)
theorem ai(w:World)(r:Option Nat):w.grownBy w r:=⟨rfl,rfl,rfl,Nat.le_refl _,fun _ _ _=>rfl⟩
theorem au{w w':World}{r:Option Nat}(h:w.grownBy w' r)(n:Nat):w.grownBy (w'.drewN n) r:=⟨h.os,h.tape,h.output,h.size,h.block⟩
theorem dD{w w':World}{b:Nat}(h:w.grownBy w' (some b))(o:Nat)(v:Value):w.grownBy (w'.setCell ⟨b,o,none⟩ v) (some b):=by
 refine⟨h.os,h.tape,h.output,by simpa [World.setCell] using h.size,fun k hk hne=>?_⟩;rw[<-h.block k hk hne];exact heap_setCell_other w' _ k v (fun e=>hne (by rw[e]))
theorem af{w w1 w2:World}{r:Option Nat}(h:w.grownBy w1 r)(h':w1.grownBy w2 r):w.grownBy w2 r :=
 ⟨h'.os.trans h.os,h'.tape.trans h.tape,h'.output.trans h.output,Nat.le_trans h.size h'.size,fun k hk hne=>(h'.block k (Nat.lt_of_lt_of_le hk h.size) hne).trans (h.block k hk hne)⟩
theorem jY(s:ByteArray)(i:Nat)(h:i<s.size):s.data.toList[i]?=some s[i]:=by rw[List.getElem?_eq_getElem (by simpa using h)];rfl
theorem qF(s:ByteArray)(i j:Nat)(hi:i<=j)(hj:j<=s.size)(w:World) :
  (Instr.slice 9 (.string s) (some (.int .i64 (i:Int))) (some (.int .i64 (j:Int))) none).run prog w=.ok (.string ⟨(ah s.data.toList i (j-i)).toArray⟩) w:=by
 have h1:(0:Int)<=(i:Int):=by omega
 have h4:(i:Int)<=(j:Int):=by omega
 have h5:(j:Int)<=(s.size:Int):=by omega
 have e:s.extract i j=⟨(ah s.data.toList i (j-i)).toArray⟩:=by
  apply ByteArray.ext;rw[ByteArray.data_extract];apply Array.ext';unfold ah;simp
 rw[<-e];simp[go_sem,underlying9,h1,h4,h5]
open Go.RowKit Go.Joins
theorem Zm(c:Int)(w:World):Calls prog 116 #[.int .i64 c] w fun e w'=>e=.returned (.bool (je c))/\w'=w:=by
 go_enter func116,ntmps116;go_wp2
 all_goals go_ret
 all_goals (refine⟨bn ?_,rfl⟩;rw[Bool.eq_iff_iff];unfold je;simp;try omega)
theorem Fj(c:Int)(w:World):Calls prog 120 #[.int .i64 c] w fun e w'=>e=.returned (.bool (ay c))/\w'=w:=by
 go_enter func120,ntmps120;go_wp2
 all_goals go_ret
 all_goals (refine⟨bn ?_,rfl⟩;rw[Bool.eq_iff_iff];unfold ay;simp;try omega)
theorem P5(c:Int)(w:World):Calls prog 119 #[.int .i64 c] w fun e w'=>e=.returned (.bool (dh c))/\w'=w:=by
 go_enter func119,ntmps119;go_wp2
 all_goals go_ret
 all_goals (refine⟨bn ?_,rfl⟩;rw[Bool.eq_iff_iff];unfold dh;simp;try omega)
theorem aI{w w1 w2:World}{r:Option Nat}(h:w.grownBy w1 r)(hg:w1.grownBy w2 none):w.grownBy w2 r :=
 ⟨hg.os.trans h.os,hg.tape.trans h.tape,hg.output.trans h.output,Nat.le_trans h.size hg.size,fun k hk hn=>(hg.block k (Nat.lt_of_lt_of_le hk h.size) (by simp)).trans (h.block k hk hn)⟩
def Rd(w:World)(R:Nat)(s:ByteArray)(i:Nat)(T:Nat):Prop:=w.heap[R]?=some (.cells #[.string s,.int .i64 (i:Nat),.pointer (some ⟨T,0,none⟩)] 99 (0,0))
theorem Rd.grow{w w':World}{R:Nat}{s:ByteArray}{i T:Nat}(h:Rd w R s i T)(hg:w.grownBy w' none):Rd w' R s i T:=(hg.block R (Array.getElem?_eq_some_iff.1 h).1 (by simp)).trans h
theorem Rd.cells{w:World}{R:Nat}{s:ByteArray}{i T:Nat}(h:Rd w R s i T):w.cell? ⟨R,0,none⟩=some (.string s)/\w.cell? ⟨R,1,none⟩=some (.int .i64 (i:Nat))/\w.cell? ⟨R,2,none⟩=some (.pointer (some ⟨T,0,none⟩))/\∀k,w.frozen? ⟨R,k,none⟩=false :=
 ⟨by rw[Lib.cell_of_heap h];rfl,by rw[Lib.cell_of_heap h];rfl,by rw[Lib.cell_of_heap h];rfl,fun k=>Lib.frozen_of_heap h k⟩
theorem Rd.set{w:World}{R:Nat}{s:ByteArray}{i T:Nat}(h:Rd w R s i T)(j:Nat):Rd (w.setCell ⟨R,1,none⟩ (.int .i64 (j:Nat))) R s j T:=by
 have:=block_setCell (i:=1) h (.int .i64 (j:Nat));exact this
theorem mr(R:Nat)(s:ByteArray)(i T:Nat)(w:World)(h:Rd w R s i T)(hi:i<=s.size)(hs:s.size<=1048576) :
  Calls prog 74 #[.pointer (some ⟨R,0,none⟩)] w fun e w'=>e=.returned (.int .i64 (nx s.data.toList i))/\w.grownBy w' none:=by
 obtain⟨c0,c1,-,-⟩:=h.cells;have hl:s.data.toList.length=s.size:=by simp
 by_cases he:i=s.size
 ·have hn:nx s.data.toList i=-1:=oq _ _ (by omega);rw[hn];have hee:((i:Int) == (s.size:Int))=true:=by simp[he]
  clear h hn he;go_enter func74,ntmps74;go_wp2;go_quiet (fail);go_wp2;go_ret;exact⟨rfl,au (ai w none) _⟩
 ·have hlt:i<s.size:=by omega
  have hn:nx s.data.toList i=(s[i].toNat:Int):=by
   rw[ug _ _ (by omega)];rfl
  rw[hn];have hne:((i:Int) == (s.size:Int))=false:=by rw[beq_eq_false_iff_ne];omega
  clear h hn he;go_enter func74,ntmps74;go_wp2;go_quiet (fail);go_wp2;go_quiet (fail);go_wp2;go_ret;refine⟨eX ?_,⟨rfl,rfl,rfl,Nat.le_refl _,fun _ _ _=>rfl⟩⟩;have:=s[i].toNat_lt;show wrap64 (s[i].toNat:Int)=_;unfold wrap64;omega
theorem Fp(R:Nat)(s:ByteArray)(i T:Nat)(w:World)(h:Rd w R s i T)(hi:i<=s.size)(hs:s.size<=1048576) :
  Calls prog 73 #[.pointer (some ⟨R,0,none⟩)] w fun e w'=>e=.returned (.tuple #[])/\Rd w' R s (bl s.data.toList i) T/\w.grownBy w' (some R):=by
 have CN:Hd (∀k w,Rd w R s k T->k<=s.size->Calls prog 74 #[.pointer (some ⟨R,0,none⟩)] w fun e w'=>e=.returned (.int .i64 (nx s.data.toList k))/\w.grownBy w' none):=fun k w h1 h2=>mr R s k T w h1 h2 hs
 have CB:Hd (∀c w,Calls prog 116 #[.int .i64 c] w fun e w'=>e=.returned (.bool (je c))/\w'=w):=Zm;have hl:s.data.toList.length=s.size:=by simp
 have HST:Hd (∀k,k<s.size->je (nx s.data.toList k)=true->bl s.data.toList k=bl s.data.toList (k+1)):=fun k hk hb=>AV je _ k (by omega) hb
 have rY:Hd (∀k,je (nx s.data.toList k)=false->bl s.data.toList k=k):=fun k hb=>xB je _ k hb
 have dE:Hd (∀k,k<=s.size->je (nx s.data.toList k)=true->k<s.size):=fun k hk hb=>by
  apply Classical.byContradiction;intro hn;rw[oq _ _ (by omega)]at hb;exact absurd hb (by decide)
 obtain⟨J,hJ⟩:∃J,bl s.data.toList i=J:=⟨_,rfl⟩;have HJ:Hd (bl s.data.toList i=J):=hJ;have H0:Hd (Rd w R s i T):=h;rw[hJ];clear h hJ;go_enter func73,ntmps73;go_wp2;go_loopw [] (fun wr=>∃k:Nat,Rd wr R s k T/\k<=s.size/\bl s.data.toList k=J/\w.grownBy wr (some R)) (fun wr=>s.size-(match wr.cell? ⟨R,1,none⟩ with|some (.int _ k)=>k.toNat|_=>0))
 case atStart=>exact⟨i,H0.o,hi,HJ.o,ai _ _⟩
 case round =>
  obtain⟨k,hrd,hk,hbl,hg⟩:=hrel;have bH:Hd (Rd wr R s k T):=hrd;have fP:Hd (bl s.data.toList k=J):=hbl;have HG:Hd (w.grownBy wr (some R)):=hg;have C1:Hd (Calls prog 74 #[.pointer (some ⟨R,0,none⟩)] wr fun e w'=>e=.returned (.int .i64 (nx s.data.toList k))/\wr.grownBy w' none):=CN.o k wr hrd hk;have hme:(match wr.cell? ⟨R,1,none⟩ with|some (.int _ k)=>k.toNat|_=>0)=k:=by rw[hrd.cells.2.1];simp
  have jB:Hd ((match wr.cell? ⟨R,1,none⟩ with|some (.int _ k)=>k.toNat|_=>0)=k):=hme;have eP:Hd (je (nx s.data.toList k)=true->bl s.data.toList k=bl s.data.toList (k+1)):=fun hb=>HST.o k (dE.o k hk hb) hb
  have HS2:Hd (je (nx s.data.toList k)=false->bl s.data.toList k=k):=rY.o k;have HL2:Hd (je (nx s.data.toList k)=true->k<s.size):=dE.o k hk;obtain⟨c,hc⟩:∃c,nx s.data.toList k=c:=⟨_,rfl⟩;rw[hc]at C1 eP HS2 HL2;have fC:Hd (∀w,Calls prog 116 #[.int .i64 c] w fun e w'=>e=.returned (.bool (je c))/\w'=w):=fun w=>CB.o c w
  obtain⟨b,hb⟩:∃b,je c=b:=⟨_,rfl⟩;rw[hb]at fC eP HS2 HL2;clear hrd hbl hg hme hc hb
  cases b with
  | false =>
   have uj:Hd (k=J):=(HS2.o (by trivial)).symm.trans fP.o;go_wp2_with (first|(go_at_call 74;refine C1.o.mono ?_;rintro e w2 ⟨rfl,hg2⟩)|(go_at_call 116;refine(fC.o _).mono ?_;rintro e w' ⟨rfl,rfl⟩));refine bodyPost_end (results_none rfl _ _ _) rfl ⟨rfl,?_,aI HG.o hg2⟩;rw[<-uj.o];exact bH.o.grow hg2
  | true =>
   have hkl:k<s.size:=HL2.o (by trivial);have HN:Hd (bl s.data.toList (k+1)=J):=(eP.o (by trivial)).symm.trans fP.o;go_wp2_with (first|(go_at_call 74;refine C1.o.mono ?_;rintro e w2 ⟨rfl,hg2⟩;obtain⟨-,d1,-,df⟩:=(bH.o.grow hg2).cells;have df1:=df 1)|(go_at_call 116;refine(fC.o _).mono ?_;rintro e w' ⟨rfl,rfl⟩));have fQ:Hd (Rd (w'.setCell ⟨R,1,none⟩ (.int .i64 ((k:Int)+1))) R s (k+1) T):=(bH.o.grow hg2).set (k+1);refine⟨⟨k+1,fQ.o,by omega,HN.o,dD (aI HG.o hg2) 1 _⟩,?_⟩;rw[jB.o,fQ.o.cells.2.1];simp;omega
open Go.RowKit Go.Joins
theorem P6(c:Int)(w:World):Calls prog 170 #[.int .i64 c] w fun e w'=>e=.returned (.bool (nG c))/\w'=w:=by
 go_enter func170,ntmps170;go_wp2
 all_goals go_ret
 all_goals (refine⟨bn ?_,rfl⟩;rw[Bool.eq_iff_iff];unfold nG;simp;try omega)
theorem P7(c:Int)(w:World):Calls prog 124 #[.int .i64 c] w fun e w'=>e=.returned (.bool (lg c))/\w'=w:=by
 have CC:Hd (∀w,Calls prog 170 #[.int .i64 c] w fun e w'=>e=.returned (.bool (nG c))/\w'=w):=fun w=>P6 c w
 have HB:Hd (lg c=(nG c && decide (c≠9))):=rfl;obtain⟨b,hb⟩:∃b,nG c=b:=⟨_,rfl⟩;rw[hb]at CC HB;clear hb
 cases b with
 | false =>
  go_enter func124,ntmps124;go_wp2_with (go_at_call 170;refine(CC.o _).mono ?_;rintro e w' ⟨rfl,rfl⟩);go_ret;refine⟨bn ?_,rfl⟩;rw[HB.o];rfl
 | true =>
  go_enter func124,ntmps124;go_wp2_with (go_at_call 170;refine(CC.o _).mono ?_;rintro e w' ⟨rfl,rfl⟩)
  all_goals go_ret
  all_goals (refine⟨bn ?_,rfl⟩;rw[HB.o,Bool.eq_iff_iff];simp;try omega)
def FaultV(w:World)(v:Value)(p:Nat)(ty:TypeId)(pv:Value):Prop:=∃F,v=.iface 104 (.pointer (some ⟨F,0,none⟩))/\w.heap[F]?=some (.cells #[.int .i64 (p:Nat),.iface ty pv] 108 (0,0))
theorem FaultV.grow{w w':World}{v:Value}{p:Nat}{ty:TypeId}{pv:Value}(h:FaultV w v p ty pv)(hg:w.grownBy w' none):FaultV w' v p ty pv:=by
 obtain⟨F,h1,h2⟩:=h;exact⟨F,h1,(hg.block F (Array.getElem?_eq_some_iff.1 h2).1 (by simp)).trans h2⟩
theorem rZ(p:Nat)(ty:TypeId)(pv:Value)(w:World):Calls prog 165 #[.iface ty pv,.int .i64 (p:Nat)] w fun e w'=>(∃v,e=.returned v/\FaultV w' v p ty pv)/\w.grownBy w' none:=by
 have hn:=heap_alloc_new w (.cells #[.int .i64 (p:Nat),.iface ty pv] 108);have hg:w.grownBy (w.alloc (.cells #[.int .i64 (p:Nat),.iface ty pv] 108)) none:=World.grownBy_alloc w _ none;have HN:Hd ((w.alloc (.cells #[.int .i64 (p:Nat),.iface ty pv] 108)).heap[w.heap.size]?=some (.cells #[.int .i64 (p:Nat),.iface ty pv] 108 (0,0))):=hn;have HG:Hd (w.grownBy (w.alloc (.cells #[.int .i64 (p:Nat),.iface ty pv] 108)) none):=hg;clear hn hg;go_enter func165,ntmps165;go_wp2;go_ret;exact⟨⟨_,rfl,_,rfl,HN.o⟩,HG.o⟩
def Fq(w:World)(ty:TypeId)(pv:Value):Prop:=w.cell? ⟨5,0,none⟩=some (.iface ty pv)
theorem uU(R:Nat)(s:ByteArray)(i T:Nat)(ty:TypeId)(pv:Value)(w:World)(h:Rd w R s i T)(he:Fq w ty pv) :
  Calls prog 125 #[.pointer (some ⟨R,0,none⟩)] w fun e w'=>(∃v,e=.returned v/\FaultV w' v i ty pv)/\w.grownBy w' none:=by
 have CW:Hd (∀w,Calls prog 165 #[.iface ty pv,.int .i64 (i:Nat)] w fun e w'=>(∃v,e=.returned v/\FaultV w' v i ty pv)/\w.grownBy w' none):=fun w=>rZ i ty pv w
 obtain⟨-,c1,-,-⟩:=h.cells;have c0:w.cell? ⟨5,0,none⟩=some (.iface ty pv):=he;clear h he;go_enter func125,ntmps125;go_wp2;go_region_with (first|(go_at_call 165;refine(CW.o _).mono ?_;rintro e w2 ⟨⟨v,rfl,hv⟩,hg2⟩))
 all_goals (
  go_wp2;go_ret;exact⟨⟨v,rfl,hv⟩,af (show w.grownBy w.drew none from⟨rfl,rfl,rfl,Nat.le_refl _,fun _ _ _=>rfl⟩) hg2⟩)
theorem Jf(R:Nat)(s:ByteArray)(i T:Nat)(c:Int)(ty:TypeId)(pv:Value)(w:World)(h:Rd w R s i T)(hi:i<=s.size)(hs:s.size<=1048576)(hc:0<=c)(he:Fq w ty pv) :
  Calls prog 79 #[.pointer (some ⟨R,0,none⟩),.int .i64 c] w fun e w'=>(nx s.data.toList i=c->e=.returned .nilIface/\Rd w' R s (i+1) T)/\(¬nx s.data.toList i=c->(∃v,e=.returned v/\FaultV w' v i ty pv)/\Rd w' R s i T)/\w.grownBy w' (some R):=by
 have CN:Hd (Calls prog 74 #[.pointer (some ⟨R,0,none⟩)] w fun e w'=>e=.returned (.int .i64 (nx s.data.toList i))/\w.grownBy w' none):=mr R s i T w h hi hs;have CH:Hd (∀w',w.grownBy w' none->Calls prog 125 #[.pointer (some ⟨R,0,none⟩)] w' fun e w''=>(∃v,e=.returned v/\FaultV w'' v i ty pv)/\w'.grownBy w'' none):=fun w' hg=>uU R s i T ty pv w' (h.grow hg) (hg.cell he (by simp))
 have bH:Hd (Rd w R s i T):=h;obtain⟨x,hx⟩:∃x,nx s.data.toList i=x:=⟨_,rfl⟩;rw[hx]at CN ⊢;clear h he hx;go_enter func79,ntmps79;go_wp2_with (go_at_call 74;refine CN.o.mono ?_);rintro e w2 ⟨rfl,hg2⟩;have HG2:Hd (w.grownBy w2 none):=hg2;obtain⟨-,d1,-,df⟩:=(bH.o.grow hg2).cells;have df1:=df 1;clear df hg2
 by_cases hxc:x=c
 ·have Jg:Hd (x=c):=hxc;have HS:Hd (Rd (w2.setCell ⟨R,1,none⟩ (.int .i64 ((i:Int)+1))) R s (i+1) T):=(bH.o.grow HG2.o).set (i+1);have hb:(x != c)=false:=by simp[hxc]
  clear hxc;go_wp2;refine bodyPost_ret (results_tmp (t:=4) rfl _ _ _) rfl ⟨fun _=>⟨rfl,HS.o⟩,fun hn=>absurd Jg.o hn,dD (aI (ai w (some R)) HG2.o) 1 _⟩
 ·have hb:(x != c)=true:=by simp[hxc]
  have Jg:Hd (¬x=c):=hxc;clear hxc;go_wp2_with (go_at_call 125;refine(CH.o _ HG2.o).mono ?_;rintro e w3 ⟨⟨v,rfl,hv⟩,hg3⟩);refine bodyPost_ret (results_tmp (t:=4) rfl _ _ _) rfl ⟨fun hh=>absurd hh Jg.o,fun _=>⟨⟨v,rfl,hv⟩,(bH.o.grow HG2.o).grow hg3⟩,aI (aI (ai w (some R)) HG2.o) hg3⟩
open Go.RowKit Go.Joins
theorem Zn(p:Int->Bool)(l:List UInt8)(i:Nat)(h:l.length<=i):toR p l i=i:=by
 unfold toR runN;rw[List.drop_eq_nil_of_le h];simp
theorem P8{l:List UInt8}{i:Nat}(h:nx l i=-1):l.length<=i:=by
 apply Classical.byContradiction;intro hn;rw[ug l i (by omega)]at h;omega
def uV(R:Nat)(s:ByteArray)(T:Nat)(ty:TypeId)(pv:Value)(r:Bool × Nat)(w:World)(e:Ending)(w':World):Prop:=(r.1=true->e=.returned .nilIface)/\(r.1=false->∃v,e=.returned v/\FaultV w' v r.2 ty pv)/\Rd w' R s r.2 T/\w.grownBy w' (some R)
theorem P9(R:Nat)(s:ByteArray)(i T:Nat)(ty:TypeId)(pv:Value)(w:World)(h:Rd w R s i T)(hi:i<=s.size)(hs:s.size<=1048576)(he:Fq w ty pv)(hR:¬R=5) :
  Calls prog 78 #[.pointer (some ⟨R,0,none⟩)] w (uV R s T ty pv (bi s.data.toList i) w):=by
 have CN:Hd (∀k w,Rd w R s k T->k<=s.size->Calls prog 74 #[.pointer (some ⟨R,0,none⟩)] w fun e w'=>e=.returned (.int .i64 (nx s.data.toList k))/\w.grownBy w' none):=fun k w h1 h2=>mr R s k T w h1 h2 hs
 have CB:Hd (∀c w,Calls prog 124 #[.int .i64 c] w fun e w'=>e=.returned (.bool (lg c))/\w'=w):=P7;have CH:Hd (∀k w',w.grownBy w' (some R)->Rd w' R s k T->Calls prog 125 #[.pointer (some ⟨R,0,none⟩)] w' fun e w''=>(∃v,e=.returned v/\FaultV w'' v k ty pv)/\w'.grownBy w'' none):=fun k w' hg hr=>uU R s k T ty pv w' hr (hg.cell he (by simp;exact fun e=>hR e.symm))
 have hl:s.data.toList.length=s.size:=by simp
 have uX:Hd (¬nx s.data.toList i=35->bi s.data.toList i=(true,i)):=E5 _ i;have mD:Hd (nx s.data.toList i=35->bi s.data.toList i=if nx s.data.toList (toR fO s.data.toList i)=10\/nx s.data.toList (toR fO s.data.toList i)=-1 then(true,toR fO s.data.toList i) else(false,toR fO s.data.toList i)):=fun h=>by
  show _=_;unfold bi;rw[if_pos h]
 have HST:Hd (∀k,k<s.size->fO (nx s.data.toList k)=true->toR fO s.data.toList k=toR fO s.data.toList (k+1)):=fun k hk hb=>AV fO _ k (by omega) hb
 have rY:Hd (∀k,fO (nx s.data.toList k)=false->toR fO s.data.toList k=k):=fun k hb=>xB fO _ k hb
 have xK:Hd (∀k,nx s.data.toList k=-1->toR fO s.data.toList k=k):=fun k hb=>Zn fO _ k (P8 hb)
 have dE:Hd (∀k,k<=s.size->¬nx s.data.toList k=-1->k<s.size):=fun k hk hn=>by
  apply Classical.byContradiction;intro hh;exact hn (oq _ _ (by omega))
 have bH:Hd (Rd w R s i T):=h;have C1:Hd (Calls prog 74 #[.pointer (some ⟨R,0,none⟩)] w fun e w'=>e=.returned (.int .i64 (nx s.data.toList i))/\w.grownBy w' none):=CN.o i w h hi;obtain⟨r,hr⟩:∃r,bi s.data.toList i=r:=⟨_,rfl⟩;rw[hr]at uX mD ⊢;obtain⟨x,hx⟩:∃x,nx s.data.toList i=x:=⟨_,rfl⟩;rw[hx]at C1 uX mD;obtain⟨J,hJ⟩:∃J,toR fO s.data.toList i=J:=⟨_,rfl⟩;have HJ:Hd (toR fO s.data.toList i=J):=hJ;rw[hJ]at mD;clear h he hr hx hJ;go_enter func78,ntmps78;go_wp2_with (go_at_call 74;refine C1.o.mono ?_);rintro e w1 ⟨rfl,hg1⟩;have aB:Hd (w.grownBy w1 (some R)):=aI (ai w (some R)) hg1;have HR1:Hd (Rd w1 R s i T):=bH.o.grow hg1;clear hg1
 by_cases hx:x=35
 ·have hb:(x != 35)=false:=by simp[hx]
  have HC:Hd (r=if nx s.data.toList J=10\/nx s.data.toList J=-1 then(true,J) else(false,J)):=mD.o hx;clear hx;go_wp2;go_loopw [] (fun wr=>∃k:Nat,Rd wr R s k T/\k<=s.size/\toR fO s.data.toList k=J/\w.grownBy wr (some R)) (fun wr=>s.size-(match wr.cell? ⟨R,1,none⟩ with|some (.int _ k)=>k.toNat|_=>0))
  case atStart=>exact⟨i,HR1.o,hi,HJ.o,aB.o⟩
  case round =>
   obtain⟨k,hrd,hk,hto,hg⟩:=hrel;have jJ:Hd (Rd wr R s k T):=hrd;have Fv:Hd (toR fO s.data.toList k=J):=hto;have jZ:Hd (w.grownBy wr (some R)):=hg;have jB:Hd ((match wr.cell? ⟨R,1,none⟩ with|some (.int _ k)=>k.toNat|_=>0)=k):=by show _=_;rw[hrd.cells.2.1];simp
   have eP:=HST.o k;have HS2:=rY.o k;have fQ:=xK.o k;have qG:=dE.o k hk;have HC2:Hd (∀w',wr.grownBy w' none->Calls prog 74 #[.pointer (some ⟨R,0,none⟩)] w' fun e w''=>e=.returned (.int .i64 (nx s.data.toList k))/\w'.grownBy w'' none):=fun w' hg'=>CN.o k w' (jJ.o.grow hg') hk
   have Fz:Hd (toR fO s.data.toList k=k->r=if nx s.data.toList k=10\/nx s.data.toList k=-1 then(true,k) else(false,k)):=fun h1=>by
    have e1:J=k:=Fv.o.symm.trans h1;have h2:=HC.o;rw[e1]at h2;exact h2
   obtain⟨c,hc⟩:∃c,nx s.data.toList k=c:=⟨_,rfl⟩;rw[hc]at eP HS2 fQ qG HC2 Fz;have H1:Hd (k<s.size->fO c=true->toR fO s.data.toList k=toR fO s.data.toList (k+1)):=eP;have H2:Hd (fO c=false->toR fO s.data.toList k=k):=HS2;have H3:Hd (c=-1->toR fO s.data.toList k=k):=fQ;have H4:Hd (¬c=-1->k<s.size):=qG;have FB:Hd (fO c=(decide (c≠10) && !lg c)):=rfl;clear hrd hto hg eP HS2 fQ qG hc
   by_cases he:c=-1
   ·have hbe:(c != -1)=false:=by simp[he]
    have HRR:Hd (r=(true,k)):=by
     show r=_;rw[Fz.o (H3.o he),if_pos (Or.inr he)]
    clear he;go_wp2_with (go_at_call 74;refine(HC2.o _ (ai _ _)).mono ?_);rintro e w2 ⟨rfl,hg2⟩;have HG2:Hd (wr.grownBy w2 none):=hg2;clear hg2;go_wp2;refine bodyPost_ret (results_tmp (t:=2) rfl _ _ _) rfl ?_;rw[HRR.o];exact⟨fun _=>rfl,fun hh=>(by cases hh),jJ.o.grow HG2.o,aI jZ.o HG2.o⟩
   ·have hbe:(c != -1)=true:=by simp[he]
    have hkl:k<s.size:=H4.o he;have oz:Hd (¬c=-1):=he;clear he;go_wp2_with (go_at_call 74;refine(HC2.o _ (ai _ _)).mono ?_);rintro e w2 ⟨rfl,hg2⟩;have HG2:Hd (wr.grownBy w2 none):=hg2;clear hg2;go_wp2_with (go_at_call 74;refine(HC2.o _ HG2.o).mono ?_);rintro e w3 ⟨rfl,hg3⟩;have aQ:Hd (wr.grownBy w3 none):=af HG2.o hg3;clear hg3
    by_cases h10:c=10
    ·have Zo:(c != 10)=false:=by simp[h10]
     have HRR:Hd (r=(true,k)):=by
      show r=_;rw[Fz.o (H2.o (by rw[FB.o,h10];rfl)),if_pos (Or.inl h10)]
     clear h10;go_wp2;refine bodyPost_ret (results_tmp (t:=2) rfl _ _ _) rfl ?_;rw[HRR.o];exact⟨fun _=>rfl,fun hh=>(by cases hh),jJ.o.grow aQ.o,aI jZ.o aQ.o⟩
    ·have Zo:(c != 10)=true:=by simp[h10]
     have Qa:Hd (¬c=10):=h10;have Jh:Hd (∀w,Calls prog 124 #[.int .i64 c] w fun e w'=>e=.returned (.bool (lg c))/\w'=w):=fun w=>CB.o c w
     obtain⟨b,hb2⟩:∃b,lg c=b:=⟨_,rfl⟩;rw[hb2]at Jh FB;clear h10 hb2;go_wp2_with (go_at_call 74;refine(HC2.o _ aQ.o).mono ?_);rintro e w4 ⟨rfl,hg4⟩;have fD:Hd (wr.grownBy w4 none):=af aQ.o hg4;clear hg4
     cases b with
     | true =>
      have HRR:Hd (r=(false,k)):=by
       show r=_;rw[Fz.o (H2.o (by rw[FB.o];simp)),if_neg (by rintro(h|h);exact Qa.o h;exact oz.o h)]
      go_wp2_with (first|(go_at_call 124;refine(Jh.o _).mono ?_;rintro e w' ⟨rfl,rfl⟩)|(go_at_call 125;refine(CH.o k _ (aI jZ.o fD.o) (jJ.o.grow fD.o)).mono ?_;rintro e w5 ⟨⟨v,rfl,hv⟩,hg5⟩));refine bodyPost_ret (results_tmp (t:=2) rfl _ _ _) rfl ?_;rw[HRR.o];exact⟨fun hh=>(by cases hh),fun _=>⟨v,rfl,hv⟩,(jJ.o.grow fD.o).grow hg5,aI (aI jZ.o fD.o) hg5⟩
     | false =>
      have HN:Hd (toR fO s.data.toList (k+1)=J):=(H1.o hkl (by rw[FB.o,decide_eq_true Qa.o];rfl)).symm.trans Fv.o;obtain⟨-,d1,-,df⟩:=(jJ.o.grow fD.o).cells;have df1:=df 1;clear df;have su:Hd (Rd (w4.setCell ⟨R,1,none⟩ (.int .i64 ((k:Int)+1))) R s (k+1) T):=(jJ.o.grow fD.o).set (k+1);go_wp2_with (go_at_call 124;refine(Jh.o _).mono ?_;rintro e w' ⟨rfl,rfl⟩);refine⟨⟨k+1,su.o,by omega,HN.o,dD (aI jZ.o fD.o) 1 _⟩,?_⟩;rw[jB.o,su.o.cells.2.1];simp;omega
 ·have hb:(x != 35)=true:=by simp[hx]
  have HRR:Hd (r=(true,i)):=uX.o hx;clear hx;go_wp2;refine bodyPost_ret (results_tmp (t:=2) rfl _ _ _) rfl ?_;rw[HRR.o];exact⟨fun _=>rfl,fun hh=>(by cases hh),HR1.o,aB.o⟩
open Go.RowKit Go.Joins
theorem AX(l:List UInt8)(i:Nat)(hi:i<=l.length):i<=(bi l i).2/\(bi l i).2<=l.length:=by
 have:=rV fO l i hi;unfold bi
 repeat' split
 all_goals (simp only[];omega)
theorem lh(l:List UInt8)(i:Nat)(hi:i<=l.length):i<=bl l i/\bl l i<=l.length:=rV je l i hi
theorem FC(l:List UInt8)(f i:Nat):gap l (f+1) i=if(bi l (bl l i)).1=false then .error (2,(bi l (bl l i)).2) else if nx l (bi l (bl l i)).2=10 then gap l f ((bi l (bl l i)).2+1) else .ok (bi l (bl l i)).2:=rfl
theorem kK{w w1 w2:World}{r:Option Nat}(h:w.grownBy w1 r)(hg:w1.grownBy w2 r):w.grownBy w2 r :=
 ⟨hg.os.trans h.os,hg.tape.trans h.tape,hg.output.trans h.output,Nat.le_trans h.size hg.size,fun k hk hn=>(hg.block k (Nat.lt_of_lt_of_le hk h.size) hn).trans (h.block k hk hn)⟩
def Zp(R:Nat)(s:ByteArray)(T:Nat)(ty:TypeId)(pv:Value)(g:Rs Nat)(w:World)(e:Ending)(w':World):Prop:=(∀j,g=.ok j->e=.returned .nilIface/\Rd w' R s j T)/\(∀c p,g=.error (c,p)->∃v,e=.returned v/\FaultV w' v p ty pv)/\w.grownBy w' (some R)
theorem Zq(R:Nat)(s:ByteArray)(i T:Nat)(ty:TypeId)(pv:Value)(w:World)(h:Rd w R s i T)(hi:i<=s.size)(hs:s.size<=1048576)(he:Fq w ty pv)(hR:¬R=5) :
  Calls prog 206 #[.pointer (some ⟨R,0,none⟩)] w (Zp R s T ty pv (gap s.data.toList (s.data.toList.length+1) i) w):=by
 have CN:Hd (∀k w,Rd w R s k T->k<=s.size->Calls prog 74 #[.pointer (some ⟨R,0,none⟩)] w fun e w'=>e=.returned (.int .i64 (nx s.data.toList k))/\w.grownBy w' none):=fun k w h1 h2=>mr R s k T w h1 h2 hs
 have CS:Hd (∀k w,Rd w R s k T->k<=s.size->Calls prog 73 #[.pointer (some ⟨R,0,none⟩)] w fun e w'=>e=.returned (.tuple #[])/\Rd w' R s (bl s.data.toList k) T/\w.grownBy w' (some R)):=fun k w h1 h2=>Fp R s k T w h1 h2 hs
 have CC:Hd (∀k w',Rd w' R s k T->k<=s.size->w.grownBy w' (some R)->Calls prog 78 #[.pointer (some ⟨R,0,none⟩)] w' (uV R s T ty pv (bi s.data.toList k) w')):=fun k w' h1 h2 hg=>P9 R s k T ty pv w' h1 h2 hs (hg.cell he (by simp;exact fun e=>hR e.symm)) hR
 have hl:s.data.toList.length=s.size:=by simp
 have fP:Hd (∀k,k<=s.size->k<=bl s.data.toList k/\bl s.data.toList k<=s.size):=fun k hk=>by rw[<-hl];exact lh _ k (by omega)
 have Zr:Hd (∀k,k<=s.size->k<=(bi s.data.toList k).2/\(bi s.data.toList k).2<=s.size):=fun k hk=>by rw[<-hl];exact AX _ k (by omega)
 have uY:Hd (∀f k,gap s.data.toList (f+1) k=if(bi s.data.toList (bl s.data.toList k)).1=false then .error (2,(bi s.data.toList (bl s.data.toList k)).2) else if nx s.data.toList (bi s.data.toList (bl s.data.toList k)).2=10 then gap s.data.toList f ((bi s.data.toList (bl s.data.toList k)).2+1) else .ok (bi s.data.toList (bl s.data.toList k)).2):=fun f k=>FC _ f k
 have dE:Hd (∀k,k<=s.size->nx s.data.toList k=10->k<s.size):=fun k hk hn=>by
  apply Classical.byContradiction;intro hh;rw[oq _ _ (by omega)]at hn;exact absurd hn (by decide)
 have bH:Hd (Rd w R s i T):=h;obtain⟨G,hG⟩:∃G,gap s.data.toList (s.data.toList.length+1) i=G:=⟨_,rfl⟩;have iZ:Hd (gap s.data.toList (s.data.toList.length+1) i=G):=hG;rw[hG];clear h he hG;go_enter func206,ntmps206;go_wp2;go_loopw [] (fun wr=>∃k f:Nat,Rd wr R s k T/\k<=s.size/\s.size-k<f/\gap s.data.toList f k=G/\w.grownBy wr (some R)) (fun wr=>s.size-(match wr.cell? ⟨R,1,none⟩ with|some (.int _ k)=>k.toNat|_=>0))
 case atStart=>exact⟨i,s.data.toList.length+1,bH.o,hi,by omega,iZ.o,ai _ _⟩
 case round =>
  obtain⟨k,f,hrd,hk,hf,oC,hg⟩:=hrel;obtain⟨f,rfl⟩:∃f',f=f'+1:=⟨f-1,by omega⟩;have jJ:Hd (Rd wr R s k T):=hrd;have jZ:Hd (w.grownBy wr (some R)):=hg;have jB:Hd ((match wr.cell? ⟨R,1,none⟩ with|some (.int _ k)=>k.toNat|_=>0)=k):=by show _=_;rw[hrd.cells.2.1];simp
  have C1:Hd (Calls prog 73 #[.pointer (some ⟨R,0,none⟩)] wr fun e w'=>e=.returned (.tuple #[])/\Rd w' R s (bl s.data.toList k) T/\wr.grownBy w' (some R)):=CS.o k wr hrd hk;rw[uY.o]at oC;obtain⟨hb1,hb2⟩:=fP.o k hk;have hc12:=Zr.o (bl s.data.toList k) hb2;have C2:Hd (∀w',Rd w' R s (bl s.data.toList k) T->w.grownBy w' (some R)->Calls prog 78 #[.pointer (some ⟨R,0,none⟩)] w' (uV R s T ty pv (bi s.data.toList (bl s.data.toList k)) w')):=fun w' h1 h2=>CC.o _ w' h1 hb2 h2
  obtain⟨j,hj⟩:∃j,bl s.data.toList k=j:=⟨_,rfl⟩;rw[hj]at C1 C2 oC hb1 hb2 hc12;obtain⟨q,hq⟩:∃q,bi s.data.toList j=q:=⟨_,rfl⟩;rw[hq]at C2 oC hc12;obtain⟨ok,m⟩:=q;obtain⟨hm1,hm2⟩:=hc12;simp only[]at hm1 hm2 oC;have FD:Hd ((if ok=false then Except.error (2,m) else if nx s.data.toList m=10 then gap s.data.toList f (m+1) else Except.ok m)=G):=oC;have C3:Hd (∀w',Rd w' R s m T->Calls prog 74 #[.pointer (some ⟨R,0,none⟩)] w' fun e w''=>e=.returned (.int .i64 (nx s.data.toList m))/\w'.grownBy w'' none):=fun w' h1=>CN.o m w' h1 hm2
  have HL2:Hd (nx s.data.toList m=10->m<s.size):=dE.o m hm2;obtain⟨x,hx⟩:∃x,nx s.data.toList m=x:=⟨_,rfl⟩;rw[hx]at C3 FD HL2;clear hrd hg oC hj hq hx;go_wp2_with (go_at_call 73;refine C1.o.mono ?_);rintro e w1 ⟨rfl,hr1,hg1⟩;have HR1:Hd (Rd w1 R s j T):=hr1;have aB:Hd (w.grownBy w1 (some R)):=kK jZ.o hg1;clear hr1 hg1;go_wp2_with (go_at_call 78;refine(C2.o _ HR1.o aB.o).mono ?_);rintro e w2 ⟨h1,h2,h3,h4⟩;have HR2:Hd (Rd w2 R s m T):=h3;have HG2:Hd (w.grownBy w2 (some R)):=kK aB.o h4;clear h3 h4
  cases ok with
  | false =>
   obtain⟨v,rfl,F,rfl,hF⟩:=h2 rfl;have oD:Hd (Except.error (2,m)=G):=by
    have:=FD.o;rw[if_pos (by trivial)]at this;exact this
   have aZ:Hd (FaultV w2 (.iface 104 (.pointer (some ⟨F,0,none⟩))) m ty pv):=⟨F,rfl,hF⟩;clear h1 h2 hF;go_wp2;refine bodyPost_ret (results_tmp (t:=2) rfl _ _ _) rfl ?_;refine⟨fun j hj=>?_,fun c p hp=>?_,HG2.o⟩
   ·rw[<-oD.o]at hj;cases hj
   ·rw[<-oD.o]at hp
    cases hp
    exact⟨_,rfl,aZ.o⟩
  | true =>
   obtain rfl:=h1 rfl;clear h1 h2;go_wp2_with (go_at_call 74;refine(C3.o _ HR2.o).mono ?_);rintro e w3 ⟨rfl,hg3⟩;have HR3:Hd (Rd w3 R s m T):=HR2.o.grow hg3;have aQ:Hd (w.grownBy w3 (some R)):=aI HG2.o hg3;clear hg3
   by_cases h10:x=10
   ·have hb:(x != 10)=false:=by simp[h10]
    have hml:=HL2.o h10;have AY:Hd (gap s.data.toList f (m+1)=G):=by
     have:=FD.o;rw[if_neg (by simp),if_pos h10]at this;exact this
    obtain⟨-,d1,-,df⟩:=HR3.o.cells;have df1:=df 1;have su:Hd (Rd (w3.setCell ⟨R,1,none⟩ (.int .i64 ((m:Int)+1))) R s (m+1) T):=HR3.o.set (m+1);clear df h10;go_wp2;refine⟨⟨m+1,f,su.o,by omega,by omega,AY.o,dD aQ.o 1 _⟩,?_⟩;rw[jB.o,su.o.cells.2.1];simp;omega
   ·have hb:(x != 10)=true:=by simp[h10]
    have oD:Hd (Except.ok m=G):=by
     have:=FD.o;rw[if_neg (by simp),if_neg h10]at this;exact this
    clear h10;go_wp2;refine bodyPost_ret (results_tmp (t:=2) rfl _ _ _) rfl ?_;refine⟨fun j hj=>?_,fun c p hp=>?_,aQ.o⟩
    ·rw[<-oD.o]at hj
     cases hj
     exact⟨rfl,HR3.o⟩
    ·rw[<-oD.o]at hp;cases hp
open Go.RowKit Go.Joins
theorem Ji(c:Int)(w:World):Calls prog 76 #[.int .i64 c] w fun e w'=>e=.returned (.bool (aV c))/\w'=w:=by
 have CS:Hd (∀w,Calls prog 119 #[.int .i64 c] w fun e w'=>e=.returned (.bool (dh c))/\w'=w):=fun w=>P5 c w
 have CD:Hd (∀w,Calls prog 120 #[.int .i64 c] w fun e w'=>e=.returned (.bool (ay c))/\w'=w):=fun w=>Fj c w
 have HB:Hd (aV c=(dh c || decide (65<=c/\c<=90) || ay c || decide (c=95) || decide (c=45))):=rfl;obtain⟨b,hb⟩:∃b,dh c=b:=⟨_,rfl⟩;obtain⟨d,hd⟩:∃d,ay c=d:=⟨_,rfl⟩;rw[hb]at CS HB;rw[hd]at CD HB;clear hb hd
 cases b with
 | true =>
  go_enter func76,ntmps76;go_wp2_with (first|(go_at_call 119;refine(CS.o _).mono ?_;rintro e w' ⟨rfl,rfl⟩)|(go_at_call 120;refine(CD.o _).mono ?_;rintro e w' ⟨rfl,rfl⟩));go_ret;refine⟨bn ?_,rfl⟩;rw[HB.o];rfl
 | false =>
  cases d with
  | true =>
   go_enter func76,ntmps76;go_wp2_with (first|(go_at_call 119;refine(CS.o _).mono ?_;rintro e w' ⟨rfl,rfl⟩)|(go_at_call 120;refine(CD.o _).mono ?_;rintro e w' ⟨rfl,rfl⟩))
   all_goals go_ret
   all_goals (refine⟨bn ?_,rfl⟩;rw[HB.o,Bool.eq_iff_iff];simp;try omega)
  | false =>
   go_enter func76,ntmps76;go_wp2_with (first|(go_at_call 119;refine(CS.o _).mono ?_;rintro e w' ⟨rfl,rfl⟩)|(go_at_call 120;refine(CD.o _).mono ?_;rintro e w' ⟨rfl,rfl⟩))
   all_goals go_ret
   all_goals (refine⟨bn ?_,rfl⟩;rw[HB.o,Bool.eq_iff_iff];simp;try omega)
theorem Qb(c:Int):-1<=hexV c/\hexV c<16:=by
 unfold hexV ay;simp only[decide_eq_true_eq]
 repeat' split
 all_goals omega
theorem Zt(c:Int)(hc:-1<=c/\c<256)(w:World):Calls prog 241 #[.int .i64 c] w fun e w'=>e=.returned (.int .i64 (hexV c))/\w'=w:=by
 have CD:Hd (∀w,Calls prog 120 #[.int .i64 c] w fun e w'=>e=.returned (.bool (ay c))/\w'=w):=fun w=>Fj c w
 have HX:Hd (hexV c=if ay c=true then c-48 else if 97<=c/\c<=102 then c-87 else if 65<=c/\c<=70 then c-55 else -1):=rfl;obtain⟨d,hd⟩:∃d,ay c=d:=⟨_,rfl⟩;rw[hd]at CD HX;clear hd;obtain⟨h1,h2⟩:=hc;obtain⟨y,hy⟩:∃y,hexV c=y:=⟨_,rfl⟩;rw[hy]at HX ⊢;clear hy
 cases d with
 | true =>
  go_enter func241,ntmps241;go_wp2_with (go_at_call 120;refine(CD.o _).mono ?_;rintro e w' ⟨rfl,rfl⟩);go_ret;refine⟨eX ?_,rfl⟩;rw[HX.o];simp
 | false =>
  go_enter func241,ntmps241;go_wp2_with (go_at_call 120;refine(CD.o _).mono ?_;rintro e w' ⟨rfl,rfl⟩)
  all_goals go_ret
  all_goals (refine⟨eX ?_,rfl⟩;rw[HX.o];simp;try omega)
open Go.RowKit Go.Joins
structure Es(w:World)(E:Int->TypeId × Value):Prop where
 te:w.cell? ⟨5,0,none⟩=some (.iface (E 2).1 (E 2).2)
 ra:w.cell? ⟨1,0,none⟩=some (.iface (E 3).1 (E 3).2)
 ma:w.cell? ⟨2,0,none⟩=some (.iface (E 4).1 (E 4).2)
 tw:w.cell? ⟨3,0,none⟩=some (.iface (E 5).1 (E 5).2)
structure Far(R:Nat):Prop where
 te:¬R=5
 ra:¬R=1
 ma:¬R=2
 tw:¬R=3
theorem Es.grow{w w':World}{E:Int->TypeId × Value}{R:Nat}(h:Es w E)(hR:Far R)(hg:w.grownBy w' (some R)):Es w' E :=
 ⟨hg.cell h.te (by simp;exact fun e=>hR.te e.symm),hg.cell h.ra (by simp;exact fun e=>hR.ra e.symm),hg.cell h.ma (by simp;exact fun e=>hR.ma e.symm),hg.cell h.tw (by simp;exact fun e=>hR.tw e.symm)⟩
def aF(w:World)(v:Value)(E:Int->TypeId × Value)(c:Int)(p:Nat):Prop:=FaultV w v p (E c).1 (E c).2
def AZ(R:Nat)(s:ByteArray)(T:Nat)(E:Int->TypeId × Value)(g:Rs (Int × Nat))(w:World)(e:Ending)(w':World):Prop:=(∀n j,g=.ok (n,j)->e=.returned (.tuple #[.int .i64 n,.nilIface])/\Rd w' R s j T)/\(∀c p,g=.error (c,p)->∃v,e=.returned (.tuple #[.int .i64 0,v])/\aF w' v E c p/\∃j,Rd w' R s j T)/\w.grownBy w' (some R)
theorem Jj(l:List UInt8)(i:Nat):mg l i=if ah l i (toR dh l i-i)=[116,114,117,101] then .ok (1,toR dh l i) else if ah l i (toR dh l i-i)=[102,97,108,115,101] then .ok (0,toR dh l i) else .error (2,i):=rfl
theorem Zu(R:Nat)(s:ByteArray)(i T:Nat)(E:Int->TypeId × Value)(w:World)(h:Rd w R s i T)(hi:i<=s.size)(hs:s.size<=1048576)(he:Es w E)(hR:Far R) :
  Calls prog 168 #[.pointer (some ⟨R,0,none⟩)] w (AZ R s T E (mg s.data.toList i) w):=by
 have CN:Hd (∀k w,Rd w R s k T->k<=s.size->Calls prog 74 #[.pointer (some ⟨R,0,none⟩)] w fun e w'=>e=.returned (.int .i64 (nx s.data.toList k))/\w.grownBy w' none):=fun k w h1 h2=>mr R s k T w h1 h2 hs
 have CB:Hd (∀c w,Calls prog 119 #[.int .i64 c] w fun e w'=>e=.returned (.bool (dh c))/\w'=w):=P5;have CW:Hd (∀w,Calls prog 165 #[.iface (E 2).1 (E 2).2,.int .i64 (i:Nat)] w fun e w'=>(∃v,e=.returned v/\FaultV w' v i (E 2).1 (E 2).2)/\w.grownBy w' none):=fun w=>rZ i _ _ w
 have jK:Hd (∀w',w.grownBy w' (some R)->w'.cell? ⟨5,0,none⟩=some (.iface (E 2).1 (E 2).2)):=fun w' hg=>(he.grow hR hg).te
 have fF:Hd (∀w' v,FaultV w' v i (E 2).1 (E 2).2->aF w' v E 2 i):=fun _ _ h=>h
 obtain⟨ty,hty⟩:∃ty,(E 2).1=ty:=⟨_,rfl⟩;obtain⟨pv,hpv⟩:∃pv,(E 2).2=pv:=⟨_,rfl⟩;rw[hty,hpv]at CW jK fF;have hl:s.data.toList.length=s.size:=by simp
 have HST:Hd (∀k,k<s.size->dh (nx s.data.toList k)=true->toR dh s.data.toList k=toR dh s.data.toList (k+1)):=fun k hk hb=>AV dh _ k (by omega) hb
 have rY:Hd (∀k,dh (nx s.data.toList k)=false->toR dh s.data.toList k=k):=fun k hb=>xB dh _ k hb
 have dE:Hd (∀k,k<=s.size->dh (nx s.data.toList k)=true->k<s.size):=fun k hk hb=>by
  apply Classical.byContradiction;intro hn;rw[oq _ _ (by omega)]at hb;exact absurd hb (by decide)
 have ji:Hd (mg s.data.toList i=if ah s.data.toList i (toR dh s.data.toList i-i)=[116,114,117,101] then .ok (1,toR dh s.data.toList i) else if ah s.data.toList i (toR dh s.data.toList i-i)=[102,97,108,115,101] then .ok (0,toR dh s.data.toList i) else .error (2,i)):=Jj _ i;have hij:=rV dh s.data.toList i (by omega);rw[hl]at hij;obtain⟨J,hJ⟩:∃J,toR dh s.data.toList i=J:=⟨_,rfl⟩;have HJ:Hd (toR dh s.data.toList i=J):=hJ;obtain⟨G,hG⟩:∃G,mg s.data.toList i=G:=⟨_,rfl⟩;rw[hJ]at ji hij;rw[hG]at ji ⊢;obtain⟨hij1,hij2⟩:=hij;have H0:Hd (Rd w R s i T):=h;obtain⟨X,hX⟩:∃X:ByteArray,X=⟨(ah s.data.toList i (J-i)).toArray⟩:=⟨_,rfl⟩;have s1:∀wx,(Instr.slice 9 (.string s) (some (.int .i64 (i:Int))) (some (.int .i64 (J:Int))) none).run prog wx=.ok (.string X) wx:=fun wx=>by rw[hX];exact qF s i J hij1 hij2 wx
 have A7:Hd (X.toList=ah s.data.toList i (J-i)):=by show _=_;rw[hX,ByteArray.toList_eq]
 obtain⟨c0,c1,-,-⟩:=h.cells;clear h hJ hG hX hty hpv he;go_enter func168,ntmps168;go_wp2;go_loopw [] (fun wr=>∃k:Nat,Rd wr R s k T/\k<=s.size/\toR dh s.data.toList k=J/\w.grownBy wr (some R)) (fun wr=>s.size-(match wr.cell? ⟨R,1,none⟩ with|some (.int _ k)=>k.toNat|_=>0))
 case atStart=>exact⟨i,H0.o,hi,HJ.o,ai _ _⟩
 case round =>
  obtain⟨k,hrd,hk,hbl,hg⟩:=hrel;have bH:Hd (Rd wr R s k T):=hrd;have fP:Hd (toR dh s.data.toList k=J):=hbl;have HG:Hd (w.grownBy wr (some R)):=hg;have C1:Hd (Calls prog 74 #[.pointer (some ⟨R,0,none⟩)] wr fun e w'=>e=.returned (.int .i64 (nx s.data.toList k))/\wr.grownBy w' none):=CN.o k wr hrd hk;have hme:(match wr.cell? ⟨R,1,none⟩ with|some (.int _ k)=>k.toNat|_=>0)=k:=by rw[hrd.cells.2.1];simp
  have jB:Hd ((match wr.cell? ⟨R,1,none⟩ with|some (.int _ k)=>k.toNat|_=>0)=k):=hme;have eP:Hd (dh (nx s.data.toList k)=true->toR dh s.data.toList k=toR dh s.data.toList (k+1)):=fun hb=>HST.o k (dE.o k hk hb) hb
  have HS2:Hd (dh (nx s.data.toList k)=false->toR dh s.data.toList k=k):=rY.o k;have HL2:Hd (dh (nx s.data.toList k)=true->k<s.size):=dE.o k hk;obtain⟨c,hc⟩:∃c,nx s.data.toList k=c:=⟨_,rfl⟩;rw[hc]at C1 eP HS2 HL2;have fC:Hd (∀w,Calls prog 119 #[.int .i64 c] w fun e w'=>e=.returned (.bool (dh c))/\w'=w):=fun w=>CB.o c w
  obtain⟨b,hb⟩:∃b,dh c=b:=⟨_,rfl⟩;rw[hb]at fC eP HS2 HL2;clear hrd hbl hg hme hc hb c0 c1
  cases b with
  | false =>
   have uj:Hd (k=J):=(HS2.o (by trivial)).symm.trans fP.o;go_wp2_with (first|(go_at_call 74;refine C1.o.mono ?_;rintro e w2 ⟨rfl,hg2⟩)|(go_at_call 119;refine(fC.o _).mono ?_;rintro e w' ⟨rfl,rfl⟩));have HR2:Hd (Rd w' R s J T):=by rw[<-uj.o];exact bH.o.grow hg2
   have HG2:Hd (w.grownBy w' (some R)):=aI HG.o hg2;obtain⟨d0,d1,-,-⟩:=HR2.o.cells;have dte:=jK.o _ HG2.o;clear hg2;have Jk:Hd (G=if X.toList=[116,114,117,101] then .ok (1,J) else if X.toList=[102,97,108,115,101] then .ok (0,J) else .error (2,i)):=by show _=_;rw[A7.o];exact ji.o
   by_cases h1:X.toList=[116,114,117,101]
   ·have hb:(X.toList == [116,114,117,101])=true:=by simp[h1]
    have bC:Hd (G=.ok (1,J)):=by show G=_;rw[Jk.o,if_pos h1]
    clear h1;go_quiet (fail);go_wp2;refine bodyPost_ret (results_tmp2 (t:=2) (u:=3) rfl _ _ _) rfl ?_;rw[bC.o];exact⟨fun n j hh=>(by cases hh;exact⟨rfl,HR2.o⟩),fun c p hh=>(by cases hh),au HG2.o _⟩
   ·have hb:(X.toList == [116,114,117,101])=false:=by simp[h1]
    by_cases h2:X.toList=[102,97,108,115,101]
    ·have hb2:(X.toList == [102,97,108,115,101])=true:=by simp[h2]
     have bC:Hd (G=.ok (0,J)):=by show G=_;rw[Jk.o,if_neg h1,if_pos h2]
     clear h1 h2;go_quiet (fail);go_wp2;refine bodyPost_ret (results_tmp2 (t:=2) (u:=3) rfl _ _ _) rfl ?_;rw[bC.o];exact⟨fun n j hh=>(by cases hh;exact⟨rfl,HR2.o⟩),fun c p hh=>(by cases hh),au HG2.o _⟩
    ·have hb2:(X.toList == [102,97,108,115,101])=false:=by simp[h2]
     have bC:Hd (G=.error (2,i)):=by show G=_;rw[Jk.o,if_neg h1,if_neg h2]
     clear h1 h2;go_quiet (fail);go_wp2_with (go_at_call 165;refine(CW.o _).mono ?_;rintro e w3 ⟨⟨v,rfl,hv⟩,hg3⟩);refine bodyPost_ret (results_tmp2 (t:=2) (u:=3) rfl _ _ _) rfl ?_;rw[bC.o];exact⟨fun n j hh=>(by cases hh),fun c p hh=>(by cases hh;exact⟨v,rfl,fF.o _ _ hv,J,Rd.grow (w:=World.drewN w' _) HR2.o hg3⟩),aI (au HG2.o _) hg3⟩
  | true =>
   have hkl:k<s.size:=HL2.o (by trivial);have HN:Hd (toR dh s.data.toList (k+1)=J):=(eP.o (by trivial)).symm.trans fP.o;go_wp2_with (first|(go_at_call 74;refine C1.o.mono ?_;rintro e w2 ⟨rfl,hg2⟩;obtain⟨-,d1,-,df⟩:=(bH.o.grow hg2).cells;have df1:=df 1)|(go_at_call 119;refine(fC.o _).mono ?_;rintro e w' ⟨rfl,rfl⟩));have fQ:Hd (Rd (w'.setCell ⟨R,1,none⟩ (.int .i64 ((k:Int)+1))) R s (k+1) T):=(bH.o.grow hg2).set (k+1);refine⟨⟨k+1,fQ.o,by omega,HN.o,dD (aI HG.o hg2) 1 _⟩,?_⟩;rw[jB.o,fQ.o.cells.2.1];simp;omega
open Go.RowKit Go.Joins
def A8(n:Int):Bool:=decide (55296<=n/\n<=57343)
def nH(n:Nat):Bool:=A8 (n:Nat)
theorem Zv(n:Int)(h0:0<=n)(hn:n<65536)(w:World):Calls prog 242 #[.int .i32 n] w fun e w'=>e=.returned (.bool (!A8 n))/\w'=w:=by
 have HX:Hd (A8 n=decide (55296<=n/\n<=57343)):=rfl;obtain⟨y,hy⟩:∃y,A8 n=y:=⟨_,rfl⟩;rw[hy]at HX ⊢;clear hy;go_enter func242,ntmps242;go_wp2
 all_goals go_ret
 all_goals (refine⟨bn ?_,rfl⟩;rw[HX.o];simp;try omega)
theorem Zw(n:Nat)(hn:n<65536)(w:World):Calls prog 242 #[.int .i32 (n:Nat)] w fun e w'=>e=.returned (.bool (!nH n))/\w'=w:=Zv (n:Nat) (by omega) (by omega) w
def Jl(p:Nat):Rs (Nat × Nat)->Rs (Nat × Nat)
 | .error e=>.error e
 | .ok (n,j)=>if nH n=true then .error (2,p) else .ok (n,j)
def uk(l:List UInt8)(i p:Nat):Rs (Nat × Nat):=Jl p (four l 4 i 0)
theorem Jm(l:List UInt8)(k i n:Nat):four l (k+1) i n=if hexV (nx l i)<0 then .error (2,i) else four l k (i+1) (16*n+(hexV (nx l i)).toNat):=rfl
theorem Zx(c d:Nat)(hc:c<4096)(hd:d<16):bits BinOp.or IntKind.i32 ((c:Int)*16) (d:Int)=((16*c+d:Nat):Int):=by
 have e1:(c:Int)*16=((c*16:Nat):Int):=by simp
 have e2:c*16 ||| d=16*c+d:=by
  have:=Nat.shiftLeft_add_eq_or_of_lt (a:=c) (b:=d) (i:=4) (by omega);rw[Nat.shiftLeft_eq]at this;have e:(2:Nat) ^ 4=16:=rfl;rw[e]at this;omega
 have e3:(BitVec.ofInt 32 ((c:Int)*16) ||| BitVec.ofInt 32 (d:Int)).toNat=16*c+d:=by
  rw[e1,BitVec.ofInt_natCast,BitVec.ofInt_natCast,BitVec.toNat_or,BitVec.toNat_ofNat,BitVec.toNat_ofNat,Nat.mod_eq_of_lt (by omega),Nat.mod_eq_of_lt (by omega),e2]
 show IntKind.i32.wrap (((BitVec.ofInt 32 ((c:Int)*16) ||| BitVec.ofInt 32 (d:Int)).toNat:Nat):Int)=_;rw[e3];simp[IntKind.wrap,IntKind.bits,IntKind.signed];omega
theorem Qc:hexV (-1)=-1:=by decide
def yZ(R:Nat)(s:ByteArray)(T:Nat)(E:Int->TypeId × Value)(g:Rs (Nat × Nat))(w:World)(e:Ending)(w':World):Prop:=(∀n j,g=.ok (n,j)->e=.returned (.tuple #[.int .i32 (n:Nat),.nilIface])/\Rd w' R s j T)/\(∀c p,g=.error (c,p)->∃v,e=.returned (.tuple #[.int .i32 0,v])/\aF w' v E c p/\∃j,Rd w' R s j T)/\w.grownBy w' (some R)
theorem Zy(R:Nat)(s:ByteArray)(i T p:Nat)(E:Int->TypeId × Value)(w:World)(h:Rd w R s i T)(hi:i<=s.size)(hs:s.size<=1048576)(he:Es w E)(hR:Far R) :
  Calls prog 226 #[.pointer (some ⟨R,0,none⟩),.int .i64 (p:Nat)] w (yZ R s T E (uk s.data.toList i p) w):=by
 have CN:Hd (∀k w,Rd w R s k T->k<=s.size->Calls prog 74 #[.pointer (some ⟨R,0,none⟩)] w fun e w'=>e=.returned (.int .i64 (nx s.data.toList k))/\w.grownBy w' none):=fun k w h1 h2=>mr R s k T w h1 h2 hs
 have CX:Hd (∀c,-1<=c/\c<256->∀w,Calls prog 241 #[.int .i64 c] w fun e w'=>e=.returned (.int .i64 (hexV c))/\w'=w):=Zt;have CV:Hd (∀n:Nat,n<65536->∀w,Calls prog 242 #[.int .i32 (n:Nat)] w fun e w'=>e=.returned (.bool (!nH n))/\w'=w):=Zw;have CW:Hd (∀w,Calls prog 165 #[.iface (E 2).1 (E 2).2,.int .i64 (p:Nat)] w fun e w'=>(∃v,e=.returned v/\FaultV w' v p (E 2).1 (E 2).2)/\w.grownBy w' none):=fun w=>rZ p _ _ w
 have jK:Hd (∀w',w.grownBy w' (some R)->w'.cell? ⟨5,0,none⟩=some (.iface (E 2).1 (E 2).2)):=fun w' hg=>(he.grow hR hg).te
 have fF:Hd (∀w' v q,FaultV w' v q (E 2).1 (E 2).2->aF w' v E 2 q):=fun _ _ _ h=>h
 obtain⟨ty,hty⟩:∃ty,(E 2).1=ty:=⟨_,rfl⟩;obtain⟨pv,hpv⟩:∃pv,(E 2).2=pv:=⟨_,rfl⟩;rw[hty,hpv]at CW jK fF;have CH:Hd (∀k w',w.grownBy w' (some R)->Rd w' R s k T->Calls prog 125 #[.pointer (some ⟨R,0,none⟩)] w' fun e w''=>(∃v,e=.returned v/\FaultV w'' v k ty pv)/\w'.grownBy w'' none):=fun k w' hg hr=>uU R s k T ty pv w' hr (jK.o w' hg)
 have hl:s.data.toList.length=s.size:=by simp
 have Zz:Hd (∀k i n,four s.data.toList (k+1) i n=if hexV (nx s.data.toList i)<0 then .error (2,i) else four s.data.toList k (i+1) (16*n+(hexV (nx s.data.toList i)).toNat)):=Jm _;have Jn:Hd (∀c,-1<=hexV c/\hexV c<16):=Qb;have Jo:Hd (∀i,-1<=nx s.data.toList i/\nx s.data.toList i<256):=PM _;have dE:Hd (∀k,k<=s.size->0<=hexV (nx s.data.toList k)->k<s.size):=fun k hk hb=>by
  apply Classical.byContradiction;intro hn;rw[oq _ _ (by omega),Qc]at hb;omega
 obtain⟨F,hF⟩:∃F,four s.data.toList 4 i 0=F:=⟨_,rfl⟩;have HF:Hd (four s.data.toList 4 i 0=F):=hF;obtain⟨G,hG⟩:∃G,uk s.data.toList i p=G:=⟨_,rfl⟩;have Qd:Hd (G=Jl p F):=by show _=_;rw[<-hG,<-hF];rfl
 rw[hG];have H0:Hd (Rd w R s i T):=h;clear h hF hG hty hpv he;go_enter func226,ntmps226;go_wp2;go_loopw [6,8] (fun vc vk wr=>∃k c j:Nat,vc=.int .i32 (c:Nat)/\vk=.int .i64 (k:Nat)/\k<=4/\c<16 ^ k/\four s.data.toList (4-k) j c=F/\Rd wr R s j T/\j<=s.size/\w.grownBy wr (some R)) (fun _ vk _=>4-(intOf vk).toNat)
 case atStart=>exact⟨0,0,i,rfl,rfl,by omega,by omega,HF.o,H0.o,hi,ai _ _⟩
 case round =>
  obtain⟨k,c,j,rfl,rfl,hk,hc,hf,hrd,hj,hg⟩:=hrel;have bH:Hd (Rd _ R s j T):=hrd;have HG:Hd (w.grownBy _ (some R)):=hg
  by_cases hk4:k=4
  ·subst hk4;have hc4:c<65536:=by omega
   have uZ:Hd (F=.ok (c,j)):=hf.symm;have bC:Hd (G=if nH c=true then .error (2,p) else .ok (c,j)):=by
    show _=_;rw[Qd.o,uZ.o];rfl
   have oG:Hd (∀w,Calls prog 242 #[.int .i32 (c:Nat)] w fun e w'=>e=.returned (.bool (!nH c))/\w'=w):=CV.o c hc4;have dte:=jK.o _ hg;obtain⟨b,hb⟩:∃b,nH c=b:=⟨_,rfl⟩;rw[hb]at oG bC;clear hb hrd hg hf hc hk
   cases b with
   | true =>
    go_wp2_with (first|(go_at_call 242;refine(oG.o _).mono ?_;rintro e w' ⟨rfl,rfl⟩)|(go_at_call 165;refine(CW.o _).mono ?_;rintro e w3 ⟨⟨v,rfl,hv⟩,hg3⟩));refine bodyPost_ret (results_tmp2 (t:=4) (u:=5) rfl _ _ _) rfl ?_;rw[bC.o];exact⟨fun n j hh=>(by cases hh),fun c p hh=>(by cases hh;exact⟨v,rfl,fF.o _ _ _ hv,_,bH.o.grow hg3⟩),aI HG.o hg3⟩
   | false =>
    go_wp2_with (go_at_call 242;refine(oG.o _).mono ?_;rintro e w' ⟨rfl,rfl⟩);refine bodyPost_ret (results_tmp2 (t:=4) (u:=5) rfl _ _ _) rfl ?_;rw[bC.o];exact⟨fun n j hh=>(by cases hh;exact⟨rfl,bH.o⟩),fun c p hh=>(by cases hh),HG.o⟩
  ·have hk3:k<4:=by omega
   obtain⟨m,hm⟩:∃m,4-k=m+1:=⟨3-k,by omega⟩;have hm2:4-(k+1)=m:=by omega
   rw[hm,Zz.o]at hf;have C1:Hd (Calls prog 74 #[.pointer (some ⟨R,0,none⟩)] _ fun e w'=>e=.returned (.int .i64 (nx s.data.toList j))/\World.grownBy _ w' none):=CN.o j _ hrd hj;have hxb:=Jn.o (nx s.data.toList j);have C2:Hd (∀w,Calls prog 241 #[.int .i64 (nx s.data.toList j)] w fun e w'=>e=.returned (.int .i64 (hexV (nx s.data.toList j)))/\w'=w):=CX.o _ (Jo.o j);have Qe:Hd (0<=hexV (nx s.data.toList j)->j<s.size):=dE.o j hj;obtain⟨d,hd⟩:∃d,hexV (nx s.data.toList j)=d:=⟨_,rfl⟩;rw[hd]at C2 hf hxb Qe;obtain⟨x,hx⟩:∃x,nx s.data.toList j=x:=⟨_,rfl⟩;rw[hx]at C1 C2;obtain⟨hd1,hd2⟩:=hxb;have uZ:Hd ((if d<0 then .error (2,j) else four s.data.toList m (j+1) (16*c+d.toNat))=F):=hf;have hc4:c<4096:=Nat.lt_of_lt_of_le hc (Nat.pow_le_pow_right (by decide) (show k<=3 by omega));have HC:Hd (c<16 ^ k):=hc;clear hd hx hf hrd hg hm hk4 hk hc
   by_cases hd0:d<0
   ·have bC:Hd (G=.error (2,j)):=by
     show _=_;have:=uZ.o;rw[if_pos hd0]at this;rw[Qd.o,<-this];rfl
    go_wp2_with (first|(go_at_call 74;refine C1.o.mono ?_;rintro e w2 ⟨rfl,hg2⟩)|(go_at_call 241;refine(C2.o _).mono ?_;rintro e w' ⟨rfl,rfl⟩)|(go_at_call 125;refine(CH.o j _ (aI HG.o hg2) (bH.o.grow hg2)).mono ?_;rintro e w5 ⟨⟨v,rfl,hv⟩,hg5⟩));refine bodyPost_ret (results_tmp2 (t:=4) (u:=5) rfl _ _ _) rfl ?_;rw[bC.o];exact⟨fun n j hh=>(by cases hh),fun c p hh=>(by cases hh;exact⟨v,rfl,fF.o _ _ _ hv,_,(bH.o.grow hg2).grow hg5⟩),aI (aI HG.o hg2) hg5⟩
   ·have hjl:j<s.size:=Qe.o (by omega);obtain⟨d,rfl⟩:∃d':Nat,d=(d':Int):=⟨d.toNat,by omega⟩;have iw:Hd (four s.data.toList m (j+1) (16*c+d)=F):=by
     have:=uZ.o;rw[if_neg hd0]at this;show _=_;simpa using this
    have hd3:¬((d:Int)<0):=hd0;go_wp2_with (first|(go_at_call 74;refine C1.o.mono ?_;rintro e w2 ⟨rfl,hg2⟩;obtain⟨-,d1,-,df⟩:=(bH.o.grow hg2).cells;have df1:=df 1)|(go_at_call 241;refine(C2.o _).mono ?_;rintro e w' ⟨rfl,rfl⟩));rw[Zx c d hc4 (by omega)];have fQ:Hd (Rd (w'.setCell ⟨R,1,none⟩ (.int .i64 ((j:Int)+1))) R s (j+1) T):=(bH.o.grow hg2).set (j+1);refine⟨⟨k+1,16*c+d,j+1,rfl,by simp,by omega,?_,by rw[hm2];exact iw.o,fQ.o,by omega,dD (aI HG.o hg2) 1 _⟩,?_⟩
    ·have:=HC.o;rw[Nat.pow_succ];omega
    ·simp[intOf];omega
end Go.Proofs.YtmkjelchiacogaaGreatDoor
namespace Go.Proofs
open Go.Shelf
def Tryz.lays137_ren:Go.Shelf.Ren:=⟨fun|137=>173|217=>216|266=>234|n=>n,fun|22=>263|24=>169|25=>170|27=>66|28=>88|31=>41|32=>172|33=>118|35=>219|37=>69|40=>312|41=>127|42=>220|43=>218|46=>176|47=>175|48=>132|49=>351|51=>235|52=>234|53=>237|54=>236|55=>258|67=>125|69=>75|70=>68|71=>70|72=>71|73=>112|74=>49|75=>50|76=>72|77=>73|78=>161|79=>283|80=>77|81=>140|83=>74|84=>178|85=>318|86=>319|94=>165|100=>179|101=>56|102=>57|103=>171|104=>78|105=>284|106=>285|108=>328|111=>141|112=>221|114=>270|119=>313|126=>303|127=>126|128=>304|131=>59|135=>243|137=>314|138=>315|139=>316|143=>330|144=>331|145=>332|164=>143|165=>177|166=>279|167=>317|168=>320|169=>321|170=>322|171=>238|172=>239|173=>240|174=>241|175=>324|176=>325|182=>228|183=>229|188=>274|189=>275|190=>276|191=>277|192=>278|209=>326|210=>327|211=>271|212=>272|213=>273|214=>329|218=>264|219=>265|220=>266|222=>268|224=>300|225=>301|228=>297|229=>298|231=>311|232=>309|233=>310|238=>333|239=>334|240=>335|241=>336|242=>337|243=>339|244=>151|245=>340|246=>341|247=>342|248=>343|249=>344|n=>n,fun|1=>7|3=>10|4=>11|15=>12|16=>13|17=>6|18=>8|19=>9|n=>n⟩
theorem Tryz.lays137:Go.Proofs.Lays.n137 prog Tryz.lays137_ren:={
 mixed:=by kernel_rfl
 f137:=func173.trans (congrArg some (by kernel_rfl))
 f217:=func216.trans (congrArg some (by kernel_rfl))
 f266:=func234.trans (congrArg some (by kernel_rfl))
 t3:=underlying3
 a3:=isAgg3
 z3:=sizeOf3
 v3:=zeroValue3
 t5:=underlying5
 a5:=isAgg5
 z5:=sizeOf5
 v5:=zeroValue5
 t9:=underlying9
 a9:=isAgg9
 z9:=sizeOf9
 v9:=zeroValue9 }
end Go.Proofs
