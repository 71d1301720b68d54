import Derived.Test.YtnnbgjaphfhibaaGreatDoorE06
import Derived.Lib.AtoiTie
import Derived.Deep.RegionHeld3
import Derived.Test.YtnnbgjaphfhibaaGreatDoorE08
import Derived.OwnWalk
set_option linter.all false
set_option maxRecDepth 100000
set_option maxHeartbeats 0
open Go.Proofs.Tryz
namespace Go.Proofs.YtnnbgjaphfhibaaGreatDoor
open Go.RowKit Go.Joins
theorem abV:∀(d:List UInt8) (n:Nat),(∀c∈d,aA (c.toNat:Int)=true)->Lib.decFrom n d=some (ja d n):=by
 intro d
 induction d with
 | nil=>intro n _;rfl
 | cons c r ih =>
  intro n h;have hc:=of_decide_eq_true (h c (by simp));have h1:48<=c.toNat/\c.toNat<=57:=by omega
  have e:Lib.digitVal c=some (c.toNat - 48):=by unfold Lib.digitVal;rw[if_pos h1]
  have:=ih (10*n+(c.toNat - 48)) (fun x hx=>h x (by simp[hx]));show(match Lib.digitVal c with|some d=>Lib.decFrom (n*10+d) r|none=>none)=some (ja r (10*n+(c.toNat - 48)));rw[e,<-this,Nat.mul_comm 10 n]
theorem LZ(d:List UInt8)(hd:d≠[])(h:∀c∈d,aA (c.toNat:Int)=true):Lib.decNat d=some (ja d 0):=by
 unfold Lib.decNat
 cases d with
 | nil=>exact absurd rfl hd
 | cons c r=>simpa using abV (c :: r) 0 h
theorem abW(d:List UInt8)(hd:d≠[])(hl:d.length<=18)(h:∀c∈d,aA (c.toNat:Int)=true):Lib.atoiAll d=.ok (ja d 0:Int):=by
 cases d with
 | nil=>exact absurd rfl hd
 | cons c r =>
  have hc:=of_decide_eq_true (h c (by simp));rw[Lib.atoiAll_plain c r (by omega) (by omega),Lib.signless_short hl,LZ _ hd h];rfl
theorem abX(d:List UInt8)(hd:d≠[])(hl:d.length<=18)(h:∀c∈d,aA (c.toNat:Int)=true):Lib.atoiAll (43 :: d)=.ok (ja d 0:Int):=by
 rw[Lib.atoiAll_plus,Lib.signless_short hl,LZ _ hd h];rfl
theorem abY(d:List UInt8)(hd:d≠[])(hl:d.length<=18)(h:∀c∈d,aA (c.toNat:Int)=true):Lib.atoiAll (45 :: d)=.ok (-(ja d 0:Int)):=by
 rw[Lib.atoiAll_minus,Lib.signed_short hl,LZ _ hd h];rfl
open Go.RowKit Go.Joins
theorem L8(p:Int->Bool)(l:List UInt8)(i:Nat):∀c∈aj l i (toR p l i-i),p (c.toNat:Int)=true:=by
 intro c hc;unfold aj toR runN at hc;rw[Nat.add_sub_cancel_left]at hc;have e:(l.drop i).take ((l.drop i).takeWhile (fun c=>p (c.toNat:Int))).length=(l.drop i).takeWhile (fun c=>p (c.toNat:Int)):=by
  have:=List.takeWhile_prefix (fun c:UInt8=>p (c.toNat:Int)) (l:=l.drop i);exact(List.prefix_iff_eq_take.1 this).symm
 rw[e]at hc;exact(List.all_takeWhile (p:=fun c:UInt8=>p (c.toNat:Int)) (l:=l.drop i) |> List.all_eq_true.1) c hc
theorem TU(l:List UInt8)(i k:Nat)(h:i+k<=l.length):(aj l i k).length=k:=by
 unfold aj;rw[List.length_take,List.length_drop];omega
theorem TV(l:List UInt8)(i k:Nat)(h:i<l.length):aj l i (k+1)=l[i] :: aj l (i+1) k:=by
 unfold aj;rw[List.drop_eq_getElem_cons h,List.take_succ_cons]
theorem abZ(l:List UInt8)(i a j:Nat)(hj:j<=l.length)(haj:a<j)(hall:∀c∈aj l a (j-a),aA (c.toNat:Int)=true)(h18:j-a<=18)
  (h:(aA (nx l i)=true/\a=i)\/((nx l i=43\/nx l i=45)/\a=i+1)) :
  Lib.atoiAll (aj l i (j-i))=.ok (if nx l i=45 then -(ja (aj l a (j-a)) 0:Int) else(ja (aj l a (j-a)) 0:Int)):=by
 have hlen:=TU l a (j-a) (by omega);have hne:aj l a (j-a)≠[]:=fun e=>by rw[e]at hlen;simp at hlen;omega
 rcases h with⟨h1,rfl⟩|⟨h1,rfl⟩
 ·rw[if_neg (fun e=>by rw[e]at h1;exact absurd h1 (by decide))];exact abW _ hne (by omega) hall
 ·have hil:i<l.length:=by omega
  have e:j-i=(j-(i+1))+1:=by omega
  rw[e,TV l i _ hil];have hx:=pX l i hil
  rcases h1 with h1|h1
  ·have:l[i]=43:=by
    apply UInt8.toNat_inj.1;have:(l[i].toNat:Int)=43:=by rw[<-hx];exact h1
    show l[i].toNat=43;omega
   rw[this,if_neg (by rw[h1];decide)];exact abX _ hne (by omega) hall
  ·have:l[i]=45:=by
    apply UInt8.toNat_inj.1;have:(l[i].toNat:Int)=45:=by rw[<-hx];exact h1
    show l[i].toNat=45;omega
   rw[this,if_pos h1];exact abY _ hne (by omega) hall
open Go.RowKit Go.Joins
theorem ab1(w:World)(e:TypeId)(s:ByteArray):w.grownBy (Lib.bytesWorld w e s) none :=
 ⟨rfl,rfl,rfl,by rw[Lib.bytesWorld_size];omega,fun k hk _=>Lib.bytesWorld_at_old w e s k hk⟩
theorem ab2(x:List UInt8)(v:Int)(hx:x.length<=1048576)(h:Lib.atoiAll x=.ok v)(w:World) :
  Calls prog 218 #[.string ⟨x.toArray⟩] w fun e w'=>e=.returned (.tuple #[.int .i64 v,.nilIface])/\w.grownBy w' none:=by
 have hz:(⟨x.toArray⟩:ByteArray).size=x.length:=by show x.toArray.size=_;simp
 refine(Any.strconv_Atoi_ok Tryz.lays172 ⟨x.toArray⟩ (by rw[hz];omega) v (by simpa using h) w).mono ?_;rintro e w' ⟨rfl,rfl|⟨t,rfl⟩⟩
 ·exact⟨rfl,au _ _⟩
 ·refine⟨rfl,?_⟩;exact ab1 _ _ _
def iq(l:List UInt8)(i:Nat):Nat:=if aA (nx l i)=true then i else i+1
theorem TW(l:List UInt8)(i:Nat):jc l i =
  if toR aA l (iq l i)=iq l i\/(1<toR aA l (iq l i)-iq l i/\nx l (iq l i)=48) then .error (2,iq l i)
  else if 18<toR aA l (iq l i)-iq l i then .error (3,i)
  else .ok (if nx l i=45 then -(ja (aj l (iq l i) (toR aA l (iq l i)-iq l i)) 0:Int) else(ja (aj l (iq l i) (toR aA l (iq l i)-iq l i)) 0:Int),toR aA l (iq l i)):=rfl
open Go.RowKit
def VX(v:Nat)(y1 y2 y3:Int)(x4 x5:ByteArray)(w:World):Prop:=w.heap[v]?=some (.cells #[.int .i64 y1,.int .i64 y2,.int .i64 y3,.string x4,.string x5] 147 (0,0))
theorem VX.cells{v:Nat}{y1 y2 y3:Int}{x4 x5:ByteArray}{w:World}(h:VX v y1 y2 y3 x4 x5 w):w.cell? ⟨v,0,none⟩=some (.int .i64 y1)/\w.cell? ⟨v,1,none⟩=some (.int .i64 y2)/\w.cell? ⟨v,2,none⟩=some (.int .i64 y3)/\w.cell? ⟨v,3,none⟩=some (.string x4)/\w.cell? ⟨v,4,none⟩=some (.string x5) :=
 ⟨by rw[ag h];rfl,by rw[ag h];rfl,by rw[ag h];rfl,by rw[ag h];rfl,by rw[ag h];rfl⟩
theorem VX.f{v:Nat}{y1 y2 y3:Int}{x4 x5:ByteArray}{w:World}(h:VX v y1 y2 y3 x4 x5 w)(o:Nat):w.frozen? ⟨v,o,none⟩=false:=Lib.frozen_of_heap h o
theorem VX.grow{b v:Nat}{y1 y2 y3:Int}{x4 x5:ByteArray}{w w':World}(h:VX v y1 y2 y3 x4 x5 w)(hg:w.grownBy w' (some b))(hn:v≠b):VX v y1 y2 y3 x4 x5 w':=by
 unfold VX at h ⊢;rw[hg.block v ((dO h)) (by simpa using hn)];exact h
theorem VX.set3{v:Nat}{y1 y2 y3:Int}{x4 x5:ByteArray}{w:World}(h:VX v y1 y2 y3 x4 x5 w)(z:ByteArray):VX v y1 y2 y3 z x5 (w.setCell ⟨v,3,none⟩ (.string z)):=by
 unfold VX at h ⊢;simp[World.setCell,Array.getElem?_modify,h]
theorem VX.set4{v:Nat}{y1 y2 y3:Int}{x4 x5:ByteArray}{w:World}(h:VX v y1 y2 y3 x4 x5 w)(z:ByteArray):VX v y1 y2 y3 x4 z (w.setCell ⟨v,4,none⟩ (.string z)):=by
 unfold VX at h ⊢;simp[World.setCell,Array.getElem?_modify,h]
theorem VX.other{v u:Nat}{y1 y2 y3:Int}{x4 x5:ByteArray}{w:World}(h:VX v y1 y2 y3 x4 x5 w)(hn:v≠u)(o:Nat)(x:Value):VX v y1 y2 y3 x4 x5 (w.setCell ⟨u,o,none⟩ x):=by
 unfold VX at h ⊢;rw[<-h];exact heap_setCell_other w _ v x hn
def uZ(w:World)(A:Nat)(y1 y2 y3:Int)(x4 x5:ByteArray):World:=((((w.setCell ⟨A,0,none⟩ (.int .i64 y1)).setCell ⟨A,1,none⟩ (.int .i64 y2)).setCell ⟨A,2,none⟩ (.int .i64 y3)).setCell ⟨A,3,none⟩ (.string x4)).setCell ⟨A,4,none⟩ (.string x5)
theorem L9{w:World}{A:Nat}{z1 z2 z3:Int}{z4 z5:ByteArray}(h:VX A z1 z2 z3 z4 z5 w)(y1 y2 y3:Int)(x4 x5:ByteArray):VX A y1 y2 y3 x4 x5 (uZ w A y1 y2 y3 x4 x5):=by
 unfold VX at h ⊢;unfold uZ;simp[World.setCell,Array.getElem?_modify,h]
theorem yO{b A:Nat}{w W:World}(h:w.grownBy W (some b))(hA:w.heap.size<=A)(o:Nat)(x:Value):w.grownBy (W.setCell ⟨A,o,none⟩ x) (some b) :=
 ⟨h.os,h.tape,h.output,by simpa [World.setCell] using h.size,fun k hk hn=>by rw[<-h.block k hk hn];exact heap_setCell_other W _ k x (by simp;omega)⟩
theorem ab3{b A:Nat}{w W:World}(h:w.grownBy W (some b))(hA:w.heap.size<=A)(y1 y2 y3:Int)(x4 x5:ByteArray):w.grownBy (uZ W A y1 y2 y3 x4 x5) (some b):=yO (yO (yO (yO (yO h hA _ _) hA _ _) hA _ _) hA _ _) hA _ _
theorem Ht{P:Program}{fn:Func}{p u:Tmp}{ty:TypeId}(h:fn.results=#[.cell p ty,.tmp u])(tmps:Array Value)(w:World)(g:Nat)(t:TypeId)(cs:Array Value)(fr:Nat × Nat)(d:TypeDesc)
  (hp:tmps.getD p undef=.pointer (some ⟨g,0,none⟩)) (hg:w.heap[g]?=some (.cells cs t fr)) (hu:P.underlying ty=some d) (hd:(match d with | .struct _ | .array _ _=>true|_=>false)=true) (hi:(P.info? ty).map (·.size)=some cs.size) :
  (results fn tmps).run P w=.ok (.tuple #[.agg cs,tmps.getD u undef]) w:=by
 rw[results_cell_tmp h,hp];simp[asAddr,run_loadVar_row w g t ty cs fr d hg hu hd hi,Result.andThen]
theorem qm{P:Program}{fn:Func}{p u r:Tmp}{ty:TypeId}(h:fn.results=#[.cell p ty,.tmp u,.tmp r])(tmps:Array Value)(w:World)(g:Nat)(t:TypeId)(cs:Array Value)(fr:Nat × Nat)(d:TypeDesc)
  (hp:tmps.getD p undef=.pointer (some ⟨g,0,none⟩)) (hg:w.heap[g]?=some (.cells cs t fr)) (hu:P.underlying ty=some d) (hd:(match d with | .struct _ | .array _ _=>true|_=>false)=true) (hi:(P.info? ty).map (·.size)=some cs.size) :
  (results fn tmps).run P w=.ok (.tuple #[.agg cs,tmps.getD u undef,tmps.getD r undef]) w:=by
 have hp':tmps[p]?.getD undef=.pointer (some ⟨g,0,none⟩):=by simpa using hp
 simp[results,h,Result.andThen,hp',asAddr,run_loadVar_row w g t ty cs fr d hg hu hd hi]
theorem xg{A:Nat}{w W:World}(h:w.grownBy W none)(hA:w.heap.size<=A)(o:Nat)(x:Value):w.grownBy (W.setCell ⟨A,o,none⟩ x) none :=
 ⟨h.os,h.tape,h.output,by simpa [World.setCell] using h.size,fun k hk hn=>by rw[<-h.block k hk hn];exact heap_setCell_other W _ k x (by simp;omega)⟩
theorem tX{A:Nat}{w W:World}(h:w.grownBy W none)(hA:w.heap.size<=A)(y1 y2 y3:Int)(x4 x5:ByteArray):w.grownBy (uZ W A y1 y2 y3 x4 x5) none:=xg (xg (xg (xg (xg h hA _ _) hA _ _) hA _ _) hA _ _) hA _ _
open Go.RowKit
structure G2(b v:Nat)(w w':World):Prop where
 os:w'.os=w.os
 tape:w'.tape=w.tape
 output:w'.output=w.output
 size:w.heap.size<=w'.heap.size
 block:∀k,k<w.heap.size->k≠b->k≠v->w'.heap[k]?=w.heap[k]?
theorem G2.refl(b v:Nat)(w:World):G2 b v w w:=⟨rfl,rfl,rfl,Nat.le_refl _,fun _ _ _ _=>rfl⟩
theorem G2.step{b v:Nat}{w w1 w2:World}(h:G2 b v w w1)(hg:w1.grownBy w2 (some b)):G2 b v w w2 :=
 ⟨hg.os.trans h.os,hg.tape.trans h.tape,hg.output.trans h.output,Nat.le_trans h.size hg.size,fun k hk h1 h2=>(hg.block k (Nat.lt_of_lt_of_le hk h.size) (by simpa using h1)).trans (h.block k hk h1 h2)⟩
theorem G2.drew{b v:Nat}{w w1:World}(h:G2 b v w w1)(n:Nat):G2 b v w (w1.drewN n):=⟨h.os,h.tape,h.output,h.size,h.block⟩
theorem G2.set{b v:Nat}{w w1:World}(h:G2 b v w w1)(o:Nat)(x:Value):G2 b v w (w1.setCell ⟨v,o,none⟩ x) :=
 ⟨h.os,h.tape,h.output,by simpa [World.setCell] using h.size,fun k hk h1 h2=>by rw[<-h.block k hk h1 h2];exact heap_setCell_other w1 _ k x (fun e=>h2 e)⟩
def VB(v:Nat)(x1 x2 x3:Int)(w:World):Prop:=w.heap[v]?=some (.cells #[.int .i64 x1,.int .i64 x2,.int .i64 x3,.string ⟨#[]⟩,.string ⟨#[]⟩] 147 (0,0))
theorem VB.cell{v:Nat}{x1 x2 x3:Int}{w:World}(h:VB v x1 x2 x3 w):w.cell? ⟨v,0,none⟩=some (.int .i64 x1)/\w.cell? ⟨v,1,none⟩=some (.int .i64 x2)/\w.cell? ⟨v,2,none⟩=some (.int .i64 x3) :=
 ⟨by rw[ag h];rfl,by rw[ag h];rfl,by rw[ag h];rfl⟩
theorem VB.f{v:Nat}{x1 x2 x3:Int}{w:World}(h:VB v x1 x2 x3 w)(o:Nat):w.frozen? ⟨v,o,none⟩=false:=Lib.frozen_of_heap h o
theorem VB.grow{b v:Nat}{x1 x2 x3:Int}{w w':World}(h:VB v x1 x2 x3 w)(hg:w.grownBy w' (some b))(hn:v≠b):VB v x1 x2 x3 w':=by
 unfold VB at h ⊢;rw[hg.block v ((dO h)) (by simpa using hn)];exact h
theorem VB.drew{v:Nat}{x1 x2 x3:Int}{w:World}(h:VB v x1 x2 x3 w)(n:Nat):VB v x1 x2 x3 (w.drewN n):=h
theorem VB.set0{v:Nat}{x1 x2 x3:Int}{w:World}(h:VB v x1 x2 x3 w)(y:Int):VB v y x2 x3 (w.setCell ⟨v,0,none⟩ (.int .i64 y)):=by
 unfold VB at h ⊢;simp[World.setCell,Array.getElem?_modify,h]
theorem VB.set1{v:Nat}{x1 x2 x3:Int}{w:World}(h:VB v x1 x2 x3 w)(y:Int):VB v x1 y x3 (w.setCell ⟨v,1,none⟩ (.int .i64 y)):=by
 unfold VB at h ⊢;simp[World.setCell,Array.getElem?_modify,h]
theorem VB.set2{v:Nat}{x1 x2 x3:Int}{w:World}(h:VB v x1 x2 x3 w)(y:Int):VB v x1 x2 y (w.setCell ⟨v,2,none⟩ (.int .i64 y)):=by
 unfold VB at h ⊢;simp[World.setCell,Array.getElem?_modify,h]
theorem RS.other{b v:Nat}{s:ByteArray}{i:Nat}{w:World}(h:RS b s i w)(hn:b≠v)(o:Nat)(x:Value):RS b s i (w.setCell ⟨v,o,none⟩ x):=by
 obtain⟨t,h⟩:=h;exact⟨t,by rw[<-h];exact heap_setCell_other w _ b x hn⟩
def yP(l:List UInt8)(j:Nat)(x1 x2 x3:Int):Int × Nat × Int × Int × Int:=(0,j,x1,x2,x3)
def tY(l:List UInt8)(j:Nat)(x1 x2:Int):Int × Nat × Int × Int × Int :=
 if l[j]?=some 46 then(if(rdNum l (j+1)).1=0 then yP l (rdNum l (j+1)).2.2 x1 x2 (rdNum l (j+1)).2.1 else((rdNum l (j+1)).1,(rdNum l (j+1)).2.2,0,0,0)) else(2,j,0,0,0)
def xh(l:List UInt8)(j:Nat)(x1:Int):Int × Nat × Int × Int × Int :=
 if l[j]?=some 46 then(if(rdNum l (j+1)).1=0 then tY l (rdNum l (j+1)).2.2 x1 (rdNum l (j+1)).2.1 else((rdNum l (j+1)).1,(rdNum l (j+1)).2.2,0,0,0)) else(2,j,0,0,0)
theorem TZ(l:List UInt8):dh l=if(rdNum l 0).1=0 then xh l (rdNum l 0).2.2 (rdNum l 0).2.1 else((rdNum l 0).1,(rdNum l 0).2.2,0,0,0):=rfl
theorem ab4(l:List UInt8)(i:Nat)(hi:i<=l.length):(rdNum l i).2.2<=l.length:=by
 have:=tq aN l i hi;unfold rdNum
 repeat' split
 all_goals first|exact hi|(simp only;omega)
theorem ip0(v:Nat)(w:World):(Instr.index 275 (.agg #[.pointer (some ⟨v,0,none⟩),.pointer (some ⟨v,1,none⟩),.pointer (some ⟨v,2,none⟩)]) (.int .i64 0)).run prog w=.ok (.pointer (some ⟨v,0,none⟩)) w:=by kernel_rfl
theorem ip1(v:Nat)(w:World):(Instr.index 275 (.agg #[.pointer (some ⟨v,0,none⟩),.pointer (some ⟨v,1,none⟩),.pointer (some ⟨v,2,none⟩)]) (.int .i64 1)).run prog w=.ok (.pointer (some ⟨v,1,none⟩)) w:=by kernel_rfl
theorem ip2(v:Nat)(w:World):(Instr.index 275 (.agg #[.pointer (some ⟨v,0,none⟩),.pointer (some ⟨v,1,none⟩),.pointer (some ⟨v,2,none⟩)]) (.int .i64 2)).run prog w=.ok (.pointer (some ⟨v,2,none⟩)) w:=by kernel_rfl
theorem ab5(b v:Nat)(s:ByteArray)(w:World)(h:RS b s 0 w)(hv:VB v 0 0 0 w)(hbv:b≠v)(hs:s.size<2 ^ 62) :
  Calls prog 167 #[.pointer (some ⟨b,0,none⟩),.pointer (some ⟨v,0,none⟩)] w fun e w'=>e=.returned (.int .i64 (dh s.data.toList).1)/\RS b s (dh s.data.toList).2.1 w'/\(∃y1 y2 y3,VB v y1 y2 y3 w'/\((dh s.data.toList).1=0->(y1,y2,y3)=(dh s.data.toList).2.2))/\G2 b v w w':=by
 obtain⟨l,hl⟩:∃l,l=s.data.toList:=⟨_,rfl⟩;have hll:l.length=s.size:=by rw[hl];simp
 have kQ:=ae hll;obtain⟨R,hR⟩:=zN (dh l);rw[<-hl,hR];have Mc:=TZ l;rw[hR]at Mc;have HR:=ae Mc;have CN:Hd (∀i w,i<=s.size->RS b s i w->Calls prog 206 #[.pointer (some ⟨b,0,none⟩)] w fun e w'=>e=.returned (.tuple #[.int .i64 (rdNum l i).2.1,.int .i64 (rdNum l i).1])/\RS b s (rdNum l i).2.2 w'/\w.grownBy w' (some b)):=fun i w hi h=>by rw[hl];exact aa2 b s i w hi h hs
 have TY:=ae (fun i w (hc:l[i]?=some 46) (h:RS b s i w)=>CO b s i 46 w (by rw[<-hl];exact hc) h hs);have TN:Hd (∀i w,i<=s.size->¬l[i]?=some 46->RS b s i w->Calls prog 205 #[.pointer (some ⟨b,0,none⟩),.string ⟨#[46]⟩] w fun e w'=>e=.returned (.bool false)/\RS b s i w'/\w.grownBy w' (some b)):=fun i w hi hc h=>Df b s i 46 w hi (by rw[<-hl];exact hc) h hs
 have HI:Hd (RS b s 0 w/\VB v 0 0 0 w):=⟨h,hv⟩;have dw:=ae hbv;have Md:Hd (∀i,i<=s.size->(rdNum l i).2.2<=s.size):=fun i hi=>by have:=ab4 l i (by rw[hll];exact hi);rw[hll]at this;exact this
 clear hl hll hR Mc h hv hbv hs;go_enter func167,ntmps167;go_wp2;go_quiet (fail);go_wp2;go_loopw [18] (fun vi wr=>∃(k j:Nat) (x1 x2 x3:Int),vi=.int .i64 k/\j<=s.size/\RS b s j wr/\VB v x1 x2 x3 wr/\G2 b v w wr/\((k=0/\j=0/\x2=0/\x3=0)\/(k=1/\R=xh l j x1/\x3=0)\/(k=2/\R=tY l j x1 x2)\/(k=3/\R=yP l j x1 x2 x3))) (fun vi _=>3-(intOf vi).toNat)
 case atStart=>exact⟨0,0,0,0,0,rfl,Nat.zero_le _,HI.o.1.drew _,HI.o.2.drew _,(G2.refl b v w).drew _,Or.inl ⟨rfl,rfl,rfl,rfl⟩⟩
 case round =>
  obtain⟨k,j,x1,x2,x3,rfl,hj,hrs,hvb,hg2,hcase⟩:=hrel;have HJ:=ae hj;have dD:=ae hrs;have Ag:=ae hvb;have HG:=ae hg2;clear hj hrs hvb hg2
  rcases hcase with⟨rfl,rfl,hx2,hx3⟩|⟨rfl,hrk,hx3⟩|⟨rfl,hrk⟩|⟨rfl,hrk⟩
  ·have ix:=ip0 v wr;have Ua:=ae hx3;have HRk:=ae HR.o;have qo:=ae HJ.o;have Dv:=ae dD.o;have Dw:=ae Ag.o;have Dx:=ae HG.o;clear hx2 hx3 HR;have xk:=ae (CN.o (0) wr qo.o Dv.o);have xq:=ae (Md.o (0) qo.o);obtain⟨E,hE⟩:=zN ((rdNum l (0)).1);obtain⟨V,hV⟩:=zN ((rdNum l (0)).2.1);obtain⟨Q,hQ⟩:=zN ((rdNum l (0)).2.2);rw[hE,hV,hQ]at xk;rw[hQ]at xq;rw[hE,hV,hQ]at HRk;clear hE hV hQ;go_wp2_with (go_at_call 206;refine xk.o.mono ?_);rintro e wq ⟨rfl,hrq,hgq⟩;have oq:=ae (Dw.o.grow hgq (Ne.symm dw.o));have xu:=ae (Dx.o.step hgq);have xw:=ae hrq;clear hrq hgq;have cc:=oq.o.cell.1;have ff:=oq.o.f 0
   cases hz:(E == 0) with
   | false =>
    have HZ:Hd (R=(E,Q,0,0,0)):=by show R=_;rw[HRk.o,if_neg (by simpa using hz)]
    go_wp2;go_ret;refine⟨dB (by rw[HZ.o]),by rw[HZ.o];exact xw.o.other dw.o _ _,⟨_,_,_,oq.o.set0 _,fun hh=>?_⟩,xu.o.set _ _⟩;rw[HZ.o]at hh;exact absurd hh (by simpa using hz)
   | true =>
    have HZ:Hd (R=xh l Q V):=by show R=_;rw[HRk.o,if_pos (by simpa using hz)]
    go_wp2;go_roundw
    case rel=>exact⟨1,Q,V,x2,x3,rfl,xq.o,xw.o.other dw.o _ _,oq.o.set0 _,xu.o.set _ _,Or.inr (Or.inl ⟨rfl,HZ.o,Ua.o⟩)⟩
    case measure=>simp[intOf]
  ·have ix:=ip1 v wr;have Ua:=ae hx3;have Dy:=ae hrk;clear hrk hx3
   cases hc:decide (l[j]?=some 46) with
   | false =>
    have hc':=of_decide_eq_false hc;have HZ:Hd (R=(2,j,0,0,0)):=by show R=_;rw[Dy.o];unfold xh;rw[if_neg hc']
    have CT:=ae (TN.o j wr HJ.o hc' dD.o);clear hc hc';go_wp2_with (go_at_call 205;refine CT.o.mono ?_);rintro e wt ⟨rfl,hrt,hgt⟩;have HF:Hd (RS b s j wt/\G2 b v w wt):=⟨hrt,HG.o.step hgt⟩;have Me:=ae (Ag.o.grow hgt (Ne.symm dw.o));clear hrt hgt;go_wp2;go_ret;refine⟨dB (by rw[HZ.o]),by rw[HZ.o];exact HF.o.1,⟨_,_,_,Me.o,fun hh=>?_⟩,HF.o.2⟩;rw[HZ.o]at hh;exact absurd hh (by show ¬(2:Int)=0;decide)
   | true =>
    have hc':=of_decide_eq_true hc;have HRk:Hd (R=if(rdNum l (j+1)).1=0 then tY l (rdNum l (j+1)).2.2 x1 (rdNum l (j+1)).2.1 else((rdNum l (j+1)).1,(rdNum l (j+1)).2.2,0,0,0)):=by show R=_;rw[Dy.o];unfold xh;rw[if_pos hc']
    have CT:=ae (TY.o j wr hc' dD.o);have qo:Hd (j+1<=s.size):=by have:=(List.getElem?_eq_some_iff.1 hc').1;rw[kQ.o]at this;exact this
    clear hc hc';go_wp2_with (go_at_call 205;refine CT.o.mono ?_);rintro e wt ⟨rfl,hrt,hgt⟩;have Dv:=ae hrt;have Dw:=ae (Ag.o.grow hgt (Ne.symm dw.o));have Dx:=ae (HG.o.step hgt);clear hrt hgt;have xk:=ae (CN.o (j+1) wt qo.o Dv.o);have xq:=ae (Md.o (j+1) qo.o);obtain⟨E,hE⟩:=zN ((rdNum l (j+1)).1);obtain⟨V,hV⟩:=zN ((rdNum l (j+1)).2.1);obtain⟨Q,hQ⟩:=zN ((rdNum l (j+1)).2.2);rw[hE,hV,hQ]at xk;rw[hQ]at xq;rw[hE,hV,hQ]at HRk;clear hE hV hQ;go_wp2_with (go_at_call 206;refine xk.o.mono ?_);rintro e wq ⟨rfl,hrq,hgq⟩;have oq:=ae (Dw.o.grow hgq (Ne.symm dw.o));have xu:=ae (Dx.o.step hgq);have xw:=ae hrq;clear hrq hgq;have cc:=oq.o.cell.2.1;have ff:=oq.o.f 1
    cases hz:(E == 0) with
    | false =>
     have HZ:Hd (R=(E,Q,0,0,0)):=by show R=_;rw[HRk.o,if_neg (by simpa using hz)]
     go_wp2;go_ret;refine⟨dB (by rw[HZ.o]),by rw[HZ.o];exact xw.o.other dw.o _ _,⟨_,_,_,oq.o.set1 _,fun hh=>?_⟩,xu.o.set _ _⟩;rw[HZ.o]at hh;exact absurd hh (by simpa using hz)
    | true =>
     have HZ:Hd (R=tY l Q x1 V):=by show R=_;rw[HRk.o,if_pos (by simpa using hz)]
     go_wp2;go_roundw
     case rel=>exact⟨2,Q,x1,V,x3,rfl,xq.o,xw.o.other dw.o _ _,oq.o.set1 _,xu.o.set _ _,Or.inr (Or.inr (Or.inl ⟨rfl,HZ.o⟩))⟩
     case measure=>simp[intOf]
  ·have ix:=ip2 v wr;have Dy:=ae hrk;clear hrk
   cases hc:decide (l[j]?=some 46) with
   | false =>
    have hc':=of_decide_eq_false hc;have HZ:Hd (R=(2,j,0,0,0)):=by show R=_;rw[Dy.o];unfold tY;rw[if_neg hc']
    have CT:=ae (TN.o j wr HJ.o hc' dD.o);clear hc hc';go_wp2_with (go_at_call 205;refine CT.o.mono ?_);rintro e wt ⟨rfl,hrt,hgt⟩;have HF:Hd (RS b s j wt/\G2 b v w wt):=⟨hrt,HG.o.step hgt⟩;have Me:=ae (Ag.o.grow hgt (Ne.symm dw.o));clear hrt hgt;go_wp2;go_ret;refine⟨dB (by rw[HZ.o]),by rw[HZ.o];exact HF.o.1,⟨_,_,_,Me.o,fun hh=>?_⟩,HF.o.2⟩;rw[HZ.o]at hh;exact absurd hh (by show ¬(2:Int)=0;decide)
   | true =>
    have hc':=of_decide_eq_true hc;have HRk:Hd (R=if(rdNum l (j+1)).1=0 then yP l (rdNum l (j+1)).2.2 x1 x2 (rdNum l (j+1)).2.1 else((rdNum l (j+1)).1,(rdNum l (j+1)).2.2,0,0,0)):=by show R=_;rw[Dy.o];unfold tY;rw[if_pos hc']
    have CT:=ae (TY.o j wr hc' dD.o);have qo:Hd (j+1<=s.size):=by have:=(List.getElem?_eq_some_iff.1 hc').1;rw[kQ.o]at this;exact this
    clear hc hc';go_wp2_with (go_at_call 205;refine CT.o.mono ?_);rintro e wt ⟨rfl,hrt,hgt⟩;have Dv:=ae hrt;have Dw:=ae (Ag.o.grow hgt (Ne.symm dw.o));have Dx:=ae (HG.o.step hgt);clear hrt hgt;have xk:=ae (CN.o (j+1) wt qo.o Dv.o);have xq:=ae (Md.o (j+1) qo.o);obtain⟨E,hE⟩:=zN ((rdNum l (j+1)).1);obtain⟨V,hV⟩:=zN ((rdNum l (j+1)).2.1);obtain⟨Q,hQ⟩:=zN ((rdNum l (j+1)).2.2);rw[hE,hV,hQ]at xk;rw[hQ]at xq;rw[hE,hV,hQ]at HRk;clear hE hV hQ;go_wp2_with (go_at_call 206;refine xk.o.mono ?_);rintro e wq ⟨rfl,hrq,hgq⟩;have oq:=ae (Dw.o.grow hgq (Ne.symm dw.o));have xu:=ae (Dx.o.step hgq);have xw:=ae hrq;clear hrq hgq;have cc:=oq.o.cell.2.2;have ff:=oq.o.f 2
    cases hz:(E == 0) with
    | false =>
     have HZ:Hd (R=(E,Q,0,0,0)):=by show R=_;rw[HRk.o,if_neg (by simpa using hz)]
     go_wp2;go_ret;refine⟨dB (by rw[HZ.o]),by rw[HZ.o];exact xw.o.other dw.o _ _,⟨_,_,_,oq.o.set2 _,fun hh=>?_⟩,xu.o.set _ _⟩;rw[HZ.o]at hh;exact absurd hh (by simpa using hz)
    | true =>
     have HZ:Hd (R=yP l Q x1 x2 V):=by show R=_;rw[HRk.o,if_pos (by simpa using hz)]
     go_wp2;go_roundw
     case rel=>exact⟨3,Q,x1,x2,V,rfl,xq.o,xw.o.other dw.o _ _,oq.o.set2 _,xu.o.set _ _,Or.inr (Or.inr (Or.inr ⟨rfl,HZ.o⟩))⟩
     case measure=>simp[intOf]
  ·have HZ:Hd (R=(0,j,x1,x2,x3)):=hrk;clear hrk;go_wp2;go_ret;refine⟨dB (by rw[HZ.o]),by rw[HZ.o];exact dD.o,⟨_,_,_,Ag.o,fun _=>by rw[HZ.o]⟩,HG.o⟩
open Go.RowKit Go.Shelf
def jE(st:Bool)(l:List UInt8)(i:Nat):List UInt8:=if(aQ st l i).1=0 then aj l i ((aQ st l i).2-i) else[]
theorem ab6(b:Nat)(s:ByteArray)(i:Nat)(w:World)(hi:i<=s.size)(h:RS b s i w)(hs:s.size<=281474976710656) :
  Calls prog 207 #[.pointer (some ⟨b,0,none⟩),.int .i64 0] w fun e w'=>e=.returned (.tuple #[.string ⟨(jE true s.data.toList i).toArray⟩,.int .i64 (aQ true s.data.toList i).1])/\RS b s (aQ true s.data.toList i).2 w'/\w.grownBy w' (some b):=by
 have hsl:s.data.toList.length=s.size:=by simp
 have CS:=ae (aa0 b s i w hi h (by omega));have d1:=h.c1;have hpt:=Gu true s.data.toList _ i rfl (by rw[hsl];exact hi);obtain⟨P,hP⟩:∃P,P=jE true s.data.toList i:=⟨_,rfl⟩;unfold jE at hP;have hP0:jE true s.data.toList i=P:=hP.symm;rw[hP0];obtain⟨E,Q,jM⟩:∃E Q,aQ true s.data.toList i=(E,Q):=⟨_,_,rfl⟩;rw[jM]at CS hpt hP;rw[jM];simp only at hpt hP;have HP:=ae hP;have nz:Hd (E=0->i<Q/\Q<=s.size):=fun h=>by have:=hpt h;rw[hsl]at this;exact⟨this.1,this.2.1⟩
 have HS:Hd (s.size<=281474976710656/\s.data.toList.length=s.size):=⟨hs,hsl⟩;clear hP0 jM hpt hP hi h hs hsl
 cases hz:(E == 0) with
 | false =>
  have HZ:Hd (P=[]):=by show P=[];rw[HP.o,if_neg (by simpa using hz)]
  go_enter func207,ntmps207;go_wp2_with (go_at_call 226;refine CS.o.mono ?_);rintro e w1 rfl hr1 hg1;have HF:Hd (RS b s Q w1/\w.grownBy w1 (some b)):=⟨hr1,hg1⟩;clear hr1 hg1;go_wp2;refine bodyPost_ret (results_tmp2 rfl _ _ _) rfl ⟨?_,HF.o.1,HF.o.2⟩;rw[HZ.o];rfl
 | true =>
  have hE:E=0:=by simpa using hz
  have hq:=nz.o hE;obtain⟨X,hX⟩:∃X:ByteArray,X=⟨P.toArray⟩:=⟨_,rfl⟩;have o7:P=aj s.data.toList i (Q-i):=by rw[HP.o,if_pos hE]
  have sl:∀wx,(Instr.slice 9 (.string s) (some (.int .i64 (i:Int))) (some (.int .i64 (Q:Int))) none).run prog wx=.ok (.string X) wx:=fun wx=>by rw[hX,o7];exact lM s i Q (by omega) hq.2 wx
  have CC:Hd (∀w,Calls prog 194 #[.string X] w fun e w'=>e=.returned (.string X)/\w.grownBy w' none):=fun w=>clone_any X w (by
   rw[hX];show P.toArray.size<=_;have:=tu s.data.toList i (Q-i) (by have:=HS.o.2;omega);rw[<-o7]at this;have h2:=HS.o.1;simp;omega)
  have HX:=ae hX;subst hE;clear hX o7 hq hz nz;go_enter func207,ntmps207;go_wp2_with (go_at_call 226;refine CS.o.mono ?_);rintro e w1 rfl hr1 hg1;have HR1:=ae hr1;have ax:=ae hg1;have f0:=hr1.c0;have f1:=hr1.c1;clear hr1 hg1;go_wp2
  go_region_held3 (fun w'=>w'.cell? ⟨b,0,none⟩=some (.string s)/\w'.cell? ⟨b,1,none⟩=some (.int .i64 (Q:Int))) ((first|go_keep|(refine⟨?_,?_⟩<;>(refine World.grownBy.cell (by assumption) ?_ (by simp);assumption)))) (first|(go_at_call 194;refine(CC.o _).mono ?_;rintro e w2 ⟨rfl,hg2⟩))
  have HF:Hd (RS b s Q w2/\w.grownBy w2 (some b)):=⟨HR1.o.grow (GV hg2),ai ax.o (GX (GV hg2) _)⟩;clear hg2;go_wp2;refine bodyPost_ret (results_tmp2 rfl _ _ _) rfl ⟨?_,HF.o.1,HF.o.2⟩;rw[<-HX.o];rfl
theorem ab7(b:Nat)(s:ByteArray)(i:Nat)(w:World)(hi:i<=s.size)(h:RS b s i w)(hs:s.size<=281474976710656) :
  Calls prog 207 #[.pointer (some ⟨b,0,none⟩),.int .i64 1] w fun e w'=>e=.returned (.tuple #[.string ⟨(jE false s.data.toList i).toArray⟩,.int .i64 (aQ false s.data.toList i).1])/\RS b s (aQ false s.data.toList i).2 w'/\w.grownBy w' (some b):=by
 have hsl:s.data.toList.length=s.size:=by simp
 have CS:=ae (aa1 b s i w hi h (by omega));have d1:=h.c1;have hpt:=Gu false s.data.toList _ i rfl (by rw[hsl];exact hi);obtain⟨P,hP⟩:∃P,P=jE false s.data.toList i:=⟨_,rfl⟩;unfold jE at hP;have hP0:jE false s.data.toList i=P:=hP.symm;rw[hP0];obtain⟨E,Q,jM⟩:∃E Q,aQ false s.data.toList i=(E,Q):=⟨_,_,rfl⟩;rw[jM]at CS hpt hP;rw[jM];simp only at hpt hP;have HP:=ae hP;have nz:Hd (E=0->i<Q/\Q<=s.size):=fun h=>by have:=hpt h;rw[hsl]at this;exact⟨this.1,this.2.1⟩
 have HS:Hd (s.size<=281474976710656/\s.data.toList.length=s.size):=⟨hs,hsl⟩;clear hP0 jM hpt hP hi h hs hsl
 cases hz:(E == 0) with
 | false =>
  have HZ:Hd (P=[]):=by show P=[];rw[HP.o,if_neg (by simpa using hz)]
  go_enter func207,ntmps207;go_wp2_with (go_at_call 226;refine CS.o.mono ?_);rintro e w1 rfl hr1 hg1;have HF:Hd (RS b s Q w1/\w.grownBy w1 (some b)):=⟨hr1,hg1⟩;clear hr1 hg1;go_wp2;refine bodyPost_ret (results_tmp2 rfl _ _ _) rfl ⟨?_,HF.o.1,HF.o.2⟩;rw[HZ.o];rfl
 | true =>
  have hE:E=0:=by simpa using hz
  have hq:=nz.o hE;obtain⟨X,hX⟩:∃X:ByteArray,X=⟨P.toArray⟩:=⟨_,rfl⟩;have o7:P=aj s.data.toList i (Q-i):=by rw[HP.o,if_pos hE]
  have sl:∀wx,(Instr.slice 9 (.string s) (some (.int .i64 (i:Int))) (some (.int .i64 (Q:Int))) none).run prog wx=.ok (.string X) wx:=fun wx=>by rw[hX,o7];exact lM s i Q (by omega) hq.2 wx
  have CC:Hd (∀w,Calls prog 194 #[.string X] w fun e w'=>e=.returned (.string X)/\w.grownBy w' none):=fun w=>clone_any X w (by
   rw[hX];show P.toArray.size<=_;have:=tu s.data.toList i (Q-i) (by have:=HS.o.2;omega);rw[<-o7]at this;have h2:=HS.o.1;simp;omega)
  have HX:=ae hX;subst hE;clear hX o7 hq hz nz;go_enter func207,ntmps207;go_wp2_with (go_at_call 226;refine CS.o.mono ?_);rintro e w1 rfl hr1 hg1;have HR1:=ae hr1;have ax:=ae hg1;have f0:=hr1.c0;have f1:=hr1.c1;clear hr1 hg1;go_wp2
  go_region_held3 (fun w'=>w'.cell? ⟨b,0,none⟩=some (.string s)/\w'.cell? ⟨b,1,none⟩=some (.int .i64 (Q:Int))) ((first|go_keep|(refine⟨?_,?_⟩<;>(refine World.grownBy.cell (by assumption) ?_ (by simp);assumption)))) (first|(go_at_call 194;refine(CC.o _).mono ?_;rintro e w2 ⟨rfl,hg2⟩))
  have HF:Hd (RS b s Q w2/\w.grownBy w2 (some b)):=⟨HR1.o.grow (GV hg2),ai ax.o (GX (GV hg2) _)⟩;clear hg2;go_wp2;refine bodyPost_ret (results_tmp2 rfl _ _ _) rfl ⟨?_,HF.o.1,HF.o.2⟩;rw[<-HX.o];rfl
open Go.RowKit Go.Joins
theorem Ub(X:ByteArray):X.toList.length=X.size:=by rw[ByteArray.toList_eq];exact Array.length_toList
theorem ab8(R:Nat)(s:ByteArray)(i T:Nat)(E:Int->TypeId × Value)(w:World)(h:Rd w R s i T)(hs:s.size<=1048576)(he:Es w E)(hR:Far R)
  (hx:aA (nx s.data.toList i)=true\/nx s.data.toList i=43\/nx s.data.toList i=45) :
  Calls prog 197 #[.pointer (some ⟨R,0,none⟩)] w (RU R s T E (jc s.data.toList i) w):=by
 have hl:s.data.toList.length=s.size:=by simp
 have hil:i<s.size:=by
  rw[<-hl]
  rcases hx with h|h|h
  ·have:=of_decide_eq_true h;exact aY (by omega)
  ·exact aY (by omega)
  ·exact aY (by omega)
 have CN:=ae (fun k w (h1:Rd w R s k T) (h2:k<=s.size)=>mX R s k T w h1 h2 hs);have CB:=ae Gw;have Uc:Hd (∀p w,Calls prog 195 #[.iface (E 2).1 (E 2).2,.int .i64 (p:Nat)] w fun e w'=>(∃v,e=.returned v/\dF w' v E 2 p)/\w.grownBy w' none):=fun p w=>tC p _ _ w
 have Ud:Hd (∀p w,Calls prog 195 #[.iface (E 3).1 (E 3).2,.int .i64 (p:Nat)] w fun e w'=>(∃v,e=.returned v/\dF w' v E 3 p)/\w.grownBy w' none):=fun p w=>tC p _ _ w
 have mi:=ae (fun w' (hg:w.grownBy w' (some R))=>(he.grow hR hg).te);have Dz:=ae (fun w' (hg:w.grownBy w' (some R))=>(he.grow hR hg).ra);have CH:Hd (∀k w',w.grownBy w' (some R)->Rd w' R s k T->Calls prog 156 #[.pointer (some ⟨R,0,none⟩)] w' fun e w''=>(∃v,e=.returned v/\dF w'' v E 2 k)/\w'.grownBy w'' none):=fun k w' hg hr=>wM R s k T (E 2).1 (E 2).2 w' hr (he.grow hR hg).te
 obtain⟨ty2,Ue⟩:=zN ((E 2).1);obtain⟨pv2,hpv2⟩:=zN ((E 2).2);obtain⟨ty3,Uf⟩:=zN ((E 3).1);obtain⟨pv3,Ug⟩:=zN ((E 3).2);rw[Ue,hpv2]at Uc mi;rw[Uf,Ug]at Ud Dz;have HST:=ae (fun k (hk:k<s.size) (hb:aA (nx s.data.toList k)=true)=>qV aA _ k (by omega) hb);have kY:=ae (fun k (hb:aA (nx s.data.toList k)=false)=>kX aA _ k hb);have bP:Hd (∀k,k<=s.size->aA (nx s.data.toList k)=true->k<s.size):=fun k hk hb=>by
  apply Classical.byContradiction;intro hn;rw[jJ _ _ (by omega)]at hb;exact absurd hb (by decide)
 have MB:i<=iq s.data.toList i/\iq s.data.toList i<=s.size/\((aA (nx s.data.toList i)=true/\iq s.data.toList i=i)\/((nx s.data.toList i=43\/nx s.data.toList i=45)/\iq s.data.toList i=i+1)):=by
  unfold iq
  by_cases hd:aA (nx s.data.toList i)=true
  ·rw[if_pos hd];exact⟨by omega,by omega,Or.inl ⟨hd,rfl⟩⟩
  ·rw[if_neg hd];refine⟨by omega,by omega,Or.inr ⟨?_,rfl⟩⟩
   rcases hx with h|h
   ·exact absurd h hd
   ·exact h
 have hA1:Hd (iq s.data.toList i=if aA (nx s.data.toList i)=true then i else i+1):=rfl;have hjj:=pY aA s.data.toList (iq s.data.toList i) (by omega);rw[hl]at hjj;have hall:=L8 aA s.data.toList (iq s.data.toList i);have kM:Hd (jc s.data.toList i=_):=TW s.data.toList i;have hat:=fun j (h1:j<=s.size) (h2:iq s.data.toList i<j) (h3:(∀c∈aj s.data.toList (iq s.data.toList i) (j-iq s.data.toList i),aA (c.toNat:Int)=true)) (h4:j-iq s.data.toList i<=18)=>abZ s.data.toList i _ j (by omega) h2 h3 h4 MB.2.2
 obtain⟨a,ha⟩:=zN (iq s.data.toList i);obtain⟨J,hJ⟩:=zN (toR aA s.data.toList a);rw[ha]at MB hA1 hjj hall kM hat;rw[hJ]at hjj hall kM;obtain⟨D,hD⟩:=zN (aj s.data.toList a (J-a));have hDl:D.length=J-a:=by rw[<-hD];exact TU _ _ _ (by omega)
 have hAt:a<J->J-a<=18->Lib.atoiAll (aj s.data.toList i (J-i))=.ok (if nx s.data.toList i=45 then -(ja D 0:Int) else(ja D 0:Int)):=fun h1 h2=>by
  have:=hat J hjj.2 h1 (by rw[hD];rw[hD]at hall;exact hall) h2;rw[hD]at this;exact this
 rw[hD]at kM;obtain⟨val,hval⟩:=zN ((if nx s.data.toList i=45 then -(ja D 0:Int) else(ja D 0:Int)));rw[hval]at kM hAt;have HJ:=ae hJ;obtain⟨W,hW⟩:=zN (aj s.data.toList i (J-i));have Uh:W.length<=1048576:=by rw[<-hW];unfold aj;rw[List.length_take,List.length_drop];omega
 rw[hW]at hAt;have s1:∀wx,(Instr.slice 9 (.string s) (some (.int .i64 (a:Int))) (some (.int .i64 (J:Int))) none).run prog wx=.ok (.string ⟨D.toArray⟩) wx:=fun wx=>by rw[<-hD];exact lM s a J hjj.1 hjj.2 wx
 have s2:∀wx,(Instr.slice 9 (.string s) (some (.int .i64 (i:Int))) (some (.int .i64 (J:Int))) none).run prog wx=.ok (.string ⟨W.toArray⟩) wx:=fun wx=>by rw[<-hW];exact lM s i J (by omega) hjj.2 wx
 have CA:=ae (fun(h1:a<J) (h2:J-a<=18) w=>ab2 W val Uh (hAt h1 h2) w);have Ui:a<J->∃c r,D=c :: r/\(c.toNat:Int)=nx s.data.toList a:=fun h1=>by
  have hal:a<s.data.toList.length:=by omega
  refine⟨s.data.toList[a],aj s.data.toList (a+1) (J-a-1),?_,(pX s.data.toList a hal).symm⟩;rw[<-hD,show J-a=(J-a-1)+1 by omega];exact TV _ _ _ hal
 obtain⟨X,hX⟩:∃X:ByteArray,⟨D.toArray⟩=X:=⟨_,rfl⟩;obtain⟨Y,hY⟩:∃Y:ByteArray,⟨W.toArray⟩=Y:=⟨_,rfl⟩;have hXl:X.toList=D:=by rw[<-hX,ByteArray.toList_eq]
 have jD:X.size=J-a:=by rw[<-hX];show D.toArray.size=_;simp[hDl]
 have HX0:Hd (∀h:0<X.size,((X[0]'h).toNat:Int)=nx s.data.toList a):=fun h=>by
  obtain⟨c,r,e1,e2⟩:=Ui (by omega);subst hX;rw[<-e2];subst e1;rfl
 have Uj:Hd (a=i->Y=X):=fun e=>by rw[<-hX,<-hY,<-hD,<-hW,e]
 rw[hX]at s1;rw[hY]at s2 CA;obtain⟨G,hG⟩:=zN (jc s.data.toList i);rw[hG]at kM ⊢;obtain⟨hia,has,-⟩:=MB;obtain⟨haJ,hJs⟩:=hjj;obtain⟨z,hz⟩:=zN (nx s.data.toList a);rw[hz]at kM HX0;have tZ:=ae kM.o;have H0:=ae h;have C0:=ae (fun w' (h1:Rd w' R s i T)=>CN.o i w' h1 (by omega));obtain⟨x,hxx⟩:=zN (nx s.data.toList i);rw[hxx]at C0 hA1;have MC:=ae (CB.o x);obtain⟨b0,hb0⟩:=zN (aA x);rw[hb0]at MC hA1;obtain⟨c0,c1,-,-⟩:=h.cells;obtain⟨p,hp⟩:=zN (i);rw[hp]at c1 s2 tZ;clear h hJ hG hD hval hW hX hY hXl hxx hb0 hz hAt hat Ui hDl Uh hall ha kM Ue hpv2 Uf Ug he hx hl hp;go_enter func197,ntmps197;go_wp2_with (go_at_call 104;refine(C0.o _ H0.o).mono ?_);rintro e w1 ⟨rfl,hg1⟩;have HR1:=ae (H0.o.grow hg1);have ax:=ae (aG (au w (some R)) hg1);obtain⟨-,e1,-,ef⟩:=HR1.o.cells
 have ef1:=ef 1;have dD:Hd (Rd (w1.setCell ⟨R,1,none⟩ (.int .i64 ((i:Int)+1))) R s (i+1) T):=HR1.o.set (i+1);have fD:Hd (w.grownBy (w1.setCell ⟨R,1,none⟩ (.int .i64 ((i:Int)+1))) (some R)):=aS ax.o 1 _;clear hg1 ef c0 c1
 rcases b0 with - | -
 all_goals (
  first
   | (have HA:a=i:=by have:=hA1.o;rw[if_pos rfl]at this;exact this
      subst HA;go_wp2_with (go_at_call 151;refine(MC.o _).mono ?_;rintro e wZ ⟨rfl,rfl⟩);have Uk:=HR1;have Ul:=ax)
   | (have HA:Hd (a=i+1):=by have:=hA1.o;rw[if_neg (by decide)]at this;exact this
      have hai:(i:Int)+1=(a:Int):=by have:=HA.o;omega
      go_wp2_with (go_at_call 151;refine(MC.o _).mono ?_;rintro e wZ ⟨rfl,rfl⟩);have Uk:Hd (Rd (wZ.setCell ⟨R,1,none⟩ (.int .i64 (a:Int))) R s a T):=by
       have:=dD.o;rw[hai,<-HA.o]at this;exact this
      have Ul:Hd (w.grownBy (wZ.setCell ⟨R,1,none⟩ (.int .i64 (a:Int))) (some R)):=by
       have:=fD.o;rw[hai]at this;exact this
      try rw[hai]
      clear hai)
  go_loopw [] (fun wr=>∃k:Nat,Rd wr R s k T/\k<=s.size/\toR aA s.data.toList k=J/\w.grownBy wr (some R)) (fun wr=>s.size-(match wr.cell? ⟨R,1,none⟩ with|some (.int _ k)=>k.toNat|_=>0))
  case atStart=>exact⟨a,Uk.o,by omega,HJ.o,Ul.o⟩
  case round =>
   obtain⟨k,hrd,hk,hbl,hg⟩:=hrel;have dJ:=ae hrd;have fP:=ae hbl;have HG:=ae hg;have C1:=ae (CN.o k wr hrd hk);have ig:Hd ((match wr.cell? ⟨R,1,none⟩ with|some (.int _ k)=>k.toNat|_=>0)=k):=by show _=_;rw[hrd.cells.2.1];simp
   have fC:=ae (fun(hb:aA (nx s.data.toList k)=true)=>HST.o k (bP.o k hk hb) hb);have HS2:=ae (kY.o k);have HL2:=ae (bP.o k hk);obtain⟨c,hc⟩:=zN (nx s.data.toList k);rw[hc]at C1 fC HS2 HL2;have jk:=ae (fun w=>CB.o c w);obtain⟨b,hb⟩:=zN (aA c);rw[hb]at jk fC HS2 HL2;clear hrd hbl hg hc hb
   cases b with
   | true =>
    have hkl:=HL2.o (by trivial);have HN:=ae ((fC.o (by trivial)).symm.trans fP.o);go_wp2_with (first|(go_at_call 104;refine C1.o.mono ?_;rintro e w2 ⟨rfl,hg2⟩;obtain⟨-,d1,-,df⟩:=(dJ.o.grow hg2).cells;have df1:=df 1)|(go_at_call 151;refine(jk.o _).mono ?_;rintro e w' ⟨rfl,rfl⟩));have jQ:Hd (Rd (w'.setCell ⟨R,1,none⟩ (.int .i64 ((k:Int)+1))) R s (k+1) T):=(dJ.o.grow hg2).set (k+1);refine⟨⟨k+1,jQ.o,by omega,HN.o,aS (aG HG.o hg2) 1 _⟩,?_⟩;rw[ig.o,jQ.o.cells.2.1];simp;omega
   | false =>
    have yG:=ae ((HS2.o (by trivial)).symm.trans fP.o);go_wp2_with (first|(go_at_call 104;refine C1.o.mono ?_;rintro e w2 ⟨rfl,hg2⟩)|(go_at_call 151;refine(jk.o _).mono ?_;rintro e w' ⟨rfl,rfl⟩));have HR2:Hd (Rd w' R s J T):=by rw[<-yG.o];exact dJ.o.grow hg2
    have HG2:=ae (aG HG.o hg2);obtain⟨d0,d1,-,-⟩:=HR2.o.cells;have dte:=mi.o _ HG2.o;have dra:=Dz.o _ HG2.o;clear hg2
    by_cases hJa:J=a
    ·have hbe:X.toList.isEmpty=true:=by
      have:X.toList.length=0:=by rw[Ub];omega
      rw[List.isEmpty_iff];exact List.length_eq_zero_iff.1 this
     have aC:Hd (G=.error (2,J)):=by
      show _=_;rw[tZ.o,if_pos (Or.inl hJa),hJa]
     have wQ:=ae (fun n=>CH.o J _ (ay HG2.o n) HR2.o);clear hJa;go_quiet (fail);go_wp2_with (go_at_call 156;refine(wQ.o _).mono ?_;rintro e w3 ⟨⟨v,rfl,hv⟩,hg3⟩);refine bodyPost_ret (results_tmp2 (t:=2) (u:=3) rfl _ _ _) rfl ?_;rw[aC.o];exact⟨fun n j hh=>(by cases hh),fun c p hh=>(by cases hh;exact⟨v,rfl,hv,J,Rd.grow (w:=World.drewN w' _) HR2.o hg3⟩),aG (ay HG2.o _) hg3⟩
    ·have hbe:X.toList.isEmpty=false:=by
      rw[Bool.eq_false_iff];intro hh;rw[List.isEmpty_iff]at hh;have:X.toList.length=0:=by rw[hh];rfl
      rw[Ub]at this;omega
     have hX0:0<X.size:=by omega
     have hz0:=HX0.o hX0;have hJg:a<J:=by omega
     by_cases hzz:z=48/\1<J-a
     ·have aC:Hd (G=.error (2,a)):=by
       show _=_;rw[tZ.o,if_pos (Or.inr ⟨hzz.2,hzz.1⟩)]
      have hq1:(z == 48)=true:=by simp[hzz.1]
      have hq2:(1:Int)<(X.size:Int):=by omega
      clear hJa hzz;go_quiet (fail);go_wp2_with (go_at_call 195;refine(Uc.o _ _).mono ?_;rintro e w3 ⟨⟨v,rfl,hv⟩,hg3⟩);refine bodyPost_ret (results_tmp2 (t:=2) (u:=3) rfl _ _ _) rfl ?_;rw[aC.o];exact⟨fun n j hh=>(by cases hh),fun c p hh=>(by cases hh;exact⟨v,rfl,hv,J,Rd.grow (w:=World.drewN w' _) HR2.o hg3⟩),aG (ay HG2.o _) hg3⟩
     ·have aK:Hd (G=if 18<J-a then .error (3,p) else .ok (val,J)):=by
       show _=_;rw[tZ.o,if_neg (by rintro(h|h);exact hJa h;exact hzz ⟨h.2,h.1⟩)]
      have hcase:((z == 48)=true/\(X.size:Int)<=1)\/(z == 48)=false:=by
       by_cases h:z=48
       ·exact Or.inl ⟨by simp[h],by omega⟩
       ·exact Or.inr (by simp[h])
      clear hzz hJa
      by_cases h18:18<J-a
      ·have aC:Hd (G=.error (3,p)):=by show _=_;rw[aK.o,if_pos h18]
       have hq2:(18:Int)<(X.size:Int):=by omega
       clear h18;go_quiet (fail)
       rcases hcase with⟨hq,hq3⟩|hq
       ·exfalso;omega
       ·go_wp2_with (go_at_call 195;refine(Ud.o _ _).mono ?_;rintro e w3 ⟨⟨v,rfl,hv⟩,hg3⟩);refine bodyPost_ret (results_tmp2 (t:=2) (u:=3) rfl _ _ _) rfl ?_;rw[aC.o];exact⟨fun n j hh=>(by cases hh),fun c p hh=>(by cases hh;exact⟨v,rfl,hv,J,Rd.grow (w:=World.drewN w' _) HR2.o hg3⟩),aG (ay HG2.o _) hg3⟩
      ·have aC:Hd (G=.ok (val,J)):=by show _=_;rw[aK.o,if_neg h18]
       have hq2:(X.size:Int)<=18:=by omega
       have Ah:=ae (CA.o hJg (by omega));clear h18;go_quiet (fail)
       rcases hcase with⟨hq,hq3⟩|hq
       all_goals (
        go_wp2
        go_region_held3 (fun u=>u.cell? ⟨R,0,none⟩=some (.string s)/\u.cell? ⟨R,1,none⟩=some (.int .i64 (J:Int))) ((first|exact⟨World.grownBy.cell (by assumption) (And.left (by assumption)) (by simp),World.grownBy.cell (by assumption) (And.right (by assumption)) (by simp)⟩|go_keep)) (first|(go_at_call 218;refine(Ah.o _).mono ?_;rintro e w6 ⟨rfl,eY⟩))
        have og:w'.grownBy w6 none:=⟨eY.os,eY.tape,eY.output,eY.size,eY.block⟩;have oh:=ae (HR2.o.grow og);have mD:=ae (aG HG2.o og);clear eY og;go_wp2;refine bodyPost_ret (results_tmp2 (t:=2) (u:=3) rfl _ _ _) rfl ?_;rw[aC.o];exact⟨fun n j hh=>(by cases hh;exact⟨rfl,oh.o⟩),fun c p hh=>(by cases hh),mD.o⟩))
open Go.RowKit
def dn(l:List UInt8)(i:Nat):Int × Nat × List UInt8 × List UInt8 :=
 if(bu 45 true l i).1=0 then
  (if(bu 43 false l (bu 45 true l i).2.1).1=0 then(0,(bu 43 false l (bu 45 true l i).2.1).2.1,(bu 45 true l i).2.2,(bu 43 false l (bu 45 true l i).2.1).2.2)
  else((bu 43 false l (bu 45 true l i).2.1).1,(bu 43 false l (bu 45 true l i).2.1).2.1,[],[]))
 else((bu 45 true l i).1,(bu 45 true l i).2.1,[],[])
theorem Ai{c:UInt8}{st:Bool}{l:List UInt8}{i:Nat}(h:l[i]?=some c):bu c st l i=((aQ st l (i+1)).1,(aQ st l (i+1)).2,jE st l (i+1)):=by
 unfold bu jE;rw[if_pos h]
 by_cases h0:(aQ st l (i+1)).1=0
 ·rw[if_pos h0,if_pos h0,h0]
 ·rw[if_neg h0,if_neg h0]
theorem Aj{c:UInt8}{st:Bool}{l:List UInt8}{i:Nat}(h:¬l[i]?=some c):bu c st l i=(0,i,[]):=by unfold bu;rw[if_neg h]
theorem Um{st:Bool}{l:List UInt8}{i:Nat}(hi:i<=l.length)(h:(aQ st l i).1=0):(aQ st l i).2<=l.length:=(Gu st l _ i rfl hi h).2.1
theorem Un{c:UInt8}{st:Bool}{l:List UInt8}{i:Nat}(hi:i<=l.length)(h:(bu c st l i).1=0):(bu c st l i).2.1<=l.length:=by
 by_cases hc:l[i]?=some c
 ·rw[Ai hc]at h ⊢;exact Um (by have:=(List.getElem?_eq_some_iff.1 hc).1;omega) h
 ·rw[Aj hc];exact hi
theorem ab9(b:Nat)(s:ByteArray)(i:Nat)(w:World)(hi:i<=s.size)(h:RS b s i w)(hs:s.size<=281474976710656) :
  Calls prog 168 #[.pointer (some ⟨b,0,none⟩)] w fun e w'=>e=.returned (.tuple #[.string ⟨(dn s.data.toList i).2.2.1.toArray⟩,.string ⟨(dn s.data.toList i).2.2.2.toArray⟩,.int .i64 (dn s.data.toList i).1])/\RS b s (dn s.data.toList i).2.1 w'/\w.grownBy w' (some b):=by
 have kQ:Hd (s.data.toList.length=s.size):=by show s.data.toList.length=s.size;simp
 have TY:=ae (fun(c:UInt8) i w (hc:s.data.toList[i]?=some c) (h:RS b s i w)=>CO b s i c w hc h (by omega));have TN:Hd (∀(c:UInt8) i w,i<=s.size->¬s.data.toList[i]?=some c->RS b s i w->Calls prog 205 #[.pointer (some ⟨b,0,none⟩),.string ⟨#[c]⟩] w fun e w'=>e=.returned (.bool false)/\RS b s i w'/\w.grownBy w' (some b)):=fun c i w hi hc h=>Df b s i c w hi hc h (by omega)
 have PP:=ae (fun i w (hi:i<=s.size) (h:RS b s i w)=>ab6 b s i w hi h (by omega));have PB:=ae (fun i w (hi:i<=s.size) (h:RS b s i w)=>ab7 b s i w hi h (by omega));have HI:=ae h;have jO:=ae hi;obtain⟨E,J,P,B,hT⟩:∃E J P B,dn s.data.toList i=(E,J,P,B):=⟨_,_,_,_,rfl⟩;rw[hT];have HT:=ae hT;clear hT h hi hs
 cases hc1:decide (s.data.toList[i]?=some 45) with
 | false =>
  have hc':=of_decide_eq_false hc1;have ou:Hd (bu 45 true s.data.toList (i)=(0,i,[])):=Aj hc';have CT:=ae (TN.o 45 (i) w jO.o hc' HI.o);have HJ:=ae jO.o;clear hc1 hc';go_enter func168,ntmps168;go_wp2_with (go_at_call 205;refine CT.o.mono ?_);rintro e u1 ⟨rfl,hr,hg⟩;have HR1:=ae hr;have ax:=ae hg;clear hr hg
  cases hc2:decide (s.data.toList[i]?=some 43) with
  | false =>
   have hc':=of_decide_eq_false hc2;have mF:Hd (bu 43 false s.data.toList (i)=(0,i,[])):=Aj hc';have CT:=ae (TN.o 43 (i) u1 HJ.o hc' HR1.o);clear hc2 hc';go_wp2_with (go_at_call 205;refine CT.o.mono ?_);rintro e v1 ⟨rfl,hr,hg⟩;have HF:Hd (RS b s (i) v1/\w.grownBy v1 (some b)):=⟨hr,ai ax.o hg⟩;clear hr hg;have HV:Hd (E=0/\J=i/\P=[]/\B=[]):=by
    have e:=HT.o;unfold dn at e;rw[ou.o]at e;simp only[if_true]at e;rw[mF.o]at e;simp only[if_true]at e;exact⟨(congrArg Prod.fst e).symm,(congrArg (·.2.1) e).symm,(congrArg (·.2.2.1) e).symm,(congrArg (·.2.2.2) e).symm⟩
   go_wp2;refine bodyPost_ret (results_tmp3 rfl _ _ _) rfl ⟨?_,by rw[HV.o.2.1];exact HF.o.1,HF.o.2⟩;rw[HV.o.1,HV.o.2.2.1,HV.o.2.2.2];rfl
  | true =>
   have hc':=of_decide_eq_true hc2;have hO2:bu 43 false s.data.toList (i)=((aQ false s.data.toList (i+1)).1,(aQ false s.data.toList (i+1)).2,jE false s.data.toList (i+1)):=Ai hc';have CT:=ae (TY.o 43 (i) u1 hc' HR1.o);have HJ2:Hd (i+1<=s.size):=by have:=(List.getElem?_eq_some_iff.1 hc').1;rw[kQ.o]at this;exact this
   have CB:=ae (fun w (h:RS b s (i+1) w)=>PB.o (i+1) w HJ2.o h);obtain⟨E2,J2,hE2⟩:∃E J,aQ false s.data.toList (i+1)=(E,J):=⟨_,_,rfl⟩;obtain⟨P2,hP2⟩:=zN (jE false s.data.toList (i+1));have o7:¬E2=0->P2=[]:=fun h=>by rw[<-hP2];unfold jE;rw[hE2,if_neg h]
   rw[hE2,hP2]at CB hO2;simp only at CB hO2;have mF:=ae hO2;have Ak:=ae o7;clear hc2 hc' hE2 hP2 hO2 o7;go_wp2_with (go_at_call 205;refine CT.o.mono ?_);rintro e v1 ⟨rfl,hr,hg⟩;have MF:=ae hr;have MG:=ae (ai ax.o hg);clear hr hg;have MH:=ae (CB.o v1 MF.o);go_wp2_with (go_at_call 207;refine MH.o.mono ?_);rintro e v2 ⟨rfl,hr,hg⟩;have HF:Hd (RS b s J2 v2/\w.grownBy v2 (some b)):=⟨hr,ai MG.o hg⟩;clear hr hg
   cases hz2:(E2 == 0) with
   | false =>
    have h0:¬E2=0:=by simpa using hz2
    have HV:Hd (E=E2/\J=J2/\P=[]/\B=[]):=by
     have e:=HT.o;unfold dn at e;rw[ou.o]at e;simp only[if_true]at e;rw[mF.o]at e;simp only[if_neg h0]at e;exact⟨(congrArg Prod.fst e).symm,(congrArg (·.2.1) e).symm,(congrArg (·.2.2.1) e).symm,(congrArg (·.2.2.2) e).symm⟩
    clear h0;go_wp2;refine bodyPost_ret (results_tmp3 rfl _ _ _) rfl ⟨?_,by rw[HV.o.2.1];exact HF.o.1,HF.o.2⟩;rw[HV.o.1,HV.o.2.2.1,HV.o.2.2.2];rfl
   | true =>
    have h0:E2=0:=by simpa using hz2
    subst h0;have HV:Hd (E=0/\J=J2/\P=[]/\B=P2):=by
     have e:=HT.o;unfold dn at e;rw[ou.o]at e;simp only[if_true]at e;rw[mF.o]at e;simp only[if_true]at e;exact⟨(congrArg Prod.fst e).symm,(congrArg (·.2.1) e).symm,(congrArg (·.2.2.1) e).symm,(congrArg (·.2.2.2) e).symm⟩
    go_wp2;refine bodyPost_ret (results_tmp3 rfl _ _ _) rfl ⟨?_,by rw[HV.o.2.1];exact HF.o.1,HF.o.2⟩;rw[HV.o.1,HV.o.2.2.1,HV.o.2.2.2];rfl
 | true =>
  have hc':=of_decide_eq_true hc1;have Hu:bu 45 true s.data.toList (i)=((aQ true s.data.toList (i+1)).1,(aQ true s.data.toList (i+1)).2,jE true s.data.toList (i+1)):=Ai hc';have CT:=ae (TY.o 45 (i) w hc' HI.o);have rG:Hd (i+1<=s.size):=by have:=(List.getElem?_eq_some_iff.1 hc').1;rw[kQ.o]at this;exact this
  have CA:=ae (fun w (h:RS b s (i+1) w)=>PP.o (i+1) w rG.o h);have MI:Hd ((aQ true s.data.toList (i+1)).1=0->(aQ true s.data.toList (i+1)).2<=s.size):=fun h=>by have:=Um (st:=true) (l:=s.data.toList) (i:=i+1) (by rw[kQ.o];exact rG.o) h;rw[kQ.o]at this;exact this
  obtain⟨E1,J1,hE1⟩:∃E J,aQ true s.data.toList (i+1)=(E,J):=⟨_,_,rfl⟩;obtain⟨P1,hP1⟩:=zN (jE true s.data.toList (i+1));rw[hE1,hP1]at CA Hu;rw[hE1]at MI;simp only at CA Hu MI;have ou:=ae Hu;clear hc1 hc' hE1 hP1 Hu;go_enter func168,ntmps168;go_wp2_with (go_at_call 205;refine CT.o.mono ?_);rintro e u1 ⟨rfl,hr,hg⟩;have MJ:=ae hr;have MK:=ae hg;clear hr hg;have CAu:=ae (CA.o u1 MJ.o);go_wp2_with (go_at_call 207;refine CAu.o.mono ?_);rintro e u2 ⟨rfl,hr,hg⟩;have HR1:=ae hr;have ax:=ae (ai MK.o hg);clear hr hg
  cases hz1:(E1 == 0) with
  | false =>
   have h0:¬E1=0:=by simpa using hz1
   have HV:Hd (E=E1/\J=J1/\P=[]/\B=[]):=by
    have e:=HT.o;unfold dn at e;rw[ou.o]at e;simp only[if_neg h0]at e;exact⟨(congrArg Prod.fst e).symm,(congrArg (·.2.1) e).symm,(congrArg (·.2.2.1) e).symm,(congrArg (·.2.2.2) e).symm⟩
   clear h0;go_wp2;refine bodyPost_ret (results_tmp3 rfl _ _ _) rfl ⟨?_,by rw[HV.o.2.1];exact HR1.o,ax.o⟩;rw[HV.o.1,HV.o.2.2.1,HV.o.2.2.2];rfl
  | true =>
   have h0:E1=0:=by simpa using hz1
   subst h0;have HJ:=ae (MI.o rfl);clear hz1
   cases hc2:decide (s.data.toList[J1]?=some 43) with
   | false =>
    have hc':=of_decide_eq_false hc2;have mF:Hd (bu 43 false s.data.toList (J1)=(0,J1,[])):=Aj hc';have CT:=ae (TN.o 43 (J1) u2 HJ.o hc' HR1.o);clear hc2 hc';go_wp2_with (go_at_call 205;refine CT.o.mono ?_);rintro e v1 ⟨rfl,hr,hg⟩;have HF:Hd (RS b s (J1) v1/\w.grownBy v1 (some b)):=⟨hr,ai ax.o hg⟩;clear hr hg;have HV:Hd (E=0/\J=J1/\P=P1/\B=[]):=by
     have e:=HT.o;unfold dn at e;rw[ou.o]at e;simp only[if_true]at e;rw[mF.o]at e;simp only[if_true]at e;exact⟨(congrArg Prod.fst e).symm,(congrArg (·.2.1) e).symm,(congrArg (·.2.2.1) e).symm,(congrArg (·.2.2.2) e).symm⟩
    go_wp2;refine bodyPost_ret (results_tmp3 rfl _ _ _) rfl ⟨?_,by rw[HV.o.2.1];exact HF.o.1,HF.o.2⟩;rw[HV.o.1,HV.o.2.2.1,HV.o.2.2.2];rfl
   | true =>
    have hc':=of_decide_eq_true hc2;have hO2:bu 43 false s.data.toList (J1)=((aQ false s.data.toList (J1+1)).1,(aQ false s.data.toList (J1+1)).2,jE false s.data.toList (J1+1)):=Ai hc';have CT:=ae (TY.o 43 (J1) u2 hc' HR1.o);have HJ2:Hd (J1+1<=s.size):=by have:=(List.getElem?_eq_some_iff.1 hc').1;rw[kQ.o]at this;exact this
    have CB:=ae (fun w (h:RS b s (J1+1) w)=>PB.o (J1+1) w HJ2.o h);obtain⟨E2,J2,hE2⟩:∃E J,aQ false s.data.toList (J1+1)=(E,J):=⟨_,_,rfl⟩;obtain⟨P2,hP2⟩:=zN (jE false s.data.toList (J1+1));have o7:¬E2=0->P2=[]:=fun h=>by rw[<-hP2];unfold jE;rw[hE2,if_neg h]
    rw[hE2,hP2]at CB hO2;simp only at CB hO2;have mF:=ae hO2;have Ak:=ae o7;clear hc2 hc' hE2 hP2 hO2 o7;go_wp2_with (go_at_call 205;refine CT.o.mono ?_);rintro e v1 ⟨rfl,hr,hg⟩;have MF:=ae hr;have MG:=ae (ai ax.o hg);clear hr hg;have MH:=ae (CB.o v1 MF.o);go_wp2_with (go_at_call 207;refine MH.o.mono ?_);rintro e v2 ⟨rfl,hr,hg⟩;have HF:Hd (RS b s J2 v2/\w.grownBy v2 (some b)):=⟨hr,ai MG.o hg⟩;clear hr hg
    cases hz2:(E2 == 0) with
    | false =>
     have h0:¬E2=0:=by simpa using hz2
     have HV:Hd (E=E2/\J=J2/\P=[]/\B=[]):=by
      have e:=HT.o;unfold dn at e;rw[ou.o]at e;simp only[if_true]at e;rw[mF.o]at e;simp only[if_neg h0]at e;exact⟨(congrArg Prod.fst e).symm,(congrArg (·.2.1) e).symm,(congrArg (·.2.2.1) e).symm,(congrArg (·.2.2.2) e).symm⟩
     clear h0;go_wp2;refine bodyPost_ret (results_tmp3 rfl _ _ _) rfl ⟨?_,by rw[HV.o.2.1];exact HF.o.1,HF.o.2⟩;rw[HV.o.1,HV.o.2.2.1,HV.o.2.2.2];rfl
    | true =>
     have h0:E2=0:=by simpa using hz2
     subst h0;have HV:Hd (E=0/\J=J2/\P=P1/\B=P2):=by
      have e:=HT.o;unfold dn at e;rw[ou.o]at e;simp only[if_true]at e;rw[mF.o]at e;simp only[if_true]at e;exact⟨(congrArg Prod.fst e).symm,(congrArg (·.2.1) e).symm,(congrArg (·.2.2.1) e).symm,(congrArg (·.2.2.2) e).symm⟩
     go_wp2;refine bodyPost_ret (results_tmp3 rfl _ _ _) rfl ⟨?_,by rw[HV.o.2.1];exact HF.o.1,HF.o.2⟩;rw[HV.o.1,HV.o.2.2.1,HV.o.2.2.2];rfl
end Go.Proofs.YtnnbgjaphfhibaaGreatDoor
