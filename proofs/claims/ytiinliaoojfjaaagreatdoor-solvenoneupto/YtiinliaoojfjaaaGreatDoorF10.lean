import Derived.Test.YtiinliaoojfjaaaGreatDoorF01
import Derived.Test.YtiinliaoojfjaaaGreatDoorF04
import Derived.Laws.Bits64b
import Derived.Laws.Shifts
import Derived.Deep.RegionHeld3
import Derived.Carry
import Derived.OwnWalk
import Derived.Deep.OwnRows
import Derived.Maps.OwnSet
import Derived.Maps.OwnOps
import Derived.Maps.AppendAt
set_option linter.all false
set_option maxRecDepth 100000
set_option maxHeartbeats 0
open Go.Proofs.Tryz
namespace Go.Proofs.YtiinliaoojfjaaaGreatDoor
open Go.RowKit Go.Shelf
theorem aa9(s:ByteArray)(w:World)(hlim:s.size<=281474976710656) :
  Calls prog 199 #[.string s] w fun e w'=>e=.returned (.string s)/\Below w.heap.size w w':=Any.stringslite_Clone Tryz.lays316 s w hlim
theorem clone_any(s:ByteArray)(w:World)(hlim:s.size<=281474976710656) :
  Calls prog 182 #[.string s] w fun e w'=>e=.returned (.string s)/\w.grownBy w' none:=by
 have C:=ae (fun w=>aa9 s w hlim);clear hlim;go_enter func182,ntmps182;go_wp2_with (go_at_call 199;refine(C.o _).mono ?_;rintro e w1 ⟨rfl,hb⟩);go_ret;exact⟨rfl,⟨hb.os,hb.tape,hb.output,hb.size,fun k hk _=>hb.block k hk⟩⟩
open Go.RowKit
theorem rG{k:Nat}(h:k<64):2 ^ k<18446744073709551616:=by
 have:2 ^ k<2 ^ 64:=Nat.pow_lt_pow_right (by decide) h;simpa using this
theorem yT{x y:Nat}(hx:x<18446744073709551616)(hy:y<18446744073709551616):x ||| y<18446744073709551616:=by
 have:x ||| y<2 ^ 64:=Nat.or_lt_two_pow (by simpa using hx) (by simpa using hy)
 simpa using this
theorem RQ(x y:Nat):x &&& y=0↔∀k,¬(x.testBit k=true/\y.testBit k=true):=by
 constructor
 ·intro h k ⟨h1,h2⟩;have:(x &&& y).testBit k=true:=by rw[Nat.testBit_and,h1,h2];rfl
  rw[h,Nat.zero_testBit]at this
  cases this
 ·intro h;refine Nat.eq_of_testBit_eq fun k=>?_
  rw[Nat.testBit_and,Nat.zero_testBit]
  cases hx:x.testBit k with
  | false=>rfl
  | true =>
   cases hy:y.testBit k with
   | false=>rfl
   | true=>exact absurd ⟨hx,hy⟩ (h k)
theorem Es(x k j:Nat):(x ||| 2 ^ k).testBit j=(x.testBit j || decide (k=j)):=by
 rw[Nat.testBit_or,Nat.testBit_two_pow]
theorem aba(k:Nat)(h:k<64):IntKind.u64.wrap ((2:Int) ^ k)=((2 ^ k:Nat):Int):=by
 have h2:=rG h;have e3:((2:Int) ^ k)=((2 ^ k:Nat):Int):=by rw[Int.natCast_pow];rfl
 rw[IntKind.wrap_u64,e3];generalize 2 ^ k=X at h2;omega
theorem KE(k:Nat)(h:k<64)(w:World):Calls prog 98 #[.int .i64 k] w fun e w'=>e=.returned (.int .u64 ((2 ^ k:Nat):Int))/\w'=w:=by
 have hs:=aba k h;obtain⟨X,hX⟩:∃X:Int,((2 ^ k:Nat):Int)=X:=⟨_,rfl⟩;rw[hX]at hs ⊢;clear hX;go_enter func98,ntmps98;go_wp2;go_ret;exact⟨by rw[<-hs];rfl,rfl⟩
theorem abb(x k:Nat)(hx:x<18446744073709551616)(h:k<64)(w:World):Calls prog 97 #[.int .u64 (x:Int),.int .i64 k] w fun e w'=>e=.returned (.bool (x.testBit k))/\w'=w:=by
 have CO:=ae (KE k h);have hb:=bits_and_u64_nat x (2 ^ k) hx (rG h);have ht:((((x &&& 2 ^ k:Nat):Int)) != 0)=x.testBit k:=by
  cases hc:x.testBit k with
  | true =>
   rw[bne_iff_ne];intro e;have e2:x &&& 2 ^ k=0:=by exact_mod_cast e
   exact(RQ _ _).1 e2 k ⟨hc,by rw[Nat.testBit_two_pow];simp⟩
  | false =>
   have:x &&& 2 ^ k=0:=(RQ _ _).2 fun j ⟨h1,h2⟩=>by
    rw[Nat.testBit_two_pow]at h2;have:k=j:=by simpa using h2
    subst this;rw[hc]at h1;cases h1
   rw[this];rfl
 obtain⟨X,hX⟩:∃X:Int,((2 ^ k:Nat):Int)=X:=⟨_,rfl⟩;obtain⟨Y,hY⟩:∃Y:Int,((x &&& 2 ^ k:Nat):Int)=Y:=⟨_,rfl⟩;rw[hX]at hb CO;rw[hY]at hb ht;clear hX hY;go_enter func97,ntmps97;go_wp2_with (go_at_call 98;refine(CO.o _).mono ?_;rintro e w' ⟨rfl,rfl⟩);go_ret;exact⟨by rw[<-ht];rfl,rfl⟩
open Go.RowKit
structure Nd where
 n:ByteArray
 r:ByteArray
def iL(x:Nd):List Value:=[.string x.n,.string x.r]
structure Re where
 nm:ByteArray
 ve:ByteArray
 nd:List Nd
 da:ByteArray
def NdAt(w:World)(p:Addr)(x:Nd):Prop:=w.cell? p=some (.string x.n)/\w.cell? ⟨p.block,p.off+1,none⟩=some (.string x.r)
theorem NdAt.grow{w w':World}{p:Addr}{x:Nd}(h:NdAt w p x)(hg:w.grownBy w' none):NdAt w' p x:=⟨hg.cell h.1 (by simp),hg.cell h.2 (by simp)⟩
def NdS(w:World)(v:Value)(L:List Nd):Prop:=(v=.slice none 0 0/\L=[])\/∃a cap,v=.slice (some a) L.length cap/\L.length<=cap/\∀i (hi:i<L.length),NdAt w (a.add (i*2)) L[i]
theorem NdS.grow{w w':World}{v:Value}{L:List Nd}(h:NdS w v L)(hg:w.grownBy w' none):NdS w' v L:=by
 rcases h with h|⟨a,cap,h1,h2,h3⟩
 ·exact Or.inl h
 ·exact Or.inr ⟨a,cap,h1,h2,fun i hi=>(h3 i hi).grow hg⟩
theorem mP{w:World}{v:Value}{L:List Nd}(h:NdS w v L):∃o c,v=.slice o L.length c:=by
 rcases h with⟨rfl,rfl⟩|⟨a,cap,rfl,-⟩
 ·exact⟨_,_,rfl⟩
 ·exact⟨_,_,rfl⟩
def ReAt(w:World)(p:Addr)(x:Re):Prop:=w.cell? p=some (.string x.nm)/\w.cell? ⟨p.block,p.off+1,none⟩=some (.string x.ve)/\(∃v,w.cell? ⟨p.block,p.off+2,none⟩=some v/\NdS w v x.nd)/\w.cell? ⟨p.block,p.off+3,none⟩=some (.string x.da)
theorem ReAt.grow{w w':World}{p:Addr}{x:Re}(h:ReAt w p x)(hg:w.grownBy w' none):ReAt w' p x:=by
 obtain⟨h0,h1,⟨v,h2,h3⟩,h4⟩:=h;exact⟨hg.cell h0 (by simp),hg.cell h1 (by simp),⟨v,hg.cell h2 (by simp),h3.grow hg⟩,hg.cell h4 (by simp)⟩
def ReS(w:World)(v:Value)(L:List Re):Prop:=(v=.slice none 0 0/\L=[])\/∃a cap,v=.slice (some a) L.length cap/\L.length<=cap/\∀i (hi:i<L.length),ReAt w (a.add (i*4)) L[i]
theorem ReS.grow{w w':World}{v:Value}{L:List Re}(h:ReS w v L)(hg:w.grownBy w' none):ReS w' v L:=by
 rcases h with h|⟨a,cap,h1,h2,h3⟩
 ·exact Or.inl h
 ·exact Or.inr ⟨a,cap,h1,h2,fun i hi=>(h3 i hi).grow hg⟩
theorem qP{w:World}{a:Addr}{v:Value}(h:w.cell? a=some v):a.block<w.heap.size:=by
 unfold World.cell? at h
 cases hb:w.heap[a.block]? with
 | none=>rw[hb]at h;simp at h
 | some o=>exact(aC hb)
theorem qQ(a:Addr)(n k:Nat)(hk:0<k):a.add (n+k)=⟨(a.add n).block,(a.add n).off+k,none⟩:=by
 unfold Addr.add;rw[if_neg (by omega)]
 by_cases h:n=0
 ·rw[if_pos h,h];simp
 ·rw[if_neg h];simp[Nat.add_assoc]
theorem hbelow{B:Nat}{a w w':World}(h:Below B a w)(hB:B<=w.heap.size)(hg:w.grownBy w' none):Below B a w' :=
 ⟨hg.os.trans h.os,hg.tape.trans h.tape,hg.output.trans h.output,Nat.le_trans h.size hg.size,fun k hk=>(hg.block k (Nat.lt_of_lt_of_le hk hB) (by simp)).trans (h.block k hk)⟩
theorem gz{w w':World}(h:Below w.heap.size w w'):w.grownBy w' none:=⟨h.os,h.tape,h.output,h.size,fun k hk _=>h.block k hk⟩
theorem abd:(prog.info? 36).map (fun i=>(i.zero,i.size,i.bytes))=some (some (.agg #[.string ⟨#[]⟩,.string ⟨#[]⟩]),2,32):=by kernel_rfl
theorem RU(s:Nd):∀u∈iL s,u.oneCell'=true:=by
 intro u hu;simp only[iL,List.mem_cons,List.not_mem_nil,or_false]at hu
 rcases hu with rfl|rfl<;>rfl
theorem abe{p:Addr}{s:Nd}{r:Option Nat}{w w':World}(hg:w.grownBy w' r)(hn:some p.block≠r)(h:w.cell? p=some (.string s.n)/\w.cell? ⟨p.block,p.off+1,none⟩=some (.string s.r)):w'.cell? p=some (.string s.n)/\w'.cell? ⟨p.block,p.off+1,none⟩=some (.string s.r):=⟨hg.cell h.1 hn,hg.cell h.2 hn⟩
def KF(L:List Nd)(w:World)(e:Ending)(w':World):Prop:=∃v,e=.returned v/\w'.ownsRow w.heap.size 36 2 v L.length (L.flatMap iL)/\Below w.heap.size w w'
theorem RX(a:Addr)(cap:Nat)(L:List Nd)(w:World)(hL:L.length<=1048576)(hcap:L.length<=cap)(h:∀i (hi:i<L.length),NdAt w (a.add (i*2)) L[i]) :
  Calls prog 8 #[.slice (some a) L.length cap] w (KF L w):=by
 have HA:=ae h;clear h;have hinfo:=abd;obtain⟨i0,hi0,hii⟩:=Option.map_eq_some_iff.1 hinfo;simp only[Prod.mk.injEq]at hii;obtain⟨hz0,hz1,hzb⟩:=hii;clear hinfo;go_enter func8,ntmps8;go_wp2;go_loopw [3,4] (fun vm vi wr=>∃i:Nat,vi=.int .i64 i/\i<=L.length/\wr.ownsRow w.heap.size 36 2 vm i ((L.take i).flatMap iL)/\Below w.heap.size w wr) (fun _ vi _=>L.length-(intOf vi).toNat)
 case atStart=>exact⟨0,rfl,Nat.zero_le _,World.ownsRow_nil _ _ _ _,Below.refl _ _⟩
 case round =>
  obtain⟨i,rfl,hi,hown,hb⟩:=hrel
  by_cases hlt:i<L.length
  ·obtain⟨s,hs⟩:=zN (L[i]);have HE:Hd (NdAt wr (a.add (i*2)) s):=by show NdAt wr _ s;rw[<-hs];exact(HA.o i hlt).grow (gz hb)
   obtain⟨e0,e1⟩:=HE.o;have jS:Hd (some (a.add (i*2)).block≠u3.ownBlock):=by
    show _≠_;intro e;have h1:=(hown.lt _ e.symm).1;have h2:=(HA.o i hlt).1;have h3:=qP h2;omega
   have iU:Hd ((L.take (i+1)).flatMap iL=(L.take i).flatMap iL++iL s):=by
    show _=_;rw[List.take_succ_eq_append_getElem hlt,List.flatMap_append,hs];simp
   have hzz:=hb.size;go_wp2
   go_region_held3 (fun w'=>w'.cell? (a.add (i*2))=some (.string s.n)/\w'.cell? ⟨(a.add (i*2)).block,(a.add (i*2)).off+1,none⟩=some (.string s.r)) ((first|exact abe (by assumption) (by first|exact jS.o|simp) (by assumption)|go_keep)) (first|(refine step_append_lies _ (by rfl) _ _ _ (by rfl) w.heap.size 36 i0 _ 2 32 underlying25 hi0 hz0 hz1 hzb (by rfl) (by decide) u3 i ((L.take i).flatMap iL) (by rfl) (hown.drew.alloc _) _ 1 1 (iL s) (by rfl) (by rfl) (World.news_of_block (heap_alloc_new _ _)) (RU s) (by omega) (by unfold maxLen;omega) (by omega) (by simp;omega) _ rfl ?_;intro g cap1 w3 hown3 hgrow hat hlt3))
   have hb2:Below w.heap.size w wr.drew:=hbelow hb hzz ⟨rfl,rfl,rfl,Nat.le_refl _,fun _ _ _=>rfl⟩;have HB3:=ae ((hb2.alloc hzz _).grown hgrow (by simp;omega) (fun q hq=>(hown.lt q hq).1));have jl:Hd (w3.ownsRow w.heap.size 36 2 (.slice (some ⟨g,0,none⟩) (i+1) cap1) (i+1) ((L.take (i+1)).flatMap iL)):=by show World.ownsRow _ _ _ _ _ _ _;rw[iU.o];exact hown3
   clear hown3 hgrow hat hb2 hown hb hlt3 e0 e1 hs;go_wp2;go_roundw
   case rel=>exact⟨i+1,by go_num,by omega,jl.o,HB3.o⟩
   case measure=>simp[intOf];omega
  ·have hil:i=L.length:=by omega
   have HO:Hd (wr.ownsRow w.heap.size 36 2 u3 L.length (L.flatMap iL)):=by
    show World.ownsRow _ _ _ _ _ _ _;rw[hil,List.take_length]at hown;exact hown
   have HB:=ae hb;clear hown hb hil hi;go_wp2;refine bodyPost_ret (results_tmp (t:=2) rfl _ _ _) rfl ⟨u3,rfl,HO.o,HB.o⟩
theorem RY(w:World):Calls prog 8 #[.slice none 0 0] w (KF [] w):=by
 go_enter func8,ntmps8;go_wp2;go_loopw [3,4] (fun vm vi wr=>vi=.int .i64 0/\vm=.slice none 0 0/\Below w.heap.size w wr) (fun _ vi _=>0)
 case atStart=>exact⟨rfl,rfl,Below.refl _ _⟩
 case round =>
  obtain⟨rfl,rfl,hb⟩:=hrel;have HB:=ae hb;clear hb;go_wp2;refine bodyPost_ret (results_tmp (t:=2) rfl _ _ _) rfl ⟨_,rfl,World.ownsRow_nil _ _ _ _,HB.o⟩
theorem AX(l:List Nd):∀(i:Nat) (hi:i<l.length) (k:Nat) (u:Value),(iL l[i])[k]?=some u->(l.flatMap iL)[i*2+k]?=some u:=by
 induction l with
 | nil=>intro i hi;simp at hi
 | cons t l ih =>
  intro i hi k u h;rw[List.flatMap_cons];have hl:(iL t).length=2:=rfl
  cases i with
  | zero =>
   simp only[List.getElem_cons_zero]at h;have hk:=(List.getElem?_eq_some_iff.1 h).1;rw[Nat.zero_mul,Nat.zero_add,List.getElem?_append_left hk];exact h
  | succ i =>
   simp only[List.getElem_cons_succ]at h;rw[List.getElem?_append_right (by rw[hl];omega),hl,show(i+1)*2+k-2=i*2+k by omega];exact ih i (by simpa using hi) k u h
theorem AY{w:World}{base:Nat}{v:Value}{L:List Nd}(h:w.ownsRow base 36 2 v L.length (L.flatMap iL)):NdS w v L:=by
 rcases h.2 with⟨h1,h2⟩|⟨g,cap,cur,hv,hb,hc,h3,h4,h5,h6⟩
 ·exact Or.inl ⟨h1,List.length_eq_zero_iff.1 h2⟩
 ·refine Or.inr ⟨⟨g,0,none⟩,cap,hv,h3,fun i hi=>?_⟩;have h':=h;rw[hv]at h';have k0:=h'.cells (g:=g) rfl (i*2+0) _ (AX L i hi 0 _ rfl);have k1:=h'.cells (g:=g) rfl (i*2+1) _ (AX L i hi 1 _ rfl);refine⟨?_,?_⟩
  ·simpa using k0
  ·rw[qQ _ _ 1 (by omega)]at k1;simpa using k1
theorem Eu(v:Value)(L:List Nd)(w:World)(h:NdS w v L)(hL:L.length<=1048576) :
  Calls prog 8 #[v] w fun e w'=>∃o c,e=.returned (.slice o L.length c)/\NdS w' (.slice o L.length c) L/\w.grownBy w' none:=by
 rcases h with⟨rfl,rfl⟩|⟨a,cap,rfl,h2,h3⟩
 ·refine(RY w).mono ?_;rintro e w' ⟨v,rfl,ho,hb⟩;obtain⟨o,c,rfl⟩:=mP (AY ho);exact⟨o,c,rfl,AY ho,gz hb⟩
 ·refine(RX a cap L w hL h2 h3).mono ?_;rintro e w' ⟨v,rfl,ho,hb⟩;obtain⟨o,c,rfl⟩:=mP (AY ho);exact⟨o,c,rfl,AY ho,gz hb⟩
open Go.RowKit Go.Maps
def ui(P:List Nd)(x:Nd):Bool:=P.any fun y=>decide (y.n=x.n)
def fU(L:List Nd):Nat->Bool
 | 0=>false
 | i+1=>fU L i || (match L[i]? with|some x=>ui (L.take i) x|none=>false)
theorem Ew(L:List Nd)(i:Nat)(hi:i<L.length):fU L (i+1)=(fU L i || ui (L.take i) L[i]):=by
 simp[fU,List.getElem?_eq_getElem hi]
theorem abf(L:List Nd)(i k:Nat)(h:fU L i=true):fU L (i+k)=true:=by
 induction k with
 | zero=>exact h
 | succ k ih=>rw[<-Nat.add_assoc,fU,ih];rfl
theorem abg(L:List Nd)(i:Nat)(hi:i<L.length)(h:ui (L.take i) L[i]=true):fU L L.length=true:=by
 have h1:fU L (i+1)=true:=by rw[Ew L i hi,h,Bool.or_true]
 have:=abf L (i+1) (L.length-(i+1)) h1
 rwa [show i+1+(L.length-(i+1))=L.length by omega]at this
theorem abh(L:List Nd)(i:Nat)(hi:i<L.length)(h:ui (L.take i) L[i]=false)(h0:fU L i=false):fU L (i+1)=false:=by
 rw[Ew L i hi,h,h0];rfl
def rH(x:Nd):Lit:=.string x.n.data.toList
theorem abj(P:List Nd)(x:Nd):(P.map rH).any (fun y=>y.sameKey (rH x))=ui P x:=by
 unfold ui;rw[List.any_map];congr 1;funext y;show(rH y).sameKey (rH x)=decide (y.n=x.n);rw[Bool.eq_iff_iff,WideAt.sameKey_iff (by trivial)];unfold rH;constructor
 ·intro h;injection h with h
  simp only[decide_eq_true_eq];exact ByteArray.ext (Array.ext' h)
 ·intro h;have:y.n=x.n:=by simpa using h
  rw[this]
def setN(L:List Nd)(i:Nat):DataW Unit:=setOf (.agg []) ((L.take i).map rH)
theorem abk(L:List Nd)(i:Nat)(x:Nd):Maps.has (setN L i) (rH x)=ui (L.take i) x:=by
 unfold setN;rw[has_setOf _ _ _ (fun y hy=>by obtain⟨z,-,rfl⟩:=List.mem_map.1 hy;trivial)];exact abj _ _
theorem abl(L:List Nd)(i:Nat)(hi:i<L.length):(setN L i).put (rH L[i]) (.agg [])=setN L (i+1):=by
 unfold setN;rw[List.take_succ_eq_append_getElem hi,List.map_append,List.map_singleton,setOf_snoc]
theorem abm{w u u':World}{b:Nat}(h:w.grownBy u none)(hg:u.grownBy u' (some b))(hb:w.heap.size<=b):w.grownBy u' none :=
 ⟨hg.os.trans h.os,hg.tape.trans h.tape,hg.output.trans h.output,Nat.le_trans h.size hg.size,fun k hk hn=>(hg.block k (Nat.lt_of_lt_of_le hk h.size) (by simp;omega)).trans (h.block k hk hn)⟩
theorem keyS:Keyed prog 9:=string_keyed underlying9
theorem Hl(w:World):(zeroValue 160).run prog w=.ok (.agg #[]) w:=by kernel_rfl
theorem RZ(n:Int)(w:World):(Instr.makeMap 124 (some (.int .i64 n))).run prog w=.ok (.map (some w.heap.size)) (w.alloc (.map #[] 0)):=by kernel_rfl
theorem abn(a:Addr)(cap:Nat)(L:List Nd)(w:World)(hL:L.length<=1048576)(hcap:L.length<=cap)(hz:∀x∈L,x.n.size<=maxLen)(h:∀i (hi:i<L.length),NdAt w (a.add (i*2)) L[i]) :
  Calls prog 87 #[.slice (some a) L.length cap] w fun e w'=>e=.returned (.bool (fU L L.length))/\w.grownBy w' none:=by
 have HA:=ae h;have HZ:=ae hz;obtain⟨R,hR⟩:=zN (fU L L.length);have HR:=ae hR;rw[hR];clear h hz hR;obtain⟨B,hB⟩:=zN (w.heap.size);have HB:=ae hB;have hmm:=RZ (L.length:Int) w;go_enter func87,ntmps87;go_wp2
 try rw[hB]
 clear hB hmm;go_loopw [13] (fun vi wr=>∃i:Nat,vi=.int .i64 i/\i<=L.length/\fU L i=false/\wr.ownsMap prog 9 (unitElem (H:=Unit)) B i (setN L i)/\w.grownBy wr none) (fun vi _=>L.length-(intOf vi).toNat)
 case atStart=>exact⟨0,rfl,Nat.zero_le _,rfl,HB.o ▸ World.ownsMap_made _ _ _ _,ak (ai w none) _⟩
 case round =>
  obtain⟨i,rfl,hi,ht,hown,hg⟩:=hrel;have HT:=ae ht;have HG:=ae hg
  by_cases hlt:i<L.length
  ·obtain⟨x,hx⟩:=zN (L[i]);have hat:NdAt wr (a.add (i*2)) x:=by rw[<-hx];exact(HA.o i hlt).grow hg
   have hkey:keyOf prog 9 (.string x.n)=some (rH x):=Go.WideMaps.keyOf_string_mk underlying9 (HZ.o x (by rw[<-hx];exact List.getElem_mem _));have HS:=ae (abk L i x);have HN:Hd ((setN L i).put (rH x) (.agg [])=setN L (i+1)):=by show _=_;rw[<-hx];exact abl L i hlt
   have HX:=ae hx;obtain⟨q,hq⟩:=zN (Maps.has (setN L i) (rH x));have HQ:=ae hq;obtain⟨e0,e1⟩:=hat;have hown2:=(hown.alloc (.cells #[.string x.n,.string x.r] 36));clear ht hg hx
   cases q with
   | true =>
    go_wp2_with (first|(at_lookup;refine wpList_lookup_own_unit _ rfl _ _ 124 rfl 9 160 keyS underlying124 (Hl _) B i _ rfl hown2 _ _ rfl hkey ?_;rw[hq])|go_in);go_ret;exact⟨bi (HR.o.symm.trans (abg L i hlt (by rw[HX.o,<-HS.o,HQ.o]))).symm,ak (ak HG.o _) _⟩
   | false =>
    go_wp2_with (first|(at_lookup;refine wpList_lookup_own_unit _ rfl _ _ 124 rfl 9 160 keyS underlying124 (Hl _) B i _ rfl hown2 _ _ rfl hkey ?_;rw[hq])|(at_mapUpdate;refine wpList_mapUpdate_own _ rfl _ _ _ 124 rfl 9 160 keyS underlying124 (unitElem (H:=Unit)) B i _ rfl (hown2.alloc _) (by unfold maxLen;omega) _ _ _ rfl rfl hkey _ [] unitElem_mk ?_;intro w1 hown1 hgrow1)|go_in);go_roundw
    case rel=>exact⟨i+1,by go_num,by omega,abh L i hlt (by rw[HX.o,<-HS.o,HQ.o]) HT.o,by rw[<-HN.o];exact hown1,abm (ak (ak HG.o _) _) hgrow1 (Nat.le_of_eq HB.o)⟩
    case measure=>simp[intOf];omega
  ·have hil:i=L.length:=by omega
   have HF:Hd (R=false):=by
    show R=false;rw[<-HR.o,<-hil];exact ht
   clear ht hg hil hi hown;go_wp2;go_ret;exact⟨bi HF.o.symm,HG.o⟩
open Go.RowKit
def AZ(v:Value)(b:Option Nat):Prop:=∀a n c,v=.slice (some a) n c->0<n->some a.block≠b
theorem NdS.far{w w':World}{v:Value}{L:List Nd}{b:Option Nat}(h:NdS w v L)(hg:w.grownBy w' b)(hf:AZ v b):NdS w' v L:=by
 rcases h with h|⟨a,cap,rfl,h2,h3⟩
 ·exact Or.inl h
 ·refine Or.inr ⟨a,cap,rfl,h2,fun i hi=>?_⟩;have hb:=hf a _ _ rfl (by omega);have e:∀k,(a.add k).block=a.block:=fun k=>by unfold Addr.add;split<;>simp
  obtain⟨k0,k1⟩:=h3 i hi;exact⟨hg.cell k0 (by rw[e];exact hb),hg.cell k1 (by show some (a.add (i*2)).block≠b;rw[e];exact hb)⟩
theorem Si{w:World}{a:Addr}{n c:Nat}{L:List Nd}(h:NdS w (.slice (some a) n c) L)(hn:0<n):a.block<w.heap.size:=by
 rcases h with⟨h,-⟩|⟨a',cap,h1,h2,h3⟩
 ·cases h
 ·cases h1
  have:=qP (h3 0 (by omega)).1;have e:(a.add (0*2)).block=a.block:=by unfold Addr.add;split<;>simp
  rw[e]at this;exact this
theorem abo{w:World}{v:Value}{L:List Nd}(h:NdS w v L):v.oneCell'=true:=by
 obtain⟨o,c,rfl⟩:=mP h;rfl
theorem abp(v:Value)(L:List Nd)(w:World)(h:NdS w v L)(hL:L.length<=1048576) :
  Calls prog 8 #[v] w fun e w'=>∃o c,e=.returned (.slice o L.length c)/\NdS w' (.slice o L.length c) L/\(∀a n k,Value.slice o L.length c=.slice (some a) n k->0<n->w.heap.size<=a.block)/\w.grownBy w' none:=by
 have key:∀e w',KF L w e w'->∃o c,e=.returned (.slice o L.length c)/\NdS w' (.slice o L.length c) L/\(∀a n k,Value.slice o L.length c=.slice (some a) n k->0<n->w.heap.size<=a.block)/\w.grownBy w' none:=by
  rintro e w' ⟨v,rfl,ho,hb⟩;obtain⟨o,c,rfl⟩:=mP (AY ho);refine⟨o,c,rfl,AY ho,fun a n k e hn=>?_,gz hb⟩;rw[e]at ho;exact(ho.lt a.block rfl).1
 rcases h with⟨rfl,rfl⟩|⟨a,cap,rfl,h2,h3⟩
 ·exact(RY w).mono key
 ·exact(RX a cap L w hL h2 h3).mono key
def kR(x:Re)(v:Value):List Value:=[.string x.nm,.string x.ve,v,.string x.da]
def jd(L:List Re)(vs:List Value):List Value:=(List.zipWith kR L vs).flatten
theorem KG(L:List Re)(vs:List Value)(x:Re)(v:Value)(h:L.length=vs.length):jd (L++[x]) (vs++[v])=jd L vs++kR x v:=by
 unfold jd;rw[List.zipWith_append h];simp
theorem xH:∀(L:List Re) (vs:List Value) (h:L.length=vs.length) (i:Nat) (hi:i<L.length) (k:Nat) (u:Value),(kR L[i] (vs[i]'(by omega)))[k]?=some u->(jd L vs)[i*4+k]?=some u
 | [],vs,h,i,hi,k,u,hu=>by simp at hi
 | x :: L,[],h,i,hi,k,u,hu=>by simp at h
 | x :: L,v :: vs,h,i,hi,k,u,hu=>by
  have e:jd (x :: L) (v :: vs)=kR x v++jd L vs:=rfl;have hl:(kR x v).length=4:=rfl;rw[e]
  cases i with
  | zero =>
   simp only[List.getElem_cons_zero]at hu;have hk:=(List.getElem?_eq_some_iff.1 hu).1;rw[Nat.zero_mul,Nat.zero_add,List.getElem?_append_left hk];exact hu
  | succ i =>
   simp only[List.getElem_cons_succ]at hu;rw[List.getElem?_append_right (by rw[hl];omega),hl,show(i+1)*4+k-4=i*4+k by omega];exact xH L vs (by simpa using h) i (by simpa using hi) k u hu
theorem abq:(prog.info? 38).map (fun i=>(i.zero,i.size,i.bytes))=some (some (.agg #[.string ⟨#[]⟩,.string ⟨#[]⟩,.slice none 0 0,.string ⟨#[]⟩]),4,72):=by kernel_rfl
theorem Hm(s:Re)(v:Value)(h:v.oneCell'=true):∀u∈kR s v,u.oneCell'=true:=by
 intro u hu;simp only[kR,List.mem_cons,List.not_mem_nil,or_false]at hu
 rcases hu with rfl|rfl|rfl|rfl
 ·rfl
 ·rfl
 ·exact h
 ·rfl
theorem keepR{p:Addr}{s:Re}{v:Value}{r:Option Nat}{w w':World}(hg:w.grownBy w' r)(hn:some p.block≠r)(h:w.cell? p=some (.string s.nm)/\w.cell? ⟨p.block,p.off+1,none⟩=some (.string s.ve)/\w.cell? ⟨p.block,p.off+2,none⟩=some v/\w.cell? ⟨p.block,p.off+3,none⟩=some (.string s.da)):w'.cell? p=some (.string s.nm)/\w'.cell? ⟨p.block,p.off+1,none⟩=some (.string s.ve)/\w'.cell? ⟨p.block,p.off+2,none⟩=some v/\w'.cell? ⟨p.block,p.off+3,none⟩=some (.string s.da) :=
 ⟨hg.cell h.1 hn,hg.cell h.2.1 hn,hg.cell h.2.2.1 hn,hg.cell h.2.2.2 hn⟩
def A7(L:List Re)(w:World)(base:Nat)(vm:Value)(i:Nat):Prop:=∃vs:List Value,∃hl:vs.length=i,w.ownsRow base 38 4 vm i (jd (L.take i) vs)/\∀j (hj:j<i) (hL:j<L.length),NdS w (vs[j]'(by omega)) L[j].nd/\AZ (vs[j]'(by omega)) vm.ownBlock
theorem Sj(a:Addr)(cap:Nat)(L:List Re)(w:World)(hL:L.length<=1048576)(hcap:L.length<=cap)(hN:∀x∈L,x.nd.length<=1048576)(h:∀i (hi:i<L.length),ReAt w (a.add (i*4)) L[i]) :
  Calls prog 9 #[.slice (some a) L.length cap] w fun e w'=>∃v,e=.returned v/\A7 L w' w.heap.size v L.length/\Below w.heap.size w w':=by
 have HA:=ae h;have HN:=ae hN;clear h hN;have hinfo:=abq;obtain⟨i0,hi0,hii⟩:=Option.map_eq_some_iff.1 hinfo;simp only[Prod.mk.injEq]at hii;obtain⟨hz0,hz1,hzb⟩:=hii;clear hinfo;go_enter func9,ntmps9;go_wp2;go_loopw [3,4] (fun vm vi wr=>∃i:Nat,vi=.int .i64 i/\i<=L.length/\A7 L wr w.heap.size vm i/\Below w.heap.size w wr) (fun _ vi _=>L.length-(intOf vi).toNat)
 case atStart=>exact⟨0,rfl,Nat.zero_le _,⟨[],rfl,World.ownsRow_nil _ _ _ _,fun j hj=>by omega⟩,Below.refl _ _⟩
 case round =>
  obtain⟨i,rfl,hi,⟨vs,hvs,hown,hin⟩,hb⟩:=hrel
  by_cases hlt:i<L.length
  ·obtain⟨s,hs⟩:=zN (L[i]);have qc:ReAt wr (a.add (i*4)) s:=by rw[<-hs];exact(HA.o i hlt).grow (gz hb)
   obtain⟨e0,e1,⟨sv,e2,hsv⟩,e3⟩:=qc;have jS:Hd (some (a.add (i*4)).block≠u3.ownBlock):=by
    show _≠_;intro e;have h1:=(hown.lt _ e.symm).1;have h2:=(HA.o i hlt).1;have h3:=qP h2;omega
   have Sm:Hd (Calls prog 8 #[sv] wr.drew fun e w'=>∃o c,e=.returned (.slice o s.nd.length c)/\NdS w' (.slice o s.nd.length c) s.nd/\(∀a n k,Value.slice o s.nd.length c=.slice (some a) n k->0<n->wr.heap.size<=a.block)/\wr.drew.grownBy w' none):=abp sv s.nd wr.drew (hsv.grow ⟨rfl,rfl,rfl,Nat.le_refl _,fun _ _ _=>rfl⟩) (HN.o s (by rw[<-hs];exact List.getElem_mem _));have jT:Hd (∀j (hj:j<i) (hL:j<L.length),NdS wr (vs[j]'(by omega)) L[j].nd/\AZ (vs[j]'(by omega)) u3.ownBlock):=hin;have iU:Hd (∀v,jd (L.take (i+1)) (vs++[v])=jd (L.take i) vs++kR s v):=fun v=>by
    rw[List.take_succ_eq_append_getElem hlt,hs];exact KG _ _ _ _ (by rw[List.length_take,hvs];omega)
   have HS:=ae hs;have hzz:=hb.size;obtain⟨nn,hnn⟩:=zN (s.nd.length);rw[hnn]at Sm;clear hin hs hsv;go_wp2
   go_region_held3 (fun w'=>w'.cell? (a.add (i*4))=some (.string s.nm)/\w'.cell? ⟨(a.add (i*4)).block,(a.add (i*4)).off+1,none⟩=some (.string s.ve)/\w'.cell? ⟨(a.add (i*4)).block,(a.add (i*4)).off+2,none⟩=some sv/\w'.cell? ⟨(a.add (i*4)).block,(a.add (i*4)).off+3,none⟩=some (.string s.da)) ((first|exact keepR (by assumption) (by first|exact jS.o|simp) (by assumption)|go_keep)) (first|(refine step_append_lies _ (by rfl) _ _ _ (by rfl) w.heap.size 38 i0 _ 4 72 underlying27 hi0 hz0 hz1 hzb (by rfl) (by decide) u3 i (jd (L.take i) vs) (by rfl) ((hown.kept (dF hg1) (by cases u3.ownBlock<;>simp)).alloc _) _ 1 1 (kR s (.slice o1 nn c1)) (by rfl) (by rfl) (World.news_of_block (heap_alloc_new _ _)) (Hm s _ rfl) (by omega) (by unfold maxLen;omega) (by omega) (by have q1:=hg1.size;simp at q1 ⊢;omega) _ rfl ?_;intro g cap1 w3 hown3 hgrow hat hlt3)|(go_at_call 8;refine Sm.o.mono ?_;rintro e w1 ⟨o1,c1,rfl,hn1,hf1,hg1⟩))
   have g1:=dF hg1;have g2:wr.grownBy (w1.alloc (.cells #[.string s.nm,.string s.ve,.slice o1 nn c1,.string s.da] 38)) none:=ak g1 _;have hz1':=Nat.le_trans hzz g1.size;have HB3:=ae (((hbelow hb hzz g1).alloc hz1' _).grown hgrow (by simp;omega) (fun q hq=>(hown.lt q hq).1));have hnew:NdS (w1.alloc (.cells #[.string s.nm,.string s.ve,.slice o1 nn c1,.string s.da] 38)) (.slice o1 nn c1) s.nd:=hn1.grow (ak (ai w1 none) _);have hfn:AZ (.slice o1 nn c1) u3.ownBlock:=fun a' n' k' e hn=>by
    have h1:=hf1 a' n' k' e hn;intro h2;have h3:=(hown.lt a'.block h2.symm).2;omega
   have far2:∀v (M:List Nd),NdS (w1.alloc (.cells #[.string s.nm,.string s.ve,.slice o1 nn c1,.string s.da] 38)) v M->(∀a' n' k',v=.slice (some a') n' k'->0<n'->a'.block<w1.heap.size)->AZ v u3.ownBlock->AZ v (some g):=fun v M h1 h2 h3 a' n' k' e hn=>by
    have h4:=h2 a' n' k' e hn
    rcases hat with h5|h5
    ·rw[<-h5];exact h3 a' n' k' e hn
    ·intro h6;injection h6 with h6
     rw[h5]at h6;simp at h6;omega
   have HR3:Hd (A7 L w3 w.heap.size (.slice (some ⟨g,0,none⟩) (i+1) cap1) (i+1)):=by
    refine⟨vs++[.slice o1 nn c1],by simp[hvs],?_,fun j hj hLj=>?_⟩
    ·rw[iU.o];exact hown3
    ·by_cases hji:j<i
     ·obtain⟨k1,k2⟩:=jT.o j hji hLj;have ej:(vs++[Value.slice o1 nn c1])[j]'(by simp;omega)=vs[j]'(by omega):=List.getElem_append_left (by omega);rw[ej];refine⟨(k1.grow g2).far hgrow k2,?_⟩;refine far2 _ _ (k1.grow g2) (fun a' n' k' e hn=>?_) k2;have:=Si (by rw[<-e];exact k1) hn;exact Nat.lt_of_lt_of_le this g1.size
     ·have hje:j=i:=by omega
      subst hje;have ej:(vs++[Value.slice o1 nn c1])[j]'(by simp;omega)=.slice o1 nn c1:=by simp[hvs]
      rw[ej];have esj:L[j].nd=s.nd:=by rw[HS.o]
      rw[esj];exact⟨hnew.far hgrow hfn,far2 _ _ hnew (fun a' n' k' e hn=>Si (by rw[<-e];exact hn1) hn) hfn⟩
   clear hown3 hgrow hat hown hb hlt3 e0 e1 e2 e3 hn1 hf1 hg1 g1 g2 hnew hfn far2 hz1';go_wp2;go_roundw
   case rel=>exact⟨i+1,by go_num,by omega,HR3.o,HB3.o⟩
   case measure=>simp[intOf];omega
  ·have hil:i=L.length:=by omega
   subst hil;have HO:Hd (A7 L wr w.heap.size u3 L.length):=⟨vs,hvs,hown,hin⟩;have HB:=ae hb;clear hown hb hi hin;go_wp2;refine bodyPost_ret (results_tmp (t:=2) rfl _ _ _) rfl ⟨u3,rfl,HO.o,HB.o⟩
end Go.Proofs.YtiinliaoojfjaaaGreatDoor
