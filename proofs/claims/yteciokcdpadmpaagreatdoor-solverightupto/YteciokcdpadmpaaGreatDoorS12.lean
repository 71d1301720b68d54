import Derived.Test.YteciokcdpadmpaaGreatDoorS01
import Derived.Laws.Bits64b
import Derived.Laws.Shifts
import Derived.Deep.RegionHeld3
import Derived.Carry
import Derived.OwnWalk
import Derived.Deep.OwnRows
import Derived.Maps.OwnSet
import Derived.Maps.OwnOps
import Derived.Maps.AppendAt
set_option linter.all false
set_option maxRecDepth 100000
set_option maxHeartbeats 0
open Go.Proofs.Tryz
namespace Go.Proofs.YteciokcdpadmpaaGreatDoor
open Go.RowKit
theorem og{k:Nat}(h:k<64):2 ^ k<18446744073709551616:=by
 have:2 ^ k<2 ^ 64:=Nat.pow_lt_pow_right (by decide) h;simpa using this
theorem ug{x y:Nat}(hx:x<18446744073709551616)(hy:y<18446744073709551616):x ||| y<18446744073709551616:=by
 have:x ||| y<2 ^ 64:=Nat.or_lt_two_pow (by simpa using hx) (by simpa using hy)
 simpa using this
theorem E8(x y:Nat):x &&& y=0↔∀k,¬(x.testBit k=true/\y.testBit k=true):=by
 constructor
 ·intro h k ⟨h1,h2⟩;have:(x &&& y).testBit k=true:=by rw[Nat.testBit_and,h1,h2];rfl
  rw[h,Nat.zero_testBit]at this
  cases this
 ·intro h;refine Nat.eq_of_testBit_eq fun k=>?_
  rw[Nat.testBit_and,Nat.zero_testBit]
  cases hx:x.testBit k with
  | false=>rfl
  | true =>
   cases hy:y.testBit k with
   | false=>rfl
   | true=>exact absurd ⟨hx,hy⟩ (h k)
theorem BU(x k j:Nat):(x ||| 2 ^ k).testBit j=(x.testBit j || decide (k=j)):=by
 rw[Nat.testBit_or,Nat.testBit_two_pow]
theorem YE(k:Nat)(h:k<64):IntKind.u64.wrap ((2:Int) ^ k)=((2 ^ k:Nat):Int):=by
 have h2:=og h;have e3:((2:Int) ^ k)=((2 ^ k:Nat):Int):=by rw[Int.natCast_pow];rfl
 rw[IntKind.wrap_u64,e3];generalize 2 ^ k=X at h2;omega
theorem Fa(k:Nat)(h:k<64)(w:World):Calls prog 48 #[.int .i64 k] w fun e w'=>e=.returned (.int .u64 ((2 ^ k:Nat):Int))/\w'=w:=by
 have hs:=YE k h;obtain⟨X,hX⟩:∃X:Int,((2 ^ k:Nat):Int)=X:=⟨_,rfl⟩;rw[hX]at hs ⊢;clear hX;go_enter func48,ntmps48;go_wp2;go_ret;exact⟨by rw[<-hs];rfl,rfl⟩
theorem I5(x k:Nat)(hx:x<18446744073709551616)(h:k<64)(w:World):Calls prog 51 #[.int .u64 (x:Int),.int .i64 k] w fun e w'=>e=.returned (.bool (x.testBit k))/\w'=w:=by
 have CO:=ae (Fa k h);have hb:=bits_and_u64_nat x (2 ^ k) hx (og h);have ht:((((x &&& 2 ^ k:Nat):Int)) != 0)=x.testBit k:=by
  cases hc:x.testBit k with
  | true =>
   rw[bne_iff_ne];intro e;have e2:x &&& 2 ^ k=0:=by exact_mod_cast e
   exact(E8 _ _).1 e2 k ⟨hc,by rw[Nat.testBit_two_pow];simp⟩
  | false =>
   have:x &&& 2 ^ k=0:=(E8 _ _).2 fun j ⟨h1,h2⟩=>by
    rw[Nat.testBit_two_pow]at h2;have:k=j:=by simpa using h2
    subst this;rw[hc]at h1;cases h1
   rw[this];rfl
 obtain⟨X,hX⟩:∃X:Int,((2 ^ k:Nat):Int)=X:=⟨_,rfl⟩;obtain⟨Y,hY⟩:∃Y:Int,((x &&& 2 ^ k:Nat):Int)=Y:=⟨_,rfl⟩;rw[hX]at hb CO;rw[hY]at hb ht;clear hX hY;go_enter func51,ntmps51;go_wp2_with (go_at_call 48;refine(CO.o _).mono ?_;rintro e w' ⟨rfl,rfl⟩);go_ret;exact⟨by rw[<-ht];rfl,rfl⟩
open Go.RowKit
structure Nd where
 n:ByteArray
 r:ByteArray
def kV(x:Nd):List Value:=[.string x.n,.string x.r]
structure Re where
 nm:ByteArray
 ve:ByteArray
 nd:List Nd
 da:ByteArray
def NdAt(w:World)(p:Addr)(x:Nd):Prop:=w.cell? p=some (.string x.n)/\w.cell? ⟨p.block,p.off+1,none⟩=some (.string x.r)
theorem NdAt.grow{w w':World}{p:Addr}{x:Nd}(h:NdAt w p x)(hg:w.grownBy w' none):NdAt w' p x:=⟨hg.cell h.1 (by simp),hg.cell h.2 (by simp)⟩
def NdS(w:World)(v:Value)(L:List Nd):Prop:=(v=.slice none 0 0/\L=[])\/∃a cap,v=.slice (some a) L.length cap/\L.length<=cap/\∀i (hi:i<L.length),NdAt w (a.add (i*2)) L[i]
theorem NdS.grow{w w':World}{v:Value}{L:List Nd}(h:NdS w v L)(hg:w.grownBy w' none):NdS w' v L:=by
 rcases h with h|⟨a,cap,h1,h2,h3⟩
 ·exact Or.inl h
 ·exact Or.inr ⟨a,cap,h1,h2,fun i hi=>(h3 i hi).grow hg⟩
theorem uh{w:World}{v:Value}{L:List Nd}(h:NdS w v L):∃o c,v=.slice o L.length c:=by
 rcases h with⟨rfl,rfl⟩|⟨a,cap,rfl,-⟩
 ·exact⟨_,_,rfl⟩
 ·exact⟨_,_,rfl⟩
def ReAt(w:World)(p:Addr)(x:Re):Prop:=w.cell? p=some (.string x.nm)/\w.cell? ⟨p.block,p.off+1,none⟩=some (.string x.ve)/\(∃v,w.cell? ⟨p.block,p.off+2,none⟩=some v/\NdS w v x.nd)/\w.cell? ⟨p.block,p.off+3,none⟩=some (.string x.da)
theorem ReAt.grow{w w':World}{p:Addr}{x:Re}(h:ReAt w p x)(hg:w.grownBy w' none):ReAt w' p x:=by
 obtain⟨h0,h1,⟨v,h2,h3⟩,h4⟩:=h;exact⟨hg.cell h0 (by simp),hg.cell h1 (by simp),⟨v,hg.cell h2 (by simp),h3.grow hg⟩,hg.cell h4 (by simp)⟩
def ReS(w:World)(v:Value)(L:List Re):Prop:=(v=.slice none 0 0/\L=[])\/∃a cap,v=.slice (some a) L.length cap/\L.length<=cap/\∀i (hi:i<L.length),ReAt w (a.add (i*4)) L[i]
theorem ReS.grow{w w':World}{v:Value}{L:List Re}(h:ReS w v L)(hg:w.grownBy w' none):ReS w' v L:=by
 rcases h with h|⟨a,cap,h1,h2,h3⟩
 ·exact Or.inl h
 ·exact Or.inr ⟨a,cap,h1,h2,fun i hi=>(h3 i hi).grow hg⟩
theorem ui{w:World}{a:Addr}{v:Value}(h:w.cell? a=some v):a.block<w.heap.size:=by
 unfold World.cell? at h
 cases hb:w.heap[a.block]? with
 | none=>rw[hb]at h;simp at h
 | some o=>exact(aB hb)
theorem xO(a:Addr)(n k:Nat)(hk:0<k):a.add (n+k)=⟨(a.add n).block,(a.add n).off+k,none⟩:=by
 unfold Addr.add;rw[if_neg (by omega)]
 by_cases h:n=0
 ·rw[if_pos h,h];simp
 ·rw[if_neg h];simp[Nat.add_assoc]
theorem hbelow{B:Nat}{a w w':World}(h:Below B a w)(hB:B<=w.heap.size)(hg:w.grownBy w' none):Below B a w' :=
 ⟨hg.os.trans h.os,hg.tape.trans h.tape,hg.output.trans h.output,Nat.le_trans h.size hg.size,fun k hk=>(hg.block k (Nat.lt_of_lt_of_le hk hB) (by simp)).trans (h.block k hk)⟩
theorem oh{w w':World}(h:Below w.heap.size w w'):w.grownBy w' none:=⟨h.os,h.tape,h.output,h.size,fun k hk _=>h.block k hk⟩
theorem YF:(prog.info? 50).map (fun i=>(i.zero,i.size,i.bytes))=some (some (.agg #[.string ⟨#[]⟩,.string ⟨#[]⟩]),2,32):=by kernel_rfl
theorem YG(s:Nd):∀u∈kV s,u.oneCell'=true:=by
 intro u hu;simp only[kV,List.mem_cons,List.not_mem_nil,or_false]at hu
 rcases hu with rfl|rfl<;>rfl
theorem YH{p:Addr}{s:Nd}{r:Option Nat}{w w':World}(hg:w.grownBy w' r)(hn:some p.block≠r)(h:w.cell? p=some (.string s.n)/\w.cell? ⟨p.block,p.off+1,none⟩=some (.string s.r)):w'.cell? p=some (.string s.n)/\w'.cell? ⟨p.block,p.off+1,none⟩=some (.string s.r):=⟨hg.cell h.1 hn,hg.cell h.2 hn⟩
def I7(L:List Nd)(w:World)(e:Ending)(w':World):Prop:=∃v,e=.returned v/\w'.ownsRow w.heap.size 50 2 v L.length (L.flatMap kV)/\Below w.heap.size w w'
theorem Pm(a:Addr)(cap:Nat)(L:List Nd)(w:World)(hL:L.length<=1048576)(hcap:L.length<=cap)(h:∀i (hi:i<L.length),NdAt w (a.add (i*2)) L[i]) :
  Calls prog 5 #[.slice (some a) L.length cap] w (I7 L w):=by
 have HA:=ae h;clear h;have hinfo:=YF;obtain⟨i0,hi0,hii⟩:=Option.map_eq_some_iff.1 hinfo;simp only[Prod.mk.injEq]at hii;obtain⟨hz0,hz1,hzb⟩:=hii;clear hinfo;go_enter func5,ntmps5;go_wp2;go_loopw [3,4] (fun vm vi wr=>∃i:Nat,vi=.int .i64 i/\i<=L.length/\wr.ownsRow w.heap.size 50 2 vm i ((L.take i).flatMap kV)/\Below w.heap.size w wr) (fun _ vi _=>L.length-(intOf vi).toNat)
 case atStart=>exact⟨0,rfl,Nat.zero_le _,World.ownsRow_nil _ _ _ _,Below.refl _ _⟩
 case round =>
  obtain⟨i,rfl,hi,hown,hb⟩:=hrel
  by_cases hlt:i<L.length
  ·obtain⟨s,hs⟩:=zN (L[i]);have HE:Hd (NdAt wr (a.add (i*2)) s):=by show NdAt wr _ s;rw[<-hs];exact(HA.o i hlt).grow (oh hb)
   obtain⟨e0,e1⟩:=HE.o;have lW:Hd (some (a.add (i*2)).block≠u3.ownBlock):=by
    show _≠_;intro e;have h1:=(hown.lt _ e.symm).1;have h2:=(HA.o i hlt).1;have h3:=ui h2;omega
   have jO:Hd ((L.take (i+1)).flatMap kV=(L.take i).flatMap kV++kV s):=by
    show _=_;rw[List.take_succ_eq_append_getElem hlt,List.flatMap_append,hs];simp
   have hzz:=hb.size;go_wp2
   go_region_held3 (fun w'=>w'.cell? (a.add (i*2))=some (.string s.n)/\w'.cell? ⟨(a.add (i*2)).block,(a.add (i*2)).off+1,none⟩=some (.string s.r)) ((first|exact YH (by assumption) (by first|exact lW.o|simp) (by assumption)|go_keep)) (first|(refine step_append_lies _ (by rfl) _ _ _ (by rfl) w.heap.size 50 i0 _ 2 32 underlying29 hi0 hz0 hz1 hzb (by rfl) (by decide) u3 i ((L.take i).flatMap kV) (by rfl) (hown.drew.alloc _) _ 1 1 (kV s) (by rfl) (by rfl) (World.news_of_block (heap_alloc_new _ _)) (YG s) (by omega) (by unfold maxLen;omega) (by omega) (by simp;omega) _ rfl ?_;intro g cap1 w3 hown3 hgrow hat hlt3))
   have hb2:Below w.heap.size w wr.drew:=hbelow hb hzz ⟨rfl,rfl,rfl,Nat.le_refl _,fun _ _ _=>rfl⟩;have HB3:=ae ((hb2.alloc hzz _).grown hgrow (by simp;omega) (fun q hq=>(hown.lt q hq).1));have pY:Hd (w3.ownsRow w.heap.size 50 2 (.slice (some ⟨g,0,none⟩) (i+1) cap1) (i+1) ((L.take (i+1)).flatMap kV)):=by show World.ownsRow _ _ _ _ _ _ _;rw[jO.o];exact hown3
   clear hown3 hgrow hat hb2 hown hb hlt3 e0 e1 hs;go_wp2;go_roundw
   case rel=>exact⟨i+1,by go_num,by omega,pY.o,HB3.o⟩
   case measure=>simp[intOf];omega
  ·have hil:i=L.length:=by omega
   have HO:Hd (wr.ownsRow w.heap.size 50 2 u3 L.length (L.flatMap kV)):=by
    show World.ownsRow _ _ _ _ _ _ _;rw[hil,List.take_length]at hown;exact hown
   have HB:=ae hb;clear hown hb hil hi;go_wp2;refine bodyPost_ret (results_tmp (t:=2) rfl _ _ _) rfl ⟨u3,rfl,HO.o,HB.o⟩
theorem Pn(w:World):Calls prog 5 #[.slice none 0 0] w (I7 [] w):=by
 go_enter func5,ntmps5;go_wp2;go_loopw [3,4] (fun vm vi wr=>vi=.int .i64 0/\vm=.slice none 0 0/\Below w.heap.size w wr) (fun _ vi _=>0)
 case atStart=>exact⟨rfl,rfl,Below.refl _ _⟩
 case round =>
  obtain⟨rfl,rfl,hb⟩:=hrel;have HB:=ae hb;clear hb;go_wp2;refine bodyPost_ret (results_tmp (t:=2) rfl _ _ _) rfl ⟨_,rfl,World.ownsRow_nil _ _ _ _,HB.o⟩
theorem Po(l:List Nd):∀(i:Nat) (hi:i<l.length) (k:Nat) (u:Value),(kV l[i])[k]?=some u->(l.flatMap kV)[i*2+k]?=some u:=by
 induction l with
 | nil=>intro i hi;simp at hi
 | cons t l ih =>
  intro i hi k u h;rw[List.flatMap_cons];have hl:(kV t).length=2:=rfl
  cases i with
  | zero =>
   simp only[List.getElem_cons_zero]at h;have hk:=(List.getElem?_eq_some_iff.1 h).1;rw[Nat.zero_mul,Nat.zero_add,List.getElem?_append_left hk];exact h
  | succ i =>
   simp only[List.getElem_cons_succ]at h;rw[List.getElem?_append_right (by rw[hl];omega),hl,show(i+1)*2+k-2=i*2+k by omega];exact ih i (by simpa using hi) k u h
theorem zB{w:World}{base:Nat}{v:Value}{L:List Nd}(h:w.ownsRow base 50 2 v L.length (L.flatMap kV)):NdS w v L:=by
 rcases h.2 with⟨h1,h2⟩|⟨g,cap,cur,hv,hb,hc,h3,h4,h5,h6⟩
 ·exact Or.inl ⟨h1,List.length_eq_zero_iff.1 h2⟩
 ·refine Or.inr ⟨⟨g,0,none⟩,cap,hv,h3,fun i hi=>?_⟩;have h':=h;rw[hv]at h';have k0:=h'.cells (g:=g) rfl (i*2+0) _ (Po L i hi 0 _ rfl);have k1:=h'.cells (g:=g) rfl (i*2+1) _ (Po L i hi 1 _ rfl);refine⟨?_,?_⟩
  ·simpa using k0
  ·rw[xO _ _ 1 (by omega)]at k1;simpa using k1
theorem YI(v:Value)(L:List Nd)(w:World)(h:NdS w v L)(hL:L.length<=1048576) :
  Calls prog 5 #[v] w fun e w'=>∃o c,e=.returned (.slice o L.length c)/\NdS w' (.slice o L.length c) L/\w.grownBy w' none:=by
 rcases h with⟨rfl,rfl⟩|⟨a,cap,rfl,h2,h3⟩
 ·refine(Pn w).mono ?_;rintro e w' ⟨v,rfl,ho,hb⟩;obtain⟨o,c,rfl⟩:=uh (zB ho);exact⟨o,c,rfl,zB ho,oh hb⟩
 ·refine(Pm a cap L w hL h2 h3).mono ?_;rintro e w' ⟨v,rfl,ho,hb⟩;obtain⟨o,c,rfl⟩:=uh (zB ho);exact⟨o,c,rfl,zB ho,oh hb⟩
open Go.RowKit Go.Maps
def oq(P:List Nd)(x:Nd):Bool:=P.any fun y=>decide (y.n=x.n)
def eY(L:List Nd):Nat->Bool
 | 0=>false
 | i+1=>eY L i || (match L[i]? with|some x=>oq (L.take i) x|none=>false)
theorem BV(L:List Nd)(i:Nat)(hi:i<L.length):eY L (i+1)=(eY L i || oq (L.take i) L[i]):=by
 simp[eY,List.getElem?_eq_getElem hi]
theorem YJ(L:List Nd)(i k:Nat)(h:eY L i=true):eY L (i+k)=true:=by
 induction k with
 | zero=>exact h
 | succ k ih=>rw[<-Nat.add_assoc,eY,ih];rfl
theorem Pq(L:List Nd)(i:Nat)(hi:i<L.length)(h:oq (L.take i) L[i]=true):eY L L.length=true:=by
 have h1:eY L (i+1)=true:=by rw[BV L i hi,h,Bool.or_true]
 have:=YJ L (i+1) (L.length-(i+1)) h1
 rwa [show i+1+(L.length-(i+1))=L.length by omega]at this
theorem Pv(L:List Nd)(i:Nat)(hi:i<L.length)(h:oq (L.take i) L[i]=false)(h0:eY L i=false):eY L (i+1)=false:=by
 rw[BV L i hi,h,h0];rfl
def ni(x:Nd):Lit:=.string x.n.data.toList
theorem YK(P:List Nd)(x:Nd):(P.map ni).any (fun y=>y.sameKey (ni x))=oq P x:=by
 unfold oq;rw[List.any_map];congr 1;funext y;show(ni y).sameKey (ni x)=decide (y.n=x.n);rw[Bool.eq_iff_iff,WideAt.sameKey_iff (by trivial)];unfold ni;constructor
 ·intro h;injection h with h
  simp only[decide_eq_true_eq];exact ByteArray.ext (Array.ext' h)
 ·intro h;have:y.n=x.n:=by simpa using h
  rw[this]
def setN(L:List Nd)(i:Nat):DataW Unit:=setOf (.agg []) ((L.take i).map ni)
theorem Px(L:List Nd)(i:Nat)(x:Nd):Maps.has (setN L i) (ni x)=oq (L.take i) x:=by
 unfold setN;rw[has_setOf _ _ _ (fun y hy=>by obtain⟨z,-,rfl⟩:=List.mem_map.1 hy;trivial)];exact YK _ _
theorem Py(L:List Nd)(i:Nat)(hi:i<L.length):(setN L i).put (ni L[i]) (.agg [])=setN L (i+1):=by
 unfold setN;rw[List.take_succ_eq_append_getElem hi,List.map_append,List.map_singleton,setOf_snoc]
theorem Pz{w u u':World}{b:Nat}(h:w.grownBy u none)(hg:u.grownBy u' (some b))(hb:w.heap.size<=b):w.grownBy u' none :=
 ⟨hg.os.trans h.os,hg.tape.trans h.tape,hg.output.trans h.output,Nat.le_trans h.size hg.size,fun k hk hn=>(hg.block k (Nat.lt_of_lt_of_le hk h.size) (by simp;omega)).trans (h.block k hk hn)⟩
theorem keyS:Keyed prog 9:=string_keyed underlying9
theorem zC(w:World):(zeroValue 104).run prog w=.ok (.agg #[]) w:=by kernel_rfl
theorem I8(n:Int)(w:World):(Instr.makeMap 81 (some (.int .i64 n))).run prog w=.ok (.map (some w.heap.size)) (w.alloc (.map #[] 0)):=by kernel_rfl
theorem YL(a:Addr)(cap:Nat)(L:List Nd)(w:World)(hL:L.length<=1048576)(hcap:L.length<=cap)(hz:∀x∈L,x.n.size<=maxLen)(h:∀i (hi:i<L.length),NdAt w (a.add (i*2)) L[i]) :
  Calls prog 56 #[.slice (some a) L.length cap] w fun e w'=>e=.returned (.bool (eY L L.length))/\w.grownBy w' none:=by
 have HA:=ae h;have HZ:=ae hz;obtain⟨R,hR⟩:=zN (eY L L.length);have HR:=ae hR;rw[hR];clear h hz hR;obtain⟨B,hB⟩:=zN (w.heap.size);have HB:=ae hB;have hmm:=I8 (L.length:Int) w;go_enter func56,ntmps56;go_wp2
 try rw[hB]
 clear hB hmm;go_loopw [13] (fun vi wr=>∃i:Nat,vi=.int .i64 i/\i<=L.length/\eY L i=false/\wr.ownsMap prog 9 (unitElem (H:=Unit)) B i (setN L i)/\w.grownBy wr none) (fun vi _=>L.length-(intOf vi).toNat)
 case atStart=>exact⟨0,rfl,Nat.zero_le _,rfl,HB.o ▸ World.ownsMap_made _ _ _ _,aj (ak w none) _⟩
 case round =>
  obtain⟨i,rfl,hi,ht,hown,hg⟩:=hrel;have HT:=ae ht;have HG:=ae hg
  by_cases hlt:i<L.length
  ·obtain⟨x,hx⟩:=zN (L[i]);have hat:NdAt wr (a.add (i*2)) x:=by rw[<-hx];exact(HA.o i hlt).grow hg
   have hkey:keyOf prog 9 (.string x.n)=some (ni x):=Go.WideMaps.keyOf_string_mk underlying9 (HZ.o x (by rw[<-hx];exact List.getElem_mem _));have HS:=ae (Px L i x);have HN:Hd ((setN L i).put (ni x) (.agg [])=setN L (i+1)):=by show _=_;rw[<-hx];exact Py L i hlt
   have HX:=ae hx;obtain⟨q,hq⟩:=zN (Maps.has (setN L i) (ni x));have HQ:=ae hq;obtain⟨e0,e1⟩:=hat;have hown2:=(hown.alloc (.cells #[.string x.n,.string x.r] 50));clear ht hg hx
   cases q with
   | true =>
    go_wp2_with (first|(at_lookup;refine wpList_lookup_own_unit _ rfl _ _ 81 rfl 9 104 keyS underlying81 (zC _) B i _ rfl hown2 _ _ rfl hkey ?_;rw[hq])|go_in);go_ret;exact⟨aJ (HR.o.symm.trans (Pq L i hlt (by rw[HX.o,<-HS.o,HQ.o]))).symm,aj (aj HG.o _) _⟩
   | false =>
    go_wp2_with (first|(at_lookup;refine wpList_lookup_own_unit _ rfl _ _ 81 rfl 9 104 keyS underlying81 (zC _) B i _ rfl hown2 _ _ rfl hkey ?_;rw[hq])|(at_mapUpdate;refine wpList_mapUpdate_own _ rfl _ _ _ 81 rfl 9 104 keyS underlying81 (unitElem (H:=Unit)) B i _ rfl (hown2.alloc _) (by unfold maxLen;omega) _ _ _ rfl rfl hkey _ [] unitElem_mk ?_;intro w1 hown1 hgrow1)|go_in);go_roundw
    case rel=>exact⟨i+1,by go_num,by omega,Pv L i hlt (by rw[HX.o,<-HS.o,HQ.o]) HT.o,by rw[<-HN.o];exact hown1,Pz (aj (aj HG.o _) _) hgrow1 (Nat.le_of_eq HB.o)⟩
    case measure=>simp[intOf];omega
  ·have hil:i=L.length:=by omega
   have HF:Hd (R=false):=by
    show R=false;rw[<-HR.o,<-hil];exact ht
   clear ht hg hil hi hown;go_wp2;go_ret;exact⟨aJ HF.o.symm,HG.o⟩
open Go.RowKit
def zD(v:Value)(b:Option Nat):Prop:=∀a n c,v=.slice (some a) n c->0<n->some a.block≠b
theorem NdS.far{w w':World}{v:Value}{L:List Nd}{b:Option Nat}(h:NdS w v L)(hg:w.grownBy w' b)(hf:zD v b):NdS w' v L:=by
 rcases h with h|⟨a,cap,rfl,h2,h3⟩
 ·exact Or.inl h
 ·refine Or.inr ⟨a,cap,rfl,h2,fun i hi=>?_⟩;have hb:=hf a _ _ rfl (by omega);have e:∀k,(a.add k).block=a.block:=fun k=>by unfold Addr.add;split<;>simp
  obtain⟨k0,k1⟩:=h3 i hi;exact⟨hg.cell k0 (by rw[e];exact hb),hg.cell k1 (by show some (a.add (i*2)).block≠b;rw[e];exact hb)⟩
theorem PD{w:World}{a:Addr}{n c:Nat}{L:List Nd}(h:NdS w (.slice (some a) n c) L)(hn:0<n):a.block<w.heap.size:=by
 rcases h with⟨h,-⟩|⟨a',cap,h1,h2,h3⟩
 ·cases h
 ·cases h1
  have:=ui (h3 0 (by omega)).1;have e:(a.add (0*2)).block=a.block:=by unfold Addr.add;split<;>simp
  rw[e]at this;exact this
theorem YM(v:Value)(L:List Nd)(w:World)(h:NdS w v L)(hL:L.length<=1048576) :
  Calls prog 5 #[v] w fun e w'=>∃o c,e=.returned (.slice o L.length c)/\NdS w' (.slice o L.length c) L/\(∀a n k,Value.slice o L.length c=.slice (some a) n k->0<n->w.heap.size<=a.block)/\w.grownBy w' none:=by
 have key:∀e w',I7 L w e w'->∃o c,e=.returned (.slice o L.length c)/\NdS w' (.slice o L.length c) L/\(∀a n k,Value.slice o L.length c=.slice (some a) n k->0<n->w.heap.size<=a.block)/\w.grownBy w' none:=by
  rintro e w' ⟨v,rfl,ho,hb⟩;obtain⟨o,c,rfl⟩:=uh (zB ho);refine⟨o,c,rfl,zB ho,fun a n k e hn=>?_,oh hb⟩;rw[e]at ho;exact(ho.lt a.block rfl).1
 rcases h with⟨rfl,rfl⟩|⟨a,cap,rfl,h2,h3⟩
 ·exact(Pn w).mono key
 ·exact(Pm a cap L w hL h2 h3).mono key
def rE(x:Re)(v:Value):List Value:=[.string x.nm,.string x.ve,v,.string x.da]
def rF(L:List Re)(vs:List Value):List Value:=(List.zipWith rE L vs).flatten
theorem YN(L:List Re)(vs:List Value)(x:Re)(v:Value)(h:L.length=vs.length):rF (L++[x]) (vs++[v])=rF L vs++rE x v:=by
 unfold rF;rw[List.zipWith_append h];simp
theorem I9:∀(L:List Re) (vs:List Value) (h:L.length=vs.length) (i:Nat) (hi:i<L.length) (k:Nat) (u:Value),(rE L[i] (vs[i]'(by omega)))[k]?=some u->(rF L vs)[i*4+k]?=some u
 | [],vs,h,i,hi,k,u,hu=>by simp at hi
 | x :: L,[],h,i,hi,k,u,hu=>by simp at h
 | x :: L,v :: vs,h,i,hi,k,u,hu=>by
  have e:rF (x :: L) (v :: vs)=rE x v++rF L vs:=rfl;have hl:(rE x v).length=4:=rfl;rw[e]
  cases i with
  | zero =>
   simp only[List.getElem_cons_zero]at hu;have hk:=(List.getElem?_eq_some_iff.1 hu).1;rw[Nat.zero_mul,Nat.zero_add,List.getElem?_append_left hk];exact hu
  | succ i =>
   simp only[List.getElem_cons_succ]at hu;rw[List.getElem?_append_right (by rw[hl];omega),hl,show(i+1)*4+k-4=i*4+k by omega];exact I9 L vs (by simpa using h) i (by simpa using hi) k u hu
theorem YO:(prog.info? 52).map (fun i=>(i.zero,i.size,i.bytes))=some (some (.agg #[.string ⟨#[]⟩,.string ⟨#[]⟩,.slice none 0 0,.string ⟨#[]⟩]),4,72):=by kernel_rfl
theorem YP(s:Re)(v:Value)(h:v.oneCell'=true):∀u∈rE s v,u.oneCell'=true:=by
 intro u hu;simp only[rE,List.mem_cons,List.not_mem_nil,or_false]at hu
 rcases hu with rfl|rfl|rfl|rfl
 ·rfl
 ·rfl
 ·exact h
 ·rfl
theorem keepR{p:Addr}{s:Re}{v:Value}{r:Option Nat}{w w':World}(hg:w.grownBy w' r)(hn:some p.block≠r)(h:w.cell? p=some (.string s.nm)/\w.cell? ⟨p.block,p.off+1,none⟩=some (.string s.ve)/\w.cell? ⟨p.block,p.off+2,none⟩=some v/\w.cell? ⟨p.block,p.off+3,none⟩=some (.string s.da)):w'.cell? p=some (.string s.nm)/\w'.cell? ⟨p.block,p.off+1,none⟩=some (.string s.ve)/\w'.cell? ⟨p.block,p.off+2,none⟩=some v/\w'.cell? ⟨p.block,p.off+3,none⟩=some (.string s.da) :=
 ⟨hg.cell h.1 hn,hg.cell h.2.1 hn,hg.cell h.2.2.1 hn,hg.cell h.2.2.2 hn⟩
def BX(L:List Re)(w:World)(base:Nat)(vm:Value)(i:Nat):Prop:=∃vs:List Value,∃hl:vs.length=i,w.ownsRow base 52 4 vm i (rF (L.take i) vs)/\∀j (hj:j<i) (hL:j<L.length),NdS w (vs[j]'(by omega)) L[j].nd/\zD (vs[j]'(by omega)) vm.ownBlock
theorem YQ(a:Addr)(cap:Nat)(L:List Re)(w:World)(hL:L.length<=1048576)(hcap:L.length<=cap)(hN:∀x∈L,x.nd.length<=1048576)(h:∀i (hi:i<L.length),ReAt w (a.add (i*4)) L[i]) :
  Calls prog 6 #[.slice (some a) L.length cap] w fun e w'=>∃v,e=.returned v/\BX L w' w.heap.size v L.length/\Below w.heap.size w w':=by
 have HA:=ae h;have HN:=ae hN;clear h hN;have hinfo:=YO;obtain⟨i0,hi0,hii⟩:=Option.map_eq_some_iff.1 hinfo;simp only[Prod.mk.injEq]at hii;obtain⟨hz0,hz1,hzb⟩:=hii;clear hinfo;go_enter func6,ntmps6;go_wp2;go_loopw [3,4] (fun vm vi wr=>∃i:Nat,vi=.int .i64 i/\i<=L.length/\BX L wr w.heap.size vm i/\Below w.heap.size w wr) (fun _ vi _=>L.length-(intOf vi).toNat)
 case atStart=>exact⟨0,rfl,Nat.zero_le _,⟨[],rfl,World.ownsRow_nil _ _ _ _,fun j hj=>by omega⟩,Below.refl _ _⟩
 case round =>
  obtain⟨i,rfl,hi,⟨vs,hvs,hown,hin⟩,hb⟩:=hrel
  by_cases hlt:i<L.length
  ·obtain⟨s,hs⟩:=zN (L[i]);have xP:ReAt wr (a.add (i*4)) s:=by rw[<-hs];exact(HA.o i hlt).grow (oh hb)
   obtain⟨e0,e1,⟨sv,e2,hsv⟩,e3⟩:=xP;have lW:Hd (some (a.add (i*4)).block≠u3.ownBlock):=by
    show _≠_;intro e;have h1:=(hown.lt _ e.symm).1;have h2:=(HA.o i hlt).1;have h3:=ui h2;omega
   have PE:Hd (Calls prog 5 #[sv] wr.drew fun e w'=>∃o c,e=.returned (.slice o s.nd.length c)/\NdS w' (.slice o s.nd.length c) s.nd/\(∀a n k,Value.slice o s.nd.length c=.slice (some a) n k->0<n->wr.heap.size<=a.block)/\wr.drew.grownBy w' none):=YM sv s.nd wr.drew (hsv.grow ⟨rfl,rfl,rfl,Nat.le_refl _,fun _ _ _=>rfl⟩) (HN.o s (by rw[<-hs];exact List.getElem_mem _));have kW:Hd (∀j (hj:j<i) (hL:j<L.length),NdS wr (vs[j]'(by omega)) L[j].nd/\zD (vs[j]'(by omega)) u3.ownBlock):=hin;have jO:Hd (∀v,rF (L.take (i+1)) (vs++[v])=rF (L.take i) vs++rE s v):=fun v=>by
    rw[List.take_succ_eq_append_getElem hlt,hs];exact YN _ _ _ _ (by rw[List.length_take,hvs];omega)
   have HS:=ae hs;have hzz:=hb.size;obtain⟨nn,hnn⟩:=zN (s.nd.length);rw[hnn]at PE;clear hin hs hsv;go_wp2
   go_region_held3 (fun w'=>w'.cell? (a.add (i*4))=some (.string s.nm)/\w'.cell? ⟨(a.add (i*4)).block,(a.add (i*4)).off+1,none⟩=some (.string s.ve)/\w'.cell? ⟨(a.add (i*4)).block,(a.add (i*4)).off+2,none⟩=some sv/\w'.cell? ⟨(a.add (i*4)).block,(a.add (i*4)).off+3,none⟩=some (.string s.da)) ((first|exact keepR (by assumption) (by first|exact lW.o|simp) (by assumption)|go_keep)) (first|(refine step_append_lies _ (by rfl) _ _ _ (by rfl) w.heap.size 52 i0 _ 4 72 underlying31 hi0 hz0 hz1 hzb (by rfl) (by decide) u3 i (rF (L.take i) vs) (by rfl) ((hown.kept (bZ hg1) (by cases u3.ownBlock<;>simp)).alloc _) _ 1 1 (rE s (.slice o1 nn c1)) (by rfl) (by rfl) (World.news_of_block (heap_alloc_new _ _)) (YP s _ rfl) (by omega) (by unfold maxLen;omega) (by omega) (by have q1:=hg1.size;simp at q1 ⊢;omega) _ rfl ?_;intro g cap1 w3 hown3 hgrow hat hlt3)|(go_at_call 5;refine PE.o.mono ?_;rintro e w1 ⟨o1,c1,rfl,hn1,hf1,hg1⟩))
   have g1:=bZ hg1;have g2:wr.grownBy (w1.alloc (.cells #[.string s.nm,.string s.ve,.slice o1 nn c1,.string s.da] 52)) none:=aj g1 _;have hz1':=Nat.le_trans hzz g1.size;have HB3:=ae (((hbelow hb hzz g1).alloc hz1' _).grown hgrow (by simp;omega) (fun q hq=>(hown.lt q hq).1));have hnew:NdS (w1.alloc (.cells #[.string s.nm,.string s.ve,.slice o1 nn c1,.string s.da] 52)) (.slice o1 nn c1) s.nd:=hn1.grow (aj (ak w1 none) _);have hfn:zD (.slice o1 nn c1) u3.ownBlock:=fun a' n' k' e hn=>by
    have h1:=hf1 a' n' k' e hn;intro h2;have h3:=(hown.lt a'.block h2.symm).2;omega
   have far2:∀v (M:List Nd),NdS (w1.alloc (.cells #[.string s.nm,.string s.ve,.slice o1 nn c1,.string s.da] 52)) v M->(∀a' n' k',v=.slice (some a') n' k'->0<n'->a'.block<w1.heap.size)->zD v u3.ownBlock->zD v (some g):=fun v M h1 h2 h3 a' n' k' e hn=>by
    have h4:=h2 a' n' k' e hn
    rcases hat with h5|h5
    ·rw[<-h5];exact h3 a' n' k' e hn
    ·intro h6;injection h6 with h6
     rw[h5]at h6;simp at h6;omega
   have HR3:Hd (BX L w3 w.heap.size (.slice (some ⟨g,0,none⟩) (i+1) cap1) (i+1)):=by
    refine⟨vs++[.slice o1 nn c1],by simp[hvs],?_,fun j hj hLj=>?_⟩
    ·rw[jO.o];exact hown3
    ·by_cases hji:j<i
     ·obtain⟨k1,k2⟩:=kW.o j hji hLj;have ej:(vs++[Value.slice o1 nn c1])[j]'(by simp;omega)=vs[j]'(by omega):=List.getElem_append_left (by omega);rw[ej];refine⟨(k1.grow g2).far hgrow k2,?_⟩;refine far2 _ _ (k1.grow g2) (fun a' n' k' e hn=>?_) k2;have:=PD (by rw[<-e];exact k1) hn;exact Nat.lt_of_lt_of_le this g1.size
     ·have hje:j=i:=by omega
      subst hje;have ej:(vs++[Value.slice o1 nn c1])[j]'(by simp;omega)=.slice o1 nn c1:=by simp[hvs]
      rw[ej];have esj:L[j].nd=s.nd:=by rw[HS.o]
      rw[esj];exact⟨hnew.far hgrow hfn,far2 _ _ hnew (fun a' n' k' e hn=>PD (by rw[<-e];exact hn1) hn) hfn⟩
   clear hown3 hgrow hat hown hb hlt3 e0 e1 e2 e3 hn1 hf1 hg1 g1 g2 hnew hfn far2 hz1';go_wp2;go_roundw
   case rel=>exact⟨i+1,by go_num,by omega,HR3.o,HB3.o⟩
   case measure=>simp[intOf];omega
  ·have hil:i=L.length:=by omega
   subst hil;have HO:Hd (BX L wr w.heap.size u3 L.length):=⟨vs,hvs,hown,hin⟩;have HB:=ae hb;clear hown hb hi hin;go_wp2;refine bodyPost_ret (results_tmp (t:=2) rfl _ _ _) rfl ⟨u3,rfl,HO.o,HB.o⟩
end Go.Proofs.YteciokcdpadmpaaGreatDoor
