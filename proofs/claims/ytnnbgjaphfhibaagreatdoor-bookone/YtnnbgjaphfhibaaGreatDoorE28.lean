import Derived.Test.YtnnbgjaphfhibaaGreatDoorE23
import Derived.Test.YtnnbgjaphfhibaaGreatDoorE21
import Derived.RangeFuncKeeps
import Derived.Shelf.SlIter.Collect
set_option linter.all false
set_option maxRecDepth 100000
set_option maxHeartbeats 0
open Go.Proofs.Tryz
namespace Go.Proofs.YtnnbgjaphfhibaaGreatDoor
open Go.RowKit Go.Maps
theorem O8{a b:ByteArray}(h:a=b):(a.toList == b.toList)=true:=by rw[h];simp
theorem ER{a b:ByteArray}(h:¬a=b):(a.toList == b.toList)=false:=by
 cases hb:(a.toList == b.toList) with
 | false=>rfl
 | true =>
  exfalso;apply h;have h2:a.toList=b.toList:=by simpa using hb
  rw[Lib.toList_data,Lib.toList_data]at h2;apply ByteArray.ext;exact Array.ext' h2
theorem ES{w:World}{o:Option Addr}{c:Nat}{L:List ByteArray}(h:TxS w (.slice o L.length c) L){i:Nat}(hi:i<L.length):∃a,o=some a/\L.length<=c/\∀j (hj:j<L.length),w.cell? (a.add j)=some (.string L[j]):=by
 rcases h with⟨h1,h2⟩|⟨a,cap,h1,h2,h3⟩
 ·rw[h2]at hi;simp at hi
 ·cases h1
  exact⟨a,rfl,h2,h3⟩
theorem afm(o:Option Addr)(n c:Nat)(x:ByteArray)(L:List ByteArray)(w:World)(hn:n=L.length)(h:TxS w (.slice o n c) L)(hL:L.length<=1048576) :
  Calls prog 93 #[.slice o n c,.string x] w fun e w'=>∃k:Int,e=.returned (.int .i64 k)/\w.grownBy w' none/\(0<=k↔L.any (fun y=>decide (y=x))=true):=by
 subst hn;have H1:=ae h;have HN:Hd ((L.take L.length).any (fun y=>decide (y=x))=false->L.any (fun y=>decide (y=x))=false):=fun h=>by rwa [List.take_length]at h
 clear h;go_enter func93,ntmps93;go_wp2;go_loopw [8] (fun vi wr=>∃i:Nat,vi=.int .i64 i/\i<=L.length/\(L.take i).any (fun y=>decide (y=x))=false/\w.grownBy wr none) (fun vi _=>L.length-(intOf vi).toNat)
 case atStart=>exact⟨0,rfl,Nat.zero_le _,rfl,au _ _⟩
 case round =>
  obtain⟨i,rfl,hi,hf,hg⟩:=hrel;have HF:=ae hf;have HG:=ae hg
  by_cases hlt:i<L.length
  ·obtain⟨a,rfl,hcv,hat⟩:=ES (H1.o.grow hg) hlt;have e0:=hat i hlt;obtain⟨y,hy⟩:=zN (L[i]);rw[hy]at e0;have HY:=ae hy;clear hf hg hat hy
   by_cases hxy:x=y
   ·have q:=O8 hxy;have HT:Hd (L.any (fun y=>decide (y=x))=true):=by
     show _=_;rw[List.any_eq_true];exact⟨L[i],List.getElem_mem _,by rw[HY.o];simp[hxy]⟩
    clear hxy;go_wp2;go_ret;exact⟨(i:Int),rfl,HG.o,fun _=>HT.o,fun _=>by omega⟩
   ·have q:=ER hxy;have HT:Hd ((L.take (i+1)).any (fun y=>decide (y=x))=false):=by
     show _=_;rw[List.take_succ_eq_append_getElem hlt,List.any_append,HF.o,HY.o];simp;exact fun e=>hxy e.symm
    clear hxy;go_wp2;exact⟨⟨i+1,by go_num,by omega,HT.o,HG.o⟩,by simp[intOf];omega⟩
  ·have hil:i=L.length:=by omega
   have HT:=ae (HN.o (by rw[<-hil];exact hf));clear hf hg hil hi;go_wp2;go_ret;exact⟨-1,rfl,HG.o,fun h=>by omega,fun h=>by rw[HT.o]at h;cases h⟩
theorem XM(o:Option Addr)(n c:Nat)(x:ByteArray)(L:List ByteArray)(w:World)(hn:n=L.length)(h:TxS w (.slice o n c) L)(hL:L.length<=1048576) :
  Calls prog 61 #[.slice o n c,.string x] w fun e w'=>e=.returned (.bool (L.any (fun y=>decide (y=x))))/\w.grownBy w' none:=by
 have CI:=ae (afm o n c x L w hn h hL);obtain⟨q,hq⟩:=zN (L.any (fun y=>decide (y=x)));rw[hq]at CI ⊢;clear h hq hL hn
 cases q with
 | true =>
  have CJ:Hd (Calls prog 93 #[.slice o n c,.string x] w fun e w'=>(∃k:Int,e=.returned (.int .i64 k)/\0<=k)/\w.grownBy w' none):=CI.o.mono fun e w' ⟨k,h1,h2,h3⟩=>⟨⟨k,h1,h3.2 rfl⟩,h2⟩
  clear CI;go_enter func61,ntmps61;go_wp2_with (go_at_call 93;refine CJ.o.mono ?_);rintro e w1 ⟨⟨k,rfl,hk⟩,hg⟩;go_wp2;go_ret;exact⟨bJ (by first|rfl|(simp;done)|(simp;omega)),hg⟩
 | false =>
  have CJ:Hd (Calls prog 93 #[.slice o n c,.string x] w fun e w'=>(∃k:Int,e=.returned (.int .i64 k)/\k<0)/\w.grownBy w' none):=CI.o.mono fun e w' ⟨k,h1,h2,h3⟩=>⟨⟨k,h1,Int.not_le.1 fun h=>by have:=h3.1 h;cases this⟩,h2⟩
  clear CI;go_enter func61,ntmps61;go_wp2_with (go_at_call 93;refine CJ.o.mono ?_);rintro e w1 ⟨⟨k,rfl,hk⟩,hg⟩;go_wp2;go_ret;exact⟨bJ (by first|rfl|(simp;done)|(simp;omega)),hg⟩
theorem afn{w:World}{a:Addr}{cap:Nat}{L:List ByteArray}(i:Nat)(hi:i<=L.length)(hc:L.length<=cap)(h:∀j (hj:j<L.length),w.cell? (a.add j)=some (.string L[j])):TxS w (.slice (some a) i cap) (L.take i):=by
 have hl:(L.take i).length=i:=by simp;omega
 refine Or.inr ⟨a,cap,by rw[hl],by omega,fun j hj=>?_⟩;rw[List.getElem_take];exact h j (by omega)
theorem afo(v:Value)(L:List ByteArray)(w:World)(h:TxS w v L)(hL:L.length<=1048576) :
  Calls prog 37 #[v] w fun e w'=>e=.returned (.bool (l7 L L.length))/\w.grownBy w' none:=by
 have H1:=ae h;have CC:=ae (fun(a:Addr) (i:Nat) (c:Nat) (x:ByteArray) (w:World) (hi:i<=L.length) (h:TxS w (.slice (some a) i c) (L.take i))=>XM (some a) i c x (L.take i) w (by simp;omega) h (by simp;omega));obtain⟨o,c,rfl⟩:=xB h;have HH:=ae (aeo L);obtain⟨R,hR⟩:=zN (l7 L L.length);have HR:=ae hR;rw[hR]at HH ⊢;clear h hR;go_enter func37,ntmps37;go_wp2;go_loopw [7] (fun vi wr=>∃i:Nat,vi=.int .i64 i/\i<=L.length/\l7 L i=false/\w.grownBy wr none) (fun vi _=>L.length-(intOf vi).toNat)
 case atStart=>exact⟨0,rfl,Nat.zero_le _,rfl,au _ _⟩
 case round =>
  obtain⟨i,rfl,hi,hf,hg⟩:=hrel;have HF:=ae hf;have HG:=ae hg
  by_cases hlt:i<L.length
  ·obtain⟨a,rfl,hcv,hat⟩:=ES (H1.o.grow hg) hlt;have e0:=hat i hlt;obtain⟨y,hy⟩:=zN (L[i]);rw[hy]at e0;have CY:=ae (CC.o a i c y wr (by omega) (afn i (by omega) hcv hat));have HT:Hd ((L.take i).any (fun z=>decide (z=y))=true->R=true):=fun h=>(HH.o i hlt (by rw[hy];exact h)).symm ▸ rfl
   have HS:=ae (fun(h:(L.take i).any (fun z=>decide (z=y))=false)=>aep L i hlt (by rw[hy];exact h) HF.o);obtain⟨q,hq⟩:=zN ((L.take i).any (fun z=>decide (z=y)));rw[hq]at CY HT HS;have hic:(i:Int)<=c:=by omega
   clear hf hg hat hy hq
   cases q with
   | true =>
    go_wp2_with (go_at_call 61;refine CY.o.mono ?_;rintro e w3 ⟨rfl,hg3⟩);go_ret;exact⟨bJ (HT.o (by trivial)).symm,ai HG.o hg3⟩
   | false =>
    go_wp2_with (go_at_call 61;refine CY.o.mono ?_;rintro e w3 ⟨rfl,hg3⟩);exact⟨⟨i+1,by go_num,by omega,HS.o (by trivial),ai HG.o hg3⟩,by simp[intOf];omega⟩
  ·have hil:i=L.length:=by omega
   have HT:Hd (R=false):=HR.o.symm.trans (by rw[<-hil];exact hf);clear hf hg hil hi;go_wp2;go_ret;exact⟨bJ HT.o.symm,HG.o⟩
theorem XN(s:ByteArray)(w:World)(hs:s.size<2 ^ 62):Calls prog 59 #[.string s] w fun e w'=>e=.returned (.bool (okV s))/\w.grownBy w' none:=by
 have CR:Hd (∀w,Calls prog 90 #[.string s] w fun e w'=>(∃(x1 x2 x3:Int) (x4 x5:ByteArray) (k:Int),e=.returned (.tuple #[.agg #[.int .i64 x1,.int .i64 x2,.int .i64 x3,.string x4,.string x5],.int .i64 (jZ s.data.toList).1,.int .i64 k]))/\w.grownBy w' none):=fun w=>(parse_any s w hs).mono fun e w' ⟨h1,h2⟩=>⟨⟨_,_,_,_,_,_,h1⟩,h2⟩
 unfold okV;obtain⟨E,hE⟩:=zN ((jZ s.data.toList).1);rw[hE]at CR ⊢;clear hE;have hd:decide (E=0)=(E == 0):=by rw[Bool.eq_iff_iff];simp
 rw[hd];clear hd;go_enter func59,ntmps59;go_wp2_with (go_at_call 90;refine(CR.o _).mono ?_);rintro e w1 ⟨⟨x1,x2,x3,x4,x5,k,rfl⟩,hg⟩
 cases hz:(E == 0) with
 | true =>
  go_wp2;go_ret;exact⟨bJ hz.symm,bC hg _⟩
 | false =>
  go_wp2;go_ret;exact⟨bJ hz.symm,bC hg _⟩
theorem zx{w:World}{N:Nat}{n v d:ByteArray}{sv:Value}{t:TypeId}(h:w.heap[N]?=some (.cells #[.string n,.string v,.string d,sv] t (0,0))):w.cell? ⟨N,0,none⟩=some (.string n)/\w.cell? ⟨N,1,none⟩=some (.string v)/\w.cell? ⟨N,2,none⟩=some (.string d)/\w.cell? ⟨N,3,none⟩=some sv :=
 ⟨by rw[ag h];rfl,by rw[ag h];rfl,by rw[ag h];rfl,by rw[ag h];rfl⟩
open Go.RowKit
def EntI(L:List En)(n:ByteArray)(c:Int):Prop:=(c=-1/\aT L n=false)\/∃j,∃hj:j<L.length,c=(j:Int)/\L[j].nm=n/\aT (L.take j) n=false
theorem EntI.neg{L:List En}{n:ByteArray}{c:Int}(h:EntI L n c):c<0↔aT L n=false:=by
 rcases h with⟨rfl,h⟩|⟨j,hj,rfl,h1,h2⟩
 ·exact⟨fun _=>h,fun _=>by omega⟩
 ·refine⟨fun h=>by omega,fun h=>?_⟩;have:=Ew L n L.length j hj hj h1;rw[List.take_length,h]at this
  cases this
theorem EntI.lt{L:List En}{i:Nat}(hi:i<L.length){c:Int}(h:EntI L L[i].nm c):c<(i:Int)↔aT (L.take i) L[i].nm=true:=by
 rcases h with⟨rfl,h⟩|⟨j,hj,rfl,h1,h2⟩
 ·have:=Ew L L[i].nm L.length i hi hi rfl;rw[List.take_length,h]at this
  cases this
 ·refine⟨fun h=>Ew L _ i j hj (by omega) h1,fun h=>?_⟩;apply Classical.byContradiction;intro hn;rw[WY L _ i j (by omega) h]at h2
  cases h2
theorem O9{w:World}{o:Option Addr}{c:Nat}{L:List En}(h:EnS w (.slice o L.length c) L){i:Nat}(hi:i<L.length):∃a,o=some a/\L.length<=c/\∀j (hj:j<L.length),EnAt w (a.add (j*4)) L[j]:=by
 rcases h with⟨h1,h2⟩|⟨a,cap,h1,h2,h3⟩
 ·rw[h2]at hi;simp at hi
 ·cases h1
  exact⟨a,rfl,h2,h3⟩
theorem afp(v:Value)(L:List En)(n:ByteArray)(w:World)(h:EnS w v L)(hL:L.length<=1048576) :
  Calls prog 35 #[v,.string n] w fun e w'=>∃c:Int,e=.returned (.int .i64 c)/\EntI L n c/\w.grownBy w' none:=by
 have H1:=ae h;obtain⟨o,c,rfl⟩:=DU h;clear h;go_enter func35,ntmps35;go_wp2;go_loopw [5] (fun vi wr=>∃i:Nat,vi=.int .i64 i/\i<=L.length/\aT (L.take i) n=false/\w.grownBy wr none) (fun vi _=>L.length-(intOf vi).toNat)
 case atStart=>exact⟨0,rfl,Nat.zero_le _,rfl,au _ _⟩
 case round =>
  obtain⟨i,rfl,hi,hf,hg⟩:=hrel;have HF:=ae hf;have HG:=ae hg
  by_cases hlt:i<L.length
  ·obtain⟨a,rfl,hcv,hat⟩:=O9 (H1.o.grow hg) hlt;have e0:=(hat i hlt).1;obtain⟨y,hy⟩:=zN (L[i].nm);rw[hy]at e0;have HY:=ae hy;clear hf hg hat hy
   by_cases hxy:y=n
   ·have q:=O8 hxy;have HT:Hd (EntI L n (i:Int)):=Or.inr ⟨i,hlt,rfl,HY.o.trans hxy,HF.o⟩;clear hxy;go_wp2;go_ret;exact⟨(i:Int),rfl,HT.o,HG.o⟩
   ·have q:=ER hxy;have HT:Hd (aT (L.take (i+1)) n=false):=by
     show _=_;rw[IV L n i hlt,HF.o,HY.o];simp[hxy]
    clear hxy;go_wp2;exact⟨⟨i+1,by go_num,by omega,HT.o,HG.o⟩,by simp[intOf];omega⟩
  ·have hil:i=L.length:=by omega
   have HT:Hd (EntI L n (-1)):=Or.inl ⟨rfl,by rw[hil,List.take_length]at hf;exact hf⟩;clear hf hg hil hi;go_wp2;go_ret;exact⟨-1,rfl,HT.o,HG.o⟩
open Go.RowKit Go.Maps
theorem afq(x:En)(o:Option Addr)(n c B:Nat)(t:ByteArray)(w:World)(hB:w.cell? ⟨B,0,none⟩=some (.string t)) :
  Calls prog 117 #[.agg #[.string x.nm,.string x.ve,.string x.dg,.slice o n c],.pointer (some ⟨B,0,none⟩)] w fun e w'=>e=.returned (.bool (decide (x.nm=t)))/\w.grownBy w' none:=by
 have hA:=(World.grownBy_alloc w (.cells #[.string x.nm,.string x.ve,.string x.dg,.slice o n c] 33) none).cell hB (by simp);have hg:=World.grownBy_alloc w (.cells #[.string x.nm,.string x.ve,.string x.dg,.slice o n c] 33) none;have HG:=ae hg;clear hg
 by_cases h:x.nm=t
 ·have q:=O8 h;rw[decide_eq_true h];clear h;go_enter func117,ntmps117;go_wp2;go_ret;exact⟨by first|rfl|exact bJ q,HG.o⟩
 ·have q:=ER h;rw[decide_eq_false h];clear h;go_enter func117,ntmps117;go_wp2;go_ret;exact⟨by first|rfl|exact bJ q,HG.o⟩
theorem afr(o:Option Addr)(n c B:Nat)(t:ByteArray)(L:List En)(w:World)(hn:n=L.length)(h:EnS w (.slice o n c) L)(hL:L.length<=1048576)(hB:w.cell? ⟨B,0,none⟩=some (.string t)) :
  Calls prog 159 #[.slice o n c,.func (.func 117) #[] #[.pointer (some ⟨B,0,none⟩)]] w fun e w'=>∃k:Int,e=.returned (.int .i64 k)/\w.grownBy w' none/\(0<=k↔aT L t=true):=by
 subst hn;have H1:=ae h;have CN:=ae (fun(x:En) o' n' c' w' (hg:w.grownBy w' none)=>afq x o' n' c' B t w' (hg.cell hB (by simp)));have HN:Hd (aT (L.take L.length) t=false->aT L t=false):=fun h=>by rwa [List.take_length]at h
 clear h hB;go_enter func159,ntmps159;go_wp2;go_loopw [8] (fun vi wr=>∃i:Nat,vi=.int .i64 i/\i<=L.length/\aT (L.take i) t=false/\w.grownBy wr none) (fun vi _=>L.length-(intOf vi).toNat)
 case atStart=>exact⟨0,rfl,Nat.zero_le _,rfl,au _ _⟩
 case round =>
  obtain⟨i,rfl,hi,hf,hg⟩:=hrel;have HF:=ae hf;have HG:=ae hg
  by_cases hlt:i<L.length
  ·obtain⟨a,rfl,hcv,hat⟩:=O9 (H1.o.grow hg) hlt;obtain⟨e0,e1,e2,sv,e3,hsv⟩:=hat i hlt;obtain⟨so,sc,rfl⟩:=xB hsv;obtain⟨y,hy⟩:=zN (L[i]);rw[hy]at e0 e1 e2 e3;have HY:=ae hy;have CY:Hd (Calls prog 117 #[.agg #[.string y.nm,.string y.ve,.string y.dg,.slice so y.nd.length sc],.pointer (some ⟨B,0,none⟩)] wr fun e w''=>e=.returned (.bool (decide (y.nm=t)))/\wr.grownBy w'' none):=CN.o y so _ sc wr hg;clear hf hg hy hsv hat
   by_cases hxy:y.nm=t
   ·rw[decide_eq_true hxy]at CY;have HT:Hd (aT L t=true):=by
     show _=_;unfold aT;rw[List.any_eq_true];exact⟨L[i],List.getElem_mem _,by rw[HY.o];simp[hxy]⟩
    clear hxy;go_wp2_with (go_at_call 117;refine CY.o.mono ?_);rintro e w2 ⟨rfl,hg2⟩;have HG2:=ae (ai HG.o hg2);clear hg2;go_wp2;go_ret;exact⟨(i:Int),rfl,HG2.o,fun _=>HT.o,fun _=>by omega⟩
   ·rw[decide_eq_false hxy]at CY;have HT:Hd (aT (L.take (i+1)) t=false):=by
     show _=_;rw[IV L t i hlt,HF.o,HY.o];simpa using hxy
    clear hxy;go_wp2_with (go_at_call 117;refine CY.o.mono ?_);rintro e w2 ⟨rfl,hg2⟩;have HG2:=ae (ai HG.o hg2);clear hg2;go_wp2;exact⟨⟨i+1,by go_num,by omega,HT.o,HG2.o⟩,by simp[intOf];omega⟩
  ·have hil:i=L.length:=by omega
   have HT:=ae (HN.o (by rw[<-hil];exact hf));clear hf hg hil hi;go_wp2;go_ret;exact⟨-1,rfl,HG.o,fun h=>by omega,fun h=>by rw[HT.o]at h;cases h⟩
theorem afs(o:Option Addr)(n c B:Nat)(t:ByteArray)(L:List En)(w:World)(hn:n=L.length)(h:EnS w (.slice o n c) L)(hL:L.length<=1048576)(hB:w.cell? ⟨B,0,none⟩=some (.string t)) :
  Calls prog 116 #[.slice o n c,.func (.func 117) #[] #[.pointer (some ⟨B,0,none⟩)]] w fun e w'=>e=.returned (.bool (aT L t))/\w.grownBy w' none:=by
 have CI:=ae (afr o n c B t L w hn h hL hB);obtain⟨q,hq⟩:=zN (aT L t);rw[hq]at CI ⊢;clear h hq hL hn hB
 cases q with
 | true =>
  have CJ:Hd (Calls prog 159 #[.slice o n c,.func (.func 117) #[] #[.pointer (some ⟨B,0,none⟩)]] w fun e w'=>(∃k:Int,e=.returned (.int .i64 k)/\0<=k)/\w.grownBy w' none):=CI.o.mono fun e w' ⟨k,h1,h2,h3⟩=>⟨⟨k,h1,h3.2 rfl⟩,h2⟩
  clear CI;go_enter func116,ntmps116;go_wp2_with (go_at_call 159;refine CJ.o.mono ?_);rintro e w1 ⟨⟨k,rfl,hk⟩,hg⟩;go_wp2;go_ret;exact⟨bJ (by first|rfl|(simp;done)|(simp;omega)),hg⟩
 | false =>
  have CJ:Hd (Calls prog 159 #[.slice o n c,.func (.func 117) #[] #[.pointer (some ⟨B,0,none⟩)]] w fun e w'=>(∃k:Int,e=.returned (.int .i64 k)/\k<0)/\w.grownBy w' none):=CI.o.mono fun e w' ⟨k,h1,h2,h3⟩=>⟨⟨k,h1,Int.not_le.1 (fun h=>by have:=h3.1 h;cases this)⟩,h2⟩
  clear CI;go_enter func116,ntmps116;go_wp2_with (go_at_call 159;refine CJ.o.mono ?_);rintro e w1 ⟨⟨k,rfl,hk⟩,hg⟩;go_wp2;go_ret;exact⟨bJ (by first|rfl|(simp;done)|(simp;omega)),hg⟩
open Go.RowKit
def uB(a b:ByteArray):Bool:=decide (cT a b<=0)
theorem XO(a b c:ByteArray)(h1:uB a b=true)(h2:uB b c=true):uB a c=true:=by
 unfold uB at *;exact decide_eq_true (ad3 (of_decide_eq_true h1) (of_decide_eq_true h2))
theorem XP(a b:ByteArray):(uB a b || uB b a)=true:=by
 unfold uB;have:=qG.anti a b;simp only[Bool.or_eq_true,decide_eq_true_eq];omega
def kV(L:List ByteArray):List ByteArray:=L.mergeSort uB
theorem zy(L:List ByteArray):(kV L).Perm L:=List.mergeSort_perm L uB
theorem XQ(L:List ByteArray):Ei (kV L):=(List.pairwise_mergeSort XO XP L).imp (fun h=>of_decide_eq_true h)
theorem XR{S L:List ByteArray}(hp:S.Perm L)(hs:Ei S):S=kV L:=ad4 (hp.trans (zy L).symm) hs (XQ L)
def jI(x:En):En:=⟨x.nm,x.ve,x.dg,kV x.nd⟩
def XT(a b:En):Bool:=uB a.nm b.nm
def pK(L:List En):List En:=L.mergeSort XT
def Bz(E:List En):Prop:=E.Pairwise (fun a b=>cT a.nm b.nm<=0)
theorem ET(L:List En):(pK L).Perm L:=List.mergeSort_perm L XT
theorem XU(L:List En):Bz (pK L):=(List.pairwise_mergeSort (fun a b c=>XO a.nm b.nm c.nm) (fun a b=>XP a.nm b.nm) L).imp (fun h=>of_decide_eq_true h)
theorem XV:∀{L:List En},(L.map (·.nm)).Nodup->∀a∈L,∀b∈L,a.nm=b.nm->a=b
 | [],_,a,ha,_,_,_=>by cases ha
 | x :: L,h,a,ha,b,hb,e=>by
  rw[List.map_cons,List.nodup_cons]at h
  rcases List.mem_cons.1 ha with ha1|ha1
  ·rcases List.mem_cons.1 hb with hb1|hb1
   ·rw[ha1,hb1]
   ·exact absurd (by rw[<-ha1,e];exact List.mem_map.2 ⟨b,hb1,rfl⟩) h.1
  ·rcases List.mem_cons.1 hb with hb1|hb1
   ·exact absurd (by rw[<-hb1,<-e];exact List.mem_map.2 ⟨a,ha1,rfl⟩) h.1
   ·exact XV h.2 a ha1 b hb1 e
theorem XW{E L:List En}(hn:(L.map (·.nm)).Nodup)(hp:E.Perm L)(hs:Bz E):E=pK L:=by
 refine N7 _ E (pK L) (hp.trans (ET L).symm) hs (XU L) (fun a ha b hb r1 r2=>?_);exact XV hn a (hp.subset ha) b (hp.subset hb) (Wl (by have:=qG.anti a.nm b.nm;omega))
open Go.RowKit
theorem XX{w wa wb:World}{row:Option Nat}(h:w.grownBy wa none)(hg:wa.grownBy wb row)(hr:∀q,row=some q->w.heap.size<=q):w.grownBy wb none :=
 ⟨hg.os.trans h.os,hg.tape.trans h.tape,hg.output.trans h.output,Nat.le_trans h.size hg.size,fun k hk hn=>(hg.block k (Nat.lt_of_lt_of_le hk h.size) (fun e=>by have:=hr k e.symm;omega)).trans (h.block k hk hn)⟩
open Go.RowKit
def cat(x y:ByteArray):ByteArray:=x++y
theorem BA(x y:ByteArray):(cat x y).data.toList=x.data.toList++y.data.toList:=by simp[cat]
theorem zA(x y:ByteArray):(cat x y).size=x.size+y.size:=by simp[cat]
theorem BB(x y:ByteArray)(wx:World)(h:x.size+y.size<=140737488355328):(Op.stringOp .add x y).run prog wx=.ok (.string (cat x y)) wx :=
 run_string_add_sum wx _ _ (by omega)
def jP(N:List ByteArray):Nat->List UInt8
 | 0=>[]
 | k+1=>jP N k++((if 0<k then[44,32] else[])++(match N[k]? with|some y=>34 :: (y.data.toList++[34])|none=>[]))
theorem Pg(N:List ByteArray)(k:Nat)(hk:k<N.length):jP N (k+1)=jP N k++((if 0<k then[44,32] else[])++34 :: (N[k].data.toList++[34])):=by
 simp[jP,List.getElem?_eq_getElem hk]
def lD(x:En):List UInt8:=[10,91,91,112,97,99,107,97,103,101,93,93,10,100,105,103,101,115,116,32,61,32,34]++(x.dg.data.toList++([34,10,110,97,109,101,32,61,32,34]++(x.nm.data.toList++([34,10,110,101,101,100,115,32,61,32,91]++(jP x.nd x.nd.length++([93,10,118,101,114,115,105,111,110,32,61,32,34]++(x.ve.data.toList++[34,10])))))))
def x8(M:List En):List UInt8:=[102,111,114,109,97,116,32,61,32,49,10]++M.flatMap lD
def Short(x:En):Prop:=x.nm.size<=1048576/\x.ve.size<=1048576/\x.dg.size<=1048576/\x.nd.length<=20/\∀y∈x.nd,y.size<=1048576
theorem Jm(N:List ByteArray)(h:∀y∈N,y.size<=1048576):∀k,k<=N.length->(jP N k).length<=k*1048580
 | 0,_=>by simp[jP]
 | k+1,hk=>by
  have h1:=Jm N h k (by omega);have h2:=h N[k] (List.getElem_mem _);have e:N[k].data.toList.length=N[k].size:=by simp
  rw[Pg N k (by omega)];split
  ·simp only[List.length_append,List.length_cons,List.length_nil,e];omega
  ·simp only[List.length_append,List.length_cons,List.length_nil,e];omega
def vX(L:List En):ByteArray:=⟨(x8 ((pK L).map jI)).toArray⟩
theorem aft(M:List En)(i:Nat)(hi:i<M.length):(M.take (i+1)).flatMap lD=(M.take i).flatMap lD++lD M[i]:=by
 rw[List.take_succ_eq_append_getElem hi,List.flatMap_append];simp
open Go.RowKit Go.Maps Go.Sort Go.Shelf
attribute [local go_sem] Oper.semAt_some
theorem XY{P:Program}{n:Nat}{g:Operand}{ps:Array Tmp}{assign body:Code}{Q:Exit->Act->World->Prop}{a:Act}{w:World}{gf:Nat}{lb:Array Value}
  (hg:a.eval g=.func (.func gf) #[] lb) (eg:∀args w,(callFunc gf args).run P w=.ok (.enter gf args) w)
  (h:∀(r:Loop) (W4:World),r.state=.ready->r.pending=none->r.params=ps->r.assign=assign->r.body=body->r.tmps=a.tmps->(w.alloc (.deferred (some []))).alloc (.loop r)=W4 →
   CallsIn Fence.wide (n-1) P gf (#[.func (.yield (w.heap.size+1)) #[] #[]]++lb) W4 (rangePost Fence.wide n P (w.heap.size+1) Q { a with defers:=[{ target:=.collected w.heap.size,args:=#[] }]++a.defers })) :
  (Code.rangeFunc g ps assign body).wpIn Fence.wide n P Q a w:=by
 refine wpIn_rangeFunc ?_;intro fn hfn;obtain⟨r,hr⟩:∃r:Loop,r={ state:=.ready,pending:=none,fn:=fn,tmps:=a.tmps,params:=ps,assign:=assign,body:=body,defers:=w.heap.size }:=⟨_,rfl⟩;obtain⟨W1,hW1⟩:=zN ((w.alloc (.deferred (some []))).alloc (.loop r));have hc:=h r W1 (by rw[hr]) (by rw[hr]) (by rw[hr]) (by rw[hr]) (by rw[hr]) (by rw[hr]) hW1;have e1:(Instr.enterLoop fn a.tmps ps assign body Fence.wide.round).run P w=.ok (w.heap.size+1,[{ target:=.collected w.heap.size,args:=#[] }]) W1:=by
  rw[<-hW1,hr,show Fence.wide.round=none from rfl];exact run_enterLoop_outer _ _ _ _ _
 have e2:(resolve a.eval (rangeCall g (w.heap.size+1)) 0).run P W1=.ok { target:=.fn (.func gf) lb,args:=#[.func (.yield (w.heap.size+1)) #[] #[]] } W1:=by
  simp only[resolve,hg];simp[go_sem]
 have e3:(invoke (.fn (.func gf) lb) #[.func (.yield (w.heap.size+1)) #[] #[]]).run P W1=.ok (.enter gf (#[.func (.yield (w.heap.size+1)) #[] #[]]++lb)) W1:=by
  simp[invoke,go_sem,eg]
 have e4:Fence.wide.depth.isSome=true->1<=n:=by
  intro hd;simp[Fence.wide]at hd
 clear h hr;refine⟨w.heap.size+1,[{ target:=.collected w.heap.size,args:=#[] }],W1,{ target:=.fn (.func gf) lb,args:=#[.func (.yield (w.heap.size+1)) #[] #[]] },W1,gf,#[.func (.yield (w.heap.size+1)) #[] #[]]++lb,W1,e1,?_⟩;refine⟨e2,?_⟩;refine⟨fun _ _=>trivial,?_⟩;refine⟨e3,?_⟩;refine⟨e4,?_⟩;exact hc
theorem XZ(r:Loop)(h1:r.state=.ready)(h2:r.pending=none):({ ({ r with state:=.busy }:Loop) with state:=if(none:Option Code).isNone then .ready else .done,pending:=none }:Loop)=r:=by
 cases r
 simp at h1 h2;simp[h1,h2]
theorem X0{P:Program}{n l:Nat}{r:Loop}{args:Array Value}{W1:World}{R:Ending->World->Prop}(hl:W1.heap[l]?=some (.loop r))(hps:args.size=r.params.size)
  (h:r.assign.wpIn (Fence.wide.inRound l) n P (Exit.then (fun a₁ w₁=>∃w₂,(Instr.beginRound l).run P w₁=.ok () w₂/\r.body.wpIn (Fence.wide.inRound l) n P (roundPost P l R) a₁ w₂) (fun _ _ _=>False))
   { tmps:=(r.params.zip args).foldl (fun tmps (t,a)=>tmps.setIfInBounds t a) r.tmps,defers:=[] } W1) :
  YieldAt Fence.wide n P l args W1 R:=⟨_,_,_,_,run_yield hl hps,roundIn_of_wpIn trivial h⟩
theorem afu(o:Option Addr)(n c:Nat)(w:World):Calls prog 69 #[.slice o n c] w fun e w'=>e=.returned (.func (.func 101) #[] #[.pointer (some ⟨w.heap.size,0,none⟩)])/\w'=w.alloc (.cells #[.slice o n c] 31):=by
 go_enter func69,ntmps69;go_wp2;go_ret;exact⟨rfl,rfl⟩
theorem afv(n l bm:Nat)(hn:1<=n)(o:Option Addr)(c:Nat)(L:List ByteArray)(hL:L.length<=1048576)(J:List ByteArray->World->Prop)
  (hc:∀pre W,J pre W->W.cell? ⟨bm,0,none⟩=some (.slice o L.length c)/\TxS W (.slice o L.length c) L)
  (hY:∀pre x W,J pre W->pre.length<L.length->YieldAt Fence.wide (n-1) prog l #[.string x] W fun e W'=>e=.returned (.bool true)/\J (pre++[x]) W') (W:World) (h0:J [] W) :
  CallsIn Fence.wide n prog 101 #[.func (.yield l) #[] #[],.pointer (some ⟨bm,0,none⟩)] W fun e W'=>(∃v,e=.returned v)/\J L W':=by
 refine callsIn_of_wp func101 rfl trivial ?_ rfl;simp only[ntmps101,List.size_toArray,List.length_cons,List.length_nil,Nat.reduceAdd,Nat.reduceSub,Array.replicate_succ,Array.replicate_zero,List.push_toArray,List.append_toArray,List.nil_append,List.cons_append];obtain⟨m0,-⟩:=hc [] W h0
 gi_wp2
 clear m0
 gi_loopw [7] (fun vi wr=>∃i:Nat,vi=.int .i64 i/\i<=L.length/\J (L.take i) wr) (fun vi _=>L.length-(intOf vi).toNat)
 case atStart=>exact⟨0,rfl,Nat.zero_le _,h0⟩
 case round =>
  obtain⟨i,rfl,hi,hJ⟩:=hrel;have HJ:=ae hJ
  by_cases hlt:i<L.length
  ·obtain⟨m1,m2⟩:=hc _ _ hJ;obtain⟨a,rfl,hcv,hat⟩:=ES m2 hlt;have e0:=hat i hlt;obtain⟨x,hx⟩:=zN (L[i]);rw[hx]at e0;obtain⟨fn,tmps,assign,body,hy,hR⟩:=hY (L.take i) x wr hJ (by simp;omega);have Jn:Hd (L.take i++[x]=L.take (i+1)):=by
    show _=_;rw[List.take_succ_eq_append_getElem hlt,hx]
   clear m1 m2 hat hx hJ
   gi_wp2
   refine hR.mono ?_;rintro e W3 ⟨rfl,hJ3⟩;have rY:Hd (J (L.take (i+1)) W3):=by show J _ _;rw[<-Jn.o];exact hJ3
   clear hJ3
   gi_wp2
   exact⟨⟨i+1,by go_num,by omega,rY.o⟩,by simp[intOf];omega⟩
  ·have hil:i=L.length:=by omega
   have rY:Hd (J L wr):=by
    rw[hil,List.take_length]at hJ;exact hJ
   clear hJ hil hi
   gi_wp2
   go_end0
   exact⟨⟨_,rfl⟩,rY.o⟩
theorem qK(W:World)(l:Nat)(o:Obj):W.grownBy (W.putObj l o) (some l) :=
 ⟨rfl,rfl,rfl,by simp,fun k _ hk=>World.putObj_heap_other (fun e=>hk (by rw[e]))⟩
theorem afw(bm:Nat)(o:Option Addr)(c:Nat)(L:List ByteArray)(hL:L.length<=1048576)(w:World)(hbm:w.heap[bm]?=some (.cells #[.slice o L.length c] 31 (0,0)))(htx:TxS w (.slice o L.length c) L) :
  CallsIn Fence.wide 4 prog 144 #[.slice none 0 0,.func (.func 101) #[] #[.pointer (some ⟨bm,0,none⟩)]] w fun e w'=>∃v,e=.returned v/\w'.ownsRow w.heap.size 9 1 v L.length (L.map Value.string)/\Below w.heap.size w w':=by
 have EU:=Nj;obtain⟨j0,hj0,hjj⟩:=Option.map_eq_some_iff.1 EU;simp only[Prod.mk.injEq]at hjj;obtain⟨hy0,hy1,hyb⟩:=hjj;clear EU;have EW:Hd (w.heap[bm]?=some (.cells #[.slice o L.length c] 31 (0,0))/\TxS w (.slice o L.length c) L):=⟨hbm,htx⟩;have hbl:=(dO hbm);clear hbm htx;refine callsIn_of_wp_marks func144 rfl trivial ?_ rfl;simp only[ntmps144,List.size_toArray,List.length_cons,List.length_nil,Nat.reduceAdd,Nat.reduceSub,Array.replicate_succ,Array.replicate_zero,List.push_toArray,List.append_toArray,List.nil_append,List.cons_append]
 gi_wp2
 refine XY (gf:=101) (lb:=#[.pointer (some ⟨bm,0,none⟩)]) rfl (enters_of func101 (by kernel_rfl) rfl) ?_;intro r W4 hr1 hr2 hr3 hr4 lu hr6 hW4;obtain⟨B,hB⟩:=zN (w.heap.size);have hs1:(w.alloc (.cells #[.slice none 0 0] 31)).heap.size=B+1:=by rw[World.size_alloc,hB]
 rw[hs1];have q0:W4.heap[B]?=some (.cells #[.slice none 0 0] 31 (0,0)):=by
  rw[<-hW4,Below.heap_alloc _ _ _ (by simp;omega),Below.heap_alloc _ _ _ (by simp;omega),<-hB];exact heap_alloc_new w _
 have qd:W4.heap[B+1]?=some (.deferred (some [])):=by
  rw[<-hW4,Below.heap_alloc _ _ _ (by simp;omega),<-hs1];exact heap_alloc_new _ _
 have ql:W4.heap[B+2]?=some (.loop r):=by
  rw[<-hW4];have:=heap_alloc_new ((w.alloc (.cells #[.slice none 0 0] 31)).alloc (.deferred (some []))) (.loop r);rw[World.size_alloc,hs1]at this;exact this
 have b4:Below w.heap.size w W4:=by
  rw[<-hW4];exact(((Below.refl _ _).alloc (Nat.le_refl _) _).alloc (by simp) _).alloc (by simp;omega) _
 have HB:=ae hB;clear hW4 hs1;have hbB:bm<B:=by omega
 have hcl:∀W,Below w.heap.size w W->W.cell? ⟨bm,0,none⟩=some (.slice o L.length c)/\TxS W (.slice o L.length c) L:=fun W hb=>by
  refine⟨?_,EW.o.2.grow (DV hb)⟩;rw[ag ((hb.block bm hbl).trans EW.o.1)];rfl
 refine(afv 3 (B+2) bm (by omega) o c L hL (fun pre W=>(∃v,W.heap[B]?=some (.cells #[v] 31 (0,0))/\W.ownsRow w.heap.size 9 1 v pre.length (pre.map Value.string))/\W.heap[B+2]?=some (.loop r)/\W.heap[B+1]?=some (.deferred (some []))/\Below w.heap.size w W)
  (fun pre W h=>hcl W h.2.2.2) ?yl W4 ⟨⟨_,q0,World.ownsRow_nil _ _ _ _⟩,ql,qd,b4⟩).mono ?fin
 case fin =>
  rintro e W5 ⟨⟨v,rfl⟩,⟨v5,qv,qr⟩,q2,q3,q4⟩;obtain⟨W6,iW⟩:=zN (W5.putObj (B+2) (Obj.loop { r with state:=.exhausted }));have hel:=run_endLoop (P:=prog) q2 (by rw[hr1];simp);rw[iW,hr2]at hel;refine⟨none,W6,hel,?_⟩;clear hel;have p1:W6.heap[B]?=some (.cells #[v5] 31 (0,0)):=by rw[<-iW];exact(World.putObj_heap_other (by omega)).trans qv
  have p3:W6.heap[B+1]?=some (.deferred (some [])):=by rw[<-iW];exact(World.putObj_heap_other (by omega)).trans q3
  have pg:W5.grownBy W6 (some (B+2)):=by rw[<-iW];exact qK _ _ _
  have pr:=qr.kept pg (ownsRow_ne_a qr q2 (fun cur e=>by cases e));have p4:=q4.grown pg q4.size (fun k e=>by cases e;omega);obtain⟨pc,pf⟩:=cell_of_box_a p1;have EX:=ae pr;have hpb:=HB.o;clear iW qv qr q2 q3 q4 hr4 lu hr6 q0 qd ql b4 pg pr
  try rw[hpb]
  simp only[List.cons_append,List.nil_append]
  gi_wp2
  refine⟨by simp,.inl ⟨_,_,rfl,run_takeDeferred p3,?_⟩⟩;refine⟨_,results_tmp rfl _ _ _,?_⟩;exact⟨v5,rfl,EX.o.kept (qK _ _ _) (ownsRow_ne_a EX.o p3 (fun cur e=>by cases e)),p4.grown (qK _ _ _) p4.size (fun k e=>by cases e;omega)⟩
 case yl =>
  rintro pre x W5 ⟨⟨v5,qv,qr⟩,q2,q3,q4⟩ hlen;refine X0 q2 (by rw[hr3];rfl) ?_;rw[hr3,hr4,lu,hr6];obtain⟨W6,iW⟩:=zN (W5.putObj (B+2) (Obj.loop { r with state:=.busy }));have hbr:=run_beginRound (P:=prog) q2 hr1;rw[iW]at hbr;have l2:=(dO q2);have pg:W5.grownBy W6 (some (B+2)):=by rw[<-iW];exact qK _ _ _
  have p1:W6.heap[B]?=some (.cells #[v5] 31 (0,0)):=by rw[<-iW];exact(World.putObj_heap_other (by omega)).trans qv
  have p2:W6.heap[B+2]?=some (.loop { r with state:=.busy }):=by rw[<-iW];exact World.putObj_heap_same l2
  have p3:W6.heap[B+1]?=some (.deferred (some [])):=by rw[<-iW];exact(World.putObj_heap_other (by omega)).trans q3
  have pr:=qr.kept pg (ownsRow_ne_a qr q2 (fun cur e=>by cases e));have p4:=q4.grown pg q4.size (fun k e=>by cases e;omega);obtain⟨pc,pf⟩:=cell_of_box_a p1;have hz6:=p4.size;have Ph:=(dO p1);have hD6:=(dO p3);have Pj:=(dO p2);have ne_of:∀{j:Nat} {ob:Obj},W6.heap[j]?=some ob->(∀cur,ob≠.cells cur 9 (0,0))->some j≠v5.ownBlock:=fun hj hno=>by
   rcases ownsRow_ne_a pr hj hno with e|e
   ·rw[e];simp
   ·exact fun e'=>e e'.symm
  have nB:=ne_of p1 (fun cur e=>by simp at e);have nl:=ne_of p2 (fun cur e=>by cases e);have nD:=ne_of p3 (fun cur e=>by cases e);have hpb:=HB.o;rw[hpb]at hr6;clear iW qv qr q3 q4 q0 qd ql b4 pg;rw[hpb];clear q2
  gi_wp2_with (first
   | (gi_at_builtin;refine wpListIn_append_own _ rfl _ _ 31 rfl w.heap.size 9 j0 (.string ⟨#[]⟩) 1 16 underlying31 hj0 hy0 hy1 hyb rfl (by decide) _ _ _ rfl (pr.alloc _) ⟨W6.heap.size,0,none⟩ 1 1 [.string x] rfl rfl (cell_one_new _ _ _) (by simp[Value.oneCell']) (by unfold maxLen;omega) (by omega) (by simp;omega) ?_;intro v' w3 hown' hg3 hnil3
      have hv3:=(hg3.block B (by simp;omega) nB).trans ((Below.heap_alloc _ _ B Ph).trans p1);obtain⟨hc3,hf3⟩:=cell_of_box_a hv3;obtain⟨g',cap',cur',rfl,hbase',hgb',hr1',hr2',afx,afy⟩:∃g' cap' cur',v'=.slice (some ⟨g',0,none⟩) (pre.length+1) cap'/\w.heap.size<=g'/\w3.heap[g']?=some (.cells cur' 9 (0,0))/\pre.length+1<=cap'/\cap'<=maxLen/\cur'.size=cap'*1/\cur'.toList.take ((pre.length+1)*1)=pre.map Value.string++[.string x]:=by
       rcases hown'.2 with⟨_,h0⟩|h'
       ·exact absurd h0 (by omega)
       ·exact h'
      go_frame)
   | gi_in)
  have hg3':(W6.alloc (.cells #[.string x] 9)).grownBy w3 v5.ownBlock:=hg3;have hL3:=(hg3'.block (B+2) (by simp;omega) nl).trans ((Below.heap_alloc _ _ _ Pj).trans p2);have hK3:=(hg3'.block (B+1) (by simp;omega) nD).trans ((Below.heap_alloc _ _ _ hD6).trans p3);obtain⟨w4,hw4⟩:=zN (w3.setCell ⟨B,0,none⟩ (.slice (some ⟨g',0,none⟩) (pre.length+1) cap'));rw[hw4];have hg4:w3.grownBy w4 (some B):=by rw[<-hw4];exact grownBy_setCell0_a _ _ _
  have hv4:w4.heap[B]?=some (.cells #[.slice (some ⟨g',0,none⟩) (pre.length+1) cap'] 31 (0,0)):=by rw[<-hw4];exact heap_setCell_box_a _ hv3
  have hL4:=(hg4.block (B+2) (dO hL3) (by simp)).trans hL3;have hK4:=(hg4.block (B+1) (dO hK3) (by simp)).trans hK3;have hrow4:=hown'.kept hg4 (ownsRow_ne_a hown' hv3 (fun cur e=>by simp at e));have hl4:=(dO hL4);have hb3:=(p4.alloc p4.size _).grown hg3' (by simp;omega) (fun k e=>(pr.lt k e).1);have hb4:=hb3.grown hg4 hb3.size (fun k e=>by cases e;omega);clear hw4;have afz:=hb4.size;rw[hpb]at hb4 hrow4;refine⟨_,_,run_endRound none hL4,rfl,⟨_,(World.putObj_heap_other (by omega)).trans hv4,?_⟩,by rw[World.putObj_heap_same hl4,XZ r hr1 hr2],(World.putObj_heap_other (by omega)).trans hK4,hb4.grown (qK _ _ _) (by omega) (fun k e=>by cases e;omega)⟩;have:=hrow4.kept (qK w4 (B+2) (.loop { { r with state:=.busy } with state:=if(none:Option Code).isNone then .ready else .done,pending:=none })) (ownsRow_ne_a hrow4 hL4 (fun cur e=>by cases e))
  simpa using this
open Go.RowKit Go.Maps Go.Sort Go.Shelf
attribute [local go_sem] Oper.semAt_some
structure Ec where
 nm:ByteArray
 ve:ByteArray
 dg:ByteArray
 o:Option Addr
 n:Nat
 c:Nat
def BC(x:Ec):Value:=.agg #[.string x.nm,.string x.ve,.string x.dg,.slice x.o x.n x.c]
def eG(x:Ec):List Value:=[.string x.nm,.string x.ve,.string x.dg,.slice x.o x.n x.c]
def EcAt(w:World)(p:Addr)(x:Ec):Prop:=w.cell? p=some (.string x.nm)/\w.cell? ⟨p.block,p.off+1,none⟩=some (.string x.ve)/\w.cell? ⟨p.block,p.off+2,none⟩=some (.string x.dg)/\w.cell? ⟨p.block,p.off+3,none⟩=some (.slice x.o x.n x.c)
theorem EcAt.grow{w w':World}{p:Addr}{x:Ec}(h:EcAt w p x)(hg:w.grownBy w' none):EcAt w' p x:=⟨hg.cell h.1 (by simp),hg.cell h.2.1 (by simp),hg.cell h.2.2.1 (by simp),hg.cell h.2.2.2 (by simp)⟩
def EcS(w:World)(v:Value)(L:List Ec):Prop:=(v=.slice none 0 0/\L=[])\/∃a cap,v=.slice (some a) L.length cap/\L.length<=cap/\∀i (hi:i<L.length),EcAt w (a.add (i*4)) L[i]
theorem EcS.grow{w w':World}{v:Value}{L:List Ec}(h:EcS w v L)(hg:w.grownBy w' none):EcS w' v L:=by
 rcases h with h|⟨a,cap,h1,h2,h3⟩
 ·exact Or.inl h
 ·exact Or.inr ⟨a,cap,h1,h2,fun i hi=>(h3 i hi).grow hg⟩
theorem X4{w:World}{o:Option Addr}{c:Nat}{L:List Ec}(h:EcS w (.slice o L.length c) L){i:Nat}(hi:i<L.length):∃a,o=some a/\L.length<=c/\∀j (hj:j<L.length),EcAt w (a.add (j*4)) L[j]:=by
 rcases h with⟨h1,h2⟩|⟨a,cap,h1,h2,h3⟩
 ·rw[h2]at hi;simp at hi
 ·cases h1
  exact⟨a,rfl,h2,h3⟩
theorem X5(s:Ec):∀u∈eG s,u.oneCell'=true:=by
 intro u hu;simp only[eG,List.mem_cons,List.not_mem_nil,or_false]at hu
 rcases hu with rfl|rfl|rfl|rfl<;>rfl
def EcIs(w:World)(x:Ec)(y:En):Prop:=x.nm=y.nm/\x.ve=y.ve/\x.dg=y.dg/\TxS w (.slice x.o x.n x.c) y.nd
theorem EcIs.grow{w w':World}{x:Ec}{y:En}(h:EcIs w x y)(hg:w.grownBy w' none):EcIs w' x y:=⟨h.1,h.2.1,h.2.2.1,h.2.2.2.grow hg⟩
theorem afA{w:World}{v:Value}{L:List En}(h:EnS w v L):∃E:List Ec,EcS w v E/\E.length=L.length/\∀i (hi:i<E.length) (hj:i<L.length),EcIs w E[i] L[i]:=by
 rcases h with⟨rfl,rfl⟩|⟨a,cap,rfl,h2,h3⟩
 ·exact⟨[],Or.inl ⟨rfl,rfl⟩,rfl,fun i hi=>by simp at hi⟩
 ·have hS:∀i,i<L.length->∃x:Ec,EcAt w (a.add (i*4)) x/\∀hj:i<L.length,EcIs w x L[i]:=fun i hi=>by
   obtain⟨e0,e1,e2,sv,e3,hsv⟩:=h3 i hi;obtain⟨so,sc,rfl⟩:=xB hsv;exact⟨⟨L[i].nm,L[i].ve,L[i].dg,so,L[i].nd.length,sc⟩,⟨e0,e1,e2,e3⟩,fun _=>⟨rfl,rfl,rfl,hsv⟩⟩
  have:Nonempty Ec:=⟨⟨⟨#[]⟩,⟨#[]⟩,⟨#[]⟩,none,0,0⟩⟩;obtain⟨S,hS⟩:∃S:Nat->Ec,∀i,i<L.length->EcAt w (a.add (i*4)) (S i)/\∀hj:i<L.length,EcIs w (S i) L[i]:=by
   refine⟨fun i=>if h:i<L.length then Classical.choose (hS i h) else⟨⟨#[]⟩,⟨#[]⟩,⟨#[]⟩,none,0,0⟩,fun i hi=>?_⟩;simp only[dif_pos hi];exact Classical.choose_spec (hS i hi)
  have hlen:((List.range L.length).map S).length=L.length:=by simp
  refine⟨(List.range L.length).map S,Or.inr ⟨a,cap,by rw[hlen],by rw[hlen];exact h2,fun i hi=>?_⟩,hlen,fun i hi hj=>?_⟩
  ·rw[List.getElem_map,List.getElem_range];exact(hS i (by rw[hlen]at hi;exact hi)).1
  ·rw[List.getElem_map,List.getElem_range];exact(hS i hj).2 hj
theorem afB(o:Option Addr)(n c:Nat)(w:World):Calls prog 39 #[.slice o n c] w fun e w'=>e=.returned (.func (.func 64) #[] #[.pointer (some ⟨w.heap.size,0,none⟩)])/\w'=w.alloc (.cells #[.slice o n c] 22):=by
 go_enter func39,ntmps39;go_wp2;go_ret;exact⟨rfl,rfl⟩
theorem afC(n l bm:Nat)(hn:1<=n)(o:Option Addr)(c:Nat)(L:List Ec)(hL:L.length<=1048576)(J:List Ec->World->Prop)
  (hA:∀pre W ob,J pre W->J pre (W.alloc ob))
  (hc:∀pre W,J pre W->W.cell? ⟨bm,0,none⟩=some (.slice o L.length c)/\EcS W (.slice o L.length c) L)
  (hY:∀pre x W,J pre W->pre.length<L.length->YieldAt Fence.wide (n-1) prog l #[BC x] W fun e W'=>e=.returned (.bool true)/\J (pre++[x]) W') (W:World) (h0:J [] W) :
  CallsIn Fence.wide n prog 64 #[.func (.yield l) #[] #[],.pointer (some ⟨bm,0,none⟩)] W fun e W'=>(∃v,e=.returned v)/\J L W':=by
 refine callsIn_of_wp func64 rfl trivial ?_ rfl;simp only[ntmps64,List.size_toArray,List.length_cons,List.length_nil,Nat.reduceAdd,Nat.reduceSub,Array.replicate_succ,Array.replicate_zero,List.push_toArray,List.append_toArray,List.nil_append,List.cons_append];obtain⟨m0,-⟩:=hc [] W h0
 gi_wp2
 clear m0
 gi_loopw [7] (fun vi wr=>∃i:Nat,vi=.int .i64 i/\i<=L.length/\J (L.take i) wr) (fun vi _=>L.length-(intOf vi).toNat)
 case atStart=>exact⟨0,rfl,Nat.zero_le _,h0⟩
 case round =>
  obtain⟨i,rfl,hi,hJ⟩:=hrel
  by_cases hlt:i<L.length
  ·obtain⟨m1,m2⟩:=hc _ _ hJ;obtain⟨a,rfl,hcv,hat⟩:=X4 m2 hlt;obtain⟨x,hx⟩:=zN (L[i]);obtain⟨e0,e1,e2,e3⟩:=hat i hlt;rw[hx]at e0 e1 e2 e3;obtain⟨fn,tmps,assign,body,hy,hR⟩:=hY (L.take i) x (wr.alloc (.cells #[.string x.nm,.string x.ve,.string x.dg,.slice x.o x.n x.c] 33)) (hA _ _ _ hJ) (by simp;omega);have Jn:Hd (L.take i++[x]=L.take (i+1)):=by
    show _=_;rw[List.take_succ_eq_append_getElem hlt,hx]
   unfold BC at hy;clear m1 m2 hat hx hJ
   gi_wp2
   refine hR.mono ?_;rintro e W3 ⟨rfl,hJ3⟩;have rY:Hd (J (L.take (i+1)) W3):=by show J _ _;rw[<-Jn.o];exact hJ3
   clear hJ3
   gi_wp2
   exact⟨⟨i+1,by go_num,by omega,rY.o⟩,by simp[intOf];omega⟩
  ·have hil:i=L.length:=by omega
   have rY:Hd (J L wr):=by
    rw[hil,List.take_length]at hJ;exact hJ
   clear hJ hil hi
   gi_wp2
   go_end0
   exact⟨⟨_,rfl⟩,rY.o⟩
open Go.RowKit Go.Maps Go.Sort Go.Shelf
attribute [local go_sem] Oper.semAt_some
theorem afD(bm:Nat)(o:Option Addr)(c:Nat)(L:List Ec)(hL:L.length<=1048576)(w:World)(hbm:w.heap[bm]?=some (.cells #[.slice o L.length c] 22 (0,0)))(htx:EcS w (.slice o L.length c) L) :
  CallsIn Fence.wide 4 prog 94 #[.slice none 0 0,.func (.func 64) #[] #[.pointer (some ⟨bm,0,none⟩)]] w fun e w'=>∃v,e=.returned v/\w'.ownsRow w.heap.size 33 4 v L.length (L.flatMap eG)/\Below w.heap.size w w':=by
 have EU:=U6;obtain⟨j0,hj0,hjj⟩:=Option.map_eq_some_iff.1 EU;simp only[Prod.mk.injEq]at hjj;obtain⟨hy0,hy1,hyb⟩:=hjj;clear EU;have EW:Hd (w.heap[bm]?=some (.cells #[.slice o L.length c] 22 (0,0))/\EcS w (.slice o L.length c) L):=⟨hbm,htx⟩;have hbl:=(dO hbm);clear hbm htx;refine callsIn_of_wp_marks func94 rfl trivial ?_ rfl;simp only[ntmps94,List.size_toArray,List.length_cons,List.length_nil,Nat.reduceAdd,Nat.reduceSub,Array.replicate_succ,Array.replicate_zero,List.push_toArray,List.append_toArray,List.nil_append,List.cons_append]
 gi_wp2
 refine XY (gf:=64) (lb:=#[.pointer (some ⟨bm,0,none⟩)]) rfl (enters_of func64 (by kernel_rfl) rfl) ?_;intro r W4 hr1 hr2 hr3 hr4 lu hr6 hW4;obtain⟨B,hB⟩:=zN (w.heap.size);have hs1:(w.alloc (.cells #[.slice none 0 0] 22)).heap.size=B+1:=by rw[World.size_alloc,hB]
 rw[hs1];have q0:W4.heap[B]?=some (.cells #[.slice none 0 0] 22 (0,0)):=by
  rw[<-hW4,Below.heap_alloc _ _ _ (by simp;omega),Below.heap_alloc _ _ _ (by simp;omega),<-hB];exact heap_alloc_new w _
 have qd:W4.heap[B+1]?=some (.deferred (some [])):=by
  rw[<-hW4,Below.heap_alloc _ _ _ (by simp;omega),<-hs1];exact heap_alloc_new _ _
 have ql:W4.heap[B+2]?=some (.loop r):=by
  rw[<-hW4];have:=heap_alloc_new ((w.alloc (.cells #[.slice none 0 0] 22)).alloc (.deferred (some []))) (.loop r);rw[World.size_alloc,hs1]at this;exact this
 have b4:Below w.heap.size w W4:=by
  rw[<-hW4];exact(((Below.refl _ _).alloc (Nat.le_refl _) _).alloc (by simp) _).alloc (by simp;omega) _
 have HB:=ae hB;clear hW4 hs1;have hbB:bm<B:=by omega
 have hcl:∀W,Below w.heap.size w W->W.cell? ⟨bm,0,none⟩=some (.slice o L.length c)/\EcS W (.slice o L.length c) L:=fun W hb=>by
  refine⟨?_,EW.o.2.grow (DV hb)⟩;rw[ag ((hb.block bm hbl).trans EW.o.1)];rfl
 refine(afC 3 (B+2) bm (by omega) o c L hL (fun pre W=>(∃v,W.heap[B]?=some (.cells #[v] 22 (0,0))/\W.ownsRow w.heap.size 33 4 v pre.length (pre.flatMap eG))/\W.heap[B+2]?=some (.loop r)/\W.heap[B+1]?=some (.deferred (some []))/\Below w.heap.size w W)
  ?al (fun pre W h=>hcl W h.2.2.2) ?yl W4 ⟨⟨_,q0,World.ownsRow_nil _ _ _ _⟩,ql,qd,b4⟩).mono ?fin
 case al =>
  rintro pre W ob ⟨⟨v,k1,k2⟩,k3,k4,k5⟩;have z1:=(dO k1);have z3:=(dO k3);have z4:=(dO k4);exact⟨⟨v,(Below.heap_alloc _ _ _ z1).trans k1,k2.alloc _⟩,(Below.heap_alloc _ _ _ z3).trans k3,(Below.heap_alloc _ _ _ z4).trans k4,k5.alloc k5.size _⟩
 case fin =>
  rintro e W5 ⟨⟨v,rfl⟩,⟨v5,qv,qr⟩,q2,q3,q4⟩;obtain⟨W6,iW⟩:=zN (W5.putObj (B+2) (Obj.loop { r with state:=.exhausted }));have hel:=run_endLoop (P:=prog) q2 (by rw[hr1];simp);rw[iW,hr2]at hel;refine⟨none,W6,hel,?_⟩;clear hel;have p1:W6.heap[B]?=some (.cells #[v5] 22 (0,0)):=by rw[<-iW];exact(World.putObj_heap_other (by omega)).trans qv
  have p3:W6.heap[B+1]?=some (.deferred (some [])):=by rw[<-iW];exact(World.putObj_heap_other (by omega)).trans q3
  have pg:W5.grownBy W6 (some (B+2)):=by rw[<-iW];exact qK _ _ _
  have pr:=qr.kept pg (ownsRow_ne_a qr q2 (fun cur e=>by cases e));have p4:=q4.grown pg q4.size (fun k e=>by cases e;omega);obtain⟨pc,pf⟩:=cell_of_box_a p1;have EX:=ae pr;have hpb:=HB.o;clear iW qv qr q2 q3 q4 hr4 lu hr6 q0 qd ql b4 pg pr
  try rw[hpb]
  simp only[List.cons_append,List.nil_append]
  gi_wp2
  refine⟨by simp,.inl ⟨_,_,rfl,run_takeDeferred p3,?_⟩⟩;refine⟨_,results_tmp rfl _ _ _,?_⟩;exact⟨v5,rfl,EX.o.kept (qK _ _ _) (ownsRow_ne_a EX.o p3 (fun cur e=>by cases e)),p4.grown (qK _ _ _) p4.size (fun k e=>by cases e;omega)⟩
 case yl =>
  rintro pre x W5 ⟨⟨v5,qv,qr⟩,q2,q3,q4⟩ hlen;refine X0 q2 (by rw[hr3];rfl) ?_;rw[hr3,hr4,lu,hr6];have z1:=(dO qv);have z2:=(dO q2);have z3:=(dO q3);have a1:(W5.alloc (.cells #[.string x.nm,.string x.ve,.string x.dg,.slice x.o x.n x.c] 33)).heap[B]?=_:=(Below.heap_alloc _ _ _ z1).trans qv;have a2:(W5.alloc (.cells #[.string x.nm,.string x.ve,.string x.dg,.slice x.o x.n x.c] 33)).heap[B+2]?=_:=(Below.heap_alloc _ _ _ z2).trans q2;have a3:(W5.alloc (.cells #[.string x.nm,.string x.ve,.string x.dg,.slice x.o x.n x.c] 33)).heap[B+1]?=_:=(Below.heap_alloc _ _ _ z3).trans q3;have a4:=q4.alloc q4.size (.cells #[.string x.nm,.string x.ve,.string x.dg,.slice x.o x.n x.c] 33);have ar:=qr.alloc (.cells #[.string x.nm,.string x.ve,.string x.dg,.slice x.o x.n x.c] 33);have a5:=heap_alloc_new W5 (.cells #[.string x.nm,.string x.ve,.string x.dg,.slice x.o x.n x.c] 33)
  obtain⟨W6,iW⟩:=zN ((W5.alloc (.cells #[.string x.nm,.string x.ve,.string x.dg,.slice x.o x.n x.c] 33)).putObj (B+2) (Obj.loop { r with state:=.busy }));have hbr:=run_beginRound (P:=prog) a2 hr1;rw[iW]at hbr;have l2:=(dO a2);have pg:(W5.alloc (.cells #[.string x.nm,.string x.ve,.string x.dg,.slice x.o x.n x.c] 33)).grownBy W6 (some (B+2)):=by rw[<-iW];exact qK _ _ _
  have p1:W6.heap[B]?=some (.cells #[v5] 22 (0,0)):=by rw[<-iW];exact(World.putObj_heap_other (by omega)).trans a1
  have p2:W6.heap[B+2]?=some (.loop { r with state:=.busy }):=by rw[<-iW];exact World.putObj_heap_same l2
  have p3:W6.heap[B+1]?=some (.deferred (some [])):=by rw[<-iW];exact(World.putObj_heap_other (by omega)).trans a3
  obtain⟨g0,g1,g2,g3⟩:=zx (show W6.heap[W5.heap.size]?=_ by rw[<-iW];exact(World.putObj_heap_other (by omega)).trans a5);have pr:=ar.kept pg (ownsRow_ne_a ar a2 (fun cur e=>by cases e));have p4:=a4.grown pg a4.size (fun k e=>by cases e;omega);obtain⟨pc,pf⟩:=cell_of_box_a p1;have hz6:=p4.size;have Ph:=(dO p1);have hD6:=(dO p3);have Pj:=(dO p2);have ne_of:∀{j:Nat} {ob:Obj},W6.heap[j]?=some ob->(∀cur,ob≠.cells cur 33 (0,0))->some j≠v5.ownBlock:=fun hj hno=>by
   rcases ownsRow_ne_a pr hj hno with e|e
   ·rw[e];simp
   ·exact fun e'=>e e'.symm
  have nB:=ne_of p1 (fun cur e=>by simp at e);have nl:=ne_of p2 (fun cur e=>by cases e);have nD:=ne_of p3 (fun cur e=>by cases e);have hpb:=HB.o;have hlen2:pre.length<1048576:=by omega
  clear iW qv qr q3 q4 q0 qd ql b4 pg a1 a2 a3 a4 ar a5 z1 z2 z3 l2;rw[hpb];clear q2;unfold BC
  gi_wp2_with (first
   | (gi_at_builtin;refine wpListIn_append_own _ rfl _ _ 22 rfl w.heap.size 33 j0 _ 4 72 underlying22 hj0 hy0 hy1 hyb rfl (by decide) _ _ _ rfl (pr.alloc _) ⟨W6.heap.size,0,none⟩ 1 1 (eG x) rfl rfl (World.news_of_block (heap_alloc_new _ _)) (X5 x) (by unfold maxLen;omega) (by omega) (by simp;omega) ?_;intro v' w3 hown' hg3 hnil3
      have hv3:=(hg3.block B (by simp;omega) nB).trans ((Below.heap_alloc _ _ B Ph).trans p1);obtain⟨hc3,hf3⟩:=cell_of_box_a hv3;obtain⟨g',cap',cur',rfl,hbase',hgb',hr1',hr2',afx,afy⟩:∃g' cap' cur',v'=.slice (some ⟨g',0,none⟩) (pre.length+1) cap'/\w.heap.size<=g'/\w3.heap[g']?=some (.cells cur' 33 (0,0))/\pre.length+1<=cap'/\cap'<=maxLen/\cur'.size=cap'*4/\cur'.toList.take ((pre.length+1)*4)=pre.flatMap eG++eG x:=by
       rcases hown'.2 with⟨_,h0⟩|h'
       ·exact absurd h0 (by omega)
       ·exact h'
      go_frame)
   | gi_in)
  have hg3':(W6.alloc (.cells #[.string x.nm,.string x.ve,.string x.dg,.slice x.o x.n x.c] 33)).grownBy w3 v5.ownBlock:=hg3;have hL3:=(hg3'.block (B+2) (by simp;omega) nl).trans ((Below.heap_alloc _ _ _ Pj).trans p2);have hK3:=(hg3'.block (B+1) (by simp;omega) nD).trans ((Below.heap_alloc _ _ _ hD6).trans p3);obtain⟨w4,hw4⟩:=zN (w3.setCell ⟨B,0,none⟩ (.slice (some ⟨g',0,none⟩) (pre.length+1) cap'));rw[hw4];have hg4:w3.grownBy w4 (some B):=by rw[<-hw4];exact grownBy_setCell0_a _ _ _
  have hv4:w4.heap[B]?=some (.cells #[.slice (some ⟨g',0,none⟩) (pre.length+1) cap'] 22 (0,0)):=by rw[<-hw4];exact heap_setCell_box_a _ hv3
  have hL4:=(hg4.block (B+2) (dO hL3) (by simp)).trans hL3;have hK4:=(hg4.block (B+1) (dO hK3) (by simp)).trans hK3;have hrow4:=hown'.kept hg4 (ownsRow_ne_a hown' hv3 (fun cur e=>by simp at e));have hl4:=(dO hL4);have hb3:=(p4.alloc p4.size _).grown hg3' (by simp;omega) (fun k e=>(pr.lt k e).1);have hb4:=hb3.grown hg4 hb3.size (fun k e=>by cases e;omega);clear hw4;have afz:=hb4.size;rw[hpb]at hb4 hrow4;refine⟨_,_,run_endRound none hL4,rfl,⟨_,(World.putObj_heap_other (by omega)).trans hv4,?_⟩,by rw[World.putObj_heap_same hl4,XZ r hr1 hr2],(World.putObj_heap_other (by omega)).trans hK4,hb4.grown (qK _ _ _) (by omega) (fun k e=>by cases e;omega)⟩;have:=hrow4.kept (qK w4 (B+2) (.loop { { r with state:=.busy } with state:=if(none:Option Code).isNone then .ready else .done,pending:=none })) (ownsRow_ne_a hrow4 hL4 (fun cur e=>by cases e))
  exact this
end Go.Proofs.YtnnbgjaphfhibaaGreatDoor
