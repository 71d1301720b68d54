import Derived.Test.YtmkjelchiacogaaGreatDoorM15
import Derived.Test.YtmkjelchiacogaaGreatDoorM16
import Derived.Test.YtmkjelchiacogaaGreatDoorM20
import Derived.Maps.OwnSet
import Derived.Maps.OwnOps
import Derived.Maps.AppendAt
import Derived.Test.YtmkjelchiacogaaGreatDoorM17
import Derived.WalkLawsBesides
set_option linter.unusedVariables false
set_option linter.unusedSimpArgs false
set_option maxRecDepth 100000
set_option maxHeartbeats 6400000
open Go.Proofs.Tryz
namespace Go.Proofs.YtmkjelchiacogaaGreatDoor
open Go.RowKit Go.Maps
def o9(s:ByteArray):Bool:=kU s.data.toList
noncomputable def ed(x:En):Bool:=nameB x.nm && okV x.ve && o9 x.dg && x.nd.all nameB
def az(L:List En)(n:ByteArray):Bool:=L.any fun e=>decide (e.nm=n)
theorem Ii(L:List En)(n:ByteArray)(i:Nat)(hi:i<L.length):az (L.take (i+1)) n=(az (L.take i) n || decide (L[i].nm=n)):=by
 unfold az;rw[List.take_succ_eq_append_getElem hi,List.any_append];simp
theorem Au(L:List En)(n:ByteArray)(i j:Nat)(hj:j<L.length)(hji:j<i)(h:L[j].nm=n):az (L.take i) n=true:=by
 unfold az;rw[List.any_eq_true];refine⟨L[j],List.mem_take_iff_getElem.2 ⟨j,by omega,rfl⟩,by simpa using h⟩
theorem Vu(L:List En)(n:ByteArray)(i j:Nat)(hij:i<=j)(h:az (L.take i) n=true):az (L.take j) n=true:=by
 unfold az at *;rw[List.any_eq_true]at *;obtain⟨x,hx,h2⟩:=h;refine⟨x,?_,h2⟩;obtain⟨k,hk,rfl⟩:=List.mem_take_iff_getElem.1 hx;exact List.mem_take_iff_getElem.2 ⟨k,by omega,rfl⟩
def dS(L:List ByteArray):Nat->Bool
 | 0=>false
 | i+1=>dS L i || (match L[i]? with|some x=>(L.take i).any (fun y=>decide (y=x))|none=>false)
theorem Aw(L:List ByteArray)(i:Nat)(hi:i<L.length):dS L (i+1)=(dS L i || (L.take i).any (fun y=>decide (y=L[i]))):=by
 simp[dS,List.getElem?_eq_getElem hi]
theorem adx(L:List ByteArray)(i k:Nat)(h:dS L i=true):dS L (i+k)=true:=by
 induction k with
 | zero=>exact h
 | succ k ih=>rw[<-Nat.add_assoc,dS,ih];rfl
theorem ady(L:List ByteArray)(i:Nat)(hi:i<L.length)(h:(L.take i).any (fun y=>decide (y=L[i]))=true):dS L L.length=true:=by
 have h1:dS L (i+1)=true:=by rw[Aw L i hi,h,Bool.or_true]
 have:=adx L (i+1) (L.length-(i+1)) h1
 rwa [show i+1+(L.length-(i+1))=L.length by omega]at this
theorem adz(L:List ByteArray)(i:Nat)(hi:i<L.length)(h:(L.take i).any (fun y=>decide (y=L[i]))=false)(h0:dS L i=false):dS L (i+1)=false:=by
 rw[Aw L i hi,h,h0];rfl
noncomputable def nX(L:List En)(i:Nat)(x:En):Int :=
 if 50<=i\/20<x.nd.length then 4
 else if ed x=false then 2
 else if az (L.take i) x.nm=true\/dS x.nd x.nd.length=true then 5
 else if x.nd.all (az L)=true then 0 else 6
noncomputable def fZ(L:List En)(i:Nat):Int:=match L[i]? with|some x=>nX L i x|none=>0
theorem Eb(L:List En)(i:Nat)(hi:i<L.length):fZ L i=nX L i L[i]:=by simp[fZ,List.getElem?_eq_getElem hi]
noncomputable def bJ(L:List En):Nat->Int × Nat
 | 0=>(0,0)
 | n+1=>if fZ L (L.length-(n+1))=0 then bJ L n else(fZ L (L.length-(n+1)),L.length-(n+1))
theorem Vw(L:List En)(i:Nat)(hi:i<L.length)(h:¬fZ L i=0):bJ L (L.length-i)=(fZ L i,i):=by
 obtain⟨n,hn⟩:∃n,L.length-i=n+1:=⟨L.length-i-1,by omega⟩;rw[hn,bJ,show L.length-(n+1)=i by omega,if_neg h]
theorem Vx(L:List En)(i:Nat)(hi:i<L.length)(h:fZ L i=0):bJ L (L.length-i)=bJ L (L.length-(i+1)):=by
 obtain⟨n,hn⟩:∃n,L.length-i=n+1:=⟨L.length-i-1,by omega⟩;rw[hn,bJ,show L.length-(n+1)=i by omega,if_pos h,show L.length-(i+1)=n by omega]
theorem Vy(L:List En)(h:(bJ L L.length).1=0):∀i,i<L.length->fZ L i=0:=by
 have key:∀n,n<=L.length->(bJ L n).1=0->∀i,L.length-n<=i->i<L.length->fZ L i=0:=by
  intro n
  induction n with
  | zero=>intro _ _ i h1 h2;omega
  | succ n ih =>
   intro hn h0 i h1 h2
   by_cases he:fZ L (L.length-(n+1))=0
   ·rw[bJ,if_pos he]at h0
    by_cases hi:i=L.length-(n+1)
    ·rw[hi];exact he
    ·exact ih (by omega) h0 i (by omega) h2
   ·rw[bJ,if_neg he]at h0;exact absurd h0 he
 intro i hi;exact key L.length (Nat.le_refl _) h i (by omega) hi
def gW(n:ByteArray):Lit:=.string n.data.toList
theorem Vz{a b:ByteArray}(h:gW a=gW b):a=b:=by
 unfold gW at h;injection h with h
 exact ByteArray.ext (Array.ext' h)
def dB(L:List En):Nat->DataW Unit
 | 0=>.map []
 | i+1=>match L[i]? with
  | some x=>if Maps.has (dB L i) (gW x.nm)=true then dB L i else(dB L i).put (gW x.nm) (.lit (.int .i64 (i:Int)))
  | none=>dB L i
theorem Ed(L:List En)(i:Nat)(hi:i<L.length):dB L (i+1)=if Maps.has (dB L i) (gW L[i].nm)=true then dB L i else(dB L i).put (gW L[i].nm) (.lit (.int .i64 (i:Int))):=by
 simp[dB,List.getElem?_eq_getElem hi]
theorem Ij(L:List En):∀i,i<=L.length->IsMap (dB L i)
 | 0,_=>isMap_empty
 | i+1,h=>by
  rw[Ed L i (by omega)];split
  ·exact Ij L i (by omega)
  ·exact(Ij L i (by omega)).put _ _
theorem Ee(L:List En)(n:ByteArray):∀i,i<=L.length->Maps.has (dB L i) (gW n)=az (L.take i) n
 | 0,_=>by simp[dB,az,Maps.has]
 | i+1,h=>by
  have ih:=Ee L n i (by omega);have hm:=Ij L i (by omega);rw[Ed L i (by omega),Ii L n i (by omega)]
  by_cases he:L[i].nm=n
  ·rw[he];split
   ·rename_i h1;rw[h1];simp
   ·rw[has_put_same hm (by trivial)];simp
  ·have hne:gW n≠gW L[i].nm:=fun e=>he (Vz e).symm
   rw[decide_eq_false he,Bool.or_false];split
   ·exact ih
   ·rw[has_put_other hne];exact ih
theorem VA(L:List En)(n:ByteArray):∀i,i<=L.length->az (L.take i) n=true->∃j,∃hj:j<L.length,j<i/\L[j].nm=n/\az (L.take j) n=false/\∀z,(dB L i).atKey (gW n) z=.lit (.int .i64 (j:Int))
 | 0,_,h=>by simp[az]at h
 | i+1,hi,h=>by
  have hm:=Ij L i (by omega);have hh:=Ee L L[i].nm i (by omega)
  by_cases h0:az (L.take i) n=true
  ·obtain⟨j,hj,h1,h2,h3,h4⟩:=VA L n i (by omega) h0;refine⟨j,hj,by omega,h2,h3,fun z=>?_⟩;rw[Ed L i (by omega)];split
   ·exact h4 z
   ·rename_i hf;have hne:gW n≠gW L[i].nm:=fun e=>by
     rw[<-Vz e]at hf hh;rw[hh]at hf;exact hf h0
    rw[atKey_put_other hne];exact h4 z
  ·rw[Ii L n i (by omega)]at h;have h0':az (L.take i) n=false:=by simpa using h0
   rw[h0',Bool.false_or]at h;have he:L[i].nm=n:=by simpa using h
   refine⟨i,by omega,by omega,he,h0',fun z=>?_⟩;rw[Ed L i (by omega),he,if_neg (by rw[Ee L n i (by omega),h0'];simp)];exact atKey_put_same hm (by trivial) _ _
theorem adA(L:List En)(i:Nat)(hi:i<L.length):∃j:Nat,j<L.length/\(∀z,(dB L L.length).atKey (gW L[i].nm) z=.lit (.int .i64 (j:Int)))/\(j<i↔az (L.take i) L[i].nm=true):=by
 obtain⟨j,hj,h1,h2,h3,h4⟩:=VA L L[i].nm L.length (Nat.le_refl _) (Au L _ L.length i hi hi rfl);refine⟨j,hj,h4,fun h=>Au L _ i j hj h h2,fun h=>?_⟩;apply Classical.byContradiction;intro hn;rw[Vu L _ i j (by omega) h]at h3
 cases h3
theorem keyS:Keyed prog 9:=string_keyed underlying9
theorem wV(w:World):(zeroValue 3).run prog w=.ok (.int .i64 0) w:=by kernel_rfl
theorem Ns(n:Int)(w:World):(Instr.makeMap 37 (some (.int .i64 n))).run prog w=.ok (.map (some w.heap.size)) (w.alloc (.map #[] 0)):=by kernel_rfl
theorem pq{w u u':World}{b:Nat}(h:w.grownBy u none)(hg:u.grownBy u' (some b))(hb:w.heap.size<=b):w.grownBy u' none :=
 ⟨hg.os.trans h.os,hg.tape.trans h.tape,hg.output.trans h.output,Nat.le_trans h.size hg.size,fun k hk hn=>(hg.block k (Nat.lt_of_lt_of_le hk h.size) (by simp;omega)).trans (h.block k hk hn)⟩
theorem VC(a:Addr)(cap:Nat)(L:List En)(w:World)(hL:L.length<=1048576)(hcap:L.length<=cap)(hz:∀x∈L,x.nm.size<=maxLen)(h:∀i (hi:i<L.length),EnAt w (a.add (i*4)) L[i]) :
  Calls prog 12 #[.slice (some a) L.length cap] w fun e w'=>∃B,e=.returned (.map (some B))/\w'.ownsMap prog 9 (plainElem (H:=Unit) prog 3) B L.length (dB L L.length)/\w.grownBy w' none:=by
 have HA:Hd (∀i (hi:i<L.length),EnAt w (a.add (i*4)) L[i]):=h;have HZ:Hd (∀x∈L,x.nm.size<=maxLen):=hz;clear h hz;obtain⟨B,hB⟩:=zN (w.heap.size);have HB:Hd (w.heap.size=B):=hB;have hmm:=Ns (L.length:Int) w;go_enter func12,ntmps12;go_wp2
 try rw[hB]
 clear hB hmm;go_loopw [13] (fun vi wr=>∃i:Nat,vi=.int .i64 i/\i<=L.length/\wr.ownsMap prog 9 (plainElem (H:=Unit) prog 3) B i (dB L i)/\w.grownBy wr none) (fun vi _=>L.length-(intOf vi).toNat)
 case atStart=>exact⟨0,rfl,Nat.zero_le _,HB.o ▸ World.ownsMap_made _ _ _ _,aP (ai w none) _⟩
 case round =>
  obtain⟨i,rfl,hi,hown,hg⟩:=hrel;have HG:Hd (w.grownBy wr none):=hg
  by_cases hlt:i<L.length
  ·obtain⟨x,hx⟩:=zN (L[i]);obtain⟨e0,e1,e2,sv,e3,hsv⟩:EnAt wr (a.add (i*4)) x:=by rw[<-hx];exact(HA.o i hlt).grow hg
   obtain⟨so,sc,rfl⟩:=kT hsv;have hkey:keyOf prog 9 (.string x.nm)=some (gW x.nm):=Go.WideMaps.keyOf_string_mk underlying9 (HZ.o x (by rw[<-hx];exact List.getElem_mem _));have HN:Hd (dB L (i+1)=if Maps.has (dB L i) (gW x.nm)=true then dB L i else(dB L i).put (gW x.nm) (.lit (.int .i64 (i:Int)))):=by
    show _=_;rw[Ed L i hlt,hx]
   obtain⟨q,hq⟩:=zN (Maps.has (dB L i) (gW x.nm));rw[hq]at HN;have hown2:=hown.alloc (.cells #[.string x.nm,.string x.ve,.string x.dg,.slice so x.nd.length sc] 44);have hwi:(Lit.int .i64 (i:Int)).wf=true:=WalkArith.wf_i64 (by omega);clear hg hx hsv
   cases q with
   | true =>
    have sH:Hd (dB L (i+1)=dB L i):=by
     show _=_;rw[HN.o,if_pos rfl]
    go_wp2_with (first|(at_lookup;refine wpList_lookup_own_ok_int _ rfl _ _ 37 rfl 9 3 .i64 keyS underlying37 underlying3 (wV _) B i _ rfl hown2 _ _ rfl hkey ?_;intro c hat hwc;rw[hq])|go_in);exact⟨⟨i+1,by go_num,by omega,by rw[sH.o];exact hown2.mono (Nat.le_succ _),aP HG.o _⟩,by simp[intOf];omega⟩
   | false =>
    have sH:Hd (dB L (i+1)=(dB L i).put (gW x.nm) (.lit (.int .i64 (i:Int)))):=by
     show _=_;rw[HN.o,if_neg (by simp)]
    go_wp2_with (first|(at_lookup;refine wpList_lookup_own_ok_int _ rfl _ _ 37 rfl 9 3 .i64 keyS underlying37 underlying3 (wV _) B i _ rfl hown2 _ _ rfl hkey ?_;intro c hat hwc;rw[hq])|(at_mapUpdate;refine wpList_mapUpdate_own _ rfl _ _ _ 37 rfl 9 3 keyS underlying37 (plainElem (H:=Unit) prog 3) B i _ rfl hown2 (by unfold maxLen;omega) _ _ _ rfl rfl hkey _ [] (plainElem_int underlying3 hwi) ?_;intro w1 hown1 hgrow1)|go_in);exact⟨⟨i+1,by go_num,by omega,by rw[sH.o];exact hown1,pq (aP HG.o _) hgrow1 (Nat.le_of_eq HB.o)⟩,by simp[intOf];omega⟩
  ·have hil:i=L.length:=by omega
   have HM:Hd (wr.ownsMap prog 9 (plainElem (H:=Unit) prog 3) B L.length (dB L L.length)):=by rw[hil]at hown;exact hown
   clear hg hil hi hown;go_wp2;refine bodyPost_ret (results_tmp (t:=2) rfl _ _ _) rfl ⟨B,rfl,HM.o,HG.o⟩
theorem adB(w:World):Calls prog 12 #[.slice none 0 0] w fun e w'=>∃B,e=.returned (.map (some B))/\w.grownBy w' none:=by
 have hmm:=Ns 0 w;go_enter func12,ntmps12;go_wp2;obtain⟨B,hB⟩:=zN (w.heap.size)
 try rw[hB]
 go_loopw [13] (fun vi wr=>vi=.int .i64 0/\w.grownBy wr none) (fun vi _=>0)
 case atStart=>exact⟨rfl,aP (ai w none) _⟩
 case round =>
  obtain⟨rfl,hb⟩:=hrel;have HB:Hd (w.grownBy wr none):=hb;clear hb hmm;go_wp2;refine bodyPost_ret (results_tmp (t:=2) rfl _ _ _) rfl ⟨B,rfl,HB.o⟩
open Go.RowKit Go.Maps
theorem Eg{a b:ByteArray}(h:a=b):(a.toList == b.toList)=true:=by rw[h];simp
theorem Eh{a b:ByteArray}(h:¬a=b):(a.toList == b.toList)=false:=by
 cases hb:(a.toList == b.toList) with
 | false=>rfl
 | true =>
  exfalso;apply h;have h2:a.toList=b.toList:=by simpa using hb
  rw[Lib.toList_data,Lib.toList_data]at h2;apply ByteArray.ext;exact Array.ext' h2
theorem uK{w:World}{o:Option Addr}{c:Nat}{L:List ByteArray}(h:TxS w (.slice o L.length c) L){i:Nat}(hi:i<L.length):∃a,o=some a/\L.length<=c/\∀j (hj:j<L.length),w.cell? (a.add j)=some (.string L[j]):=by
 rcases h with⟨h1,h2⟩|⟨a,cap,h1,h2,h3⟩
 ·rw[h2]at hi;simp at hi
 ·cases h1
  exact⟨a,rfl,h2,h3⟩
theorem adC(o:Option Addr)(n c:Nat)(x:ByteArray)(L:List ByteArray)(w:World)(hn:n=L.length)(h:TxS w (.slice o n c) L)(hL:L.length<=1048576) :
  Calls prog 98 #[.slice o n c,.string x] w fun e w'=>∃k:Int,e=.returned (.int .i64 k)/\w.grownBy w' none/\(0<=k↔L.any (fun y=>decide (y=x))=true):=by
 subst hn;have H1:Hd (TxS w (.slice o L.length c) L):=h;have HN:Hd ((L.take L.length).any (fun y=>decide (y=x))=false->L.any (fun y=>decide (y=x))=false):=fun h=>by rwa [List.take_length]at h
 clear h;go_enter func98,ntmps98;go_wp2;go_loopw [8] (fun vi wr=>∃i:Nat,vi=.int .i64 i/\i<=L.length/\(L.take i).any (fun y=>decide (y=x))=false/\w.grownBy wr none) (fun vi _=>L.length-(intOf vi).toNat)
 case atStart=>exact⟨0,rfl,Nat.zero_le _,rfl,ai _ _⟩
 case round =>
  obtain⟨i,rfl,hi,hf,hg⟩:=hrel;have HF:Hd ((L.take i).any (fun y=>decide (y=x))=false):=hf;have HG:Hd (w.grownBy wr none):=hg
  by_cases hlt:i<L.length
  ·obtain⟨a,rfl,hcv,hat⟩:=uK (H1.o.grow hg) hlt;have e0:=hat i hlt;obtain⟨y,hy⟩:=zN (L[i]);rw[hy]at e0;have HY:Hd (L[i]=y):=hy;clear hf hg hat hy
   by_cases hxy:x=y
   ·have q:=Eg hxy;have HT:Hd (L.any (fun y=>decide (y=x))=true):=by
     show _=_;rw[List.any_eq_true];exact⟨L[i],List.getElem_mem _,by rw[HY.o];simp[hxy]⟩
    clear hxy;go_wp2;go_ret;exact⟨(i:Int),rfl,HG.o,fun _=>HT.o,fun _=>by omega⟩
   ·have q:=Eh hxy;have HT:Hd ((L.take (i+1)).any (fun y=>decide (y=x))=false):=by
     show _=_;rw[List.take_succ_eq_append_getElem hlt,List.any_append,HF.o,HY.o];simp;exact fun e=>hxy e.symm
    clear hxy;go_wp2;exact⟨⟨i+1,by go_num,by omega,HT.o,HG.o⟩,by simp[intOf];omega⟩
  ·have hil:i=L.length:=by omega
   have HT:Hd (L.any (fun y=>decide (y=x))=false):=HN.o (by rw[<-hil];exact hf);clear hf hg hil hi;go_wp2;go_ret;exact⟨-1,rfl,HG.o,fun h=>by omega,fun h=>by rw[HT.o]at h;cases h⟩
theorem VD(o:Option Addr)(n c:Nat)(x:ByteArray)(L:List ByteArray)(w:World)(hn:n=L.length)(h:TxS w (.slice o n c) L)(hL:L.length<=1048576) :
  Calls prog 57 #[.slice o n c,.string x] w fun e w'=>e=.returned (.bool (L.any (fun y=>decide (y=x))))/\w.grownBy w' none:=by
 have CI:Hd (Calls prog 98 #[.slice o n c,.string x] w fun e w'=>∃k:Int,e=.returned (.int .i64 k)/\w.grownBy w' none/\(0<=k↔L.any (fun y=>decide (y=x))=true)):=adC o n c x L w hn h hL;obtain⟨q,hq⟩:=zN (L.any (fun y=>decide (y=x)));rw[hq]at CI ⊢;clear h hq hL hn
 cases q with
 | true =>
  have CJ:Hd (Calls prog 98 #[.slice o n c,.string x] w fun e w'=>(∃k:Int,e=.returned (.int .i64 k)/\0<=k)/\w.grownBy w' none):=CI.o.mono fun e w' ⟨k,h1,h2,h3⟩=>⟨⟨k,h1,h3.2 rfl⟩,h2⟩
  clear CI;go_enter func57,ntmps57;go_wp2_with (go_at_call 98;refine CJ.o.mono ?_);rintro e w1 ⟨⟨k,rfl,hk⟩,hg⟩;go_wp2;go_ret;exact⟨bn (by first|rfl|(simp;done)|(simp;omega)),hg⟩
 | false =>
  have CJ:Hd (Calls prog 98 #[.slice o n c,.string x] w fun e w'=>(∃k:Int,e=.returned (.int .i64 k)/\k<0)/\w.grownBy w' none):=CI.o.mono fun e w' ⟨k,h1,h2,h3⟩=>⟨⟨k,h1,Int.not_le.1 fun h=>by have:=h3.1 h;cases this⟩,h2⟩
  clear CI;go_enter func57,ntmps57;go_wp2_with (go_at_call 98;refine CJ.o.mono ?_);rintro e w1 ⟨⟨k,rfl,hk⟩,hg⟩;go_wp2;go_ret;exact⟨bn (by first|rfl|(simp;done)|(simp;omega)),hg⟩
theorem adD{w:World}{a:Addr}{cap:Nat}{L:List ByteArray}(i:Nat)(hi:i<=L.length)(hc:L.length<=cap)(h:∀j (hj:j<L.length),w.cell? (a.add j)=some (.string L[j])):TxS w (.slice (some a) i cap) (L.take i):=by
 have hl:(L.take i).length=i:=by simp;omega
 refine Or.inr ⟨a,cap,by rw[hl],by omega,fun j hj=>?_⟩;rw[List.getElem_take];exact h j (by omega)
theorem adE(v:Value)(L:List ByteArray)(w:World)(h:TxS w v L)(hL:L.length<=1048576) :
  Calls prog 25 #[v] w fun e w'=>e=.returned (.bool (dS L L.length))/\w.grownBy w' none:=by
 have H1:Hd (TxS w v L):=h;have CC:Hd (∀(a:Addr) (i c:Nat) (x:ByteArray) (w:World),i<=L.length->TxS w (.slice (some a) i c) (L.take i)->Calls prog 57 #[.slice (some a) i c,.string x] w fun e w'=>e=.returned (.bool ((L.take i).any (fun y=>decide (y=x))))/\w.grownBy w' none):=fun a i c x w hi h=>VD (some a) i c x (L.take i) w (by simp;omega) h (by simp;omega)
 obtain⟨o,c,rfl⟩:=kT h;have HH:Hd (∀i (hi:i<L.length),(L.take i).any (fun y=>decide (y=L[i]))=true->dS L L.length=true):=ady L;obtain⟨R,hR⟩:=zN (dS L L.length);have HR:Hd (dS L L.length=R):=hR;rw[hR]at HH ⊢;clear h hR;go_enter func25,ntmps25;go_wp2;go_loopw [7] (fun vi wr=>∃i:Nat,vi=.int .i64 i/\i<=L.length/\dS L i=false/\w.grownBy wr none) (fun vi _=>L.length-(intOf vi).toNat)
 case atStart=>exact⟨0,rfl,Nat.zero_le _,rfl,ai _ _⟩
 case round =>
  obtain⟨i,rfl,hi,hf,hg⟩:=hrel;have HF:Hd (dS L i=false):=hf;have HG:Hd (w.grownBy wr none):=hg
  by_cases hlt:i<L.length
  ·obtain⟨a,rfl,hcv,hat⟩:=uK (H1.o.grow hg) hlt;have e0:=hat i hlt;obtain⟨y,hy⟩:=zN (L[i]);rw[hy]at e0;have CY:Hd (Calls prog 57 #[.slice (some a) i c,.string y] wr fun e w'=>e=.returned (.bool ((L.take i).any (fun z=>decide (z=y))))/\wr.grownBy w' none):=CC.o a i c y wr (by omega) (adD i (by omega) hcv hat);have HT:Hd ((L.take i).any (fun z=>decide (z=y))=true->R=true):=fun h=>(HH.o i hlt (by rw[hy];exact h)).symm ▸ rfl
   have HS:Hd ((L.take i).any (fun z=>decide (z=y))=false->dS L (i+1)=false):=fun h=>adz L i hlt (by rw[hy];exact h) HF.o
   obtain⟨q,hq⟩:=zN ((L.take i).any (fun z=>decide (z=y)));rw[hq]at CY HT HS;have hic:(i:Int)<=c:=by omega
   clear hf hg hat hy hq
   cases q with
   | true =>
    go_wp2_with (go_at_call 57;refine CY.o.mono ?_;rintro e w3 ⟨rfl,hg3⟩);go_ret;exact⟨bn (HT.o (by trivial)).symm,af HG.o hg3⟩
   | false =>
    go_wp2_with (go_at_call 57;refine CY.o.mono ?_;rintro e w3 ⟨rfl,hg3⟩);exact⟨⟨i+1,by go_num,by omega,HS.o (by trivial),af HG.o hg3⟩,by simp[intOf];omega⟩
  ·have hil:i=L.length:=by omega
   have HT:Hd (R=false):=HR.o.symm.trans (by rw[<-hil];exact hf);clear hf hg hil hi;go_wp2;go_ret;exact⟨bn HT.o.symm,HG.o⟩
theorem VE(s:ByteArray)(w:World)(hs:s.size<2 ^ 62):Calls prog 55 #[.string s] w fun e w'=>e=.returned (.bool (okV s))/\w.grownBy w' none:=by
 have CR:Hd (∀w,Calls prog 95 #[.string s] w fun e w'=>(∃(x1 x2 x3:Int) (x4 x5:ByteArray) (k:Int),e=.returned (.tuple #[.agg #[.int .i64 x1,.int .i64 x2,.int .i64 x3,.string x4,.string x5],.int .i64 (jT s.data.toList).1,.int .i64 k]))/\w.grownBy w' none):=fun w=>(parse_any s w hs).mono fun e w' ⟨h1,h2⟩=>⟨⟨_,_,_,_,_,_,h1⟩,h2⟩
 unfold okV;obtain⟨E,hE⟩:=zN ((jT s.data.toList).1);rw[hE]at CR ⊢;clear hE;have hd:decide (E=0)=(E == 0):=by rw[Bool.eq_iff_iff];simp
 rw[hd];clear hd;go_enter func55,ntmps55;go_wp2_with (go_at_call 95;refine(CR.o _).mono ?_);rintro e w1 ⟨⟨x1,x2,x3,x4,x5,k,rfl⟩,hg⟩
 cases hz:(E == 0) with
 | true =>
  go_wp2;go_ret;exact⟨bn hz.symm,aP hg _⟩
 | false =>
  go_wp2;go_ret;exact⟨bn hz.symm,aP hg _⟩
theorem tH{w:World}{N:Nat}{n v d:ByteArray}{sv:Value}{t:TypeId}(h:w.heap[N]?=some (.cells #[.string n,.string v,.string d,sv] t (0,0))):w.cell? ⟨N,0,none⟩=some (.string n)/\w.cell? ⟨N,1,none⟩=some (.string v)/\w.cell? ⟨N,2,none⟩=some (.string d)/\w.cell? ⟨N,3,none⟩=some sv :=
 ⟨by rw[ae h];rfl,by rw[ae h];rfl,by rw[ae h];rfl,by rw[ae h];rfl⟩
theorem adF(x:En)(sv:Value)(w:World)(h:TxS w sv x.nd)(hL:x.nd.length<=1048576)(hS:x.nm.size<2 ^ 60/\x.ve.size<2 ^ 60/\x.dg.size<2 ^ 60)(hN:∀y∈x.nd,y.size<2 ^ 60) :
  Calls prog 24 #[.agg #[.string x.nm,.string x.ve,.string x.dg,sv]] w fun e w'=>e=.returned (.bool (ed x))/\w.grownBy w' none:=by
 have H1:Hd (TxS w sv x.nd):=h;have CN:Hd (∀y∈x.nd,∀w,Calls prog 54 #[.string y] w fun e w'=>e=.returned (.bool (nameB y))/\w'=w):=fun y hy w=>name_any y w (by have:=hN y hy;omega)
 have CM:Hd (∀w,Calls prog 54 #[.string x.nm] w fun e w'=>e=.returned (.bool (nameB x.nm))/\w'=w):=fun w=>name_any x.nm w (by omega)
 have CV:Hd (∀w,Calls prog 55 #[.string x.ve] w fun e w'=>e=.returned (.bool (okV x.ve))/\w.grownBy w' none):=fun w=>VE x.ve w (by omega)
 have CD:Hd (∀w,Calls prog 56 #[.string x.dg] w fun e w'=>e=.returned (.bool (o9 x.dg))/\w'=w):=fun w=>by
  have:=UV x.dg w;rw[UW]at this;exact this
 obtain⟨so,sc,rfl⟩:=kT h;have iZ:Hd (∀i (hi:i<x.nd.length),nameB x.nd[i]=false->ed x=false):=fun i hi h=>by
  show ed x=false;unfold ed;rw[Bool.and_eq_false_iff];right;rw[List.all_eq_false];exact⟨x.nd[i],List.getElem_mem _,by rw[h];simp⟩
 have aB:Hd (x.nd.all nameB=true->ed x=(nameB x.nm && okV x.ve && o9 x.dg)):=fun h=>by
  show ed x=_;unfold ed;rw[h,Bool.and_true]
 obtain⟨R,hR⟩:=zN (ed x);rw[hR]at iZ aB ⊢;obtain⟨q1,hq1⟩:∃q,nameB x.nm=q:=⟨_,rfl⟩;obtain⟨q2,hq2⟩:∃q,okV x.ve=q:=⟨_,rfl⟩;obtain⟨q3,hq3⟩:∃q,o9 x.dg=q:=⟨_,rfl⟩;rw[hq1]at CM aB;rw[hq2]at CV aB;rw[hq3]at CD aB;obtain⟨xn,xv,xd,N⟩:=x;simp only[]at CM CV CD CN H1 iZ aB hL ⊢;clear h hS hN hR hq1 hq2 hq3;obtain⟨W0,hW0⟩:∃W,w.alloc (.cells #[.string xn,.string xv,.string xd,.slice so N.length sc] 44)=W:=⟨_,rfl⟩;have Ei:Hd (w.alloc (.cells #[.string xn,.string xv,.string xd,.slice so N.length sc] 44)=W0):=hW0;have HW0:Hd (w.grownBy W0 none/\W0.cell? ⟨w.heap.size,0,none⟩=some (.string xn)/\W0.cell? ⟨w.heap.size,1,none⟩=some (.string xv)/\W0.cell? ⟨w.heap.size,2,none⟩=some (.string xd)/\W0.cell? ⟨w.heap.size,3,none⟩=some (.slice so N.length sc)):=by
  rw[<-hW0];exact⟨aP (ai w none) _,tH (heap_alloc_new w _)⟩
 go_enter func24,ntmps24;clear hW0;go_wp2;go_loopw [8] (fun vi wr=>∃i:Nat,vi=.int .i64 i/\i<=N.length/\(N.take i).all nameB=true/\W0.grownBy wr none) (fun vi _=>N.length-(intOf vi).toNat)
 case atStart=>exact⟨0,rfl,Nat.zero_le _,rfl,by rw[Ei.o];exact ai _ _⟩
 case round =>
  obtain⟨i,rfl,hi,hall,hg⟩:=hrel;have oZ:Hd ((N.take i).all nameB=true):=hall;have dW:Hd (W0.grownBy wr none):=hg;have HG:Hd (w.grownBy wr none):=af HW0.o.1 hg
  by_cases hlt:i<N.length
  ·obtain⟨a,rfl,hcv,hat⟩:=uK (H1.o.grow HG.o) hlt;have e0:=hat i hlt;obtain⟨y,hy⟩:=zN (N[i]);rw[hy]at e0;have CY:Hd (∀w,Calls prog 54 #[.string y] w fun e w'=>e=.returned (.bool (nameB y))/\w'=w):=fun w=>CN.o y (by rw[<-hy];exact List.getElem_mem _) w
   have HF:Hd (nameB y=false->R=false):=fun h=>iZ.o i hlt (by rw[hy];exact h)
   have HN:Hd (nameB y=true->(N.take (i+1)).all nameB=true):=fun h=>by
    rw[List.take_succ_eq_append_getElem hlt,List.all_append,oZ.o,hy];simp[h]
   obtain⟨q,hq⟩:=zN (nameB y);rw[hq]at CY HF HN;clear hall hg hat hy hq
   cases q with
   | false =>
    go_wp2_with (go_at_call 54;refine(CY.o _).mono ?_;rintro e w' ⟨rfl,rfl⟩);go_ret;exact⟨bn (HF.o (by trivial)).symm,HG.o⟩
   | true =>
    go_wp2_with (go_at_call 54;refine(CY.o _).mono ?_;rintro e w' ⟨rfl,rfl⟩);exact⟨⟨i+1,by go_num,by omega,HN.o (by trivial),dW.o⟩,by simp[intOf];omega⟩
  ·have hil:i=N.length:=by omega
   have HR:Hd (R=(q1 && q2 && q3)):=aB.o (by rw[hil,List.take_length]at hall;exact hall);have f0:=hg.cell HW0.o.2.1 (by simp);have f1:=hg.cell HW0.o.2.2.1 (by simp);have f2:=hg.cell HW0.o.2.2.2.1 (by simp);clear hall hg hil hi
   cases q1 with
   | false =>
    go_wp2_with (go_at_call 54;refine(CM.o _).mono ?_;rintro e w' ⟨rfl,rfl⟩);go_ret;exact⟨bn HR.o.symm,HG.o⟩
   | true =>
    go_wp2_with (first|(go_at_call 54;refine(CM.o _).mono ?_;rintro e w' ⟨rfl,rfl⟩)|(go_at_call 55;refine(CV.o _).mono ?_));rintro e w3 ⟨rfl,hg3⟩;have aQ:Hd (w.grownBy w3 none):=af HG.o hg3;have F2:=hg3.cell f2 (by simp);clear hg3 f0 f1 f2
    cases q2 with
    | false =>
     go_wp2;go_ret;exact⟨bn HR.o.symm,aQ.o⟩
    | true =>
     go_wp2_with (go_at_call 56;refine(CD.o _).mono ?_;rintro e w' ⟨rfl,rfl⟩);go_ret;exact⟨bn (by rw[HR.o];cases q3<;>rfl),aQ.o⟩
open Go.RowKit
def EntI(L:List En)(n:ByteArray)(c:Int):Prop:=(c=-1/\az L n=false)\/∃j,∃hj:j<L.length,c=(j:Int)/\L[j].nm=n/\az (L.take j) n=false
theorem EntI.neg{L:List En}{n:ByteArray}{c:Int}(h:EntI L n c):c<0↔az L n=false:=by
 rcases h with⟨rfl,h⟩|⟨j,hj,rfl,h1,h2⟩
 ·exact⟨fun _=>h,fun _=>by omega⟩
 ·refine⟨fun h=>by omega,fun h=>?_⟩;have:=Au L n L.length j hj hj h1;rw[List.take_length,h]at this
  cases this
theorem EntI.lt{L:List En}{i:Nat}(hi:i<L.length){c:Int}(h:EntI L L[i].nm c):c<(i:Int)↔az (L.take i) L[i].nm=true:=by
 rcases h with⟨rfl,h⟩|⟨j,hj,rfl,h1,h2⟩
 ·have:=Au L L[i].nm L.length i hi hi rfl;rw[List.take_length,h]at this
  cases this
 ·refine⟨fun h=>Au L _ i j hj (by omega) h1,fun h=>?_⟩;apply Classical.byContradiction;intro hn;rw[Vu L _ i j (by omega) h]at h2
  cases h2
theorem Nu{w:World}{o:Option Addr}{c:Nat}{L:List En}(h:EnS w (.slice o L.length c) L){i:Nat}(hi:i<L.length):∃a,o=some a/\L.length<=c/\∀j (hj:j<L.length),EnAt w (a.add (j*4)) L[j]:=by
 rcases h with⟨h1,h2⟩|⟨a,cap,h1,h2,h3⟩
 ·rw[h2]at hi;simp at hi
 ·cases h1
  exact⟨a,rfl,h2,h3⟩
theorem VG(v:Value)(L:List En)(n:ByteArray)(w:World)(h:EnS w v L)(hL:L.length<=1048576) :
  Calls prog 23 #[v,.string n] w fun e w'=>∃c:Int,e=.returned (.int .i64 c)/\EntI L n c/\w.grownBy w' none:=by
 have H1:Hd (EnS w v L):=h;obtain⟨o,c,rfl⟩:=wH h;clear h;go_enter func23,ntmps23;go_wp2;go_loopw [5] (fun vi wr=>∃i:Nat,vi=.int .i64 i/\i<=L.length/\az (L.take i) n=false/\w.grownBy wr none) (fun vi _=>L.length-(intOf vi).toNat)
 case atStart=>exact⟨0,rfl,Nat.zero_le _,rfl,ai _ _⟩
 case round =>
  obtain⟨i,rfl,hi,hf,hg⟩:=hrel;have HF:Hd (az (L.take i) n=false):=hf;have HG:Hd (w.grownBy wr none):=hg
  by_cases hlt:i<L.length
  ·obtain⟨a,rfl,hcv,hat⟩:=Nu (H1.o.grow hg) hlt;have e0:=(hat i hlt).1;obtain⟨y,hy⟩:=zN (L[i].nm);rw[hy]at e0;have HY:Hd (L[i].nm=y):=hy;clear hf hg hat hy
   by_cases hxy:y=n
   ·have q:=Eg hxy;have HT:Hd (EntI L n (i:Int)):=Or.inr ⟨i,hlt,rfl,HY.o.trans hxy,HF.o⟩;clear hxy;go_wp2;go_ret;exact⟨(i:Int),rfl,HT.o,HG.o⟩
   ·have q:=Eh hxy;have HT:Hd (az (L.take (i+1)) n=false):=by
     show _=_;rw[Ii L n i hlt,HF.o,HY.o];simp[hxy]
    clear hxy;go_wp2;exact⟨⟨i+1,by go_num,by omega,HT.o,HG.o⟩,by simp[intOf];omega⟩
  ·have hil:i=L.length:=by omega
   have HT:Hd (EntI L n (-1)):=Or.inl ⟨rfl,by rw[hil,List.take_length]at hf;exact hf⟩;clear hf hg hil hi;go_wp2;go_ret;exact⟨-1,rfl,HT.o,HG.o⟩
theorem Ik{L:List En}{i:Nat}{x:En}(h:50<=i\/20<x.nd.length):nX L i x=4:=by unfold nX;rw[if_pos h]
theorem VH{L:List En}{i:Nat}{x:En}(h:¬(50<=i\/20<x.nd.length))(h2:ed x=false):nX L i x=2:=by unfold nX;rw[if_neg h,if_pos h2]
theorem VI{L:List En}{i:Nat}{x:En}(h:¬(50<=i\/20<x.nd.length))(h2:ed x=true):nX L i x=if az (L.take i) x.nm=true\/dS x.nd x.nd.length=true then 5 else if x.nd.all (az L)=true then 0 else 6:=by
 unfold nX;rw[if_neg h,if_neg (by rw[h2];simp)]
def ErrSo(L:List En)(N:List ByteArray)(k:Nat)(d:Bool)(e:Int):Prop:=(e=0\/e=5\/e=6)/\(dS N k=false->d=false->e=if(N.take k).all (az L)=true then 0 else 6)
theorem Nw(L:List En)(N:List ByteArray)(k:Nat)(hk:k<N.length):(N.take (k+1)).all (az L)=((N.take k).all (az L) && az L N[k]):=by
 rw[List.take_succ_eq_append_getElem hk,List.all_append];simp
theorem VJ(N:List ByteArray)(y:ByteArray)(k:Nat)(hk:k<N.length):(N.take (k+1)).any (fun z=>decide (z=y))=((N.take k).any (fun z=>decide (z=y)) || decide (N[k]=y)):=by
 rw[List.take_succ_eq_append_getElem hk,List.any_append];simp
theorem ErrSo.next0{L:List En}{N:List ByteArray}{k:Nat}(hk:k<N.length){c:Int}(h:ErrSo L N k ((N.take k).any (fun z=>decide (z=N[k]))) 0)(hc:EntI L N[k] c):ErrSo L N (k+1) false (if c<0 then 6 else 0):=by
 refine⟨by split<;>simp,fun ht _=>?_⟩;rw[Aw N k hk]at ht;obtain⟨h1,h2⟩:=Bool.or_eq_false_iff.1 ht;have h3:=h.2 h1 h2;have h4:(N.take k).all (az L)=true:=by
  apply Classical.byContradiction;intro hn;rw[if_neg hn]at h3
  cases h3
 rw[Nw L N k hk,h4,Bool.true_and]
 by_cases hn:c<0
 ·rw[if_pos hn,if_neg (by rw[hc.neg.1 hn];simp)]
 ·rw[if_neg hn,if_pos]
  cases hh:az L N[k] with
  | true=>rfl
  | false=>exact absurd (hc.neg.2 hh) hn
theorem ErrSo.next1{L:List En}{N:List ByteArray}{k:Nat}(hk:k<N.length){e:Int}(he:¬e=0)(h:ErrSo L N k ((N.take k).any (fun z=>decide (z=N[k]))) e):ErrSo L N (k+1) false e:=by
 refine⟨h.1,fun ht _=>?_⟩;rw[Aw N k hk]at ht;obtain⟨h1,h2⟩:=Bool.or_eq_false_iff.1 ht;have h3:=h.2 h1 h2;have h4:(N.take k).all (az L)=false:=by
  cases hh:(N.take k).all (az L) with
  | false=>rfl
  | true=>rw[hh,if_pos rfl]at h3;exact absurd h3 he
 rw[Nw L N k hk,h4];rw[h4]at h3;exact h3
open Go.RowKit
theorem adG(a:Addr)(cap:Nat)(L:List En)(i:Nat)(w:World)(hi:i<L.length)(hcap:L.length<=cap)(h:∀j (hj:j<L.length),EnAt w (a.add (j*4)) L[j])(hL:L.length<=1048576)(hV:∀x∈L,x.nm.size<2 ^ 60/\x.ve.size<2 ^ 60/\x.dg.size<2 ^ 46)(hN:∀x∈L,x.nd.length<=1048576)(hS:∀x∈L,∀y∈x.nd,y.size<2 ^ 60) :
  Calls prog 15 #[.slice (some a) L.length cap,.int .i64 i] w fun e w'=>e=.returned (.int .i64 (fZ L i))/\w.grownBy w' none:=by
 rw[Eb L i hi];have xK:Hd (∀w',w.grownBy w' none->EnS w' (.slice (some a) L.length cap) L):=fun w' hg=>Or.inr ⟨a,cap,rfl,hcap,fun j hj=>(h j hj).grow hg⟩
 have CE:Hd (∀n w',w.grownBy w' none->Calls prog 23 #[.slice (some a) L.length cap,.string n] w' fun e w''=>∃c:Int,e=.returned (.int .i64 c)/\EntI L n c/\w'.grownBy w'' none):=fun n w' hg=>VG _ L n w' (xK.o w' hg) hL
 obtain⟨x,hx⟩:=zN (L[i]);have hmem:x∈L:=by rw[<-hx];exact List.getElem_mem _
 obtain⟨e0,e1,e2,sv,e3,hsv⟩:EnAt w (a.add (i*4)) x:=by rw[<-hx];exact h i hi
 have dE:Hd (∀c,EntI L x.nm c->(c<(i:Int)↔az (L.take i) x.nm=true)):=fun c hc=>by
  rw[<-hx]at hc ⊢;exact EntI.lt hi hc
 rw[hx];have H1:Hd (TxS w sv x.nd):=hsv;obtain⟨so,sc,rfl⟩:=kT hsv;have CM:Hd (∀w,Calls prog 35 #[.string x.nm] w fun e w'=>e=.returned (.bool (nameB x.nm))/\w'=w):=fun w=>U0 x.nm w (by have:=(hV x hmem).1;omega)
 have CV:Hd (∀w,Calls prog 36 #[.string x.ve] w fun e w'=>e=.returned (.bool (okV x.ve))/\w.grownBy w' none):=fun w=>adw x.ve w (by have:=(hV x hmem).2.1;omega)
 have CD:Hd (∀w,Calls prog 37 #[.string x.dg] w fun e w'=>e=.returned (.bool (o9 x.dg))/\w'=w):=fun w=>acZ x.dg w (by have:=(hV x hmem).2.2;unfold maxLen;omega)
 have CN:Hd (∀y∈x.nd,∀w,Calls prog 35 #[.string y] w fun e w'=>e=.returned (.bool (nameB y))/\w'=w):=fun y hy w=>U0 y w (by have:=hS x hmem y hy;omega)
 have hnl:=hN x hmem;have hil:i<=1048576:=by omega
 have iZ:Hd (∀k (hk:k<x.nd.length),nameB x.nd[k]=false->ed x=false):=fun k hk h=>by
  show ed x=false;unfold ed;rw[Bool.and_eq_false_iff];right;rw[List.all_eq_false];exact⟨x.nd[k],List.getElem_mem _,by rw[h];simp⟩
 have aB:Hd (x.nd.all nameB=true->ed x=(nameB x.nm && okV x.ve && o9 x.dg)):=fun h=>by
  show ed x=_;unfold ed;rw[h,Bool.and_true]
 have HG2:Hd ((nameB x.nm && okV x.ve && o9 x.dg)=false->ed x=false):=fun h=>by
  show ed x=false;unfold ed;rw[h,Bool.false_and]
 clear h hV hN hS hmem hx hsv;obtain⟨R,hR⟩:=zN (nX L i x);rw[hR]
 by_cases hm:50<=i
 ·have HR:Hd (R=4):=hR.symm.trans (Ik (Or.inl hm));clear hR;go_enter func15,ntmps15;go_wp2;go_ret;exact⟨eX HR.o.symm,aP (ai w none) _⟩
 by_cases hn:20<x.nd.length
 ·have HR:Hd (R=4):=hR.symm.trans (Ik (Or.inr hn));clear hR;go_enter func15,ntmps15;go_wp2;go_ret;exact⟨eX HR.o.symm,aP (ai w none) _⟩
 have kS:¬(50<=i\/20<x.nd.length):=by omega
 have HT:Hd (ed x=false->R=2):=fun h=>hR.symm.trans (VH kS h)
 have HQ:Hd (ed x=true->R=if az (L.take i) x.nm=true\/dS x.nd x.nd.length=true then 5 else if x.nd.all (az L)=true then 0 else 6):=fun h=>hR.symm.trans (VI kS h)
 obtain⟨gd,hgd⟩:∃g,ed x=g:=⟨_,rfl⟩;rw[hgd]at HT HQ iZ aB HG2;obtain⟨q1,hq1⟩:∃q,nameB x.nm=q:=⟨_,rfl⟩;obtain⟨q2,hq2⟩:∃q,okV x.ve=q:=⟨_,rfl⟩;obtain⟨q3,hq3⟩:∃q,o9 x.dg=q:=⟨_,rfl⟩;rw[hq1]at CM aB HG2;rw[hq2]at CV aB HG2;rw[hq3]at CD aB HG2;obtain⟨xn,xv,xd,N⟩:=x;simp only[]at CM CV CD CN H1 iZ aB HG2 HQ dE e0 e1 e2 e3 hn hnl;clear hR kS hgd hq1 hq2 hq3;obtain⟨A,hA⟩:=zN (w.heap.size);go_enter func15,ntmps15;go_wp2_with (first|(go_at_call 35;refine(CM.o _).mono ?_;rintro e w' ⟨rfl,rfl⟩)|(go_at_call 36;refine(CV.o _).mono ?_));rintro e w1 ⟨rfl,hg1⟩;obtain⟨c0,c1,c2,c3⟩:=tH ((hg1.block w.heap.size (by simp) (by simp)).trans (heap_alloc_new w _));have HG:Hd (w.grownBy w1 none):=af (aP (ai w none) _) hg1
 try rw[hA]
 rw[hA]at c0 c1 c2 c3;clear hg1 e0 e1 e2 e3 hA;have HC:Hd (w1.cell? ⟨A,0,none⟩=some (.string xn)/\w1.cell? ⟨A,3,none⟩=some (.slice so N.length sc)):=⟨c0,c3⟩;go_wp2_with (go_at_call 37;refine(CD.o _).mono ?_);rintro e w' ⟨rfl,rfl⟩;clear c0 c1 c2 c3
 cases q1 with
 | false =>
  go_wp2;go_ret;exact⟨eX (HT.o (HG2.o (by trivial))).symm,HG.o⟩
 | true =>
 cases q2 with
 | false =>
  go_wp2;go_ret;exact⟨eX (HT.o (HG2.o (by trivial))).symm,HG.o⟩
 | true =>
 cases q3 with
 | false =>
  go_wp2;go_ret;exact⟨eX (HT.o (HG2.o (by trivial))).symm,HG.o⟩
 | true =>
 go_wp2;go_loopw [9,10] (fun ve vk wr=>∃(k:Nat) (e:Int),vk=.int .i64 k/\ve=.int .i64 e/\k<=N.length/\ErrSo L N k false e/\(N.take k).all nameB=true/\w'.grownBy wr none) (fun _ vk _=>N.length-(intOf vk).toNat)
 case atStart=>exact⟨0,0,rfl,rfl,Nat.zero_le _,⟨Or.inl rfl,fun _ _=>by simp⟩,rfl,ai _ _⟩
 case round =>
  obtain⟨k,e,rfl,rfl,hk,herr,hall,hg⟩:=hrel;have adH:Hd (ErrSo L N k false e):=herr;have oZ:Hd ((N.take k).all nameB=true):=hall;have dW:Hd (w'.grownBy wr none):=hg;have uy:Hd (w.grownBy wr none):=af HG.o hg;have f0:=hg.cell HC.o.1 (by simp);have f3:=hg.cell HC.o.2 (by simp)
  by_cases hlt:k<N.length
  ·obtain⟨b,rfl,hcv,hat⟩:=uK (H1.o.grow HG.o) hlt;have g0:=hg.cell (hat k hlt) (by simp);obtain⟨y,hy⟩:=zN (N[k]);rw[hy]at g0;have HY:Hd (N[k]=y):=hy;have CY:Hd (∀w,Calls prog 35 #[.string y] w fun e w'=>e=.returned (.bool (nameB y))/\w'=w):=fun w=>CN.o y (by rw[<-hy];exact List.getElem_mem _) w
   have HF:Hd (nameB y=false->R=2):=fun h=>HT.o (iZ.o k hlt (by rw[hy];exact h))
   have gU:Hd (nameB y=true->(N.take (k+1)).all nameB=true):=fun h=>by
    rw[List.take_succ_eq_append_getElem hlt,List.all_append,oZ.o,hy];simp[h]
   obtain⟨q,hq⟩:=zN (nameB y);rw[hq]at CY HF gU;have Ny:Hd (∀wz,w'.grownBy wz none->wz.cell? ⟨A,3,none⟩=some (.slice (some b) N.length sc)/\∀j (hj:j<N.length),wz.cell? (b.add j)=some (.string N[j])):=fun wz hz=>⟨hz.cell HC.o.2 (by simp),fun j hj=>hz.cell (hat j hj) (by simp)⟩
   clear herr hall hg hat hy hq
   cases q with
   | false =>
    go_wp2_with (go_at_call 35;refine(CY.o _).mono ?_;rintro e w' ⟨rfl,rfl⟩);go_ret;exact⟨eX (HF.o (by trivial)).symm,uy.o⟩
   | true =>
    go_wp2_with (go_at_call 35;refine(CY.o _).mono ?_;rintro e w'' ⟨rfl,rfl⟩);clear f0 f3 g0;go_loopw [9,12] (fun ve vj wj=>∃(j:Nat) (e:Int),vj=.int .i64 j/\ve=.int .i64 e/\j<=k/\ErrSo L N k ((N.take j).any (fun z=>decide (z=y))) e/\w'.grownBy wj none) (fun _ vj _=>k-(intOf vj).toNat)
    case atStart=>exact⟨0,e,rfl,rfl,Nat.zero_le _,adH.o,dW.o⟩
    case round =>
     obtain⟨j,e2,rfl,rfl,hj,Nz,hgj⟩:=hrel;have HE2:Hd (ErrSo L N k ((N.take j).any (fun z=>decide (z=y))) e2):=Nz;have uM:Hd (w'.grownBy wr none):=hgj;have adI:Hd (w.grownBy wr none):=af HG.o hgj;obtain⟨p3,pall⟩:=Ny.o wr hgj;have p1:=pall k hlt;rw[HY.o]at p1
     by_cases hjk:j<k
     ·have hjl:j<N.length:=by omega
      obtain⟨z,hz⟩:=zN (N[j]);have p0:=pall j hjl;rw[hz]at p0;have GR:Hd ((N.take (j+1)).any (fun z=>decide (z=y))=((N.take j).any (fun z=>decide (z=y)) || decide (z=y))):=by
       show _=_;rw[VJ N y j hjl,hz]
      clear Nz hgj pall hz
      by_cases hzy:z=y
      ·have q:=Eg hzy;have HV:Hd (ErrSo L N k ((N.take (j+1)).any (fun z=>decide (z=y))) 5):=⟨Or.inr (Or.inl rfl),fun _ h=>by rw[GR.o]at h;simp[hzy]at h⟩;clear hzy;go_wp2;go_quiet (fail);go_wp2;go_roundw
       case rel=>exact⟨j+1,5,by go_num,rfl,by omega,HV.o,au uM.o _⟩
       case measure=>simp[intOf];omega
      ·have q:=Eh hzy;have HV:Hd (ErrSo L N k ((N.take (j+1)).any (fun z=>decide (z=y))) e2):=by
        show ErrSo _ _ _ _ _;rw[GR.o,decide_eq_false hzy,Bool.or_false];exact HE2.o
       clear hzy;go_wp2;go_quiet (fail);go_wp2;go_roundw
       case rel=>exact⟨j+1,e2,by go_num,rfl,by omega,HV.o,au uM.o _⟩
       case measure=>simp[intOf];omega
     ·have hje:j=k:=by omega
      subst hje;have VK:Hd (ErrSo L N j ((N.take j).any (fun z=>decide (z=N[j]))) e2):=by
       show ErrSo _ _ _ _ _;rw[HY.o];exact HE2.o
      clear Nz hgj hj pall
      by_cases he:e2=0
      ·subst he;go_wp2_with (go_at_call 23;refine(CE.o _ _ adI.o).mono ?_);rintro e w4 ⟨c,rfl,hc,hg4⟩;have HV:Hd (ErrSo L N (j+1) false (if c<0 then 6 else 0)):=ErrSo.next0 hlt VK.o (by rw[HY.o];exact hc);have fD:Hd (w'.grownBy w4 none):=af uM.o hg4;clear hc hg4
       by_cases hc0:c<0
       ·have pO:Hd (ErrSo L N (j+1) false 6):=by have:=HV.o;rwa [if_pos hc0]at this
        go_wp2;go_roundw
        case rel=>exact⟨j+1,6,by go_num,rfl,by omega,pO.o,gU.o (by trivial),fD.o⟩
        case measure=>simp[intOf];omega
       ·have pO:Hd (ErrSo L N (j+1) false 0):=by have:=HV.o;rwa [if_neg hc0]at this
        go_wp2;go_roundw
        case rel=>exact⟨j+1,0,by go_num,rfl,by omega,pO.o,gU.o (by trivial),fD.o⟩
        case measure=>simp[intOf];omega
      ·have he1:(e2 == 0)=false:=by simp[he]
       have HV:Hd (ErrSo L N (j+1) false e2):=ErrSo.next1 hlt he VK.o;clear he;go_wp2;go_roundw
       case rel=>exact⟨j+1,e2,by go_num,rfl,by omega,HV.o,gU.o (by trivial),uM.o⟩
       case measure=>simp[intOf];omega
  ·have hke:k=N.length:=by omega
   have HRR:Hd (R=if az (L.take i) xn=true\/dS N N.length=true then 5 else if N.all (az L)=true then 0 else 6):=HQ.o (by
    rw[hke,List.take_length]at hall;rw[aB.o hall];rfl)
   have rJ:Hd (dS N N.length=false->e=if N.all (az L)=true then 0 else 6):=fun h=>by
    have:=herr.2;rw[hke,List.take_length]at this;exact this h rfl
   have VL:Hd (e=0\/e=5\/e=6):=herr.1;clear herr hall hg hke hk;go_wp2_with (go_at_call 23;refine(CE.o _ _ uy.o).mono ?_);rintro e' w4 ⟨c,rfl,hc,hg4⟩;have fD:Hd (w'.grownBy w4 none):=af dW.o hg4;obtain⟨t0,ht0⟩:∃t,decide (c<(i:Int))=t:=⟨_,rfl⟩;have HT0:Hd (az (L.take i) xn=t0):=by
    show _=_;rw[<-ht0,Bool.eq_iff_iff,<-dE.o c hc];simp
   clear hc hg4 f0 f3;go_wp2
   try rw[ht0]
   go_loopw [13,14] (fun vt vk wr=>∃k:Nat,vk=.int .i64 k/\vt=.bool (t0 || dS N k)/\k<=N.length/\w'.grownBy wr none) (fun _ vk _=>N.length-(intOf vk).toNat)
   case atStart=>exact⟨0,rfl,by simp[dS],Nat.zero_le _,fD.o⟩
   case round =>
    obtain⟨k,rfl,rfl,hk,hg⟩:=hrel;have adJ:Hd (w'.grownBy wr none):=hg;have VM:Hd (w.grownBy wr none):=af HG.o hg;have f3:=hg.cell HC.o.2 (by simp);clear ht0
    by_cases hlt:k<N.length
    ·obtain⟨b,rfl,hcv,hat⟩:=uK (H1.o.grow HG.o) hlt;obtain⟨y,hy⟩:=zN (N[k]);have HY:Hd (N[k]=y):=hy;have Ny:Hd (∀wz,w'.grownBy wz none->wz.cell? ⟨A,3,none⟩=some (.slice (some b) N.length sc)/\∀j (hj:j<N.length),wz.cell? (b.add j)=some (.string N[j])):=fun wz hz=>⟨hz.cell HC.o.2 (by simp),fun j hj=>hz.cell (hat j hj) (by simp)⟩
     obtain⟨t1,ht1⟩:∃t,(t0 || dS N k)=t:=⟨_,rfl⟩;have HTS:Hd ((t0 || dS N (k+1))=(t1 || (N.take k).any (fun z=>decide (z=y)))):=by
      show _=_;rw[Aw N k hlt,<-Bool.or_assoc,ht1,hy]
     try rw[ht1]
     clear hg hat hy ht1;go_wp2;clear f3;go_loopw [13,15] (fun vt vj wj=>∃j:Nat,vj=.int .i64 j/\vt=.bool (t1 || (N.take j).any (fun z=>decide (z=y)))/\j<=k/\w'.grownBy wj none) (fun _ vj _=>k-(intOf vj).toNat)
     case atStart=>exact⟨0,rfl,by simp,Nat.zero_le _,adJ.o⟩
     case round =>
      obtain⟨j,rfl,rfl,hj,hgj⟩:=hrel;have uM:Hd (w'.grownBy wr none):=hgj;obtain⟨p3,pall⟩:=Ny.o wr hgj;have p1:=pall k hlt;rw[HY.o]at p1
      by_cases hjk:j<k
      ·have hjl:j<N.length:=by omega
       obtain⟨z,hz⟩:=zN (N[j]);have p0:=pall j hjl;rw[hz]at p0;obtain⟨t2,ht2⟩:∃t,(t1 || (N.take j).any (fun z=>decide (z=y)))=t:=⟨_,rfl⟩;have Dl:Hd ((t1 || (N.take (j+1)).any (fun z=>decide (z=y)))=(t2 || decide (z=y))):=by
        show _=_;rw[VJ N y j hjl,<-Bool.or_assoc,ht2,hz]
       try rw[ht2]
       clear hgj pall hz ht2
       cases t2 with
       | true =>
        go_wp2;go_quiet (fail);go_wp2;go_roundw
        case rel=>exact⟨j+1,by go_num,by rw[Dl.o];rfl,by omega,au uM.o _⟩
        case measure=>simp[intOf];omega
       | false =>
        by_cases hzy:z=y
        ·have q:=Eg hzy;have HV:Hd ((t1 || (N.take (j+1)).any (fun z=>decide (z=y)))=true):=by
          show _=_;rw[Dl.o];simp[hzy]
         clear hzy;go_wp2;go_quiet (fail);go_wp2;go_roundw
         case rel=>exact⟨j+1,by go_num,by rw[HV.o],by omega,au uM.o _⟩
         case measure=>simp[intOf];omega
        ·have q:=Eh hzy;have HV:Hd ((t1 || (N.take (j+1)).any (fun z=>decide (z=y)))=false):=by
          show _=_;rw[Dl.o];simp[hzy]
         clear hzy;go_wp2;go_quiet (fail);go_wp2;go_roundw
         case rel=>exact⟨j+1,by go_num,by rw[HV.o],by omega,au uM.o _⟩
         case measure=>simp[intOf];omega
      ·have hje:j=k:=by omega
       subst hje;clear hgj hj pall;go_wp2;go_roundw
       case rel=>exact⟨j+1,by go_num,by rw[HTS.o],by omega,uM.o⟩
       case measure=>simp[intOf];omega
    ·have hke:k=N.length:=by omega
     subst hke;have VN:=HT0.o;rw[VN]at HRR;obtain⟨t3,ht3⟩:∃t,(t0 || dS N N.length)=t:=⟨_,rfl⟩;have qK:Hd ((t0 || dS N N.length)=t3):=ht3
     try rw[ht3]
     clear hg hk VN ht3
     cases t3 with
     | true =>
      have HR:Hd (R=5):=HRR.o.trans (if_pos (by
       rcases Bool.or_eq_true_iff.1 qK.o with h|h
       ·exact Or.inl h
       ·exact Or.inr h))
      go_wp2;go_ret;exact⟨eX HR.o.symm,VM.o⟩
     | false =>
      have HR:Hd (R=e):=by
       obtain⟨h1,h2⟩:=Bool.or_eq_false_iff.1 qK.o;show R=e;rw[HRR.o,rJ.o h2,if_neg (by rw[h1,h2];simp)]
      go_wp2;go_ret;exact⟨eX HR.o.symm,VM.o⟩
open Go.RowKit
def cT(a b:ByteArray):Int:=Lib.compareBytes a.data.toList b.data.toList
theorem qm:Good cT:=Px YZ (fun a:ByteArray=>a.data.toList)
theorem VO{a b:ByteArray}(h:cT a b=0):a=b:=by
 unfold cT at h
 cases h1:Op.bytesLess a.data.toList b.data.toList with
 | true=>rw[(wU _ _).1 h1]at h;cases h
 | false =>
  cases h2:(a.data.toList == b.data.toList) with
  | true=>exact ByteArray.ext (Array.ext' (by simpa using h2))
  | false=>rw[(wU _ _).2.1 h1 h2]at h;cases h
theorem VP{a b:ByteArray}(h:cT a b<0):Op.bytesLess a.toList b.toList=true:=by
 rw[Lib.toList_data,Lib.toList_data]
 cases h1:Op.bytesLess a.data.toList b.data.toList with
 | true=>rfl
 | false =>
  exfalso;unfold cT at h
  cases h2:(a.data.toList == b.data.toList) with
  | true=>rw[(wU _ _).2.2 h2]at h;cases h
  | false=>rw[(wU _ _).2.1 h1 h2]at h;cases h
theorem adK{a b:ByteArray}(h:¬cT a b<0):Op.bytesLess a.toList b.toList=false:=by
 cases h1:Op.bytesLess a.toList b.toList with
 | false=>rfl
 | true=>exact absurd (show cT a b<0 by unfold cT;rw[Vs h1];decide) h
theorem NC{a b:ByteArray}(h:¬cT a b<0):cT b a<=0:=by
 have:=qm.anti a b;omega
theorem VQ{a b c:ByteArray}(h1:cT a b<=0)(h2:cT b c<=0):cT a c<=0:=(qm.trans a b c h1 h2).1
def kV(S:List ByteArray):Prop:=S.Pairwise (fun a b=>cT a b<=0)
theorem ND{α:Type}(r:α->α->Prop):∀(A B:List α),A.Perm B->A.Pairwise r->B.Pairwise r->(∀a∈A,∀b∈A,r a b->r b a->a=b)->A=B
 | [],B,hp,_,_,_=>(List.Perm.nil_eq hp)
 | a :: A,[],hp,_,_,_=>by have:=hp.length_eq;simp at this
 | a :: A,b :: B,hp,hA,hB,hu=>by
  have hab:a=b:=by
   have h1:a∈b :: B:=hp.subset (by simp);have h2:b∈a :: A:=hp.symm.subset (by simp)
   rcases List.mem_cons.1 h1 with e|h1
   ·exact e
   ·rcases List.mem_cons.1 h2 with e|h2
    ·exact e.symm
    ·exact hu a (by simp) b (by simp[h2]) ((List.pairwise_cons.1 hA).1 b h2) ((List.pairwise_cons.1 hB).1 a h1)
  subst hab;have hp':A.Perm B:=(List.perm_cons a).1 hp;rw[ND r A B hp' (List.pairwise_cons.1 hA).2 (List.pairwise_cons.1 hB).2 (fun x hx y hy=>hu x (by simp[hx]) y (by simp[hy]))]
theorem adL{S T:List ByteArray}(hp:S.Perm T)(h1:kV S)(h2:kV T):S=T :=
 ND _ S T hp h1 h2 (fun a _ b _ r1 r2=>VO (by have:=qm.anti a b;omega))
theorem adM{A B:List ByteArray}{x:ByteArray}(h:kV (A++B))(hb:∀b∈B,cT x b<0)(hl:∀A0 y,A=A0++[y]->cT y x<=0):kV (A++x :: B):=by
 unfold kV at *;rw[List.pairwise_append]at h ⊢;obtain⟨h1,h2,h3⟩:=h;have hax:∀a∈A,cT a x<=0:=by
  rcases List.eq_nil_or_concat A with rfl|⟨A0,y,rfl⟩
  ·intro a ha;cases ha
  ·rw[List.concat_eq_append]at *;have hy:=hl A0 y rfl;intro a ha
   rcases List.mem_append.1 ha with ha|ha
   ·rw[List.pairwise_append]at h1;exact VQ (h1.2.2 a ha y (by simp)) hy
   ·simp at ha;rw[ha];exact hy
 refine⟨h1,List.pairwise_cons.2 ⟨fun b hb2=>Int.le_of_lt (hb b hb2),h2⟩,fun a ha b hb2=>?_⟩
 rcases List.mem_cons.1 hb2 with rfl|hb2
 ·exact hax a ha
 ·exact h3 a ha b hb2
def NE(L:List ByteArray)(w:World)(e:Ending)(w':World):Prop:=∃(v:Value) (S:List ByteArray),e=.returned v/\w'.ownsRow w.heap.size 9 1 v S.length (S.map Value.string)/\S.Perm L/\kV S/\Below w.heap.size w w'
end Go.Proofs.YtmkjelchiacogaaGreatDoor
