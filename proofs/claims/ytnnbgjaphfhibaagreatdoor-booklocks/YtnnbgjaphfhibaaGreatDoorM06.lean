import Derived.Test.YtnnbgjaphfhibaaGreatDoorM01
import Derived.Test.YtnnbgjaphfhibaaGreatDoorM05
import Derived.Maps.OwnSet
import Derived.Maps.OwnOps
import Derived.Maps.AppendAt
import Derived.Lib.SmallJoins
import Derived.Deep.RegionWith
set_option linter.unusedVariables false
set_option linter.unusedSimpArgs false
set_option maxRecDepth 100000
set_option maxHeartbeats 6400000
open Go.Proofs.Tryz
namespace Go.Proofs.YtnnbgjaphfhibaaGreatDoor
open Go.RowKit Go.Maps
def pF(s:ByteArray):Bool:=lD s.data.toList
def aZ(L:List En)(n:ByteArray):Bool:=L.any fun e=>decide (e.nm=n)
theorem JM(L:List En)(n:ByteArray)(i:Nat)(hi:i<L.length):aZ (L.take (i+1)) n=(aZ (L.take i) n || decide (L[i].nm=n)):=by
 unfold aZ;rw[List.take_succ_eq_append_getElem hi,List.any_append];simp
theorem JO(L:List En)(n:ByteArray)(i j:Nat)(hj:j<L.length)(hji:j<i)(h:L[j].nm=n):aZ (L.take i) n=true:=by
 unfold aZ;rw[List.any_eq_true];refine⟨L[j],List.mem_take_iff_getElem.2 ⟨j,by omega,rfl⟩,by simpa using h⟩
theorem Yp(L:List En)(n:ByteArray)(i j:Nat)(hij:i<=j)(h:aZ (L.take i) n=true):aZ (L.take j) n=true:=by
 unfold aZ at *;rw[List.any_eq_true]at *;obtain⟨x,hx,h2⟩:=h;refine⟨x,?_,h2⟩;obtain⟨k,hk,rfl⟩:=List.mem_take_iff_getElem.1 hx;exact List.mem_take_iff_getElem.2 ⟨k,by omega,rfl⟩
def kK(n:ByteArray):Lit:=.string n.data.toList
theorem Yq{a b:ByteArray}(h:kK a=kK b):a=b:=by
 unfold kK at h;injection h with h
 exact ByteArray.ext (Array.ext' h)
def gG(L:List En):Nat->DataW Unit
 | 0=>.map []
 | i+1=>match L[i]? with
  | some x=>if Maps.has (gG L i) (kK x.nm)=true then gG L i else(gG L i).put (kK x.nm) (.lit (.int .i64 (i:Int)))
  | none=>gG L i
theorem JP(L:List En)(i:Nat)(hi:i<L.length):gG L (i+1)=if Maps.has (gG L i) (kK L[i].nm)=true then gG L i else(gG L i).put (kK L[i].nm) (.lit (.int .i64 (i:Int))):=by
 simp[gG,List.getElem?_eq_getElem hi]
theorem JQ(L:List En):∀i,i<=L.length->IsMap (gG L i)
 | 0,_=>isMap_empty
 | i+1,h=>by
  rw[JP L i (by omega)];split
  ·exact JQ L i (by omega)
  ·exact(JQ L i (by omega)).put _ _
theorem Qn(L:List En)(n:ByteArray):∀i,i<=L.length->Maps.has (gG L i) (kK n)=aZ (L.take i) n
 | 0,_=>by simp[gG,aZ,Maps.has]
 | i+1,h=>by
  have ih:=Qn L n i (by omega);have hm:=JQ L i (by omega);rw[JP L i (by omega),JM L n i (by omega)]
  by_cases he:L[i].nm=n
  ·rw[he];split
   ·rename_i h1;rw[h1];simp
   ·rw[has_put_same hm (by trivial)];simp
  ·have hne:kK n≠kK L[i].nm:=fun e=>he (Yq e).symm
   rw[decide_eq_false he,Bool.or_false];split
   ·exact ih
   ·rw[has_put_other hne];exact ih
theorem keyS:Keyed prog 9:=string_keyed underlying9
theorem E8(w:World):(zeroValue 3).run prog w=.ok (.int .i64 0) w:=by kernel_rfl
theorem Qo(n:Int)(w:World):(Instr.makeMap 50 (some (.int .i64 n))).run prog w=.ok (.map (some w.heap.size)) (w.alloc (.map #[] 0)):=by kernel_rfl
theorem mP{w u u':World}{b:Nat}(h:w.grownBy u none)(hg:u.grownBy u' (some b))(hb:w.heap.size<=b):w.grownBy u' none :=
 ⟨hg.os.trans h.os,hg.tape.trans h.tape,hg.output.trans h.output,Nat.le_trans h.size hg.size,fun k hk hn=>(hg.block k (Nat.lt_of_lt_of_le hk h.size) (by simp;omega)).trans (h.block k hk hn)⟩
theorem Yr(a:Addr)(cap:Nat)(L:List En)(w:World)(hL:L.length<=1048576)(hcap:L.length<=cap)(hz:∀x∈L,x.nm.size<=maxLen)(h:∀i (hi:i<L.length),EnAt w (a.add (i*4)) L[i]) :
  Calls prog 17 #[.slice (some a) L.length cap] w fun e w'=>∃B,e=.returned (.map (some B))/\w'.ownsMap prog 9 (plainElem (H:=Unit) prog 3) B L.length (gG L L.length)/\w.grownBy w' none:=by
 have HA:Hd (∀i (hi:i<L.length),EnAt w (a.add (i*4)) L[i]):=h;have HZ:Hd (∀x∈L,x.nm.size<=maxLen):=hz;clear h hz;obtain⟨B,hB⟩:=zN (w.heap.size);have HB:Hd (w.heap.size=B):=hB;have hmm:=Qo (L.length:Int) w;go_enter func17,ntmps17;go_wp2
 try rw[hB]
 clear hB hmm;go_loopw [13] (fun vi wr=>∃i:Nat,vi=.int .i64 i/\i<=L.length/\wr.ownsMap prog 9 (plainElem (H:=Unit) prog 3) B i (gG L i)/\w.grownBy wr none) (fun vi _=>L.length-(intOf vi).toNat)
 case atStart=>exact⟨0,rfl,Nat.zero_le _,HB.o ▸ World.ownsMap_made _ _ _ _,dw (ax w none) _⟩
 case round =>
  obtain⟨i,rfl,hi,hown,hg⟩:=hrel;have HG:Hd (w.grownBy wr none):=hg
  by_cases hlt:i<L.length
  ·obtain⟨x,hx⟩:=zN (L[i]);obtain⟨e0,e1,e2,sv,e3,hsv⟩:EnAt wr (a.add (i*4)) x:=by rw[<-hx];exact(HA.o i hlt).grow hg
   obtain⟨so,sc,rfl⟩:=Am hsv;have hkey:keyOf prog 9 (.string x.nm)=some (kK x.nm):=Go.WideMaps.keyOf_string_mk underlying9 (HZ.o x (by rw[<-hx];exact List.getElem_mem _));have HN:Hd (gG L (i+1)=if Maps.has (gG L i) (kK x.nm)=true then gG L i else(gG L i).put (kK x.nm) (.lit (.int .i64 (i:Int)))):=by
    show _=_;rw[JP L i hlt,hx]
   obtain⟨q,hq⟩:=zN (Maps.has (gG L i) (kK x.nm));rw[hq]at HN;have hown2:=hown.alloc (.cells #[.string x.nm,.string x.ve,.string x.dg,.slice so x.nd.length sc] 33);have hwi:(Lit.int .i64 (i:Int)).wf=true:=WalkArith.wf_i64 (by omega);clear hg hx hsv
   cases q with
   | true =>
    have kL:Hd (gG L (i+1)=gG L i):=by
     show _=_;rw[HN.o,if_pos rfl]
    go_wp2_with (first|(at_lookup;refine wpList_lookup_own_ok_int _ rfl _ _ 50 rfl 9 3 .i64 keyS underlying50 underlying3 (E8 _) B i _ rfl hown2 _ _ rfl hkey ?_;intro c hat hwc;rw[hq])|go_in);exact⟨⟨i+1,by go_num,by omega,by rw[kL.o];exact hown2.mono (Nat.le_succ _),dw HG.o _⟩,by simp[intOf];omega⟩
   | false =>
    have kL:Hd (gG L (i+1)=(gG L i).put (kK x.nm) (.lit (.int .i64 (i:Int)))):=by
     show _=_;rw[HN.o,if_neg (by simp)]
    go_wp2_with (first|(at_lookup;refine wpList_lookup_own_ok_int _ rfl _ _ 50 rfl 9 3 .i64 keyS underlying50 underlying3 (E8 _) B i _ rfl hown2 _ _ rfl hkey ?_;intro c hat hwc;rw[hq])|(at_mapUpdate;refine wpList_mapUpdate_own _ rfl _ _ _ 50 rfl 9 3 keyS underlying50 (plainElem (H:=Unit) prog 3) B i _ rfl hown2 (by unfold maxLen;omega) _ _ _ rfl rfl hkey _ [] (plainElem_int underlying3 hwi) ?_;intro w1 hown1 hgrow1)|go_in);exact⟨⟨i+1,by go_num,by omega,by rw[kL.o];exact hown1,mP (dw HG.o _) hgrow1 (Nat.le_of_eq HB.o)⟩,by simp[intOf];omega⟩
  ·have hil:i=L.length:=by omega
   have HM:Hd (wr.ownsMap prog 9 (plainElem (H:=Unit) prog 3) B L.length (gG L L.length)):=by rw[hil]at hown;exact hown
   clear hg hil hi hown;go_wp2;refine bodyPost_ret (results_tmp (t:=2) rfl _ _ _) rfl ⟨B,rfl,HM.o,HG.o⟩
def nx(l:List UInt8)(i:Nat):Int:=match l[i]? with|some c=>(c.toNat:Int)|none=>-1
theorem pG(l:List UInt8)(i:Nat)(h:i<l.length):nx l i=(l[i].toNat:Int):=by simp[nx,List.getElem?_eq_getElem h]
theorem jG(l:List UInt8)(i:Nat)(h:l.length<=i):nx l i=-1:=by simp[nx,List.getElem?_eq_none h]
theorem bH{l:List UInt8}{i:Nat}(h:0<=nx l i):i<l.length:=by
 apply Classical.byContradiction;intro hn;rw[jG l i (by omega)]at h;exact absurd h (by decide)
theorem Fa(l:List UInt8)(i:Nat):-1<=nx l i/\nx l i<256:=by
 by_cases h:i<l.length
 ·rw[pG l i h];have:=l[i].toNat_lt;omega
 ·rw[jG l i (by omega)];decide
def toR(p:Int->Bool)(l:List UInt8)(i:Nat):Nat:=i+runN (fun c=>p (c.toNat:Int)) l i
theorem qH(p:Int->Bool)(l:List UInt8)(i:Nat)(hi:i<l.length)(h:p (nx l i)=true):toR p l i=toR p l (i+1):=by
 rw[pG l i hi]at h;unfold toR runN;rw[List.drop_eq_getElem_cons hi,List.takeWhile_cons];simp only[h,if_true,List.length_cons];omega
theorem lX(p:Int->Bool)(l:List UInt8)(i:Nat)(h:p (nx l i)=false):toR p l i=i:=by
 unfold toR runN
 by_cases hi:i<l.length
 ·rw[pG l i hi]at h;rw[List.drop_eq_getElem_cons hi,List.takeWhile_cons];simp[h]
 ·rw[List.drop_eq_nil_of_le (by omega)];simp
theorem pI(p:Int->Bool)(l:List UInt8)(i:Nat)(hi:i<=l.length):i<=toR p l i/\toR p l i<=l.length:=by
 unfold toR runN;have h1:=(List.takeWhile_sublist (fun c:UInt8=>p (c.toNat:Int)) (l:=l.drop i)).length_le;rw[List.length_drop]at h1;omega
def fM(c:Int):Bool:=decide (c=32\/c=9)
def au(c:Int):Bool:=decide (48<=c/\c<=57)
def bi(c:Int):Bool:=decide (97<=c/\c<=122)
def aO(c:Int):Bool:=bi c || decide (65<=c/\c<=90) || au c || decide (c=95) || decide (c=45)
def xN(c:Int):Bool:=decide ((0<=c/\c<32)\/c=127)
def ik(c:Int):Bool:=xN c && decide (c≠9)
def dC(c:Int):Bool:=decide (c≠10) && !ik c
def bu(l:List UInt8)(i:Nat):Bool × Nat:=if nx l i=35 then(if nx l (toR dC l i)=10\/nx l (toR dC l i)=-1 then(true,toR dC l i) else(false,toR dC l i)) else(true,i)
theorem Fe(l:List UInt8)(i:Nat)(h:¬nx l i=35):bu l i=(true,i):=by unfold bu;rw[if_neg h]
def bl(l:List UInt8)(i:Nat):Nat:=toR fM l i
structure Tn where
 kd:Int
 ky:List UInt8
 tx:List UInt8
 nu:Int
 ks:List Nat
 pl:Nat
abbrev Rs(α:Type):=Except (Int × Nat) α
def hexV(c:Int):Int:=if au c=true then c-48 else if 97<=c/\c<=102 then c-87 else if 65<=c/\c<=70 then c-55 else -1
def four(l:List UInt8):Nat->Nat->Nat->Rs (Nat × Nat)
 | 0,i,n=>.ok (n,i)
 | k+1,i,n=>if hexV (nx l i)<0 then .error (2,i) else four l k (i+1) (16*n+(hexV (nx l i)).toNat)
def gz(n:Nat):List UInt8:=if n<128 then[UInt8.ofNat n] else if n<2048 then[UInt8.ofNat (192+n / 64),UInt8.ofNat (128+n % 64)] else[UInt8.ofNat (224+n / 4096),UInt8.ofNat (128+n / 64 % 64),UInt8.ofNat (128+n % 64)]
def esc(l:List UInt8)(i:Nat):Rs (List UInt8 × Nat) :=
 if nx l (i+1)=117 then
  match four l 4 (i+2) 0 with
  | .error e=>.error e
  | .ok (n,j)=>if 55296<=n/\n<=57343 then .error (2,i) else .ok (gz n,j)
 else if nx l (i+1)=98 then .ok ([8],i+2)
 else if nx l (i+1)=116 then .ok ([9],i+2)
 else if nx l (i+1)=110 then .ok ([10],i+2)
 else if nx l (i+1)=102 then .ok ([12],i+2)
 else if nx l (i+1)=114 then .ok ([13],i+2)
 else if nx l (i+1)=34 then .ok ([34],i+2)
 else if nx l (i+1)=92 then .ok ([92],i+2)
 else .error (2,i+1)
def dF(l:List UInt8)(i:Nat)(lo hi:Int):Bool:=decide (lo<=nx l i/\nx l i<=hi)
def aJ(l:List UInt8)(i:Nat):Nat :=
 let c:=nx l i
 if c<0 then 0
 else if c<128 then 1
 else if c<194\/244<c then 0
 else if dF l (i+1) (if c=224 then 160 else if c=240 then 144 else 128) (if c=237 then 159 else if c=244 then 143 else 191)=false then 0
 else if c<224 then 2
 else if dF l (i+2) 128 191=false then 0
 else if c<240 then 3
 else if dF l (i+3) 128 191=false then 0
 else 4
def str(l:List UInt8):Nat->Nat->List UInt8->Rs (List UInt8 × Nat)
 | 0,i,_=>.error (2,i)
 | f+1,i,acc =>
  if nx l i=34 then .ok (acc,i+1)
  else if nx l i=92 then
   match esc l i with
   | .error e=>.error e
   | .ok (b,j)=>str l f j (acc++b)
  else if nx l i=-1\/ik (nx l i)=true then .error (2,i)
  else if aJ l i=0 then .error (2,i)
  else str l f (i+aJ l i) (acc++ag l i (aJ l i))
def bY(l:List UInt8)(i:Nat):Rs (List UInt8 × Nat) :=
 if nx l i=34 then str l (l.length+1) (i+1) []
 else if toR aO l i=i then .error (2,i)
 else .ok (ag l i (toR aO l i-i),toR aO l i)
def iq:List UInt8->Nat->Nat
 | [],n=>n
 | c :: r,n=>iq r (10*n+(c.toNat - 48))
def jf(l:List UInt8)(i:Nat):Rs (Int × Nat) :=
 let a:=if au (nx l i)=true then i else i+1
 let j:=toR au l a
 if j=a\/(1<j-a/\nx l a=48) then .error (2,a)
 else if 18<j-a then .error (3,i)
 else .ok (if nx l i=45 then -(iq (ag l a (j-a)) 0:Int) else(iq (ag l a (j-a)) 0:Int),j)
def kU(l:List UInt8)(i:Nat):Rs (Int × Nat) :=
 let j:=toR bi l i
 if ag l i (j-i)=[116,114,117,101] then .ok (1,j)
 else if ag l i (j-i)=[102,97,108,115,101] then .ok (0,j)
 else .error (2,i)
def addN(ns:List Tn)(up:Nat)(n:Tn):List Tn:=(match ns[up]? with|some u=>ns.set up { u with ks:=u.ks++[ns.length] }|none=>ns)++[n]
def gap(l:List UInt8):Nat->Nat->Rs Nat
 | 0,i=>.error (2,i)
 | f+1,i =>
  let j:=bl l i
  if(bu l j).1=false then .error (2,(bu l j).2)
  else if nx l (bu l j).2=10 then gap l f ((bu l j).2+1)
  else .ok (bu l j).2
mutual
def val(l:List UInt8):Nat->Nat->Nat->List UInt8->Nat->Nat->List Tn->Rs (Nat × List Tn)
 | 0,i,_,_,_,_,_=>.error (2,i)
 | f+1,i,up,k,p,d,ns =>
  if nx l i=34 then
   match str l (l.length+1) (i+1) [] with
   | .error e=>.error e
   | .ok (t,j)=>.ok (j,addN ns up ⟨3,k,t,0,[],p⟩)
  else if nx l i=43\/nx l i=45\/au (nx l i)=true then
   match jf l i with
   | .error e=>.error e
   | .ok (n,j)=>.ok (j,addN ns up ⟨4,k,[],n,[],p⟩)
  else if nx l i=116\/nx l i=102 then
   match kU l i with
   | .error e=>.error e
   | .ok (n,j)=>.ok (j,addN ns up ⟨5,k,[],n,[],p⟩)
  else if nx l i=91 then
   if d=8 then .error (4,i)
   else lst l f (i+1) ns.length (d+1) (addN ns up ⟨1,k,[],0,[],p⟩)
  else .error (2,i)
def lst(l:List UInt8):Nat->Nat->Nat->Nat->List Tn->Rs (Nat × List Tn)
 | 0,i,_,_,_=>.error (2,i)
 | f+1,i,up,d,ns =>
  match gap l (l.length+1) i with
  | .error e=>.error e
  | .ok j =>
   if nx l j=93 then .ok (j+1,ns)
   else
    match val l f j up [] j d ns with
    | .error e=>.error e
    | .ok (j1,ns1) =>
     match gap l (l.length+1) j1 with
     | .error e=>.error e
     | .ok j2 =>
      if nx l j2=44 then lst l f (j2+1) up d ns1
      else if nx l j2=93 then .ok (j2+1,ns1)
      else .error (2,j2)
end
def ai(ns:List Tn)(t:Nat)(k:List UInt8):Option Nat:=match ns[t]? with|some u=>u.ks.find? (fun q=>match ns[q]? with|some x=>decide (x.ky=k)|none=>false)|none=>none
def ak(ns:List Tn)(t:Nat):Int:=match ns[t]? with|some u=>u.kd|none=>-1
def fO(ns:List Tn)(t:Nat)(k:List UInt8)(p:Nat):Rs (Nat × List Tn) :=
 match ai ns t k with
 | none=>.ok (ns.length,addN ns t ⟨0,k,[],0,[],p⟩)
 | some q=>if ak ns q=0 then .ok (q,ns) else if ak ns q=2 then(match ns[q]? with|some u=>.ok (u.ks.getLastD 0,ns)|none=>.error (5,p)) else .error (5,p)
def gm(ns:List Tn)(own:List Nat)(t:Nat)(k:List UInt8)(p:Nat):Rs (Nat × List Tn) :=
 match ai ns t k with
 | none=>.ok (ns.length,addN ns t ⟨0,k,[],0,[],p⟩)
 | some q=>if ak ns q=0/\¬q∈own then .ok (q,ns) else .error (5,p)
def gp(ns:List Tn)(t:Nat)(k:List UInt8)(p:Nat):Rs (Nat × List Tn) :=
 match ai ns t k with
 | none=>.ok (ns.length+1,addN (addN ns t ⟨2,k,[],0,[],p⟩) ns.length ⟨0,[],[],0,[],p⟩)
 | some q=>if ak ns q=2 then .ok (ns.length,addN ns q ⟨0,[],[],0,[],p⟩) else .error (5,p)
def way(many:Bool)(own:List Nat):List (List UInt8 × Nat)->Nat->List Tn->Rs (Nat × List Tn)
 | [],t,ns=>.ok (t,ns)
 | [(k,p)],t,ns=>if many=true then gp ns t k p else gm ns own t k p
 | (k,p) :: r,t,ns =>
  match fO ns t k p with
  | .error e=>.error e
  | .ok (t1,ns1)=>way many own r t1 ns1
def fP(l:List UInt8):Nat->Nat->List (List UInt8 × Nat)->Rs (List (List UInt8 × Nat) × Nat)
 | 0,i,_=>.error (2,i)
 | f+1,i,acc =>
  match bY l (bl l i) with
  | .error e=>.error e
  | .ok (k,j)=>if nx l (bl l j)=46 then fP l f (bl l j+1) (acc++[(k,bl l i)]) else .ok (acc++[(k,bl l i)],bl l j)
structure Sd where
 i:Nat
 ns:List Tn
 own:List Nat
 now:Nat
def must(l:List UInt8)(i:Nat)(c:Int):Rs Nat:=if nx l i=c then .ok (i+1) else .error (2,i)
def gI(l:List UInt8)(s:Sd):Rs Sd :=
 let many:Bool:=decide (nx l (s.i+1)=91)
 match fP l (l.length+1) (if many=true then s.i+2 else s.i+1) [] with
 | .error e=>.error e
 | .ok (ks,j) =>
  match must l j 93 with
  | .error e=>.error e
  | .ok j1 =>
   match (if many=true then must l j1 93 else .ok j1) with
   | .error e=>.error e
   | .ok j2 =>
    match way many s.own ks 0 s.ns with
    | .error e=>.error e
    | .ok (t,ns)=>.ok ⟨j2,ns,t :: s.own,t⟩
def rdPair(l:List UInt8)(s:Sd):Rs Sd :=
 match bY l s.i with
 | .error e=>.error e
 | .ok (k,j) =>
  match must l (bl l j) 61 with
  | .error e=>.error e
  | .ok j1 =>
   match ai s.ns s.now k with
   | some _=>.error (5,s.i)
   | none =>
    match val l (2*l.length+2) (bl l j1) s.now k s.i 0 s.ns with
    | .error e=>.error e
    | .ok (j2,ns)=>.ok ⟨j2,ns,s.own,s.now⟩
def iR(l:List UInt8)(s0:Sd):Rs Sd :=
 let s:Sd:=⟨bl l s0.i,s0.ns,s0.own,s0.now⟩
 match (if nx l s.i=91 then gI l s else if nx l s.i=34\/aO (nx l s.i)=true then rdPair l s else .ok s) with
 | .error e=>.error e
 | .ok s1 =>
  if(bu l (bl l s1.i)).1=false then .error (2,(bu l (bl l s1.i)).2)
  else if nx l (bu l (bl l s1.i)).2=-1 then .ok ⟨(bu l (bl l s1.i)).2,s1.ns,s1.own,s1.now⟩
  else match must l (bu l (bl l s1.i)).2 10 with
   | .error e=>.error e
   | .ok j=>.ok ⟨j,s1.ns,s1.own,s1.now⟩
def jw(l:List UInt8):Nat->Sd->Rs Sd
 | 0,s=>.ok s
 | f+1,s=>if l.length<=s.i then .ok s else match iR l s with | .error e=>.error e | .ok s1=>jw l f s1
def jL(l:List UInt8):Rs (List Tn) :=
 if 100000<l.length then .error (1,0)
 else match jw l (l.length+1) ⟨0,[⟨0,[],[],0,[],0⟩],[],0⟩ with
  | .error e=>.error e
  | .ok s=>.ok s.ns
def ae(ns:List Tn)(p:Nat):List Nat:=match ns[p]? with|some u=>u.ks|none=>[]
def iw(ns:List Tn)(k:List UInt8)(q:Nat):Bool:=match ns[q]? with|some x=>decide (x.ky=k)|none=>false
theorem qI(ns:List Tn)(t:Nat)(k:List UInt8):ai ns t k=(ae ns t).find? (iw ns k):=by
 unfold ai ae
 cases ns[t]?<;>rfl
theorem JR(ns:List Tn)(up:Nat)(n:Tn):∃X:List Tn,X.length=ns.length/\∀m,addN ns up m=X++[m]:=by
 unfold addN
 cases h:ns[up]? with
 | none=>exact⟨ns,rfl,fun _=>rfl⟩
 | some u=>exact⟨ns.set up { u with ks:=u.ks++[ns.length] },by simp,fun _=>rfl⟩
theorem dh(ns:List Tn)(up:Nat)(n:Tn):(addN ns up n).length=ns.length+1:=by
 obtain⟨X,h1,h2⟩:=JR ns up n;rw[h2];simp[h1]
theorem JS(ns:List Tn)(up:Nat)(n m:Tn):(addN ns up n).set ns.length m=addN ns up m:=by
 obtain⟨X,h1,h2⟩:=JR ns up n;rw[h2,h2,<-h1];simp
theorem ug(ns:List Tn)(up:Nat)(n:Tn)(hu:up<ns.length)(i:Nat):(addN ns up n)[i]?=if i=ns.length then some n else if i=up then some { ns[up] with ks:=ns[up].ks++[ns.length] } else ns[i]?:=by
 unfold addN;rw[List.getElem?_eq_getElem hu];simp only[]
 by_cases h:i=ns.length
 ·rw[if_pos h,h,List.getElem?_append_right (by simp)];simp
 ·rw[if_neg h]
  by_cases hl:i<ns.length
  ·rw[List.getElem?_append_left (by simpa using hl)]
   by_cases hup:i=up
   ·subst hup;rw[if_pos rfl,List.getElem?_set_self hl]
   ·rw[if_neg hup,List.getElem?_set_ne (fun e=>hup e.symm)]
  ·rw[List.getElem?_append_right (by simp;omega),if_neg (by omega),List.getElem?_eq_none (l:=ns) (by omega)];rw[List.getElem?_eq_none];simp;omega
theorem jM(ns:List Tn)(up:Nat)(n:Tn)(hu:up<ns.length)(p:Nat):ae (addN ns up n) p=if p=ns.length then n.ks else if p=up then ae ns up++[ns.length] else ae ns p:=by
 unfold ae;rw[ug ns up n hu]
 by_cases h:p=ns.length
 ·simp only[if_pos h]
 ·rw[if_neg h,if_neg h]
  by_cases h2:p=up
  ·rw[if_pos h2,if_pos h2,List.getElem?_eq_getElem hu]
  ·rw[if_neg h2,if_neg h2]
theorem fA(ns:List Tn)(up:Nat)(n:Tn)(hu:up<ns.length)(p:Nat):ak (addN ns up n) p=if p=ns.length then n.kd else ak ns p:=by
 unfold ak;rw[ug ns up n hu]
 by_cases h:p=ns.length
 ·simp only[if_pos h]
 ·rw[if_neg h,if_neg h]
  by_cases h2:p=up
  ·subst h2;rw[if_pos rfl,List.getElem?_eq_getElem hu]
  ·rw[if_neg h2]
theorem Qp(ns:List Tn)(up:Nat)(n:Tn)(hu:up<ns.length)(k:List UInt8)(q:Nat):iw (addN ns up n) k q=if q=ns.length then decide (n.ky=k) else iw ns k q:=by
 unfold iw;rw[ug ns up n hu]
 by_cases h:q=ns.length
 ·simp only[if_pos h]
 ·rw[if_neg h,if_neg h]
  by_cases h2:q=up
  ·subst h2;rw[if_pos rfl,List.getElem?_eq_getElem hu]
  ·rw[if_neg h2]
structure WF(ns:List Tn)(own:List Nat):Prop where
 par:∀p p' q,q∈ae ns p->q∈ae ns p'->p=p'
 lt:∀p q,q∈ae ns p->q<ns.length
 own:∀q∈own,q<ns.length
 len:∀p,(ae ns p).length<=ns.length
theorem yV(ns:List Tn)(p:Nat)(h:ns.length<=p):ae ns p=[]:=by
 unfold ae;rw[List.getElem?_eq_none h]
theorem JU{α:Type}{p q:α->Bool}:∀(l:List α),(∀x∈l,p x=q x)->l.find? p=l.find? q
 | [],_=>rfl
 | a :: r,h=>by
  rw[List.find?_cons,List.find?_cons,h a (by simp),JU r fun x hx=>h x (by simp[hx])]
theorem JV(ns:List Tn)(own:List Nat)(up:Nat)(n:Tn)(hn:n.ks=[])(hu:up<ns.length)(W:WF ns own)(t:Nat)(k:List UInt8) :
  ai (addN ns up n) t k=if t=up then(match ai ns up k with|some q=>some q|none=>if n.ky=k then some ns.length else none) else if t=ns.length then none else ai ns t k:=by
 have hc:∀p,(ae ns p).find? (iw (addN ns up n) k)=ai ns p k:=fun p=>by
  rw[qI];refine JU _ fun x hx=>?_
  have:=W.lt p x hx;rw[Qp ns up n hu,if_neg (by omega)]
 rw[qI,jM ns up n hu]
 by_cases h1:t=up
 ·subst h1;rw[if_neg (by omega),if_pos rfl,if_pos rfl,List.find?_append,hc]
  cases ai ns t k with
  | some q=>rfl
  | none =>
   simp only[Option.none_or,List.find?_cons,Qp ns t n hu,if_true,List.find?_nil]
   by_cases hk:n.ky=k
   ·rw[if_pos hk,decide_eq_true hk]
   ·rw[if_neg hk,decide_eq_false hk]
 ·rw[if_neg h1,if_neg h1]
  by_cases h2:t=ns.length
  ·rw[if_pos h2,if_pos h2,hn];rfl
  ·rw[if_neg h2,if_neg h2,hc]
def hold(ns:List Tn)(own:List Nat)(t:Nat)(k:List UInt8):Option (Nat × Bool):=if ak ns t=0 then(ai ns t k).map fun q=>(q,decide (q∈own)) else none
def xO(f:Nat->List UInt8->Option (Nat × Bool))(t:Nat)(k:List UInt8)(v:Nat × Bool):Nat->List UInt8->Option (Nat × Bool):=fun t' k'=>if t'=t/\k'=k then some v else f t' k'
theorem qJ{ns:List Tn}{t q:Nat}{k:List UInt8}(h:ai ns t k=some q):q∈ae ns t/\iw ns k q=true:=by
 rw[qI]at h;exact⟨List.mem_of_find?_eq_some h,List.find?_some h⟩
theorem Yt(ns:List Tn)(own:List Nat)(up:Nat)(n:Tn)(hn:n.ks=[])(hu:up<ns.length)(W:WF ns own)(h0:ak ns up=0)(hno:ai ns up n.ky=none):hold (addN ns up n) own=xO (hold ns own) up n.ky (ns.length,false):=by
 funext t k;unfold xO hold;rw[fA ns up n hu,JV ns own up n hn hu W]
 by_cases h1:t=up
 ·subst h1;have hne:¬t=ns.length:=by omega
  simp only[if_neg hne,if_pos h0,true_and,if_true]
  by_cases hk:k=n.ky
  ·subst hk;rw[hno];simp only[if_true,Option.map_some];rw[decide_eq_false (fun hm=>by have:=W.own _ hm;omega)]
  ·have hk':¬n.ky=k:=fun e=>hk e.symm
   simp only[if_neg hk]
   cases ai ns t k with
   | some q=>rfl
   | none=>simp only[if_neg hk']
 ·have h1':¬(t=up/\k=n.ky):=fun h=>h1 h.1
  simp only[if_neg h1,if_neg h1']
  by_cases h2:t=ns.length
  ·have:ai ns t k=none:=by rw[qI,yV ns t (by omega)];rfl
   rw[this];simp only[if_pos h2];simp
  ·simp only[if_neg h2]
theorem Yu(ns:List Tn)(own:List Nat)(up:Nat)(n:Tn)(hn:n.ks=[])(hu:up<ns.length)(W:WF ns own)(h0:¬ak ns up=0):hold (addN ns up n) own=hold ns own:=by
 funext t k;unfold hold;rw[fA ns up n hu,JV ns own up n hn hu W]
 by_cases h1:t=up
 ·subst h1;have hne:¬t=ns.length:=by omega
  simp only[if_neg hne,if_neg h0]
 ·simp only[if_neg h1]
  by_cases h2:t=ns.length
  ·have:ai ns t k=none:=by rw[qI,yV ns t (by omega)];rfl
   rw[this];simp only[if_pos h2];simp
  ·simp only[if_neg h2]
theorem qK(ns:List Tn)(own:List Nat)(up:Nat)(n:Tn)(hn:n.ks=[])(hu:up<ns.length)(W:WF ns own):WF (addN ns up n) own:=by
 have hk:∀p q,q∈ae (addN ns up n) p->(q=ns.length/\p=up)\/(q∈ae ns p/\q<ns.length):=fun p q h=>by
  rw[jM ns up n hu]at h
  by_cases h1:p=ns.length
  ·rw[if_pos h1,hn]at h;simp at h
  ·rw[if_neg h1]at h
   by_cases h2:p=up
   ·subst h2;rw[if_pos rfl]at h
    rcases List.mem_append.1 h with h|h
    ·exact Or.inr ⟨h,W.lt _ _ h⟩
    ·exact Or.inl ⟨by simpa using h,rfl⟩
   ·rw[if_neg h2]at h;exact Or.inr ⟨h,W.lt _ _ h⟩
 refine⟨fun p p' q h h'=>?_,fun p q h=>?_,fun q h=>?_,fun p=>?_⟩
 ·rcases hk p q h with⟨e1,e2⟩|⟨e1,e2⟩<;>rcases hk p' q h' with⟨e3,e4⟩|⟨e3,e4⟩
  ·rw[e2,e4]
  ·omega
  ·omega
  ·exact W.par p p' q e1 e3
 ·rw[dh]
  rcases hk p q h with⟨e1,e2⟩|⟨e1,e2⟩<;>omega
 ·rw[dh];have:=W.own q h;omega
 ·rw[dh,jM ns up n hu];have h1:=W.len p;have h2:=W.len up;split
  ·rw[hn];simp
  ·split
   ·simp;omega
   ·omega
theorem Qq(ns:List Tn)(own:List Nat)(W:WF ns own)(t q:Nat)(k:List UInt8)(h0:ak ns t=0)(h:ai ns t k=some q):hold ns (q :: own)=xO (hold ns own) t k (q,true):=by
 funext t' k';unfold xO hold;obtain⟨hm,hy⟩:=qJ h
 by_cases h1:t'=t/\k'=k
 ·rw[if_pos h1,h1.1,h1.2,if_pos h0,h];simp
 ·rw[if_neg h1]
  by_cases h2:ak ns t'=0
  ·rw[if_pos h2,if_pos h2]
   cases hq:ai ns t' k' with
   | none=>rfl
   | some q' =>
    obtain⟨hm',hy'⟩:=qJ hq;have hne:¬q'=q:=fun e=>by
     subst e;have e1:=W.par _ _ _ hm' hm;unfold iw at hy hy'
     cases hx:ns[q']? with
     | none=>rw[hx]at hy;cases hy
     | some x =>
      rw[hx]at hy hy';exact h1 ⟨e1,(of_decide_eq_true hy').symm.trans (of_decide_eq_true hy)⟩
    simp[hne]
  ·rw[if_neg h2,if_neg h2]
theorem Yv(ns:List Tn)(own:List Nat)(W:WF ns own)(t q:Nat)(h0:¬ak ns t=0)(h:q∈ae ns t):hold ns (q :: own)=hold ns own:=by
 funext t' k';unfold hold
 by_cases h2:ak ns t'=0
 ·rw[if_pos h2,if_pos h2]
  cases hq:ai ns t' k' with
  | none=>rfl
  | some q' =>
   obtain⟨hm',hy'⟩:=qJ hq;have hne:¬q'=q:=fun e=>by
    subst e;have e1:=W.par _ _ _ hm' h;subst e1;exact h0 h2
   simp[hne]
 ·rw[if_neg h2,if_neg h2]
theorem Qr(ns:List Tn)(own:List Nat)(W:WF ns own)(q:Nat)(h:q<ns.length):WF ns (q :: own) :=
 ⟨W.par,W.lt,fun x hx=>by
  rcases List.mem_cons.1 hx with rfl|hx
  ·exact h
  ·exact W.own x hx,W.len⟩
def WT(ns:List Tn):Prop:=∀q,ak ns q=2->ae ns q≠[]/\∀x∈ae ns q,ak ns x=0
theorem Yw(ns:List Tn)(q:Nat)(n:Tn)(hq:q<ns.length)(h1:n.kd=ns[q].kd)(h2:n.ky=ns[q].ky)(h3:n.ks=ns[q].ks):(∀p,ae (ns.set q n) p=ae ns p)/\(∀p,ak (ns.set q n) p=ak ns p)/\(∀k p,iw (ns.set q n) k p=iw ns k p):=by
 have key:∀p,p=q\/(ns.set q n)[p]?=ns[p]?:=fun p=>by
  by_cases h:p=q
  ·exact Or.inl h
  ·exact Or.inr (List.getElem?_set_ne (fun e=>h e.symm))
 have hs:(ns.set q n)[q]?=some n:=List.getElem?_set_self hq;have hn:ns[q]?=some ns[q]:=List.getElem?_eq_getElem hq;refine⟨fun p=>?_,fun p=>?_,fun k p=>?_⟩
 ·unfold ae
  rcases key p with rfl|h
  ·rw[hs,hn];exact h3
  ·rw[h]
 ·unfold ak
  rcases key p with rfl|h
  ·rw[hs,hn];exact h1
  ·rw[h]
 ·unfold iw
  rcases key p with rfl|h
  ·rw[hs,hn];simp only[h2]
  ·rw[h]
theorem Yx{ns ns':List Tn}(own:List Nat)(h1:∀p,ae ns' p=ae ns p)(h2:∀p,ak ns' p=ak ns p)(h3:∀k p,iw ns' k p=iw ns k p):hold ns' own=hold ns own:=by
 funext t k;unfold hold;rw[h2,qI,qI,h1,JU (p:=iw ns' k) (q:=iw ns k) _ fun x _=>h3 k x]
def iG(ns:List Tn)(q:Nat):List UInt8:=match ns[q]? with|some u=>u.ky|none=>[]
def KD(ns:List Tn)(t:Nat):Prop:=(ae ns t).Pairwise fun a b=>iG ns a≠iG ns b
theorem Yy{ns:List Tn}{q:Nat}(h:q<ns.length):iG ns q=ns[q].ky:=by
 unfold iG;rw[List.getElem?_eq_getElem h]
open Go.RowKit
def iH:List UInt8:=[100,105,103,101,115,116]
def fG:List UInt8:=[110,97,109,101]
def dY:List UInt8:=[110,101,101,100,115]
def iI:List UInt8:=[118,101,114,115,105,111,110]
def jk:List UInt8:=[112,97,99,107,97,103,101]
def jV:List UInt8:=[102,111,114,109,97,116]
inductive iT where
 | root:iT
 | tabs:iT
 | key:Nat->iT
 | val:Nat->iT
structure Dr where
 lk:Nat->Option iT
 fm:Bool
 tb:List Nat
 es:List En
 wt:List (ByteArray × Nat)
def keepD(d:Dr)(ks:List Nat)(k:iT):Dr:=⟨fun q=>if q∈ks then some k else d.lk q,d.fm,d.tb,d.es,d.wt⟩
def dn(x:Tn):ByteArray:=⟨x.tx.toArray⟩
def takeD(x:Tn)(is:ByteArray->Bool):Int:=if ¬x.kd=3 then 7 else if is (dn x)=true then 0 else 2
def en0:En:=⟨⟨#[]⟩,⟨#[]⟩,⟨#[]⟩,[]⟩
def bn(es:List En)(e:Nat):En:=es[e]?.getD en0
def setD(d:Dr)(e:Nat)(y:En):Dr:=⟨d.lk,d.fm,d.tb,d.es.set e y,d.wt⟩
def oC(d:Dr)(x:Tn)(is:ByteArray->Bool)(e:Nat)(y:En):Except Int Dr:=if takeD x is=0 then .ok (setD d e y) else .error (takeD x is)
noncomputable def lY(d:Dr)(x:Tn)(e:Nat):Except Int Dr :=
 if x.ky=fG then
  if takeD x nameB=0 then if aZ d.es (dn x)=true then .error 5 else .ok (setD d e ⟨dn x,(bn d.es e).ve,(bn d.es e).dg,(bn d.es e).nd⟩) else .error (takeD x nameB)
 else if x.ky=iI then oC d x okV e ⟨(bn d.es e).nm,dn x,(bn d.es e).dg,(bn d.es e).nd⟩
 else if x.ky=iH then oC d x pF e ⟨(bn d.es e).nm,(bn d.es e).ve,dn x,(bn d.es e).nd⟩
 else if x.ky=dY/\x.kd=1 then .ok (keepD d x.ks (.val e)) else .error 7
noncomputable def oD(d:Dr)(x:Tn)(e:Nat):Except Int Dr :=
 if takeD x nameB=0 then
  if(bn d.es e).nd.any (fun y=>decide (y=dn x))=true then .error 5
  else if(bn d.es e).nd.length=20 then .error 4
  else .ok ⟨d.lk,d.fm,d.tb,d.es.set e ⟨(bn d.es e).nm,(bn d.es e).ve,(bn d.es e).dg,(bn d.es e).nd++[dn x]⟩,d.wt++[(dn x,x.pl)]⟩
 else .error (takeD x nameB)
noncomputable def gJ(d:Dr)(q:Nat)(x:Tn):iT->Except Int Dr
 | .root=>if x.ky=jV then(if ¬x.kd=4 then .error 7 else if ¬x.nu=1 then .error 3 else .ok ⟨d.lk,true,d.tb,d.es,d.wt⟩) else if x.ky=jk/\x.kd=2 then .ok (keepD d x.ks .tabs) else .error 7
 | .tabs=>if d.tb.length=50 then .error 4 else .ok (keepD ⟨d.lk,d.fm,d.tb++[q],d.es++[en0],d.wt⟩ x.ks (.key d.es.length))
 | .key e=>lY d x e
 | .val e=>oD d x e
noncomputable def stepD(ns:List Tn)(q:Nat)(d:Dr):Rs Dr:=match ns[q]? with
 | none=>.ok d
 | some x=>match d.lk q with
  | none=>.ok d
  | some k=>match gJ d q x k with
   | .error c=>.error (c,x.pl)
   | .ok d'=>.ok d'
noncomputable def iU(ns:List Tn):Nat->Dr->Rs Dr
 | 0,d=>.ok d
 | n+1,d=>match stepD ns (ns.length-(n+1)) d with
  | .error e=>.error e
  | .ok d'=>iU ns n d'
theorem Qs{ns:List Tn}{q:Nat}(d:Dr)(hq:q<ns.length):iU ns (ns.length-q) d=match stepD ns q d with | .error e=>.error e | .ok d'=>iU ns (ns.length-(q+1)) d':=by
 obtain⟨n,hn⟩:∃n,ns.length-q=n+1:=⟨ns.length-q-1,by omega⟩;rw[hn,show ns.length-(q+1)=n by omega];show(match stepD ns (ns.length-(n+1)) d with|Except.error e=>Except.error e|Except.ok d'=>iU ns n d')=_;rw[show ns.length-(n+1)=q by omega]
def iJ(ns:List Tn)(q:Nat):Nat:=match ns[q]? with|some x=>x.pl|none=>0
def mQ(ns:List Tn)(d:Dr):Int × Nat :=
 if d.fm=false then(6,0)
 else match d.tb.find? (fun q=>decide ((ae ns q).length<4)) with
  | some q=>(6,iJ ns q)
  | none=>match d.wt.find? (fun y=>!aZ d.es y.1) with
   | some y=>(6,y.2)
   | none=>(0,0)
def jW:Dr:=⟨fun _=>none,false,[],[],[]⟩
noncomputable def rU(ns:List Tn):Rs (List En):=match iU ns ns.length (keepD jW (ae ns 0) .root) with
 | .error e=>.error e
 | .ok d=>if(mQ ns d).1=0 then .ok d.es else .error (mQ ns d)
theorem Qu{ns:List Tn}{q:Nat}{d:Dr}(hq:q<ns.length)(hk:d.lk q=none):iU ns (ns.length-q) d=iU ns (ns.length-(q+1)) d:=by
 rw[Qs d hq];unfold stepD;rw[List.getElem?_eq_getElem hq];simp only[];rw[hk]
theorem Qv(es:List En)(z:En):bn (es++[z]) es.length=z:=by
 unfold bn;rw[List.getElem?_append_right (Nat.le_refl _),Nat.sub_self];rfl
theorem Qw(es:List En)(z y:En):(es++[z]).set es.length y=es++[y]:=by
 rw[List.set_append_right _ _ (Nat.le_refl _),Nat.sub_self];rfl
structure Jt(ns:List Tn)(own:List Nat)(t:Nat):Prop where
 wf:WF ns own
 wt:WT ns
 lt:t<ns.length
 kd:ak ns t=0
theorem nM{ns:List Tn}{t:Nat}{z:Int}(h:ak ns t=z)(hz:0<=z):t<ns.length:=by
 apply Classical.byContradiction;intro hn;unfold ak at h;rw[List.getElem?_eq_none (by omega)]at h;simp only[]at h;omega
theorem xP{ns:List Tn}{t q:Nat}(h:q∈ae ns t):t<ns.length:=by
 apply Classical.byContradiction;intro hn;rw[yV ns t (by omega)]at h;simp at h
theorem JW(ns:List Tn)(own:List Nat)(W:WF ns own)(up:Nat)(n:Tn)(hu:up<ns.length)(h:WT ns)(h1:¬n.kd=2)(h2:¬ak ns up=2\/n.kd=0):WT (addN ns up n):=by
 intro q hq;rw[fA ns up n hu]at hq
 by_cases hn:q=ns.length
 ·rw[if_pos hn]at hq;exact absurd hq h1
 ·rw[if_neg hn]at hq;obtain⟨a,b⟩:=h q hq;rw[jM ns up n hu,if_neg hn]
  by_cases hqu:q=up
  ·subst hqu;rw[if_pos rfl];refine⟨by simp,fun x hx=>?_⟩;rw[fA ns q n hu]
   rcases List.mem_append.1 hx with hx|hx
   ·have:=W.lt _ _ hx;rw[if_neg (by omega)];exact b x hx
   ·rw[if_pos (by simpa using hx)]
    rcases h2 with h2|h2
    ·exact absurd hq h2
    ·exact h2
  ·rw[if_neg hqu];refine⟨a,fun x hx=>?_⟩;have:=W.lt _ _ hx;rw[fA ns up n hu,if_neg (by omega)];exact b x hx
theorem Qx{ns:List Tn}{own:List Nat}{t:Nat}(J:Jt ns own t)(n:Tn)(hn:n.ks=[])(h0:n.kd=0):Jt (addN ns t n) own ns.length:=by
 refine⟨qK ns own t n hn J.lt J.wf,JW ns own J.wf t n J.lt J.wt (by rw[h0];decide) (Or.inr h0),by rw[dh];omega,?_⟩;rw[fA ns t n J.lt,if_pos rfl];exact h0
theorem AZ{ns ns':List Tn}{own:List Nat}{t t' p:Nat}{k:List UInt8}(J:Jt ns own t)(h:fO ns t k p=.ok (t',ns')):Jt ns' own t'/\ns.length<=ns'.length/\ns'.length<=ns.length+1:=by
 unfold fO at h
 cases hq:ai ns t k with
 | none =>
  rw[hq]at h
  cases h
  exact⟨Qx J _ rfl rfl,by rw[dh];omega,by rw[dh];omega⟩
 | some q =>
  rw[hq]at h;simp only[]at h
  by_cases h0:ak ns q=0
  ·rw[if_pos h0]at h
   cases h
   exact⟨⟨J.wf,J.wt,nM h0 (by omega),h0⟩,by omega,by omega⟩
  ·rw[if_neg h0]at h
   by_cases h2:ak ns q=2
   ·have hl:=nM h2 (by omega);rw[if_pos h2,List.getElem?_eq_getElem hl]at h;simp only[]at h;obtain⟨a,b⟩:=J.wt q h2;have hks:ae ns q=ns[q].ks:=by unfold ae;rw[List.getElem?_eq_getElem hl]
    rw[hks]at a b;have hm:ns[q].ks.getLastD 0∈ns[q].ks:=by
     rw[List.getLastD_eq_getLast?,List.getLast?_eq_some_getLast a];exact List.getLast_mem a
    have hkd:=b _ hm
    cases h
    exact⟨⟨J.wf,J.wt,nM hkd (by omega),hkd⟩,by omega,by omega⟩
   ·rw[if_neg h2]at h;cases h
theorem Qy{ns ns':List Tn}{own:List Nat}{t t' p:Nat}{k:List UInt8}(J:Jt ns own t)(h:gm ns own t k p=.ok (t',ns')):Jt ns' (t' :: own) t'/\ns.length<=ns'.length/\ns'.length<=ns.length+2:=by
 unfold gm at h;have fin:∀{n:List Tn} {q:Nat},Jt n own q->Jt n (q :: own) q:=fun j=>⟨Qr _ _ j.wf _ j.lt,j.wt,j.lt,j.kd⟩
 cases hq:ai ns t k with
 | none =>
  rw[hq]at h
  cases h
  exact⟨fin (Qx J _ rfl rfl),by rw[dh];omega,by rw[dh];omega⟩
 | some q =>
  rw[hq]at h;simp only[]at h
  by_cases h0:ak ns q=0/\¬q∈own
  ·rw[if_pos h0]at h
   cases h
   exact⟨fin ⟨J.wf,J.wt,nM h0.1 (by omega),h0.1⟩,by omega,by omega⟩
  ·rw[if_neg h0]at h;cases h
theorem Qz{ns ns':List Tn}{own:List Nat}{t t' p:Nat}{k:List UInt8}(J:Jt ns own t)(h:gp ns t k p=.ok (t',ns')):Jt ns' (t' :: own) t'/\ns.length<=ns'.length/\ns'.length<=ns.length+2:=by
 unfold gp at h;have fin:∀{n:List Tn} {q:Nat},Jt n own q->Jt n (q :: own) q:=fun j=>⟨Qr _ _ j.wf _ j.lt,j.wt,j.lt,j.kd⟩
 cases hq:ai ns t k with
 | none =>
  rw[hq]at h
  cases h
  have hu:ns.length<(addN ns t ⟨2,k,[],0,[],p⟩).length:=by rw[dh];omega
  have w1:=qK ns own t ⟨2,k,[],0,[],p⟩ rfl J.lt J.wf;have w2:=qK _ own ns.length ⟨0,[],[],0,[],p⟩ rfl hu w1;have hl:(addN ns t ⟨2,k,[],0,[],p⟩).length=ns.length+1:=dh _ _ _;refine⟨fin ⟨w2,?_,by rw[dh,dh];omega,?_⟩,by rw[dh,dh];omega,by rw[dh,dh];omega⟩
  ·intro q h2;rw[fA _ _ _ hu,hl]at h2
   by_cases e1:q=ns.length+1
   ·rw[if_pos e1]at h2;exact absurd (show(0:Int)=2 from h2) (by decide)
   ·rw[if_neg e1,fA _ _ _ J.lt]at h2;rw[jM _ _ _ hu,hl,if_neg e1]
    by_cases e2:q=ns.length
    ·rw[if_pos e2];refine⟨by simp,fun x hx=>?_⟩;rw[jM _ _ _ J.lt,if_pos rfl]at hx;simp only[List.nil_append,List.mem_singleton]at hx;rw[fA _ _ _ hu,hl,if_pos hx]
    ·rw[if_neg e2]at h2;rw[if_neg e2];obtain⟨a,b⟩:=J.wt q h2;have jX:¬q=t:=fun e=>by rw[e,J.kd]at h2;exact absurd h2 (by decide)
     rw[jM _ _ _ J.lt,if_neg e2,if_neg jX];refine⟨a,fun x hx=>?_⟩;have:=J.wf.lt _ _ hx;rw[fA _ _ _ hu,hl,if_neg (by omega),fA _ _ _ J.lt,if_neg (by omega)];exact b x hx
  ·rw[fA _ _ _ hu,hl,if_pos rfl]
 | some q =>
  rw[hq]at h;simp only[]at h
  by_cases h2:ak ns q=2
  ·rw[if_pos h2]at h
   cases h
   have hu:=nM h2 (by omega);refine⟨fin ⟨qK ns own q _ rfl hu J.wf,JW ns own J.wf q _ hu J.wt (fun e=>absurd (show(0:Int)=2 from e) (by decide)) (Or.inr rfl),by rw[dh];omega,?_⟩,by rw[dh];omega,by rw[dh];omega⟩;rw[fA _ _ _ hu,if_pos rfl]
  ·rw[if_neg h2]at h;cases h
theorem A7(many:Bool)(own:List Nat)(k:List UInt8)(p t:Nat)(ns:List Tn):way many own [(k,p)] t ns=if many=true then gp ns t k p else gm ns own t k p:=rfl
theorem A8(many:Bool)(own:List Nat)(k:List UInt8)(p:Nat)(b:List UInt8 × Nat)(r:List (List UInt8 × Nat))(t:Nat)(ns:List Tn):way many own ((k,p) :: b :: r) t ns=match fO ns t k p with | .error e=>.error e | .ok (t1,ns1)=>way many own (b :: r) t1 ns1:=rfl
theorem QA(many:Bool)(own:List Nat):∀(l:List (List UInt8 × Nat)) (t:Nat) (ns ns':List Tn) (t':Nat),l≠[]->Jt ns own t->way many own l t ns=.ok (t',ns')->Jt ns' (t' :: own) t'/\ns.length<=ns'.length/\ns'.length<=ns.length+l.length+1
 | [],_,_,_,_,hl,_,_=>absurd rfl hl
 | [(k,p)],t,ns,ns',t',_,J,h=>by
  rw[A7]at h;split at h
  ·obtain⟨a,b,c⟩:=Qz J h;exact⟨a,b,by simp;omega⟩
  ·obtain⟨a,b,c⟩:=Qy J h;exact⟨a,b,by simp;omega⟩
 | (k,p) :: b :: r,t,ns,ns',t',_,J,h=>by
  rw[A8]at h
  cases hs:fO ns t k p with
  | error e=>rw[hs]at h;cases h
  | ok q =>
   obtain⟨t1,ns1⟩:=q;rw[hs]at h;obtain⟨a,b',c⟩:=AZ J hs;obtain⟨a2,b2,c2⟩:=QA many own (b :: r) t1 ns1 ns' t' (by simp) a h;refine⟨a2,by omega,?_⟩;simp only[List.length_cons]at c2 ⊢;omega
open Go.RowKit Go.Joins
theorem Yz(c:Int)(w:World):Calls prog 147 #[.int .i64 c] w fun e w'=>e=.returned (.bool (fM c))/\w'=w:=by
 go_enter func147,ntmps147;go_wp2
 all_goals go_ret
 all_goals (refine⟨bV ?_,rfl⟩;rw[Bool.eq_iff_iff];unfold fM;simp;try omega)
theorem Ff(c:Int)(w:World):Calls prog 151 #[.int .i64 c] w fun e w'=>e=.returned (.bool (au c))/\w'=w:=by
 go_enter func151,ntmps151;go_wp2
 all_goals go_ret
 all_goals (refine⟨bV ?_,rfl⟩;rw[Bool.eq_iff_iff];unfold au;simp;try omega)
theorem QB(c:Int)(w:World):Calls prog 150 #[.int .i64 c] w fun e w'=>e=.returned (.bool (bi c))/\w'=w:=by
 go_enter func150,ntmps150;go_wp2
 all_goals go_ret
 all_goals (refine⟨bV ?_,rfl⟩;rw[Bool.eq_iff_iff];unfold bi;simp;try omega)
theorem aG{w w1 w2:World}{r:Option Nat}(h:w.grownBy w1 r)(hg:w1.grownBy w2 none):w.grownBy w2 r :=
 ⟨hg.os.trans h.os,hg.tape.trans h.tape,hg.output.trans h.output,Nat.le_trans h.size hg.size,fun k hk hn=>(hg.block k (Nat.lt_of_lt_of_le hk h.size) (by simp)).trans (h.block k hk hn)⟩
def Rd(w:World)(R:Nat)(s:ByteArray)(i:Nat)(T:Nat):Prop:=w.heap[R]?=some (.cells #[.string s,.int .i64 (i:Nat),.pointer (some ⟨T,0,none⟩)] 125 (0,0))
theorem Rd.grow{w w':World}{R:Nat}{s:ByteArray}{i T:Nat}(h:Rd w R s i T)(hg:w.grownBy w' none):Rd w' R s i T:=(hg.block R (jU h) (by simp)).trans h
theorem Rd.cells{w:World}{R:Nat}{s:ByteArray}{i T:Nat}(h:Rd w R s i T):w.cell? ⟨R,0,none⟩=some (.string s)/\w.cell? ⟨R,1,none⟩=some (.int .i64 (i:Nat))/\w.cell? ⟨R,2,none⟩=some (.pointer (some ⟨T,0,none⟩))/\∀k,w.frozen? ⟨R,k,none⟩=false :=
 ⟨by rw[af h];rfl,by rw[af h];rfl,by rw[af h];rfl,fun k=>Lib.frozen_of_heap h k⟩
theorem Rd.set{w:World}{R:Nat}{s:ByteArray}{i T:Nat}(h:Rd w R s i T)(j:Nat):Rd (w.setCell ⟨R,1,none⟩ (.int .i64 (j:Nat))) R s j T:=by
 have:=block_setCell (i:=1) h (.int .i64 (j:Nat));exact this
theorem mV(R:Nat)(s:ByteArray)(i T:Nat)(w:World)(h:Rd w R s i T)(hi:i<=s.size)(hs:s.size<=1048576) :
  Calls prog 104 #[.pointer (some ⟨R,0,none⟩)] w fun e w'=>e=.returned (.int .i64 (nx s.data.toList i))/\w.grownBy w' none:=by
 obtain⟨c0,c1,-,-⟩:=h.cells;have hl:s.data.toList.length=s.size:=by simp
 by_cases he:i=s.size
 ·have hn:nx s.data.toList i=-1:=jG _ _ (by omega);rw[hn];have hee:((i:Int) == (s.size:Int))=true:=by simp[he]
  clear h hn he;go_enter func104,ntmps104;go_wp2;go_quiet (fail);go_wp2;go_ret;exact⟨rfl,aj (ax w none) _⟩
 ·have hlt:i<s.size:=by omega
  have hn:nx s.data.toList i=(s[i].toNat:Int):=by
   rw[pG _ _ (by omega)];rfl
  rw[hn];have hne:((i:Int) == (s.size:Int))=false:=by rw[beq_eq_false_iff_ne];omega
  clear h hn he;go_enter func104,ntmps104;go_wp2;go_quiet (fail);go_wp2;go_quiet (fail);go_wp2;go_ret;refine⟨dD ?_,⟨rfl,rfl,rfl,Nat.le_refl _,fun _ _ _=>rfl⟩⟩;have:=s[i].toNat_lt;show wrap64 (s[i].toNat:Int)=_;unfold wrap64;omega
theorem Fg(R:Nat)(s:ByteArray)(i T:Nat)(w:World)(h:Rd w R s i T)(hi:i<=s.size)(hs:s.size<=1048576) :
  Calls prog 103 #[.pointer (some ⟨R,0,none⟩)] w fun e w'=>e=.returned (.tuple #[])/\Rd w' R s (bl s.data.toList i) T/\w.grownBy w' (some R):=by
 have CN:Hd (∀k w,Rd w R s k T->k<=s.size->Calls prog 104 #[.pointer (some ⟨R,0,none⟩)] w fun e w'=>e=.returned (.int .i64 (nx s.data.toList k))/\w.grownBy w' none):=fun k w h1 h2=>mV R s k T w h1 h2 hs
 have CB:Hd (∀c w,Calls prog 147 #[.int .i64 c] w fun e w'=>e=.returned (.bool (fM c))/\w'=w):=Yz;have hl:s.data.toList.length=s.size:=by simp
 have HST:Hd (∀k,k<s.size->fM (nx s.data.toList k)=true->bl s.data.toList k=bl s.data.toList (k+1)):=fun k hk hb=>qH fM _ k (by omega) hb
 have jO:Hd (∀k,fM (nx s.data.toList k)=false->bl s.data.toList k=k):=fun k hb=>lX fM _ k hb
 have cZ:Hd (∀k,k<=s.size->fM (nx s.data.toList k)=true->k<s.size):=fun k hk hb=>by
  apply Classical.byContradiction;intro hn;rw[jG _ _ (by omega)]at hb;exact absurd hb (by decide)
 obtain⟨J,hJ⟩:=zN (bl s.data.toList i);have HJ:Hd (bl s.data.toList i=J):=hJ;have H0:Hd (Rd w R s i T):=h;rw[hJ];clear h hJ;go_enter func103,ntmps103;go_wp2;go_loopw [] (fun wr=>∃k:Nat,Rd wr R s k T/\k<=s.size/\bl s.data.toList k=J/\w.grownBy wr (some R)) (fun wr=>s.size-(match wr.cell? ⟨R,1,none⟩ with|some (.int _ k)=>k.toNat|_=>0))
 case atStart=>exact⟨i,H0.o,hi,HJ.o,ax _ _⟩
 case round =>
  obtain⟨k,hrd,hk,hbl,hg⟩:=hrel;have dB:Hd (Rd wr R s k T):=hrd;have fQ:Hd (bl s.data.toList k=J):=hbl;have HG:Hd (w.grownBy wr (some R)):=hg;have C1:Hd (Calls prog 104 #[.pointer (some ⟨R,0,none⟩)] wr fun e w'=>e=.returned (.int .i64 (nx s.data.toList k))/\wr.grownBy w' none):=CN.o k wr hrd hk;have hme:(match wr.cell? ⟨R,1,none⟩ with|some (.int _ k)=>k.toNat|_=>0)=k:=by rw[hrd.cells.2.1];simp
  have gK:Hd ((match wr.cell? ⟨R,1,none⟩ with|some (.int _ k)=>k.toNat|_=>0)=k):=hme;have dZ:Hd (fM (nx s.data.toList k)=true->bl s.data.toList k=bl s.data.toList (k+1)):=fun hb=>HST.o k (cZ.o k hk hb) hb
  have HS2:Hd (fM (nx s.data.toList k)=false->bl s.data.toList k=k):=jO.o k;have HL2:Hd (fM (nx s.data.toList k)=true->k<s.size):=cZ.o k hk;obtain⟨c,hc⟩:=zN (nx s.data.toList k);rw[hc]at C1 dZ HS2 HL2;have iK:Hd (∀w,Calls prog 147 #[.int .i64 c] w fun e w'=>e=.returned (.bool (fM c))/\w'=w):=fun w=>CB.o c w
  obtain⟨b,hb⟩:=zN (fM c);rw[hb]at iK dZ HS2 HL2;clear hrd hbl hg hme hc hb
  cases b with
  | false =>
   have uh:Hd (k=J):=(HS2.o (by trivial)).symm.trans fQ.o;go_wp2_with (first|(go_at_call 104;refine C1.o.mono ?_;rintro e w2 ⟨rfl,hg2⟩)|(go_at_call 147;refine(iK.o _).mono ?_;rintro e w' ⟨rfl,rfl⟩));refine bodyPost_end (results_none rfl _ _ _) rfl ⟨rfl,?_,aG HG.o hg2⟩;rw[<-uh.o];exact dB.o.grow hg2
  | true =>
   have hkl:k<s.size:=HL2.o (by trivial);have HN:Hd (bl s.data.toList (k+1)=J):=(dZ.o (by trivial)).symm.trans fQ.o;go_wp2_with (first|(go_at_call 104;refine C1.o.mono ?_;rintro e w2 ⟨rfl,hg2⟩;obtain⟨-,d1,-,df⟩:=(dB.o.grow hg2).cells;have df1:=df 1)|(go_at_call 147;refine(iK.o _).mono ?_;rintro e w' ⟨rfl,rfl⟩));have jH:Hd (Rd (w'.setCell ⟨R,1,none⟩ (.int .i64 ((k:Int)+1))) R s (k+1) T):=(dB.o.grow hg2).set (k+1);refine⟨⟨k+1,jH.o,by omega,HN.o,aQ (aG HG.o hg2) 1 _⟩,?_⟩;rw[gK.o,jH.o.cells.2.1];simp;omega
open Go.RowKit Go.Joins
theorem YA(c:Int)(w:World):Calls prog 200 #[.int .i64 c] w fun e w'=>e=.returned (.bool (xN c))/\w'=w:=by
 go_enter func200,ntmps200;go_wp2
 all_goals go_ret
 all_goals (refine⟨bV ?_,rfl⟩;rw[Bool.eq_iff_iff];unfold xN;simp;try omega)
theorem QC(c:Int)(w:World):Calls prog 155 #[.int .i64 c] w fun e w'=>e=.returned (.bool (ik c))/\w'=w:=by
 have CC:Hd (∀w,Calls prog 200 #[.int .i64 c] w fun e w'=>e=.returned (.bool (xN c))/\w'=w):=fun w=>YA c w
 have HB:Hd (ik c=(xN c && decide (c≠9))):=rfl;obtain⟨b,hb⟩:=zN (xN c);rw[hb]at CC HB;clear hb
 cases b with
 | false =>
  go_enter func155,ntmps155;go_wp2_with (go_at_call 200;refine(CC.o _).mono ?_;rintro e w' ⟨rfl,rfl⟩);go_ret;refine⟨bV ?_,rfl⟩;rw[HB.o];rfl
 | true =>
  go_enter func155,ntmps155;go_wp2_with (go_at_call 200;refine(CC.o _).mono ?_;rintro e w' ⟨rfl,rfl⟩)
  all_goals go_ret
  all_goals (refine⟨bV ?_,rfl⟩;rw[HB.o,Bool.eq_iff_iff];simp;try omega)
def FaultV(w:World)(v:Value)(p:Nat)(ty:TypeId)(pv:Value):Prop:=∃F,v=.iface 130 (.pointer (some ⟨F,0,none⟩))/\w.heap[F]?=some (.cells #[.int .i64 (p:Nat),.iface ty pv] 134 (0,0))
theorem FaultV.grow{w w':World}{v:Value}{p:Nat}{ty:TypeId}{pv:Value}(h:FaultV w v p ty pv)(hg:w.grownBy w' none):FaultV w' v p ty pv:=by
 obtain⟨F,h1,h2⟩:=h;exact⟨F,h1,(hg.block F (jU h2) (by simp)).trans h2⟩
theorem rV(p:Nat)(ty:TypeId)(pv:Value)(w:World):Calls prog 195 #[.iface ty pv,.int .i64 (p:Nat)] w fun e w'=>(∃v,e=.returned v/\FaultV w' v p ty pv)/\w.grownBy w' none:=by
 have hn:=heap_alloc_new w (.cells #[.int .i64 (p:Nat),.iface ty pv] 134);have hg:w.grownBy (w.alloc (.cells #[.int .i64 (p:Nat),.iface ty pv] 134)) none:=World.grownBy_alloc w _ none;have HN:Hd ((w.alloc (.cells #[.int .i64 (p:Nat),.iface ty pv] 134)).heap[w.heap.size]?=some (.cells #[.int .i64 (p:Nat),.iface ty pv] 134 (0,0))):=hn;have HG:Hd (w.grownBy (w.alloc (.cells #[.int .i64 (p:Nat),.iface ty pv] 134)) none):=hg;clear hn hg;go_enter func195,ntmps195;go_wp2;go_ret;exact⟨⟨_,rfl,_,rfl,HN.o⟩,HG.o⟩
def Fh(w:World)(ty:TypeId)(pv:Value):Prop:=w.cell? ⟨6,0,none⟩=some (.iface ty pv)
theorem vO(R:Nat)(s:ByteArray)(i T:Nat)(ty:TypeId)(pv:Value)(w:World)(h:Rd w R s i T)(he:Fh w ty pv) :
  Calls prog 156 #[.pointer (some ⟨R,0,none⟩)] w fun e w'=>(∃v,e=.returned v/\FaultV w' v i ty pv)/\w.grownBy w' none:=by
 have CW:Hd (∀w,Calls prog 195 #[.iface ty pv,.int .i64 (i:Nat)] w fun e w'=>(∃v,e=.returned v/\FaultV w' v i ty pv)/\w.grownBy w' none):=fun w=>rV i ty pv w
 obtain⟨-,c1,-,-⟩:=h.cells;have c0:w.cell? ⟨6,0,none⟩=some (.iface ty pv):=he;clear h he;go_enter func156,ntmps156;go_wp2;go_region_with (first|(go_at_call 195;refine(CW.o _).mono ?_;rintro e w2 ⟨⟨v,rfl,hv⟩,hg2⟩))
 all_goals (
  go_wp2;go_ret;exact⟨⟨v,rfl,hv⟩,ah (show w.grownBy w.drew none from⟨rfl,rfl,rfl,Nat.le_refl _,fun _ _ _=>rfl⟩) hg2⟩)
theorem JX(R:Nat)(s:ByteArray)(i T:Nat)(c:Int)(ty:TypeId)(pv:Value)(w:World)(h:Rd w R s i T)(hi:i<=s.size)(hs:s.size<=1048576)(hc:0<=c)(he:Fh w ty pv) :
  Calls prog 109 #[.pointer (some ⟨R,0,none⟩),.int .i64 c] w fun e w'=>(nx s.data.toList i=c->e=.returned .nilIface/\Rd w' R s (i+1) T)/\(¬nx s.data.toList i=c->(∃v,e=.returned v/\FaultV w' v i ty pv)/\Rd w' R s i T)/\w.grownBy w' (some R):=by
 have CN:Hd (Calls prog 104 #[.pointer (some ⟨R,0,none⟩)] w fun e w'=>e=.returned (.int .i64 (nx s.data.toList i))/\w.grownBy w' none):=mV R s i T w h hi hs;have CH:Hd (∀w',w.grownBy w' none->Calls prog 156 #[.pointer (some ⟨R,0,none⟩)] w' fun e w''=>(∃v,e=.returned v/\FaultV w'' v i ty pv)/\w'.grownBy w'' none):=fun w' hg=>vO R s i T ty pv w' (h.grow hg) (hg.cell he (by simp))
 have dB:Hd (Rd w R s i T):=h;obtain⟨x,hx⟩:=zN (nx s.data.toList i);rw[hx]at CN ⊢;clear h he hx;go_enter func109,ntmps109;go_wp2_with (go_at_call 104;refine CN.o.mono ?_);rintro e w2 ⟨rfl,hg2⟩;have HG2:Hd (w.grownBy w2 none):=hg2;obtain⟨-,d1,-,df⟩:=(dB.o.grow hg2).cells;have df1:=df 1;clear df hg2
 by_cases hxc:x=c
 ·have JY:Hd (x=c):=hxc;have HS:Hd (Rd (w2.setCell ⟨R,1,none⟩ (.int .i64 ((i:Int)+1))) R s (i+1) T):=(dB.o.grow HG2.o).set (i+1);have hb:(x != c)=false:=by simp[hxc]
  clear hxc;go_wp2;refine bodyPost_ret (results_tmp (t:=4) rfl _ _ _) rfl ⟨fun _=>⟨rfl,HS.o⟩,fun hn=>absurd JY.o hn,aQ (aG (ax w (some R)) HG2.o) 1 _⟩
 ·have hb:(x != c)=true:=by simp[hxc]
  have JY:Hd (¬x=c):=hxc;clear hxc;go_wp2_with (go_at_call 156;refine(CH.o _ HG2.o).mono ?_;rintro e w3 ⟨⟨v,rfl,hv⟩,hg3⟩);refine bodyPost_ret (results_tmp (t:=4) rfl _ _ _) rfl ⟨fun hh=>absurd hh JY.o,fun _=>⟨⟨v,rfl,hv⟩,(dB.o.grow HG2.o).grow hg3⟩,aG (aG (ax w (some R)) HG2.o) hg3⟩
end Go.Proofs.YtnnbgjaphfhibaaGreatDoor
