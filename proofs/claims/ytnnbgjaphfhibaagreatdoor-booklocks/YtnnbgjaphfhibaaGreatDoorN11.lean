import Derived.Test.YtnnbgjaphfhibaaGreatDoorN07
import Derived.Test.YtnnbgjaphfhibaaGreatDoorN06
import Derived.Test.YtnnbgjaphfhibaaGreatDoorN03
import Derived.Test.YtnnbgjaphfhibaaGreatDoorN04
set_option linter.unusedVariables false
set_option linter.unusedSimpArgs false
set_option maxRecDepth 100000
set_option maxHeartbeats 6400000
open Go.Proofs.Tryz
namespace Go.Proofs.YtnnbgjaphfhibaaGreatDoor
open Go.RowKit Go.Joins
theorem ET(l:List UInt8)(i k:Nat):((⟨(l.drop i).toArray⟩:ByteArray).get! k).toNat=(l[i+k]?.getD 0).toNat:=by
 show(((l.drop i).toArray)[k]!).toNat=_;rw[Array.getElem!_eq_getD];simp[Array.getD_eq_getD_getElem?,List.getElem?_drop];rfl
theorem EU(l:List UInt8)(i k:Nat)(hi:i<l.length):nx l (i+k)=if k<l.length-i then(((l[i+k]?.getD 0).toNat:Nat):Int) else -1:=by
 by_cases h:k<l.length-i
 ·rw[if_pos h,oP l (i+k) (by omega),List.getElem?_eq_getElem (by omega)];rfl
 ·rw[if_neg h,ji l (i+k) (by omega)]
theorem Ym(l:List UInt8)(i:Nat)(hi:i<l.length):Told (aJ l i) (Lib.decodeGo ⟨(l.drop i).toArray⟩):=by
 have hz:(⟨(l.drop i).toArray⟩:ByteArray).size=l.length-i:=by show(l.drop i).toArray.size=_;simp
 have e:Lib.decodeGo ⟨(l.drop i).toArray⟩=Lib.decodeN (l.length-i) (l[i]?.getD 0).toNat (l[i+1]?.getD 0).toNat (l[i+2]?.getD 0).toNat (l[i+3]?.getD 0).toNat:=by
  unfold Lib.decodeGo;rw[if_neg (by rw[hz];omega),Lib.decode_at,hz,ET,ET,ET,ET];rfl
 rw[e,XC];have h0:=EU l i 0 hi;rw[if_pos (by omega)]at h0;have h00:nx l i=(((l[i]?.getD 0).toNat:Nat):Int):=h0;rw[h00];exact XI _ _ _ _ _ _ _ _ (by omega) (UInt8.toNat_lt _) (UInt8.toNat_lt _) (UInt8.toNat_lt _) (UInt8.toNat_lt _) (EU l i 1 hi) (EU l i 2 hi) (EU l i 3 hi)
theorem Yn(l:List UInt8)(i:Nat)(hi:i<l.length)(w:World)(hT:Lib.Utf8Tabs 10 11 w) :
  Calls prog 216 #[.string ⟨(l.drop i).toArray⟩] w fun e w'=>∃r k:Nat,e=.returned (.tuple #[.int .i32 (r:Nat),.int .i64 (k:Nat)])/\Told (aJ l i) (r,k)/\Below w.heap.size w w' :=
 (Any.utf8_DecodeRuneInString Tryz.lays197 ⟨(l.drop i).toArray⟩ w hT).mono fun e w' h=>⟨_,_,h.1,Ym l i hi,h.2⟩
open Go.RowKit Go.Joins
def Bd(w:World)(B b:Nat)(acc:List UInt8):Prop:=Lib.IsBuilderF 92 5 B b (Lib.byteCells acc) w
theorem Qg{T e:TypeId}{B b R:Nat}{p:Value}{bs:List Value}{w w':World}(h:Lib.BuilderAtF T e B b p bs w)(hg:w.grownBy w' (some R))(hR:R<B):Lib.BuilderAtF T e B b p bs w':=by
 obtain⟨hB,v,hb,hown,hne⟩:=h;refine⟨hB,v,(hg.block b (kG hb) (fun e=>by cases e;omega)).trans hb,hown.kept hg ?_,hne⟩
 cases hv:v.ownBlock with
 | none=>exact Or.inl rfl
 | some k =>
  refine Or.inr fun e=>?_
  cases e
  have:=(hown.lt _ hv).1;omega
theorem Bd.grow{w w':World}{B b R:Nat}{acc:List UInt8}(h:Bd w B b acc)(hg:w.grownBy w' (some R))(hR:R<B):Bd w' B b acc:=h.imp (fun h=>Qg h hg hR) (fun h=>Qg h hg hR)
theorem Yo(n:Nat)(hn:n<65536)(hs:ny n=false):Lib.runeCells (n:Nat)=Lib.byteCells (fO n):=by
 have h1:∀k:Nat,k<256->(UInt8.ofNat k).toNat=k:=fun k hk=>by simp;omega
 have hs':¬(55296<=n/\n<=57343):=by
  have:=of_decide_eq_false (show decide (55296<=(n:Int)/\(n:Int)<=57343)=false from hs);omega
 unfold Lib.runeCells Lib.byteCells fO
 by_cases a:n<128
 ·rw[Lib.encodeRuneZ_one (by omega) (by omega),if_pos a];simp only[List.map_cons,List.map_nil,h1 n (by omega)]
 rw[if_neg a]
 by_cases b:n<2048
 ·rw[Lib.encodeRuneZ_two (by omega) (by omega),if_pos b];simp only[List.map_cons,List.map_nil,h1 (192+n / 64) (by omega),h1 (128+n % 64) (by omega)];simp
 rw[if_neg b,Lib.encodeRuneZ_three (by omega)];simp only[List.map_cons,List.map_nil,h1 (224+n / 4096) (by omega),h1 (128+n / 64 % 64) (by omega),h1 (128+n % 64) (by omega)];simp
theorem Qh(a b:List UInt8):Lib.byteCells (a++b)=Lib.byteCells a++Lib.byteCells b:=by simp[Lib.byteCells]
theorem Qi(a:List UInt8):(Lib.byteCells a).length=a.length:=by simp[Lib.byteCells]
theorem Yp(B b n:Nat)(acc:List UInt8)(w:World)(h:Bd w B b acc)(hn:n<65536)(hs:ny n=false)(hl:acc.length<=1099511627776)(hB:B<=w.heap.size) :
  Calls prog 215 #[.pointer (some ⟨b,0,none⟩),.int .i32 (n:Nat)] w fun e w'=>(∃k:Int,e=.returned (.tuple #[.int .i64 k,.nilIface]))/\Bd w' B b (acc++fO n)/\Below B w w':=by
 refine(Any.Builder_WriteRune_k Tryz.lays168 Tryz.Builder_Extra_168 B b (Lib.byteCells acc) (n:Nat) (by omega) (by omega) w h (by rw[Qi];omega) hB).mono ?_;rintro e w' ⟨rfl,h1,h2,h3⟩;refine⟨⟨_,rfl⟩,Or.inr ?_,h2⟩;rw[Qh,<-Yo n hn hs];exact h1
theorem Yq(B b:Nat)(acc x:List UInt8)(w:World)(h:Bd w B b acc)(hl:acc.length<=1099511627776)(hx:x.length<=1048576)(hB:B<=w.heap.size) :
  Calls prog 42 #[.pointer (some ⟨b,0,none⟩),.string ⟨x.toArray⟩] w fun e w'=>(∃k:Int,e=.returned (.tuple #[.int .i64 k,.nilIface]))/\Bd w' B b (acc++x)/\Below B w w':=by
 have hz:(⟨x.toArray⟩:ByteArray).size=x.length:=by show x.toArray.size=_;simp
 refine(Any.Builder_WriteString_f Tryz.lays166 Tryz.Builder_Extra_166 B b (Lib.byteCells acc) ⟨x.toArray⟩ w h (by rw[Qi,hz];omega) hB).mono ?_;rintro e w' ⟨rfl,h1,h2⟩;refine⟨⟨_,rfl⟩,Or.inr ?_,h2⟩;rw[Qh];exact h1
theorem Yr(B b:Nat)(acc:List UInt8)(w:World)(h:Bd w B b acc)(hB:B<=w.heap.size) :
  Calls prog 46 #[.pointer (some ⟨b,0,none⟩)] w fun e w'=>e=.returned (.string ⟨acc.toArray⟩)/\Below B w w' :=
 (Any.Builder_String_any_f Tryz.lays169 Tryz.Builder_Extra_169 B b acc w h hB).mono fun e w' h=>⟨h.1,h.2.2⟩
open Go.RowKit Go.Joins
theorem Jh(l:List UInt8):∀k i n m j,i<=l.length->four l k i n=.ok (m,j)->j=i+k/\j<=l.length/\m<(n+1)*16 ^ k:=by
 intro k
 induction k with
 | zero =>
  intro i n m j hi h
  cases h
  exact⟨rfl,hi,by simp⟩
 | succ k ih =>
  intro i n m j hi h;rw[Af]at h;split at h
  ·cases h
  ·rename_i hx;have hlt:i<l.length:=by
    apply Classical.byContradiction;intro hn;rw[ji l i (by omega),IX]at hx;omega
   obtain⟨h1,h2,h3⟩:=ih (i+1) _ m j hlt h;have hb:=Ey (nx l i);refine⟨by omega,h2,Nat.lt_of_lt_of_le h3 ?_⟩;rw[Nat.pow_succ,Nat.mul_comm (16 ^ k) 16,<-Nat.mul_assoc];exact Nat.mul_le_mul_right _ (by omega)
theorem Qj(x:Int)(n:Nat)(h:lI x=some n):n<128/\0<=x:=by
 unfold lI at h
 repeat' split at h
 all_goals first|(cases h;omega)|(cases h)
theorem Ji(l:List UInt8)(i n j:Nat)(hi:i<l.length)(h:lJ l i=.ok (n,j)):n<65536/\ny n=false/\i+2<=j/\j<=l.length:=by
 unfold lJ at h;split at h
 ·rename_i hx;have hlt:i+1<l.length:=bu (by rw[hx];decide);unfold tK at h
  cases hf:four l 4 (i+2) 0 with
  | error e=>rw[hf]at h;cases h
  | ok q =>
   obtain⟨m,k⟩:=q;rw[hf]at h;have h2:(if ny m=true then Except.error (2,i) else Except.ok (m,k):Rs (Nat × Nat))=.ok (n,j):=h;split at h2
   ·cases h2
   ·rename_i hs
    cases h2
    obtain⟨h3,h4,h5⟩:=Jh l 4 (i+2) 0 n j (by omega) hf;refine⟨by simpa using h5,by simpa using hs,by omega,h4⟩
 ·cases hc:lI (nx l (i+1)) with
  | none=>rw[hc]at h;cases h
  | some m =>
   rw[hc]at h
   cases h
   obtain⟨h1,h2⟩:=Qj _ _ hc;have:=bu h2;refine⟨by omega,decide_eq_false (by omega),by omega,by omega⟩
theorem EW(n:Nat):(fO n).length<=3:=by
 unfold fO
 repeat' split
 all_goals simp
theorem Jj(l:List UInt8)(i:Nat)(hi:i<=l.length):i+aJ l i<=l.length:=by
 have key:∀k lo hi',0<=lo->dC l (i+k) lo hi'=true->i+k<l.length:=fun k lo hi' h0 h=>by
  have:=of_decide_eq_true h;exact bu (by omega)
 have hlo:0<=(if nx l i=224 then(160:Int) else if nx l i=240 then 144 else 128):=by
  repeat' split
  all_goals omega
 unfold aJ;simp only[];generalize (if nx l i=224 then(160:Int) else if nx l i=240 then 144 else 128)=lo at hlo ⊢;generalize (if nx l i=237 then(159:Int) else if nx l i=244 then 143 else 191)=hi';split
 ·omega
 ·rename_i h0;have hlt:i<l.length:=bu (by omega);split
  ·omega
  split
  ·omega
  split
  ·omega
  ·rename_i h1;have a1:=key 1 lo hi' hlo (by simpa using h1);split
   ·omega
   split
   ·omega
   ·rename_i h2;have a2:=key 2 128 191 (by omega) (by simpa using h2);split
    ·omega
    split
    ·omega
    ·rename_i h3;have a3:=key 3 128 191 (by omega) (by simpa using h3);omega
theorem Az(l:List UInt8)(f i:Nat)(acc:List UInt8):str l (f+1) i acc =
  if nx l i=34 then .ok (acc,i+1)
  else if nx l i=92 then(match esc l i with | .error e=>.error e | .ok (b,j)=>str l f j (acc++b))
  else if nx l i=-1\/gG (nx l i)=true then .error (2,i)
  else if aJ l i=0 then .error (2,i)
  else str l f (i+aJ l i) (acc++ag l i (aJ l i)):=rfl
theorem Yt{w w1 w2:World}{r:Option Nat}{B:Nat}(h:w.grownBy w1 r)(hB:w.heap.size<=B)(hb:Below B w1 w2):w.grownBy w2 r :=
 ⟨hb.os.trans h.os,hb.tape.trans h.tape,hb.output.trans h.output,Nat.le_trans h.size hb.size,fun k hk hn=>(hb.block k (by omega)).trans (h.block k hk hn)⟩
theorem Rd.bel{w w':World}{R:Nat}{s:ByteArray}{i T B:Nat}(h:Rd w R s i T)(hR:R<B)(hb:Below B w w'):Rd w' R s i T:=(hb.block R hR).trans h
theorem Rd.lt{w:World}{R:Nat}{s:ByteArray}{i T:Nat}(h:Rd w R s i T):R<w.heap.size:=(kG h)
theorem Yu{w w':World}{R g3 g4:Nat}(h:Lib.Utf8Tabs g3 g4 w)(h3:¬R=g3)(h4:¬R=g4)(hg:w.grownBy w' (some R)):Lib.Utf8Tabs g3 g4 w' :=
 ⟨fun c hc=>hg.cell (h.1 c hc) (by simp;exact fun e=>h3 e.symm),fun i hi=>⟨hg.cell (h.2 i hi).1 (by simp;exact fun e=>h4 e.symm),hg.cell (h.2 i hi).2 (by simp;exact fun e=>h4 e.symm)⟩⟩
open Go.RowKit Go.Joins
theorem Yv(l:List UInt8)(i n j:Nat)(hi:i<l.length)(h:lJ l i=.ok (n,j)):(fO n).length+i<=j:=by
 have h0:=h;unfold lJ at h;split at h
 ·rename_i hx;have hlt:i+1<l.length:=bu (by rw[hx];decide);unfold tK at h
  cases hf:four l 4 (i+2) 0 with
  | error e=>rw[hf]at h;cases h
  | ok q =>
   obtain⟨m,k⟩:=q;rw[hf]at h;have h2:(if ny m=true then Except.error (2,i) else Except.ok (m,k):Rs (Nat × Nat))=.ok (n,j):=h;split at h2
   ·cases h2
   ·cases h2
    obtain⟨h3,h4,h5⟩:=Jh l 4 (i+2) 0 n j (by omega) hf;have:=EW n;omega
 ·cases hc:lI (nx l (i+1)) with
  | none=>rw[hc]at h;cases h
  | some m =>
   rw[hc]at h
   cases h
   obtain⟨h1,h2⟩:=Qj _ _ hc;unfold fO;rw[if_pos h1];simp;omega
theorem EX(l:List UInt8):∀(f i:Nat) (acc t:List UInt8) (j:Nat),i<=l.length->str l f i acc=.ok (t,j)->i<j/\j<=l.length/\t.length+i<=acc.length+j:=by
 intro f
 induction f with
 | zero=>intro i acc t j hi h;cases h
 | succ f ih =>
  intro i acc t j hi h;rw[Az]at h;split at h
  ·rename_i hx;have:=bu (l:=l) (i:=i) (by rw[hx];decide)
   cases h
   exact⟨by omega,by omega,by omega⟩
  ·split at h
   ·rename_i hx;have hlt:=bu (l:=l) (i:=i) (by rw[hx];decide);rw[I4]at h
    cases he:lJ l i with
    | error e=>rw[he]at h;cases h
    | ok q =>
     obtain⟨n,k⟩:=q;rw[he]at h;have h2:str l f k (acc++fO n)=.ok (t,j):=h;obtain⟨-,-,e3,e4⟩:=Ji l i n k hlt he;have e5:=Yv l i n k hlt he;obtain⟨a,b,c⟩:=ih k _ t j e4 h2;rw[List.length_append]at c;exact⟨by omega,b,by omega⟩
   ·split at h
    ·cases h
    ·split at h
     ·cases h
     ·rename_i hs;have hk:=Jj l i hi;obtain⟨a,b,c⟩:=ih (i+aJ l i) _ t j hk h;have hl:(ag l i (aJ l i)).length<=aJ l i:=by
       unfold ag;simp;omega
      rw[List.length_append]at c;exact⟨by omega,b,by omega⟩
theorem uZ(l:List UInt8)(i:Nat)(k:List UInt8)(j:Nat)(hi:i<=l.length)(h:bW l i=.ok (k,j)):i<j/\j<=l.length/\k.length<=l.length:=by
 unfold bW at h;split at h
 ·rename_i hx;have hlt:=bu (l:=l) (i:=i) (by rw[hx];decide);obtain⟨a,b,c⟩:=EX l _ (i+1) [] k j (by omega) h;simp at c;exact⟨by omega,b,by omega⟩
 ·split at h
  ·cases h
  ·rename_i hn;have:=oQ aN l i hi
   cases h
   refine⟨by omega,by omega,?_⟩;unfold ag;simp;omega
open Go.RowKit Go.Joins
theorem vg(l:List UInt8):∀(f i j:Nat),i<=l.length->gap l f i=.ok j->i<=j/\j<=l.length:=by
 intro f
 induction f with
 | zero=>intro i j hi h;cases h
 | succ f ih =>
  intro i j hi h;rw[tH]at h;have h1:=jA l i hi;have h2:=Aa l (bl l i) h1.2;split at h
  ·cases h
  ·split at h
   ·rename_i hx;have h3:=bu (l:=l) (i:=(bi l (bl l i)).2) (by rw[hx];decide);have:=ih _ j (by omega) h;omega
   ·cases h
    omega
theorem Qk(l:List UInt8)(i:Nat)(n:Int)(j:Nat)(hi:i<l.length)(h:iQ l i=.ok (n,j)):i<j/\j<=l.length:=by
 unfold iQ at h;simp only[]at h;have ha:i<=(if ax (nx l i)=true then i else i+1)/\(if ax (nx l i)=true then i else i+1)<=l.length:=by split<;>omega
 generalize (if ax (nx l i)=true then i else i+1)=a at h ha;have hj:=oQ ax l a ha.2;split at h
 ·cases h
 ·rename_i hn;split at h
  ·cases h
  ·have hne:¬toR ax l a=a:=fun e=>hn (Or.inl e)
   cases h
   omega
theorem Ql(l:List UInt8)(i:Nat)(n:Int)(j:Nat)(hi:i<=l.length)(h:kH l i=.ok (n,j)):i<j/\j<=l.length:=by
 rw[EF]at h;have hj:=oQ aZ l i hi;have key:∀t:List UInt8,ag l i (toR aZ l i-i)=t->t≠[]->i<toR aZ l i:=fun t e ht=>by
  apply Classical.byContradiction;intro hn;apply ht;rw[<-e];unfold ag;rw[show toR aZ l i-i=0 by omega];simp
 split at h
 ·rename_i e;have:=key _ e (by simp)
  cases h
  omega
 ·split at h
  ·rename_i e;have:=key _ e (by simp)
   cases h
   omega
  ·cases h
structure Ad(ns ns':List Tn)(own:List Nat)(i j n:Nat):Prop where
 wf:WF ns' own
 wt:WT ns'
 lo:ns.length<=ns'.length
 hi:ns'.length+i<=ns.length+j
 kd:∀q,q<ns.length->aj ns' q=aj ns q
 fw:i<j
 en:j<=n
theorem yI{ns:List Tn}{own:List Nat}{up i j n:Nat}{x:Tn}(W:WF ns own)(V:WT ns)(hu:up<ns.length)(h2:¬aj ns up=2)(hx:x.ks=[])(hk:¬x.kd=2)(hij:i<j)(hjn:j<=n):Ad ns (addN ns up x) own i j n :=
 ⟨qx ns own up x hx hu W,Jc ns own W up x hu V hk (Or.inl h2),by rw[bZ];omega,by rw[bZ];omega,fun q hq=>by rw[eQ ns up x hu,if_neg (by omega)],hij,hjn⟩
theorem Ad.trans{a b c:List Tn}{own:List Nat}{i j k n:Nat}(h:Ad a b own i j n)(h':Ad b c own j k n):Ad a c own i k n :=
 ⟨h'.wf,h'.wt,Nat.le_trans h.lo h'.lo,by have:=h.hi;have:=h'.hi;omega,fun q hq=>(h'.kd q (Nat.lt_of_lt_of_le hq h.lo)).trans (h.kd q hq),Nat.lt_trans h.fw h'.fw,h'.en⟩
theorem rJ(l:List UInt8)(f i up:Nat)(k:List UInt8)(p d:Nat)(ns:List Tn):val l (f+1) i up k p d ns =
  if nx l i=34 then(match str l (l.length+1) (i+1) [] with | .error e=>.error e | .ok (t,j)=>.ok (j,addN ns up ⟨3,k,t,0,[],p⟩))
  else if nx l i=43\/nx l i=45\/ax (nx l i)=true then(match iQ l i with | .error e=>.error e | .ok (n,j)=>.ok (j,addN ns up ⟨4,k,[],n,[],p⟩))
  else if nx l i=116\/nx l i=102 then(match kH l i with | .error e=>.error e | .ok (n,j)=>.ok (j,addN ns up ⟨5,k,[],n,[],p⟩))
  else if nx l i=91 then(if d=8 then .error (4,i) else lst l f (i+1) ns.length (d+1) (addN ns up ⟨1,k,[],0,[],p⟩))
  else .error (2,i):=by
 rw[val];rfl
theorem AA(l:List UInt8)(f i up d:Nat)(ns:List Tn):lst l (f+1) i up d ns =
  match gap l (l.length+1) i with
  | .error e=>.error e
  | .ok j =>
   if nx l j=93 then .ok (j+1,ns)
   else match val l f j up [] j d ns with
    | .error e=>.error e
    | .ok (j1,ns1)=>match gap l (l.length+1) j1 with
     | .error e=>.error e
     | .ok j2=>if nx l j2=44 then lst l f (j2+1) up d ns1 else if nx l j2=93 then .ok (j2+1,ns1) else .error (2,j2):=by
 rw[lst];rfl
theorem EY(l:List UInt8)(own:List Nat):∀f:Nat,(∀i up k p d ns j ns',i<=l.length->WF ns own->WT ns->up<ns.length->¬aj ns up=2->val l f i up k p d ns=.ok (j,ns')->Ad ns ns' own i j l.length)/\(∀i up d ns j ns',i<=l.length->WF ns own->WT ns->up<ns.length->¬aj ns up=2->lst l f i up d ns=.ok (j,ns')->WF ns' own/\WT ns'/\ns.length<=ns'.length/\ns'.length+i<=ns.length+j/\(∀q,q<ns.length->aj ns' q=aj ns q)/\i<j/\j<=l.length):=by
 intro f
 induction f with
 | zero =>
  refine⟨fun i up k p d ns j ns' _ _ _ _ _ h=>?_,fun i up d ns j ns' _ _ _ _ _ h=>?_⟩
  ·rw[val]at h;cases h
  ·rw[lst]at h;cases h
 | succ f ih =>
  refine⟨fun i up k p d ns j ns' hi W V hu h2 h=>?_,fun i up d ns j ns' hi W V hu h2 h=>?_⟩
  ·rw[rJ]at h;split at h
   ·rename_i hx;have hlt:=bu (l:=l) (i:=i) (by rw[hx];decide)
    cases hs:str l (l.length+1) (i+1) [] with
    | error e=>rw[hs]at h;cases h
    | ok q =>
     obtain⟨t,j'⟩:=q;rw[hs]at h;obtain⟨a,b,-⟩:=EX l _ (i+1) [] t j' (by omega) hs
     cases h
     exact yI W V hu h2 rfl (fun e=>absurd (show(3:Int)=2 from e) (by decide)) (by omega) b
   ·split at h
    ·rename_i hx;have hlt:i<l.length:=by
      apply bu
      rcases hx with hx|hx|hx
      ·rw[hx];decide
      ·rw[hx];decide
      ·have:=of_decide_eq_true hx;omega
     cases hs:iQ l i with
     | error e=>rw[hs]at h;cases h
     | ok q =>
      obtain⟨t,j'⟩:=q;rw[hs]at h;obtain⟨a,b⟩:=Qk l i t j' hlt hs
      cases h
      exact yI W V hu h2 rfl (fun e=>absurd (show(4:Int)=2 from e) (by decide)) a b
    ·split at h
     ·cases hs:kH l i with
      | error e=>rw[hs]at h;cases h
      | ok q =>
       obtain⟨t,j'⟩:=q;rw[hs]at h;obtain⟨a,b⟩:=Ql l i t j' hi hs
       cases h
       exact yI W V hu h2 rfl (fun e=>absurd (show(5:Int)=2 from e) (by decide)) a b
     ·split at h
      ·rename_i hx;have hlt:=bu (l:=l) (i:=i) (by rw[hx];decide);split at h
       ·cases h
       ·have A:=yI (i:=i) (j:=i+1) (n:=l.length) (x:=⟨1,k,[],0,[],p⟩) W V hu h2 rfl (fun e=>absurd (show(1:Int)=2 from e) (by decide)) (by omega) (by omega);obtain⟨a1,a2,a3,a4,a5,a6,a7⟩:=ih.2 (i+1) ns.length (d+1) _ j ns' (by omega) A.wf A.wt (by rw[bZ];omega) (by rw[eQ ns up _ hu,if_pos rfl];exact fun e=>absurd (show(1:Int)=2 from e) (by decide)) h;have e1:=A.hi;have e2:=A.lo;exact⟨a1,a2,by omega,by omega,fun q hq=>(a5 q (by omega)).trans (A.kd q hq),by omega,a7⟩
      ·cases h
  ·rw[AA]at h
   cases hg:gap l (l.length+1) i with
   | error e=>rw[hg]at h;cases h
   | ok j0 =>
    rw[hg]at h;simp only[]at h;obtain⟨g1,g2⟩:=vg l _ i j0 hi hg;split at h
    ·rename_i hx;have hlt:=bu (l:=l) (i:=j0) (by rw[hx];decide)
     cases h
     exact⟨W,V,Nat.le_refl _,by omega,fun _ _=>rfl,by omega,by omega⟩
    ·cases hv:val l f j0 up [] j0 d ns with
     | error e=>rw[hv]at h;cases h
     | ok q =>
      obtain⟨j1,ns1⟩:=q;rw[hv]at h;simp only[]at h;have A:=ih.1 j0 up [] j0 d ns j1 ns1 g2 W V hu h2 hv;have e1:=A.hi;have e2:=A.lo;have e3:=A.fw;have e4:=A.en
      cases hg2:gap l (l.length+1) j1 with
      | error e=>rw[hg2]at h;cases h
      | ok j2 =>
       rw[hg2]at h;simp only[]at h;obtain⟨g3,g4⟩:=vg l _ j1 j2 A.en hg2;split at h
       ·rename_i hx;have hlt:=bu (l:=l) (i:=j2) (by rw[hx];decide);obtain⟨a1,a2,a3,a4,a5,a6,a7⟩:=ih.2 (j2+1) up d ns1 j ns' (by omega) A.wf A.wt (by omega) (by rw[A.kd up hu];exact h2) h;exact⟨a1,a2,by omega,by omega,fun q hq=>(a5 q (by omega)).trans (A.kd q hq),by omega,a7⟩
       ·split at h
        ·rename_i hx;have hlt:=bu (l:=l) (i:=j2) (by rw[hx];decide)
         cases h
         exact⟨A.wf,A.wt,A.lo,by omega,A.kd,by omega,by omega⟩
        ·cases h
end Go.Proofs.YtnnbgjaphfhibaaGreatDoor
