import Derived.Test.YtnnbgjaphfhibaaGreatDoorE06
import Derived.Test.YtnnbgjaphfhibaaGreatDoorE03
import Derived.Test.YtnnbgjaphfhibaaGreatDoorE04
import Derived.Deep.RegionHeld3
set_option linter.all false
set_option maxRecDepth 100000
set_option maxHeartbeats 0
open Go.Proofs.Tryz
namespace Go.Proofs.YtnnbgjaphfhibaaGreatDoor
open Go.RowKit Go.Joins
theorem G9(l:List UInt8)(i k:Nat):((⟨(l.drop i).toArray⟩:ByteArray).get! k).toNat=(l[i+k]?.getD 0).toNat:=by
 show(((l.drop i).toArray)[k]!).toNat=_;rw[Array.getElem!_eq_getD];simp[Array.getD_eq_getD_getElem?,List.getElem?_drop];rfl
theorem Ha(l:List UInt8)(i k:Nat)(hi:i<l.length):nx l (i+k)=if k<l.length-i then(((l[i+k]?.getD 0).toNat:Nat):Int) else -1:=by
 by_cases h:k<l.length-i
 ·rw[if_pos h,pX l (i+k) (by omega),List.getElem?_eq_getElem (by omega)];rfl
 ·rw[if_neg h,jJ l (i+k) (by omega)]
theorem abd(l:List UInt8)(i:Nat)(hi:i<l.length):Told (aJ l i) (Lib.decodeGo ⟨(l.drop i).toArray⟩):=by
 have hz:(⟨(l.drop i).toArray⟩:ByteArray).size=l.length-i:=by show(l.drop i).toArray.size=_;simp
 have e:Lib.decodeGo ⟨(l.drop i).toArray⟩=Lib.decodeN (l.length-i) (l[i]?.getD 0).toNat (l[i+1]?.getD 0).toNat (l[i+2]?.getD 0).toNat (l[i+3]?.getD 0).toNat:=by
  unfold Lib.decodeGo;rw[if_neg (by rw[hz];omega),Lib.decode_at,hz,G9,G9,G9,G9];rfl
 rw[e,aax];have h0:=Ha l i 0 hi;rw[if_pos (by omega)]at h0;have h00:nx l i=(((l[i]?.getD 0).toNat:Nat):Int):=h0;rw[h00];exact aaD _ _ _ _ _ _ _ _ (by omega) (UInt8.toNat_lt _) (UInt8.toNat_lt _) (UInt8.toNat_lt _) (UInt8.toNat_lt _) (Ha l i 1 hi) (Ha l i 2 hi) (Ha l i 3 hi)
theorem abe(l:List UInt8)(i:Nat)(hi:i<l.length)(w:World)(hT:Lib.Utf8Tabs 10 11 w) :
  Calls prog 216 #[.string ⟨(l.drop i).toArray⟩] w fun e w'=>∃r k:Nat,e=.returned (.tuple #[.int .i32 (r:Nat),.int .i64 (k:Nat)])/\Told (aJ l i) (r,k)/\Below w.heap.size w w' :=
 (Any.utf8_DecodeRuneInString Tryz.lays197 ⟨(l.drop i).toArray⟩ w hT).mono fun e w' h=>⟨_,_,h.1,abd l i hi,h.2⟩
open Go.RowKit Go.Joins
def Bd(w:World)(B b:Nat)(acc:List UInt8):Prop:=Lib.IsBuilderF 92 5 B b (Lib.byteCells acc) w
theorem TG{T e:TypeId}{B b R:Nat}{p:Value}{bs:List Value}{w w':World}(h:Lib.BuilderAtF T e B b p bs w)(hg:w.grownBy w' (some R))(hR:R<B):Lib.BuilderAtF T e B b p bs w':=by
 obtain⟨hB,v,hb,hown,hne⟩:=h;refine⟨hB,v,(hg.block b (dO hb) (fun e=>by cases e;omega)).trans hb,hown.kept hg ?_,hne⟩
 cases hv:v.ownBlock with
 | none=>exact Or.inl rfl
 | some k =>
  refine Or.inr fun e=>?_
  cases e
  have:=(hown.lt _ hv).1;omega
theorem Bd.grow{w w':World}{B b R:Nat}{acc:List UInt8}(h:Bd w B b acc)(hg:w.grownBy w' (some R))(hR:R<B):Bd w' B b acc:=h.imp (fun h=>TG h hg hR) (fun h=>TG h hg hR)
theorem abf(n:Nat)(hn:n<65536)(hs:qY n=false):Lib.runeCells (n:Nat)=Lib.byteCells (iE n):=by
 have h1:∀k:Nat,k<256->(UInt8.ofNat k).toNat=k:=fun k hk=>by simp;omega
 have hs':¬(55296<=n/\n<=57343):=by
  have:=of_decide_eq_false (show decide (55296<=(n:Int)/\(n:Int)<=57343)=false from hs);omega
 unfold Lib.runeCells Lib.byteCells iE
 by_cases a:n<128
 ·rw[Lib.encodeRuneZ_one (by omega) (by omega),if_pos a];simp only[List.map_cons,List.map_nil,h1 n (by omega)]
 rw[if_neg a]
 by_cases b:n<2048
 ·rw[Lib.encodeRuneZ_two (by omega) (by omega),if_pos b];simp only[List.map_cons,List.map_nil,h1 (192+n / 64) (by omega),h1 (128+n % 64) (by omega)];simp
 rw[if_neg b,Lib.encodeRuneZ_three (by omega)];simp only[List.map_cons,List.map_nil,h1 (224+n / 4096) (by omega),h1 (128+n / 64 % 64) (by omega),h1 (128+n % 64) (by omega)];simp
theorem TI(a b:List UInt8):Lib.byteCells (a++b)=Lib.byteCells a++Lib.byteCells b:=by simp[Lib.byteCells]
theorem TJ(a:List UInt8):(Lib.byteCells a).length=a.length:=by simp[Lib.byteCells]
theorem abg(B b n:Nat)(acc:List UInt8)(w:World)(h:Bd w B b acc)(hn:n<65536)(hs:qY n=false)(hl:acc.length<=1099511627776)(hB:B<=w.heap.size) :
  Calls prog 215 #[.pointer (some ⟨b,0,none⟩),.int .i32 (n:Nat)] w fun e w'=>(∃k:Int,e=.returned (.tuple #[.int .i64 k,.nilIface]))/\Bd w' B b (acc++iE n)/\Below B w w':=by
 refine(Any.Builder_WriteRune_k Tryz.lays168 Tryz.Builder_Extra_168 B b (Lib.byteCells acc) (n:Nat) (by omega) (by omega) w h (by rw[TJ];omega) hB).mono ?_;rintro e w' ⟨rfl,h1,h2,h3⟩;refine⟨⟨_,rfl⟩,Or.inr ?_,h2⟩;rw[TI,<-abf n hn hs];exact h1
theorem abh(B b:Nat)(acc x:List UInt8)(w:World)(h:Bd w B b acc)(hl:acc.length<=1099511627776)(hx:x.length<=1048576)(hB:B<=w.heap.size) :
  Calls prog 42 #[.pointer (some ⟨b,0,none⟩),.string ⟨x.toArray⟩] w fun e w'=>(∃k:Int,e=.returned (.tuple #[.int .i64 k,.nilIface]))/\Bd w' B b (acc++x)/\Below B w w':=by
 have hz:(⟨x.toArray⟩:ByteArray).size=x.length:=by show x.toArray.size=_;simp
 refine(Any.Builder_WriteString_f Tryz.lays166 Tryz.Builder_Extra_166 B b (Lib.byteCells acc) ⟨x.toArray⟩ w h (by rw[TJ,hz];omega) hB).mono ?_;rintro e w' ⟨rfl,h1,h2⟩;refine⟨⟨_,rfl⟩,Or.inr ?_,h2⟩;rw[TI];exact h1
theorem abj(B b:Nat)(acc:List UInt8)(w:World)(h:Bd w B b acc)(hB:B<=w.heap.size) :
  Calls prog 46 #[.pointer (some ⟨b,0,none⟩)] w fun e w'=>e=.returned (.string ⟨acc.toArray⟩)/\Below B w w' :=
 (Any.Builder_String_any_f Tryz.lays169 Tryz.Builder_Extra_169 B b acc w h hB).mono fun e w' h=>⟨h.1,h.2.2⟩
open Go.RowKit Go.Joins
theorem LH(l:List UInt8):∀k i n m j,i<=l.length->four l k i n=.ok (m,j)->j=i+k/\j<=l.length/\m<(n+1)*16 ^ k:=by
 intro k
 induction k with
 | zero =>
  intro i n m j hi h
  cases h
  exact⟨rfl,hi,by simp⟩
 | succ k ih =>
  intro i n m j hi h;rw[Cj]at h;split at h
  ·cases h
  ·rename_i hx;have hlt:i<l.length:=by
    apply Classical.byContradiction;intro hn;rw[jJ l i (by omega),KT]at hx;omega
   obtain⟨h1,h2,h3⟩:=ih (i+1) _ m j hlt h;have hb:=GH (nx l i);refine⟨by omega,h2,Nat.lt_of_lt_of_le h3 ?_⟩;rw[Nat.pow_succ,Nat.mul_comm (16 ^ k) 16,<-Nat.mul_assoc];exact Nat.mul_le_mul_right _ (by omega)
theorem TK(x:Int)(n:Nat)(h:mr x=some n):n<128/\0<=x:=by
 unfold mr at h
 repeat' split at h
 all_goals first|(cases h;omega)|(cases h)
theorem LJ(l:List UInt8)(i n j:Nat)(hi:i<l.length)(h:nY l i=.ok (n,j)):n<65536/\qY n=false/\i+2<=j/\j<=l.length:=by
 unfold nY at h;split at h
 ·rename_i hx;have hlt:=aY (by rw[hx];decide);unfold wO at h
  cases hf:four l 4 (i+2) 0 with
  | error e=>rw[hf]at h;cases h
  | ok q =>
   obtain⟨m,k⟩:=q;rw[hf]at h;have h2:(if qY m=true then Except.error (2,i) else Except.ok (m,k):Rs (Nat × Nat))=.ok (n,j):=h;split at h2
   ·cases h2
   ·rename_i hs
    cases h2
    obtain⟨h3,h4,h5⟩:=LH l 4 (i+2) 0 n j (by omega) hf;refine⟨by simpa using h5,by simpa using hs,by omega,h4⟩
 ·cases hc:mr (nx l (i+1)) with
  | none=>rw[hc]at h;cases h
  | some m =>
   rw[hc]at h
   cases h
   obtain⟨h1,h2⟩:=TK _ _ hc;have:=aY h2;refine⟨by omega,decide_eq_false (by omega),by omega,by omega⟩
theorem He(n:Nat):(iE n).length<=3:=by
 unfold iE
 repeat' split
 all_goals simp
theorem LK(l:List UInt8)(i:Nat)(hi:i<=l.length):i+aJ l i<=l.length:=by
 have key:∀k lo hi',0<=lo->dC l (i+k) lo hi'=true->i+k<l.length:=fun k lo hi' h0 h=>by
  have:=of_decide_eq_true h;exact aY (by omega)
 have hlo:0<=(if nx l i=224 then(160:Int) else if nx l i=240 then 144 else 128):=by
  repeat' split
  all_goals omega
 unfold aJ;simp only[];generalize (if nx l i=224 then(160:Int) else if nx l i=240 then 144 else 128)=lo at hlo ⊢;generalize (if nx l i=237 then(159:Int) else if nx l i=244 then 143 else 191)=hi';split
 ·omega
 ·rename_i h0;have hlt:i<l.length:=aY (by omega);split
  ·omega
  split
  ·omega
  split
  ·omega
  ·rename_i h1;have a1:=key 1 lo hi' hlo (by simpa using h1);split
   ·omega
   split
   ·omega
   ·rename_i h2;have a2:=key 2 128 191 (by omega) (by simpa using h2);split
    ·omega
    split
    ·omega
    ·rename_i h3;have a3:=key 3 128 191 (by omega) (by simpa using h3);omega
theorem yN(l:List UInt8)(f i:Nat)(acc:List UInt8):str l (f+1) i acc =
  if nx l i=34 then .ok (acc,i+1)
  else if nx l i=92 then(match esc l i with | .error e=>.error e | .ok (b,j)=>str l f j (acc++b))
  else if nx l i=-1\/ji (nx l i)=true then .error (2,i)
  else if aJ l i=0 then .error (2,i)
  else str l f (i+aJ l i) (acc++aj l i (aJ l i)):=rfl
theorem abk{w w1 w2:World}{r:Option Nat}{B:Nat}(h:w.grownBy w1 r)(hB:w.heap.size<=B)(hb:Below B w1 w2):w.grownBy w2 r :=
 ⟨hb.os.trans h.os,hb.tape.trans h.tape,hb.output.trans h.output,Nat.le_trans h.size hb.size,fun k hk hn=>(hb.block k (by omega)).trans (h.block k hk hn)⟩
theorem Rd.bel{w w':World}{R:Nat}{s:ByteArray}{i T B:Nat}(h:Rd w R s i T)(hR:R<B)(hb:Below B w w'):Rd w' R s i T:=(hb.block R hR).trans h
theorem Rd.lt{w:World}{R:Nat}{s:ByteArray}{i T:Nat}(h:Rd w R s i T):R<w.heap.size:=(dO h)
theorem abl{w w':World}{R g3 g4:Nat}(h:Lib.Utf8Tabs g3 g4 w)(h3:¬R=g3)(h4:¬R=g4)(hg:w.grownBy w' (some R)):Lib.Utf8Tabs g3 g4 w' :=
 ⟨fun c hc=>hg.cell (h.1 c hc) (by simp;exact fun e=>h3 e.symm),fun i hi=>⟨hg.cell (h.2 i hi).1 (by simp;exact fun e=>h4 e.symm),hg.cell (h.2 i hi).2 (by simp;exact fun e=>h4 e.symm)⟩⟩
open Go.RowKit Go.Joins
theorem abm(l:List UInt8)(i n j:Nat)(hi:i<l.length)(h:nY l i=.ok (n,j)):(iE n).length+i<=j:=by
 have h0:=h;unfold nY at h;split at h
 ·rename_i hx;have hlt:=aY (by rw[hx];decide);unfold wO at h
  cases hf:four l 4 (i+2) 0 with
  | error e=>rw[hf]at h;cases h
  | ok q =>
   obtain⟨m,k⟩:=q;rw[hf]at h;have h2:(if qY m=true then Except.error (2,i) else Except.ok (m,k):Rs (Nat × Nat))=.ok (n,j):=h;split at h2
   ·cases h2
   ·cases h2
    obtain⟨h3,h4,h5⟩:=LH l 4 (i+2) 0 n j (by omega) hf;have:=He n;omega
 ·cases hc:mr (nx l (i+1)) with
  | none=>rw[hc]at h;cases h
  | some m =>
   rw[hc]at h
   cases h
   obtain⟨h1,h2⟩:=TK _ _ hc;unfold iE;rw[if_pos h1];simp;omega
theorem Hf(l:List UInt8):∀(f i:Nat) (acc t:List UInt8) (j:Nat),i<=l.length->str l f i acc=.ok (t,j)->i<j/\j<=l.length/\t.length+i<=acc.length+j:=by
 intro f
 induction f with
 | zero=>intro i acc t j hi h;cases h
 | succ f ih =>
  intro i acc t j hi h;rw[yN]at h;split at h
  ·rename_i hx;have:=aY (l:=l) (i:=i) (by rw[hx];decide)
   cases h
   exact⟨by omega,by omega,by omega⟩
  ·split at h
   ·rename_i hx;have hlt:=aY (l:=l) (i:=i) (by rw[hx];decide);rw[KZ]at h
    cases he:nY l i with
    | error e=>rw[he]at h;cases h
    | ok q =>
     obtain⟨n,k⟩:=q;rw[he]at h;have h2:str l f k (acc++iE n)=.ok (t,j):=h;obtain⟨-,-,e3,e4⟩:=LJ l i n k hlt he;have e5:=abm l i n k hlt he;obtain⟨a,b,c⟩:=ih k _ t j e4 h2;rw[List.length_append]at c;exact⟨by omega,b,by omega⟩
   ·split at h
    ·cases h
    ·split at h
     ·cases h
     ·rename_i hs;have hk:=LK l i hi;obtain⟨a,b,c⟩:=ih (i+aJ l i) _ t j hk h;have hl:(aj l i (aJ l i)).length<=aJ l i:=by
       unfold aj;simp;omega
      rw[List.length_append]at c;exact⟨by omega,b,by omega⟩
theorem wU(l:List UInt8)(i:Nat)(k:List UInt8)(j:Nat)(hi:i<=l.length)(h:dm l i=.ok (k,j)):i<j/\j<=l.length/\k.length<=l.length:=by
 unfold dm at h;split at h
 ·rename_i hx;have hlt:=aY (l:=l) (i:=i) (by rw[hx];decide);obtain⟨a,b,c⟩:=Hf l _ (i+1) [] k j (by omega) h;simp at c;exact⟨by omega,b,by omega⟩
 ·split at h
  ·cases h
  ·rename_i hn;have:=pY bg l i hi
   cases h
   refine⟨by omega,by omega,?_⟩;unfold aj;simp;omega
open Go.RowKit Go.Joins
theorem abn(s:ByteArray)(k:Nat)(hk:k<=s.size)(w:World) :
  (Instr.slice 9 (.string s) (some (.int .i64 (k:Int))) none none).run prog w=.ok (.string ⟨(s.data.toList.drop k).toArray⟩) w:=by
 have h1:(0:Int)<=(k:Int):=by omega
 have h5:(k:Int)<=(s.size:Int):=by omega
 have e:s.extract k s.size=⟨(s.data.toList.drop k).toArray⟩:=by
  apply ByteArray.ext;rw[ByteArray.data_extract];apply Array.ext';simp;exact List.take_of_length_le (by simp)
 rw[<-e];simp[go_sem,underlying9,h1,h5]
def abo(R:Nat)(s:ByteArray)(T:Nat)(E:Int->TypeId × Value)(g:Rs (List UInt8 × Nat))(w:World)(e:Ending)(w':World):Prop:=(∀t j,g=.ok (t,j)->e=.returned (.tuple #[.string ⟨t.toArray⟩,.nilIface])/\Rd w' R s j T)/\(∀c p,g=.error (c,p)->∃v,e=.returned (.tuple #[.string ⟨#[]⟩,v])/\dF w' v E c p/\∃j,Rd w' R s j T)/\w.grownBy w' (some R)
theorem TL(R:Nat)(s:ByteArray)(i T:Nat)(E:Int->TypeId × Value)(w:World)(h:Rd w R s i T)(hi:i<s.size)(hs:s.size<=1048576)(he:Es w E)(hR:Far R)
  (hT:Lib.Utf8Tabs 10 11 w) (h3:¬R=10) (h4:¬R=11) :
  Calls prog 193 #[.pointer (some ⟨R,0,none⟩)] w (abo R s T E (str s.data.toList (s.data.toList.length+1) (i+1) []) w):=by
 have hl:s.data.toList.length=s.size:=by simp
 have CN:=ae (fun k w (h1:Rd w R s k T) (h2:k<=s.size)=>mX R s k T w h1 h2 hs);have CE:=ae (fun k w' (hg:w.grownBy w' (some R)) (hr:Rd w' R s k T) (hk:k<s.size)=>aaH R s k T E w' hr hk hs (he.grow hR hg) hR);have CB:=ae RN;have CH:Hd (∀k w',w.grownBy w' (some R)->Rd w' R s k T->Calls prog 156 #[.pointer (some ⟨R,0,none⟩)] w' fun e w''=>(∃v,e=.returned v/\dF w'' v E 2 k)/\w'.grownBy w'' none):=fun k w' hg hr=>wM R s k T (E 2).1 (E 2).2 w' hr (he.grow hR hg).te
 have CD:=ae (fun k w' (hg:w.grownBy w' (some R)) (hk:k<s.size)=>abe s.data.toList k (by omega) w' (abl hT h3 h4 hg));have HST:Hd (∀f i acc,str s.data.toList (f+1) i acc =
  if nx s.data.toList i=34 then .ok (acc,i+1)
  else if nx s.data.toList i=92 then(match esc s.data.toList i with | .error e=>.error e | .ok (b,j)=>str s.data.toList f j (acc++b))
  else if nx s.data.toList i=-1\/ji (nx s.data.toList i)=true then .error (2,i)
  else if aJ s.data.toList i=0 then .error (2,i)
  else str s.data.toList f (i+aJ s.data.toList i) (acc++aj s.data.toList i (aJ s.data.toList i))):=yN _
 have bP:Hd (∀k,0<=nx s.data.toList k->k<s.size):=fun k hb=>by rw[<-hl];exact aY hb
 have LM:Hd (∀k n j,k<s.size->nY s.data.toList k=.ok (n,j)->n<65536/\qY n=false/\k+2<=j/\j<=s.size):=fun k n j hk he=>by rw[<-hl];exact LJ _ k n j (by omega) he
 have LP:Hd (∀k,k<=s.size->k+aJ s.data.toList k<=s.size):=fun k hk=>by rw[<-hl];exact LK _ k (by omega)
 obtain⟨G,hG⟩:=zN (str s.data.toList (s.data.toList.length+1) (i+1) []);have jl:=ae hG;rw[hG];have H0:=ae h;have ni:=ae h.lt;have HS:Hd (Rd (w.setCell ⟨R,1,none⟩ (.int .i64 ((i:Int)+1))) R s (i+1) T):=h.set (i+1);have fD:Hd (w.grownBy (w.setCell ⟨R,1,none⟩ (.int .i64 ((i:Int)+1))) (some R)):=aS (au w (some R)) 1 _;obtain⟨-,c1,-,df⟩:=h.cells;have df1:=df 1;clear h hG he df hT;go_enter func193,ntmps193;go_wp2;have Ac:Hd (Bd ((w.setCell ⟨R,1,none⟩ (.int .i64 ((i:Int)+1))).alloc (.cells #[.pointer none,.slice none 0 0] 92)) w.heap.size w.heap.size []):=by
  refine Or.inl ⟨Nat.le_refl _,.slice none 0 0,?_,World.ownsRowF_nil _ _ _ _,by simp[Value.ownBlock]⟩;have:=heap_alloc_new (w.setCell ⟨R,1,none⟩ (.int .i64 ((i:Int)+1))) (.cells #[.pointer none,.slice none 0 0] 92);have e:(w.setCell ⟨R,1,none⟩ (.int .i64 ((i:Int)+1))).heap.size=w.heap.size:=by simp[World.setCell]
  rw[e]at this;exact this
 have dW:Hd ((w.setCell ⟨R,1,none⟩ (.int .i64 ((i:Int)+1))).grownBy ((w.setCell ⟨R,1,none⟩ (.int .i64 ((i:Int)+1))).alloc (.cells #[.pointer none,.slice none 0 0] 92)) none):=World.grownBy_alloc _ _ none;have HR1:=ae (HS.o.grow dW.o);have ax:=ae (aG fD.o dW.o);have wV:=ae (fun w' (hg:w.grownBy w' (some R))=>hg.size);have aH:=ae (fun w1 w2 (h1:w.grownBy w1 (some R)) (h2:Below w.heap.size w1 w2)=>abk h1 (Nat.le_refl _) h2);obtain⟨B,hB⟩:=zN (w.heap.size);rw[hB]at Ac ni wV aH ⊢;obtain⟨wA,hwA⟩:=zN (((w.setCell ⟨R,1,none⟩ (.int .i64 ((i:Int)+1))).alloc (.cells #[.pointer none,.slice none 0 0] 92)));rw[hwA]at Ac HR1 ax ⊢;clear hB hwA dW HS fD c1 df1 H0;go_loopw [] (fun wr=>∃(k f:Nat) (acc:List UInt8),Rd wr R s k T/\k<=s.size/\s.size-k<f/\str s.data.toList f k acc=G/\acc.length<=3*k/\Bd wr B B acc/\w.grownBy wr (some R)) (fun wr=>s.size-(match wr.cell? ⟨R,1,none⟩ with|some (.int _ k)=>k.toNat|_=>0))
 case atStart=>exact⟨i+1,s.data.toList.length+1,[],HR1.o,by omega,by omega,jl.o,by simp,Ac.o,ax.o⟩
 case round =>
  obtain⟨k,f,acc,hrd,hk,hf,hstr,hacc,hbd,hg⟩:=hrel;obtain⟨f,rfl⟩:∃f',f=f'+1:=⟨f-1,by omega⟩;have kZ:=ae hrd;have ku:=ae hg;have lg:=ae hbd;have ig:Hd ((match wr.cell? ⟨R,1,none⟩ with|some (.int _ k)=>k.toNat|_=>0)=k):=by show _=_;rw[hrd.cells.2.1];simp
  have C1:=ae (fun w' (h1:Rd w' R s k T)=>CN.o k w' h1 hk);have rC:=ae (bP.o k);have HXB:=ae ((Gv s.data.toList k).1);rw[HST.o]at hstr;obtain⟨x,hx⟩:=zN (nx s.data.toList k);rw[hx]at C1 rC HXB hstr;have uV:Hd ((if x=34 then .ok (acc,k+1)
   else if x=92 then(match esc s.data.toList k with | .error e=>.error e | .ok (b,j)=>str s.data.toList f j (acc++b))
   else if x=-1\/ji x=true then .error (2,k)
   else if aJ s.data.toList k=0 then .error (2,k)
   else str s.data.toList f (k+aJ s.data.toList k) (acc++aj s.data.toList k (aJ s.data.toList k)))=G):=hstr
  clear hrd hg hbd hx hstr
  by_cases h34:x=34
  ·have hb:(x != 34)=false:=by simp[h34]
   have aC:Hd (G=.ok (acc,k+1)):=by
    have:=uV.o;rw[if_pos h34]at this;exact this.symm
   have hkl:=rC.o (by omega);clear h34;go_wp2_with (first|(go_at_call 104;refine(C1.o _ kZ.o).mono ?_));rintro e w2 ⟨rfl,hg2⟩;have HR2:=ae (kZ.o.grow hg2);have HG2:=ae (aG ku.o hg2);obtain⟨-,d1,-,df⟩:=HR2.o.cells;have df2:=df 1;have HR3:Hd (Rd (w2.setCell ⟨R,1,none⟩ (.int .i64 ((k:Int)+1))) R s (k+1) T):=HR2.o.set (k+1);have aK:Hd (w.grownBy (w2.setCell ⟨R,1,none⟩ (.int .i64 ((k:Int)+1))) (some R)):=aS HG2.o 1 _;have CS:=ae (abj B B acc _ ((lg.o.grow (R:=R) (aS (aG (au wr (some R)) hg2) 1 _) ni.o)) (wV.o _ aK.o));clear hg2 df;go_wp2_with (go_at_call 46;refine CS.o.mono ?_;rintro e w4 ⟨rfl,hb4⟩);refine bodyPost_ret (results_tmp2 (t:=2) (u:=3) rfl _ _ _) rfl ?_;rw[aC.o];exact⟨fun t j hh=>(by cases hh;exact⟨rfl,HR3.o.bel ni.o hb4⟩),fun c p hh=>(by cases hh),aH.o _ _ aK.o hb4⟩
  ·have hb:(x != 34)=true:=by simp[h34]
   by_cases h92:x=92
   ·have hb2:(x == 92)=true:=by simp[h92]
    have hkl:=rC.o (by omega);have az:Hd ((match RZ (nY s.data.toList k) with | .error e=>.error e | .ok (b,j)=>str s.data.toList f j (acc++b))=G):=by
     have:=uV.o;rw[if_neg h34,if_pos h92,KZ]at this;exact this
    have tJ:=ae (fun w' (h1:w.grownBy w' (some R)) (h2:Rd w' R s k T)=>CE.o k w' h1 h2 hkl);have jC:=ae (fun n j (h:nY s.data.toList k=.ok (n,j))=>LM.o k n j hkl h);obtain⟨q,hq⟩:=zN (nY s.data.toList k);rw[hq]at az tJ jC;clear h34 h92 hq;go_wp2_with (go_at_call 104;refine(C1.o _ kZ.o).mono ?_);rintro e w2 ⟨rfl,hg2⟩;have HR2:=ae (kZ.o.grow hg2);have HG2:=ae (aG ku.o hg2);have HB2:=ae (lg.o.grow (R:=R) (aG (au wr (some R)) hg2) ni.o);clear hg2;go_wp2_with (go_at_call 104;refine(C1.o _ HR2.o).mono ?_);rintro e w3 ⟨rfl,hg3⟩;have HR3:=ae (HR2.o.grow hg3);have aK:=ae (aG HG2.o hg3);have HB3:=ae (HB2.o.grow (R:=R) (aG (au w2 (some R)) hg3) ni.o);clear hg3
    cases q with
    | error q =>
     obtain⟨c,q⟩:=q;have aC:Hd (G=.error (c,q)):=az.o.symm;go_wp2_with (go_at_call 214;refine(tJ.o _ aK.o HR3.o).mono ?_);rintro e w4 ⟨h1,h2,hg4⟩;obtain⟨v,rfl,⟨F,rfl,hF⟩,jj,hjj⟩:=h2 c q rfl;have HJJ:=ae hjj;clear hjj;have dZ:Hd (dF w4 (.iface 130 (.pointer (some ⟨F,0,none⟩))) E c q):=⟨F,rfl,hF⟩;have eX:=ae (dK aK.o hg4);clear h1 h2 hF hg4;go_wp2;refine bodyPost_ret (results_tmp2 (t:=2) (u:=3) rfl _ _ _) rfl ?_;rw[aC.o];exact⟨fun t j hh=>(by cases hh),fun c p hh=>(by cases hh;exact⟨_,rfl,dZ.o,jj,HJJ.o⟩),eX.o⟩
    | ok q =>
     obtain⟨n,j⟩:=q;obtain⟨hn1,hn2,hn3,hn4⟩:=jC.o n j rfl;have aC:Hd (str s.data.toList f j (acc++iE n)=G):=az.o;have hwl:=He n;go_wp2_with (first|(go_at_call 214;refine(tJ.o _ aK.o HR3.o).mono ?_));rintro e w4 ⟨h1,h2,hg4⟩;obtain⟨rfl,hr4⟩:=h1 n j rfl;have HR4:=ae hr4;have eX:=ae (dK aK.o hg4);have CWR:=ae (abg B B n acc w4 (HB3.o.grow hg4 ni.o) hn1 hn2 (by omega) (wV.o _ eX.o));clear h1 h2 hr4 hg4 hn1 hn2;go_wp2_with (go_at_call 215;refine CWR.o.mono ?_);rintro e w5 ⟨⟨kk,rfl⟩,hb5,hbel⟩;have kP:=ae (HR4.o.bel ni.o hbel);have iK:=ae (aH.o _ _ eX.o hbel);have tK:=ae hb5;clear hb5 hbel;go_wp2;refine⟨⟨j,f,acc++iE n,kP.o,hn4,by omega,aC.o,by rw[List.length_append];omega,tK.o,iK.o⟩,?_⟩;rw[ig.o,kP.o.cells.2.1];simp;omega
   ·have hb2:(x == 92)=false:=by simp[h92]
    go_wp2_with (go_at_call 104;refine(C1.o _ kZ.o).mono ?_);rintro e w2 ⟨rfl,hg2⟩;have HR2:=ae (kZ.o.grow hg2);have HG2:=ae (aG ku.o hg2);have HB2:=ae (lg.o.grow (R:=R) (aG (au wr (some R)) hg2) ni.o);clear hg2;go_wp2_with (go_at_call 104;refine(C1.o _ HR2.o).mono ?_);rintro e w3 ⟨rfl,hg3⟩;have HR3:=ae (HR2.o.grow hg3);have aK:=ae (aG HG2.o hg3);have HB3:=ae (HB2.o.grow (R:=R) (aG (au w2 (some R)) hg3) ni.o);clear hg3;have rD:Hd ((if x=-1\/ji x=true then .error (2,k)
     else if aJ s.data.toList k=0 then .error (2,k)
     else str s.data.toList f (k+aJ s.data.toList k) (acc++aj s.data.toList k (aJ s.data.toList k)))=G):=by
     have:=uV.o;rw[if_neg h34,if_neg h92]at this;exact this
    clear h34 h92
    by_cases he1:x=-1
    ·have hb3:(x == -1)=true:=by simp[he1]
     have aC:Hd (G=.error (2,k)):=by
      have:=rD.o;rw[if_pos (Or.inl he1)]at this;exact this.symm
     clear he1;go_wp2_with (first|(go_at_call 104;refine(C1.o _ HR3.o).mono ?_;rintro e w4 ⟨rfl,hg4⟩)|(go_at_call 156;refine(CH.o k _ (aG aK.o hg4) (HR3.o.grow hg4)).mono ?_;rintro e w5 ⟨⟨v,rfl,hv⟩,hg5⟩));refine bodyPost_ret (results_tmp2 (t:=2) (u:=3) rfl _ _ _) rfl ?_;rw[aC.o];exact⟨fun t j hh=>(by cases hh),fun c p hh=>(by cases hh;exact⟨v,rfl,hv,_,(HR3.o.grow hg4).grow hg5⟩),aG (aG aK.o hg4) hg5⟩
    ·have hb3:(x == -1)=false:=by simp[he1]
     have jk:=ae (fun w=>CB.o x w);obtain⟨br,hbr⟩:=zN (ji x);rw[hbr]at jk rD;have qc:=ae he1;clear hbr he1;go_wp2_with (go_at_call 104;refine(C1.o _ HR3.o).mono ?_);rintro e w4 ⟨rfl,hg4⟩;have HR4:=ae (HR3.o.grow hg4);have eX:=ae (aG aK.o hg4);have HB4:=ae (HB3.o.grow (R:=R) (aG (au w3 (some R)) hg4) ni.o);clear hg4;go_wp2_with (go_at_call 104;refine(C1.o _ HR4.o).mono ?_);rintro e w5 ⟨rfl,hg5⟩;have kP:=ae (HR4.o.grow hg5);have iK:=ae (aG eX.o hg5);have tK:=ae (HB4.o.grow (R:=R) (aG (au w4 (some R)) hg5) ni.o);clear hg5
     cases br with
     | true =>
      have aC:Hd (G=.error (2,k)):=by
       have:=rD.o;rw[if_pos (Or.inr rfl)]at this;exact this.symm
      go_wp2_with (first|(go_at_call 155;refine(jk.o _).mono ?_;rintro e w' ⟨rfl,rfl⟩)|(go_at_call 156;refine(CH.o k _ iK.o kP.o).mono ?_;rintro e w6 ⟨⟨v,rfl,hv⟩,eY⟩));refine bodyPost_ret (results_tmp2 (t:=2) (u:=3) rfl _ _ _) rfl ?_;rw[aC.o];exact⟨fun t j hh=>(by cases hh),fun c p hh=>(by cases hh;exact⟨v,rfl,hv,_,kP.o.grow eY⟩),aG iK.o eY⟩
     | false =>
      have hkl:=rC.o (by have:=HXB.o;have:=qc.o;omega);have tN:Hd ((if aJ s.data.toList k=0 then .error (2,k) else str s.data.toList f (k+aJ s.data.toList k) (acc++aj s.data.toList k (aJ s.data.toList k)))=G):=by
       have:=rD.o;rw[if_neg (by rintro(h|h);exact qc.o h;cases h)]at this;exact this
      have LQ:=LP.o k hk;have LU:Hd (∀w',w.grownBy w' (some R)->Calls prog 216 #[.string ⟨(s.data.toList.drop k).toArray⟩] w' fun e w''=>∃(ri:Int) (n:Nat),e=.returned (.tuple #[.int .i32 ri,.int .i64 (n:Nat)])/\(aJ s.data.toList k=0->ri=65533/\n=1)/\(0<aJ s.data.toList k->n=aJ s.data.toList k/\(ri=65533->¬n=1))/\w'.grownBy w'' none):=fun w' hg=>by
       refine(CD.o k w' hg hkl).mono ?_;rintro e w'' ⟨r,n,rfl,⟨t1,t2⟩,hb⟩;refine⟨(r:Nat),n,rfl,fun h0=>?_,fun h0=>?_,⟨hb.os,hb.tape,hb.output,hb.size,fun k hk _=>hb.block k hk⟩⟩
       ·have:=t1 h0;simp only[Prod.mk.injEq]at this;omega
       ·obtain⟨a1,a2⟩:=t2 h0;refine⟨a1,fun hr hn=>a2 ⟨?_,hn⟩⟩;show r=65533;omega
      have iJ:Hd ((aj s.data.toList k (aJ s.data.toList k)).length<=aJ s.data.toList k):=by
       show _<=_;unfold aj;rw[List.length_take];omega
      have s1:=fun wx=>abn s k hk wx
      have s2:∀wx,(Instr.slice 9 (.string s) (some (.int .i64 (k:Int))) (some (.int .i64 ((k:Int)+((aJ s.data.toList k:Nat):Int)))) none).run prog wx=.ok (.string ⟨(aj s.data.toList k (aJ s.data.toList k)).toArray⟩) wx:=fun wx=>by
       have:=lM s k (k+aJ s.data.toList k) (by omega) LQ wx;rw[show k+aJ s.data.toList k-k=aJ s.data.toList k by omega]at this;simpa using this
      obtain⟨X,hX⟩:∃X:ByteArray,⟨(s.data.toList.drop k).toArray⟩=X:=⟨_,rfl⟩;rw[hX]at s1 LU;obtain⟨S,hS⟩:=zN (aJ s.data.toList k);rw[hS]at tN LQ LU s2 iJ;obtain⟨Y,hY⟩:=zN (aj s.data.toList k S);rw[hY]at tN s2 iJ;have hYl:=iJ.o;have TM:=ae (fun w' (h1:Bd w' B B acc) (h2:B<=w'.heap.size)=>abh B B acc Y w' h1 (by omega) (by omega) h2);obtain⟨Z,hZ⟩:∃Z:ByteArray,⟨Y.toArray⟩=Z:=⟨_,rfl⟩;rw[hZ]at TM s2;clear hX hS hY hZ;go_wp2_with (go_at_call 155;refine(jk.o _).mono ?_;rintro e w' ⟨rfl,rfl⟩);obtain⟨d0,d1,-,-⟩:=kP.o.cells;have uX:=LU.o w'.drew (ay iK.o 1);have CD2:=ae uX;clear uX
      go_region_held3 (fun u=>u.cell? ⟨R,0,none⟩=some (.string s)/\u.cell? ⟨R,1,none⟩=some (.int .i64 (k:Int))) ((first|exact⟨World.grownBy.cell (by assumption) (And.left (by assumption)) (by simp),World.grownBy.cell (by assumption) (And.right (by assumption)) (by simp)⟩|go_keep)) (first|(go_at_call 216;refine CD2.o.mono ?_;rintro e w6 ⟨ri,n,rfl,t1,t2,eY⟩))
      have og:=ai (show w'.grownBy w'.drew none from⟨rfl,rfl,rfl,Nat.le_refl _,fun _ _ _=>rfl⟩) eY;have oh:=ae (kP.o.grow og);have mD:=ae (aG iK.o og);have Hg:=ae (tK.o.grow (R:=R) (aG (au w' (some R)) og) ni.o)
      by_cases hS0:S=0
      ·obtain⟨rfl,rfl⟩:=t1 hS0;have aC:Hd (G=.error (2,k)):=by
        have:=tN.o;rw[if_pos hS0]at this;exact this.symm
       clear t1 t2 eY og hS0;go_wp2_with (go_at_call 156;refine(CH.o k _ mD.o oh.o).mono ?_;rintro e w7 ⟨⟨v,rfl,hv⟩,lT⟩);refine bodyPost_ret (results_tmp2 (t:=2) (u:=3) rfl _ _ _) rfl ?_;rw[aC.o];exact⟨fun t j hh=>(by cases hh),fun c p hh=>(by cases hh;exact⟨v,rfl,hv,_,oh.o.grow lT⟩),aG mD.o lT⟩
      ·obtain⟨hnS,hne⟩:=t2 (by omega);subst hnS;have aC:Hd (str s.data.toList f (k+n) (acc++Y)=G):=by
        have:=tN.o;rw[if_neg hS0]at this;exact this
       have hcase:((ri == 65533)=true/\((n:Int) == 1)=false)\/(ri == 65533)=false:=by
        by_cases hr:ri=65533
        ·refine Or.inl ⟨by simp[hr],?_⟩;have:=hne hr;rw[beq_eq_false_iff_ne];omega
        ·exact Or.inr (by simp[hr])
       have CWS:Hd (Calls prog 42 #[.pointer (some ⟨B,0,none⟩),.string Z] w6.drew fun e w''=>(∃k:Int,e=.returned (.tuple #[.int .i64 k,.nilIface]))/\Hd (Rd w'' R s k T/\w.grownBy w'' (some R)/\Bd w'' B B (acc++Y))/\(w''.cell? ⟨R,0,none⟩=some (.string s)/\w''.cell? ⟨R,1,none⟩=some (.int .i64 (k:Int)))):=by
        refine(TM.o w6.drew (Hg.o.grow (R:=R) (show w6.grownBy w6.drew (some R) from⟨rfl,rfl,rfl,Nat.le_refl _,fun _ _ _=>rfl⟩) ni.o) (wV.o w6.drew (ay mD.o 1))).mono ?_;rintro e w'' ⟨h1,h2,h3⟩;have hr:=Rd.bel (w:=w6.drew) oh.o ni.o h3;exact⟨h1,⟨hr,aH.o _ _ (ay mD.o 1) h3,h2⟩,hr.cells.1,hr.cells.2.1⟩
       obtain⟨d0,d1,-,-⟩:=oh.o.cells;have hn0:0<n:=by omega
       clear t1 t2 eY og hS0 hne;have hwr:IntKind.i64.wrap ((k:Int)+(n:Int))=(k:Int)+(n:Int):=by
        simp[IntKind.wrap,IntKind.bits,IntKind.signed];omega
       rcases hcase with⟨hq1,hq2⟩|hq1
       all_goals (
        go_wp2
        go_region_held3 (fun u=>u.cell? ⟨R,0,none⟩=some (.string s)/\u.cell? ⟨R,1,none⟩=some (.int .i64 (k:Int))) ((first|assumption|go_keep)) (first|(go_at_call 42;refine CWS.o.mono ?_;rintro e w7 ⟨⟨kk,rfl⟩,hall,hcl⟩))
        have wW:=ae hall.o.1;have o6:=ae hall.o.2.1;have rE:=ae hall.o.2.2;obtain⟨-,e1,-,ef⟩:=wW.o.cells;have ef1:=ef 1;have uY:Hd (Rd (w7.setCell ⟨R,1,none⟩ (.int .i64 ((k:Int)+(n:Int)))) R s (k+n) T):=by
         have:=wW.o.set (k+n);rw[Int.natCast_add]at this;exact this
        have Hl:Hd (w.grownBy (w7.setCell ⟨R,1,none⟩ (.int .i64 ((k:Int)+(n:Int)))) (some R)):=aS o6.o 1 _;have Dk:Hd (Bd (w7.setCell ⟨R,1,none⟩ (.int .i64 ((k:Int)+(n:Int)))) B B (acc++Y)):=rE.o.grow (R:=R) (aS (au w7 (some R)) 1 _) ni.o;clear hall hcl ef;go_wp2;clear hwr;refine⟨⟨k+n,f,acc++Y,uY.o,LQ,by omega,aC.o,by rw[List.length_append];omega,Dk.o,Hl.o⟩,?_⟩;rw[ig.o,uY.o.cells.2.1];show s.size-((k+n:Nat):Int).toNat<s.size-k;rw[Int.toNat_natCast];omega)
end Go.Proofs.YtnnbgjaphfhibaaGreatDoor
