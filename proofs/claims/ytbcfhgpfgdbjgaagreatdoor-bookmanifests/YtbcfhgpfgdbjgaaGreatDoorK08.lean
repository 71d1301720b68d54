import Derived.Test.YtbcfhgpfgdbjgaaGreatDoorK01
import Derived.Test.YtbcfhgpfgdbjgaaGreatDoorK02
import Derived.Test.YtbcfhgpfgdbjgaaGreatDoorK03
import Derived.Lib.AtoiTie
import Derived.Deep.RegionHeld3
import Derived.Test.YtbcfhgpfgdbjgaaGreatDoorK05
set_option linter.all false
set_option maxRecDepth 100000
set_option maxHeartbeats 0
open Go.Proofs.Tryz
namespace Go.Proofs.YtbcfhgpfgdbjgaaGreatDoor
open Go.RowKit Go.Joins
variable{s:ByteArray}{B R T b i:Nat}{w w':World}
def mV(x:Int):Option Nat:=if x=98 then some 8 else if x=116 then some 9 else if x=110 then some 10 else if x=102 then some 12 else if x=114 then some 13 else if x=34 then some 34 else if x=92 then some 92 else none
def oL(l:List UInt8)(i:Nat):Rs (Nat × Nat) :=
 if nx l (i+1)=117 then xE l (i+2) i
 else match mV (nx l (i+1)) with
  |some n=>.ok (n,i+2)
  |none=>.error (2,i+1)
def UC:Rs (Nat × Nat)->Rs (List UInt8 × Nat)
 | .error e=>.error e
 | .ok (n,j)=>.ok (gU n,j)
theorem Nj(l:List UInt8)(i:Nat):esc l i=UC (oL l i):=by
 unfold esc oL
 by_cases h:nx l (i+1)=117
 ·rw[if_pos h,if_pos h];unfold xE MK rQ Ew
  cases four l 4 (i+2) 0 with
  |error e=>rfl
  |ok q=>
   obtain⟨n,j⟩:=q;simp only[decide_eq_true_eq]
   by_cases h2:55296<=n/\n<=57343
   ·rw[if_pos h2,if_pos (by omega)];rfl
   ·rw[if_neg h2,if_neg (by omega)];rfl
 ·rw[if_neg h,if_neg h];unfold mV
  repeat' split
  all_goals first|rfl|(simp_all;done)|(simp_all;subst_vars;rfl)
theorem aca{a b:Int}{v:Value}(h:a=b):Ending.returned (.tuple #[.int .i32 a,v])=.returned (.tuple #[.int .i32 b,v]):=by rw[h]
theorem acb(b:UInt8)(h:mV (b.toNat:Int)=none):Lib.indexByte [98,116,110,102,114,34,92] b=-1:=by
 have key:∀n:Fin 256,mV ((UInt8.ofNat n.val).toNat:Int)=none->Lib.indexByte [98,116,110,102,114,34,92] (UInt8.ofNat n.val)=-1:=by decide
 have:=key ⟨b.toNat,b.toNat_lt⟩;simp only[UInt8.ofNat_toNat]at this;exact this h
theorem acd(b:UInt8)(n:Nat)(h:mV (b.toNat:Int)=some n):(Lib.indexByte [98,116,110,102,114,34,92] b=0/\n=8)\/(Lib.indexByte [98,116,110,102,114,34,92] b=1/\n=9)\/(Lib.indexByte [98,116,110,102,114,34,92] b=2/\n=10)\/(Lib.indexByte [98,116,110,102,114,34,92] b=3/\n=12)\/(Lib.indexByte [98,116,110,102,114,34,92] b=4/\n=13)\/(Lib.indexByte [98,116,110,102,114,34,92] b=5/\n=34)\/(Lib.indexByte [98,116,110,102,114,34,92] b=6/\n=92):=by
 have e:∀k:Nat,(b.toNat:Int)=(k:Int)->b=UInt8.ofNat k:=fun k hk=>by
  have:b.toNat=k:=by omega
  rw[<-this];simp
 unfold mV at h;split at h
 ·rename_i hb;rw[e 98 hb];cases h;exact Or.inl ⟨by decide,rfl⟩
 split at h
 ·rename_i hb;rw[e 116 hb];cases h;exact Or.inr (Or.inl ⟨by decide,rfl⟩)
 split at h
 ·rename_i hb;rw[e 110 hb];cases h;exact Or.inr (Or.inr (Or.inl ⟨by decide,rfl⟩))
 split at h
 ·rename_i hb;rw[e 102 hb];cases h;exact Or.inr (Or.inr (Or.inr (Or.inl ⟨by decide,rfl⟩)))
 split at h
 ·rename_i hb;rw[e 114 hb];cases h;exact Or.inr (Or.inr (Or.inr (Or.inr (Or.inl ⟨by decide,rfl⟩))))
 split at h
 ·rename_i hb;rw[e 34 hb];cases h;exact Or.inr (Or.inr (Or.inr (Or.inr (Or.inr (Or.inl ⟨by decide,rfl⟩)))))
 split at h
 ·rename_i hb;rw[e 92 hb];cases h;exact Or.inr (Or.inr (Or.inr (Or.inr (Or.inr (Or.inr ⟨by decide,rfl⟩)))))
 ·cases h
theorem ace(R:Nat)(s:ByteArray)(i T:Nat)(E:Int->TypeId × Value)(w:World)(h:Rd w R s i T)(hi:i<s.size)(hs:s.size<=1048576)(he:Es w E)(hR:Far R) :
  Calls prog 150 #[.pointer (some ⟨R,0,none⟩)] w (MM R s T E (oL s.data.toList i) w):=by
 have CN:=ae (fun k w (h1:Rd w R s k T) (h2:k<=s.size)=>nN R s k T w h1 h2 hs);have CI:Hd (∀c w,Calls prog 172 #[.string ⟨#[98,116,110,102,114,34,92]⟩,.int .u8 c] w fun e w'=>e=.returned (.int .i64 (Lib.indexByte [98,116,110,102,114,34,92] c.toNat.toUInt8))/\w'=w):=fun c w=>Any.strings_IndexByte Tryz.lays137 ⟨#[98,116,110,102,114,34,92]⟩ c w
 have CU:=ae (fun k w' (hg:w.grownBy w' (some R)) (hr:Rd w' R s k T) (hk:k<=s.size)=>abm R s k T i E w' hr hk hs (he.grow hR hg) hR);have CH:Hd (∀k w',w.grownBy w' (some R)->Rd w' R s k T->Calls prog 104 #[.pointer (some ⟨R,0,none⟩)] w' fun e w''=>(∃v,e=.returned v/\dD w'' v E 2 k)/\w'.grownBy w'' none):=fun k w' hg hr=>xC R s k T (E 2).1 (E 2).2 w' hr (he.grow hR hg).te
 have hl:s.data.toList.length=s.size:=by simp
 obtain⟨G,hG⟩:=zN (oL s.data.toList i);have iT:Hd ((if nx s.data.toList (i+1)=117 then xE s.data.toList (i+2) i else match mV (nx s.data.toList (i+1)) with|some n=>.ok (n,i+2)|none=>.error (2,i+1))=G):=hG;rw[hG];have H0:=ae h;have HS:Hd (Rd (w.setCell ⟨R,1,none⟩ (.int .i64 ((i:Int)+1))) R s (i+1) T):=h.set (i+1);have kC:Hd (w.grownBy (w.setCell ⟨R,1,none⟩ (.int .i64 ((i:Int)+1))) (some R)):=aT (ax w (some R)) 1 _;have dC:Hd (∀k,k<=s.size->¬nx s.data.toList k=-1->k<s.size):=fun k hk hn=>by
  apply Classical.byContradiction;intro hh;exact hn (jF _ _ (by omega))
 have HAT:Hd (∀k (hk:k<s.size),nx s.data.toList k=(s[k].toNat:Int)):=fun k hk=>by
  rw[qG _ _ (by omega)];rfl
 have mO:Hd (mV (-1)=none):=by show _=_;decide
 obtain⟨-,c1,-,df⟩:=h.cells;have df1:=df 1;clear h hG he df;go_enter func150,ntmps150;obtain⟨m,hm⟩:=zN (i+1);have hm2:i+2=m+1:=by omega
 rw[hm]at HS;rw[hm2,hm]at iT;have hml:m<=s.size:=by omega
 have C1:=ae (fun w (h1:Rd w R s m T)=>CN.o m w h1 hml);have zq:=dC.o m hml;have HA1:=ae (HAT.o m);obtain⟨x,hx⟩:=zN (nx s.data.toList m);rw[hx]at C1 zq iT HA1;have HL2:=ae zq;clear hx zq hm hm2;go_wp2_with (go_at_call 67;refine(C1.o _ HS.o).mono ?_);rintro e w2 ⟨rfl,hg2⟩;have HR2:=ae (HS.o.grow hg2);have HG2:=ae (aP kC.o hg2);clear hg2
 by_cases h117:x=117
 ·have hb:(x == 117)=true:=by simp[h117]
  have UD:=HL2.o (by rw[h117];decide);have aJ:Hd (xE s.data.toList (m+1) i=G):=by
   have:=iT.o;rw[if_pos h117]at this;exact this
  obtain⟨-,d1,-,df⟩:=HR2.o.cells;have df2:=df 1;have kV:Hd (Rd (w2.setCell ⟨R,1,none⟩ (.int .i64 ((m:Int)+1))) R s (m+1) T):=HR2.o.set (m+1);have aU:Hd (w.grownBy (w2.setCell ⟨R,1,none⟩ (.int .i64 ((m:Int)+1))) (some R)):=aT HG2.o 1 _;have UE:Hd (Calls prog 171 #[.pointer (some ⟨R,0,none⟩),.int .i64 (i:Nat)] (w2.setCell ⟨R,1,none⟩ (.int .i64 ((m:Int)+1))) (MM R s T E G (w2.setCell ⟨R,1,none⟩ (.int .i64 ((m:Int)+1))))):=by
   rw[<-aJ.o];exact CU.o (m+1) _ aU.o kV.o (by omega)
  clear h117 df
  cases G with
  |ok q=>
   obtain⟨n,j⟩:=q;go_wp2_with (go_at_call 171;refine UE.o.mono ?_;rintro e w4 ⟨h1,h2,h3⟩;obtain⟨rfl,hr4⟩:=h1 n j rfl);refine bodyPost_ret (results_tmp2 (t:=2) (u:=3) rfl _ _ _) rfl ?_;exact⟨fun n j hh=>(by cases hh;exact⟨rfl,hr4⟩),fun c p hh=>(by cases hh),dK aU.o h3⟩
  |error q=>
   obtain⟨c,q⟩:=q;go_wp2_with (go_at_call 171;refine UE.o.mono ?_;rintro e w4 ⟨h1,h2,h3⟩;obtain⟨v,rfl,hv,jj,hjj⟩:=h2 c q rfl);refine bodyPost_ret (results_tmp2 (t:=2) (u:=3) rfl _ _ _) rfl ?_;exact⟨fun n j hh=>(by cases hh),fun c p hh=>(by cases hh;exact⟨v,rfl,hv,jj,hjj⟩),dK aU.o h3⟩
 ·have hb:(x == 117)=false:=by simp[h117]
  by_cases he1:x=-1
  ·have hb2:(x == -1)=true:=by simp[he1]
   have aJ:Hd (G=.error (2,m)):=by
    have:=iT.o;rw[if_neg h117,he1,mO.o]at this;exact this.symm
   clear h117 he1;go_wp2_with (first|(go_at_call 67;refine(C1.o _ HR2.o).mono ?_;rintro e w3 ⟨rfl,hg3⟩)|(go_at_call 104;refine(CH.o m _ (aP HG2.o hg3) (HR2.o.grow hg3)).mono ?_;rintro e w5 ⟨⟨v,rfl,hv⟩,hg5⟩));refine bodyPost_ret (results_tmp2 (t:=2) (u:=3) rfl _ _ _) rfl ?_;rw[aJ.o];exact⟨fun n j hh=>(by cases hh),fun c p hh=>(by cases hh;exact⟨v,rfl,hv,_,(HR2.o.grow hg3).grow hg5⟩),aP (aP HG2.o hg3) hg5⟩
  ·have hb2:(x == -1)=false:=by simp[he1]
   have UD:=HL2.o he1;obtain⟨b,hbm⟩:=zN (s[m]);have hxm:x=(b.toNat:Int):=by rw[<-hbm];exact HA1.o UD
   have aJ:Hd ((match mV x with|some n=>.ok (n,m+1)|none=>.error (2,m))=G):=by
    have:=iT.o;rw[if_neg h117]at this;exact this
   have gK:Hd (∀w,Calls prog 172 #[.string ⟨#[98,116,110,102,114,34,92]⟩,.int .u8 (b.toNat:Int)] w fun e w'=>e=.returned (.int .i64 (Lib.indexByte [98,116,110,102,114,34,92] b))/\w'=w):=fun w=>by
    have:=CI.o (b.toNat:Int) w;simpa using this
   have jI:Hd (mV x=none->Lib.indexByte [98,116,110,102,114,34,92] b=-1):=by rw[hxm];exact acb b
   have UF:Hd (∀n,mV x=some n->(Lib.indexByte [98,116,110,102,114,34,92] b=0/\n=8)\/(Lib.indexByte [98,116,110,102,114,34,92] b=1/\n=9)\/(Lib.indexByte [98,116,110,102,114,34,92] b=2/\n=10)\/(Lib.indexByte [98,116,110,102,114,34,92] b=3/\n=12)\/(Lib.indexByte [98,116,110,102,114,34,92] b=4/\n=13)\/(Lib.indexByte [98,116,110,102,114,34,92] b=5/\n=34)\/(Lib.indexByte [98,116,110,102,114,34,92] b=6/\n=92)):=by rw[hxm];exact acd b
   obtain⟨K,hK⟩:=zN (Lib.indexByte [98,116,110,102,114,34,92] b);rw[hK]at gK jI UF;clear h117 he1 hxm hK;go_wp2_with (go_at_call 67;refine(C1.o _ HR2.o).mono ?_);rintro e w3 ⟨rfl,hg3⟩;have HR3:=ae (HR2.o.grow hg3);have aU:=ae (aP HG2.o hg3);obtain⟨d0,d1,-,df⟩:=HR3.o.cells;have df2:=df 1;clear hg3 df;have zh:Hd (∀n,Rd ((w3.drewN n).setCell ⟨R,1,none⟩ (.int .i64 ((m:Int)+1))) R s (m+1) T):=fun n=>Rd.set (w:=w3.drewN n) (i:=m) HR3.o (m+1)
   have dn:Hd (∀n,w.grownBy ((w3.drewN n).setCell ⟨R,1,none⟩ (.int .i64 ((m:Int)+1))) (some R)):=fun n=>aT (az aU.o n) 1 _
   cases hc:mV x with
   |none=>
    have hKn:=jI.o hc;rw[hc]at aJ;subst hKn;clear hc;have xJ:=ae (fun n=>CH.o m _ (az aU.o n) HR3.o);go_wp2;go_quiet (first|(go_at_call 172;exact Calls.quiet_of_same (gK.o _)));go_wp2_with (go_at_call 104;refine(xJ.o _).mono ?_;rintro e w5 ⟨⟨v,rfl,hv⟩,hg5⟩);refine bodyPost_ret (results_tmp2 (t:=2) (u:=3) rfl _ _ _) rfl ?_;rw[<-aJ.o];exact⟨fun n j hh=>(by cases hh),fun c p hh=>(by cases hh;exact⟨v,rfl,hv,_,Rd.grow (w:=World.drewN w3 _) HR3.o hg5⟩),aP (az aU.o _) hg5⟩
   |some n=>
    have hKy:=UF.o n hc;rw[hc]at aJ;clear hc
    rcases hKy with⟨rfl,rfl⟩|⟨rfl,rfl⟩|⟨rfl,rfl⟩|⟨rfl,rfl⟩|⟨rfl,rfl⟩|⟨rfl,rfl⟩|⟨rfl,rfl⟩
    all_goals (
     go_wp2;go_quiet (first|(go_at_call 172;exact Calls.quiet_of_same (gK.o _)));go_wp2;refine bodyPost_ret (results_tmp2 (t:=2) (u:=3) rfl _ _ _) rfl ?_;rw[<-aJ.o];exact⟨fun n j hh=>(by cases hh;exact⟨aca (by first|(unfold wrap32;decide)|(unfold wrap32;rfl)|(unfold wrap32;simp[ByteArray.getElem_eq_getElem_data];done)),zh.o _⟩),fun c p hh=>(by cases hh),dn.o _⟩)
theorem Nk(a:V):dY a a=0:=Eh.self a
theorem EI(a b:V):dY b a=- dY a b:=Eh.anti a b
theorem acf{a b d:V}(h1:dY a b<=0)(h2:dY b d<=0):dY a d<=0:=(Eh.trans a b d h1 h2).1
theorem UG{a b d:V}(h1:dY a b<0)(h2:dY b d<=0):dY a d<0:=by
 have h:=Eh.trans a b d (by omega) h2;have:dY a d≠0:=fun e=>by have:=h.2.2 e;omega
 omega
theorem acg{a b d:V}(h1:dY a b<0)(h2:dY b d<0):dY a d<0:=UG h1 (by omega)
def Bo(h:V->Bool):Bool->List V->List V
 | _,[]=>[]
 | on,p :: ps=>if h p=on then Bo h on ps else p :: Bo h (h p) ps
def Nl(l:List V):Prop:=l.Pairwise fun a b=>dY a b<0
structure Ed where
 at_:V
 l:Nat
 d:Int
def upd(b:Nat->Int)(l:Nat)(d:Int):Nat->Int:=fun j=>if j=l then b j+d else b j
def tot:List Ed->Nat->Int
 | [],_=>0
 | e :: r,j=>(if j=e.l then e.d else 0)+tot r j
def nT:List Ed->Nat->V->Int
 | [],_,_=>0
 | e :: r,j,x=>(if j=e.l/\dY e.at_ x<=0 then e.d else 0)+nT r j x
def mW(e:Ed):List Ed->Bool
 | []=>false
 | e' :: _=>decide (dY e.at_ e'.at_=0)
def fK(wt:(Nat->Int)->Bool):(Nat->Int)->Bool->List Ed->List V
 | _,_,[]=>[]
 | b,on,e :: r =>
  if mW e r=true then fK wt (upd b e.l e.d) on r
  else if wt (upd b e.l e.d)=on then fK wt (upd b e.l e.d) on r
  else e.at_ :: fK wt (upd b e.l e.d) (wt (upd b e.l e.d)) r
def kE:List Ed->List V
 | []=>[]
 | e :: r=>if mW e r=true then kE r else e.at_ :: kE r
def rW(E:List Ed):Prop:=E.Pairwise fun a b=>dY a.at_ b.at_<=0
theorem ach(A B:List Ed)(j:Nat):tot (A++B) j=tot A j+tot B j:=by
 induction A with
 |nil=>simp[tot]
 |cons e A ih=>simp only[List.cons_append,tot,ih];omega
theorem aci(A B:List Ed)(j:Nat)(x:V):nT (A++B) j x=nT A j x+nT B j x:=by
 induction A with
 |nil=>simp[nT]
 |cons e A ih=>simp only[List.cons_append,nT,ih];omega
theorem acj(A:List Ed)(j:Nat)(x:V)(h:∀e∈A,dY e.at_ x<=0):nT A j x=tot A j:=by
 induction A with
 |nil=>rfl
 |cons e A ih=>
  have he:=h e (by simp);simp only[nT,tot,ih (fun e' h'=>h e' (by simp[h'])),he,and_true]
theorem ack(A:List Ed)(j:Nat)(x:V)(h:∀e∈A,¬dY e.at_ x<=0):nT A j x=0:=by
 induction A with
 |nil=>rfl
 |cons e A ih=>
  have he:=h e (by simp);simp only[nT,ih (fun e' h'=>h e' (by simp[h'])),he,and_false,if_false];omega
theorem UH{e:Ed}{r:List Ed}(hs:rW (e :: r))(hn:¬mW e r=true):∀e'∈r,dY e.at_ e'.at_<0:=by
 cases r with
 |nil=>intro e' h;simp at h
 |cons f r=>
  have h1:=(List.pairwise_cons.1 hs).1;have h2:=(List.pairwise_cons.1 (List.pairwise_cons.1 hs).2).1;have hf:dY e.at_ f.at_<0:=by
   have a1:=h1 f (by simp);have a2:dY e.at_ f.at_≠0:=fun e0=>hn (by simp[mW,e0])
   omega
  intro e' he'
  rcases List.mem_cons.1 he' with rfl|he'
  ·exact hf
  ·exact UG hf (h2 e' he')
theorem Np(wt:(Nat->Int)->Bool)(E:List Ed)(h:V->Bool)(hh:∀x,h x=wt (fun j=>nT E j x))(hs:rW E) :
  ∀(r pre:List Ed) (on:Bool),E=pre++r->fK wt (fun j=>tot pre j) on r=Bo h on (kE r)
 | [],pre,on,hE=>rfl
 | e :: r,pre,on,hE=>by
  have hE':E=(pre++[e])++r:=by rw[hE];simp
  have hb:upd (fun j=>tot pre j) e.l e.d=fun j=>tot (pre++[e]) j:=by
   funext j;rw[ach];unfold upd
   by_cases hj:j=e.l
   ·simp[tot,hj]
   ·simp[tot,hj]
  have ih:=fun on=>Np wt E h hh hs r (pre++[e]) on hE'
  unfold fK kE;rw[hb]
  by_cases hn:mW e r=true
  ·rw[if_pos hn,if_pos hn];exact ih on
  ·rw[if_neg hn,if_neg hn];have hw:wt (fun j=>tot (pre++[e]) j)=h e.at_:=by
    rw[hh];congr 1;funext j;rw[hE',aci];have EJ:rW (e :: r):=by rw[hE]at hs;exact(List.pairwise_append.1 hs).2.1
    have hpre:∀e'∈pre++[e],dY e'.at_ e.at_<=0:=by
     intro e' he'
     rcases List.mem_append.1 he' with h1|h1
     ·rw[hE]at hs;exact(List.pairwise_append.1 hs).2.2 e' h1 e (by simp)
     ·simp at h1;rw[h1,Nk];omega
    have hr:=UH EJ hn;rw[acj _ j _ hpre,ack r j _ (fun e' he'=>by have:=hr e' he';have:=EI e.at_ e'.at_;omega)];omega
   rw[hw];unfold Bo
   by_cases ho:h e.at_=on
   ·rw[if_pos ho,if_pos ho];exact ih on
   ·rw[if_neg ho,if_neg ho,ih]
theorem UI(E:List Ed)(hs:rW E):(∀p∈kE E,∃e∈E,e.at_=p)/\(∀e∈E,∃p∈kE E,dY e.at_ p=0):=by
 induction E with
 |nil=>exact⟨by simp[kE],by simp⟩
 |cons e r ih=>
  obtain⟨i1,i2⟩:=ih (List.pairwise_cons.1 hs).2;unfold kE
  by_cases hn:mW e r=true
  ·rw[if_pos hn];refine⟨fun p hp=>?_,fun e' he'=>?_⟩
   ·obtain⟨e',h1,h2⟩:=i1 p hp;exact⟨e',by simp[h1],h2⟩
   ·rcases List.mem_cons.1 he' with rfl|he'
    ·cases r with
     |nil=>simp[mW]at hn
     |cons f r=>
      have hf:dY e'.at_ f.at_=0:=by simpa [mW] using hn
      obtain⟨p,hp,h0⟩:=i2 f (by simp);exact⟨p,hp,by have:=(Eh.trans e'.at_ f.at_ p (by omega) (by omega)).2.1 ⟨hf,h0⟩;exact this⟩
    ·exact i2 e' he'
  ·rw[if_neg hn];refine⟨fun p hp=>?_,fun e' he'=>?_⟩
   ·rcases List.mem_cons.1 hp with rfl|hp
    ·exact⟨e,by simp,rfl⟩
    ·obtain⟨e',h1,h2⟩:=i1 p hp;exact⟨e',by simp[h1],h2⟩
   ·rcases List.mem_cons.1 he' with rfl|he'
    ·exact⟨e'.at_,by simp,Nk _⟩
    ·obtain⟨p,hp,h0⟩:=i2 e' he';exact⟨p,by simp[hp],h0⟩
theorem acl(E:List Ed)(hs:rW E):Nl (kE E):=by
 induction E with
 |nil=>exact List.Pairwise.nil
 |cons e r ih=>
  have hr:=(List.pairwise_cons.1 hs).2;unfold kE
  by_cases hn:mW e r=true
  ·rw[if_pos hn];exact ih hr
  ·rw[if_neg hn];refine List.pairwise_cons.2 ⟨fun p hp=>?_,ih hr⟩;obtain⟨e',h1,rfl⟩:=(UI r hr).1 p hp;exact UH hs hn e' h1
structure Sg where
 fr:V
 to_:V
 op:Bool
def having(n:Nat)(b:Nat->Int):Int:=((List.range n).map fun j=>min (b j) 1).sum
theorem IX(l:List UInt8)(i k:Nat):((⟨(l.drop i).toArray⟩:ByteArray).get! k).toNat=(l[i+k]?.getD 0).toNat:=by
 show(((l.drop i).toArray)[k]!).toNat=_;rw[Array.getElem!_eq_getD];simp[Array.getD_eq_getD_getElem?,List.getElem?_drop];rfl
theorem IY(l:List UInt8)(i k:Nat)(hi:i<l.length):nx l (i+k)=if k<l.length-i then(((l[i+k]?.getD 0).toNat:Nat):Int) else -1:=by
 by_cases h:k<l.length-i
 ·rw[if_pos h,qG l (i+k) (by omega),List.getElem?_eq_getElem (by omega)];rfl
 ·rw[if_neg h,jF l (i+k) (by omega)]
theorem acm(l:List UInt8)(i:Nat)(hi:i<l.length):Told (bi l i) (Lib.decodeGo ⟨(l.drop i).toArray⟩):=by
 have hz:(⟨(l.drop i).toArray⟩:ByteArray).size=l.length-i:=by show(l.drop i).toArray.size=_;simp
 have e:Lib.decodeGo ⟨(l.drop i).toArray⟩=Lib.decodeN (l.length-i) (l[i]?.getD 0).toNat (l[i+1]?.getD 0).toNat (l[i+2]?.getD 0).toNat (l[i+3]?.getD 0).toNat:=by
  unfold Lib.decodeGo;rw[if_neg (by rw[hz];omega),Lib.decode_at,hz,IX,IX,IX,IX];rfl
 rw[e,abn];have h0:=IY l i 0 hi;rw[if_pos (by omega)]at h0;have h00:nx l i=(((l[i]?.getD 0).toNat:Nat):Int):=h0;rw[h00];exact abu _ _ _ _ _ _ _ _ (by omega) (UInt8.toNat_lt _) (UInt8.toNat_lt _) (UInt8.toNat_lt _) (UInt8.toNat_lt _) (IY l i 1 hi) (IY l i 2 hi) (IY l i 3 hi)
theorem acn(l:List UInt8)(i:Nat)(hi:i<l.length)(w:World)(hT:Lib.Utf8Tabs 6 7 w) :
  Calls prog 152 #[.string ⟨(l.drop i).toArray⟩] w fun e w'=>∃r k:Nat,e=.returned (.tuple #[.int .i32 (r:Nat),.int .i64 (k:Nat)])/\Told (bi l i) (r,k)/\Below w.heap.size w w' :=
 (Any.utf8_DecodeRuneInString Tryz.lays197 ⟨(l.drop i).toArray⟩ w hT).mono fun e w' h=>⟨_,_,h.1,acm l i hi,h.2⟩
theorem aco:∀(d:List UInt8) (n:Nat),(∀c∈d,aI (c.toNat:Int)=true)->Lib.decFrom n d=some (iR d n):=by
 intro d
 induction d with
 |nil=>intro n _;rfl
 |cons c r ih=>
  intro n h;have hc:=of_decide_eq_true (h c (by simp));have h1:48<=c.toNat/\c.toNat<=57:=by omega
  have e:Lib.digitVal c=some (c.toNat - 48):=by unfold Lib.digitVal;rw[if_pos h1]
  have:=ih (10*n+(c.toNat - 48)) (fun x hx=>h x (by simp[hx]));show(match Lib.digitVal c with|some d=>Lib.decFrom (n*10+d) r|none=>none)=some (iR r (10*n+(c.toNat - 48)));rw[e,<-this,Nat.mul_comm 10 n]
theorem Nq(d:List UInt8)(hd:d≠[])(h:∀c∈d,aI (c.toNat:Int)=true):Lib.decNat d=some (iR d 0):=by
 unfold Lib.decNat
 cases d with
 |nil=>exact absurd rfl hd
 |cons c r=>simpa using aco (c :: r) 0 h
theorem acp(d:List UInt8)(hd:d≠[])(hl:d.length<=18)(h:∀c∈d,aI (c.toNat:Int)=true):Lib.atoiAll d=.ok (iR d 0:Int):=by
 cases d with
 |nil=>exact absurd rfl hd
 |cons c r=>
  have hc:=of_decide_eq_true (h c (by simp));rw[Lib.atoiAll_plain c r (by omega) (by omega),Lib.signless_short hl,Nq _ hd h];rfl
theorem acr(d:List UInt8)(hd:d≠[])(hl:d.length<=18)(h:∀c∈d,aI (c.toNat:Int)=true):Lib.atoiAll (43 :: d)=.ok (iR d 0:Int):=by
 rw[Lib.atoiAll_plus,Lib.signless_short hl,Nq _ hd h];rfl
theorem acs(d:List UInt8)(hd:d≠[])(hl:d.length<=18)(h:∀c∈d,aI (c.toNat:Int)=true):Lib.atoiAll (45 :: d)=.ok (-(iR d 0:Int)):=by
 rw[Lib.atoiAll_minus,Lib.signed_short hl,Nq _ hd h];rfl
theorem Nr(p:Int->Bool)(l:List UInt8)(i:Nat):∀c∈au l i (toR p l i-i),p (c.toNat:Int)=true:=by
 intro c hc;unfold au toR runN at hc;rw[Nat.add_sub_cancel_left]at hc;have e:(l.drop i).take ((l.drop i).takeWhile (fun c=>p (c.toNat:Int))).length=(l.drop i).takeWhile (fun c=>p (c.toNat:Int)):=by
  have:=List.takeWhile_prefix (fun c:UInt8=>p (c.toNat:Int)) (l:=l.drop i);exact(List.prefix_iff_eq_take.1 this).symm
 rw[e]at hc;exact(List.all_takeWhile (p:=fun c:UInt8=>p (c.toNat:Int)) (l:=l.drop i) |> List.all_eq_true.1) c hc
theorem UJ(l:List UInt8)(i k:Nat)(h:i+k<=l.length):(au l i k).length=k:=by
 unfold au;rw[List.length_take,List.length_drop];omega
theorem UK(l:List UInt8)(i k:Nat)(h:i<l.length):au l i (k+1)=l[i] :: au l (i+1) k:=by
 unfold au;rw[List.drop_eq_getElem_cons h,List.take_succ_cons]
theorem acu(l:List UInt8)(i a j:Nat)(hj:j<=l.length)(haj:a<j)(hall:∀c∈au l a (j-a),aI (c.toNat:Int)=true)(h18:j-a<=18)
  (h:(aI (nx l i)=true/\a=i)\/((nx l i=43\/nx l i=45)/\a=i+1)) :
  Lib.atoiAll (au l i (j-i))=.ok (if nx l i=45 then -(iR (au l a (j-a)) 0:Int) else(iR (au l a (j-a)) 0:Int)):=by
 have hlen:=UJ l a (j-a) (by omega);have hne:au l a (j-a)≠[]:=fun e=>by rw[e]at hlen;simp at hlen;omega
 rcases h with⟨h1,rfl⟩|⟨h1,rfl⟩
 ·rw[if_neg (fun e=>by rw[e]at h1;exact absurd h1 (by decide))];exact acp _ hne (by omega) hall
 ·have hil:i<l.length:=by omega
  have e:j-i=(j-(i+1))+1:=by omega
  rw[e,UK l i _ hil];have hx:=qG l i hil
  rcases h1 with h1|h1
  ·have:l[i]=43:=by
    apply UInt8.toNat_inj.1;have:(l[i].toNat:Int)=43:=by rw[<-hx];exact h1
    show l[i].toNat=43;omega
   rw[this,if_neg (by rw[h1];decide)];exact acr _ hne (by omega) hall
  ·have:l[i]=45:=by
    apply UInt8.toNat_inj.1;have:(l[i].toNat:Int)=45:=by rw[<-hx];exact h1
    show l[i].toNat=45;omega
   rw[this,if_pos h1];exact acs _ hne (by omega) hall
theorem acv(w:World)(e:TypeId)(s:ByteArray):w.grownBy (Lib.bytesWorld w e s) none :=
 ⟨rfl,rfl,rfl,by rw[Lib.bytesWorld_size];omega,fun k hk _=>Lib.bytesWorld_at_old w e s k hk⟩
theorem acw(x:List UInt8)(v:Int)(hx:x.length<=1048576)(h:Lib.atoiAll x=.ok v)(w:World) :
  Calls prog 156 #[.string ⟨x.toArray⟩] w fun e w'=>e=.returned (.tuple #[.int .i64 v,.nilIface])/\w.grownBy w' none:=by
 have hz:(⟨x.toArray⟩:ByteArray).size=x.length:=by show x.toArray.size=_;simp
 refine(Any.strconv_Atoi_ok Tryz.lays172 ⟨x.toArray⟩ (by rw[hz];omega) v (by simpa using h) w).mono ?_;rintro e w' ⟨rfl,rfl|⟨t,rfl⟩⟩
 ·exact⟨rfl,ax _ _⟩
 ·refine⟨rfl,?_⟩;exact acv _ _ _
def iE(l:List UInt8)(i:Nat):Nat:=if aI (nx l i)=true then i else i+1
theorem acx(l:List UInt8)(i:Nat):ji l i =
  if toR aI l (iE l i)=iE l i\/(1<toR aI l (iE l i)-iE l i/\nx l (iE l i)=48) then .error (2,iE l i)
  else if 18<toR aI l (iE l i)-iE l i then .error (3,i)
  else .ok (if nx l i=45 then -(iR (au l (iE l i) (toR aI l (iE l i)-iE l i)) 0:Int) else(iR (au l (iE l i) (toR aI l (iE l i)-iE l i)) 0:Int),toR aI l (iE l i)):=rfl
def Bd(w:World)(B b:Nat)(acc:List UInt8):Prop:=Lib.IsBuilderF 251 5 B b (Lib.byteCells acc) w
theorem UL{T e:TypeId}{p:Value}{bs:List Value}(h:Lib.BuilderAtF T e B b p bs w)(hg:w.grownBy w' (some R))(hR:R<B):Lib.BuilderAtF T e B b p bs w':=by
 obtain⟨hB,v,hb,hown,hne⟩:=h;refine⟨hB,v,(hg.block b (bJ hb) (fun e=>by cases e;omega)).trans hb,hown.kept hg ?_,hne⟩
 cases hv:v.ownBlock with
 |none=>exact Or.inl rfl
 |some k=>
  refine Or.inr fun e=>?_
  cases e
  have:=(hown.lt _ hv).1;omega
theorem Bd.grow{acc:List UInt8}(h:Bd w B b acc)(hg:w.grownBy w' (some R))(hR:R<B):Bd w' B b acc:=h.imp (fun h=>UL h hg hR) (fun h=>UL h hg hR)
theorem acy(n:Nat)(hn:n<65536)(hs:rQ n=false):Lib.runeCells (n:Nat)=Lib.byteCells (gU n):=by
 have h1:∀k:Nat,k<256->(UInt8.ofNat k).toNat=k:=fun k hk=>by simp;omega
 have hs':¬(55296<=n/\n<=57343):=by
  have:=of_decide_eq_false (show decide (55296<=(n:Int)/\(n:Int)<=57343)=false from hs);omega
 unfold Lib.runeCells Lib.byteCells gU
 by_cases a:n<128
 ·rw[Lib.encodeRuneZ_one (by omega) (by omega),if_pos a];simp only[List.map_cons,List.map_nil,h1 n (by omega)]
 rw[if_neg a]
 by_cases b:n<2048
 ·rw[Lib.encodeRuneZ_two (by omega) (by omega),if_pos b];simp only[List.map_cons,List.map_nil,h1 (192+n / 64) (by omega),h1 (128+n % 64) (by omega)];simp
 rw[if_neg b,Lib.encodeRuneZ_three (by omega)];simp only[List.map_cons,List.map_nil,h1 (224+n / 4096) (by omega),h1 (128+n / 64 % 64) (by omega),h1 (128+n % 64) (by omega)];simp
theorem UM(a b:List UInt8):Lib.byteCells (a++b)=Lib.byteCells a++Lib.byteCells b:=by simp[Lib.byteCells]
theorem UN(a:List UInt8):(Lib.byteCells a).length=a.length:=by simp[Lib.byteCells]
theorem acz(B b n:Nat)(acc:List UInt8)(w:World)(h:Bd w B b acc)(hn:n<65536)(hs:rQ n=false)(hl:acc.length<=1099511627776)(hB:B<=w.heap.size) :
  Calls prog 151 #[.pointer (some ⟨b,0,none⟩),.int .i32 (n:Nat)] w fun e w'=>(∃k:Int,e=.returned (.tuple #[.int .i64 k,.nilIface]))/\Bd w' B b (acc++gU n)/\Below B w w':=by
 refine(Any.Builder_WriteRune_k Tryz.lays168 Tryz.Builder_Extra_168 B b (Lib.byteCells acc) (n:Nat) (by omega) (by omega) w h (by rw[UN];omega) hB).mono ?_;rintro e w' ⟨rfl,h1,h2,h3⟩;refine⟨⟨_,rfl⟩,Or.inr ?_,h2⟩;rw[UM,<-acy n hn hs];exact h1
theorem acA(B b:Nat)(acc x:List UInt8)(w:World)(h:Bd w B b acc)(hl:acc.length<=1099511627776)(hx:x.length<=1048576)(hB:B<=w.heap.size) :
  Calls prog 153 #[.pointer (some ⟨b,0,none⟩),.string ⟨x.toArray⟩] w fun e w'=>(∃k:Int,e=.returned (.tuple #[.int .i64 k,.nilIface]))/\Bd w' B b (acc++x)/\Below B w w':=by
 have hz:(⟨x.toArray⟩:ByteArray).size=x.length:=by show x.toArray.size=_;simp
 refine(Any.Builder_WriteString_f Tryz.lays166 Tryz.Builder_Extra_166 B b (Lib.byteCells acc) ⟨x.toArray⟩ w h (by rw[UN,hz];omega) hB).mono ?_;rintro e w' ⟨rfl,h1,h2⟩;refine⟨⟨_,rfl⟩,Or.inr ?_,h2⟩;rw[UM];exact h1
theorem acB(B b:Nat)(acc:List UInt8)(w:World)(h:Bd w B b acc)(hB:B<=w.heap.size) :
  Calls prog 154 #[.pointer (some ⟨b,0,none⟩)] w fun e w'=>e=.returned (.string ⟨acc.toArray⟩)/\Below B w w' :=
 (Any.Builder_String_any_f Tryz.lays169 Tryz.Builder_Extra_169 B b acc w h hB).mono fun e w' h=>⟨h.1,h.2.2⟩
theorem Ns(l:List UInt8):∀k i n m j,i<=l.length->four l k i n=.ok (m,j)->j=i+k/\j<=l.length/\m<(n+1)*16 ^ k:=by
 intro k
 induction k with
 |zero=>
  intro i n m j hi h
  cases h
  exact⟨rfl,hi,by simp⟩
 |succ k ih=>
  intro i n m j hi h;rw[Ey]at h;split at h
  ·cases h
  ·rename_i hx;have hlt:i<l.length:=by
    apply Classical.byContradiction;intro hn;rw[jF l i (by omega),ML]at hx;omega
   obtain⟨h1,h2,h3⟩:=ih (i+1) _ m j hlt h;have hb:=IB (nx l i);refine⟨by omega,h2,Nat.lt_of_lt_of_le h3 ?_⟩;rw[Nat.pow_succ,Nat.mul_comm (16 ^ k) 16,<-Nat.mul_assoc];exact Nat.mul_le_mul_right _ (by omega)
theorem UO(x:Int)(n:Nat)(h:mV x=some n):n<128/\0<=x:=by
 unfold mV at h
 repeat' split at h
 all_goals first|(cases h;omega)|(cases h)
theorem Nu(l:List UInt8)(i n j:Nat)(hi:i<l.length)(h:oL l i=.ok (n,j)):n<65536/\rQ n=false/\i+2<=j/\j<=l.length:=by
 unfold oL at h;split at h
 ·rename_i hx;have hlt:=bD (by rw[hx];decide);unfold xE at h
  cases hf:four l 4 (i+2) 0 with
  |error e=>rw[hf]at h;cases h
  |ok q=>
   obtain⟨m,k⟩:=q;rw[hf]at h;have h2:(if rQ m=true then Except.error (2,i) else Except.ok (m,k):Rs (Nat × Nat))=.ok (n,j):=h;split at h2
   ·cases h2
   ·rename_i hs
    cases h2
    obtain⟨h3,h4,h5⟩:=Ns l 4 (i+2) 0 n j (by omega) hf;refine⟨by simpa using h5,by simpa using hs,by omega,h4⟩
 ·cases hc:mV (nx l (i+1)) with
  |none=>rw[hc]at h;cases h
  |some m=>
   rw[hc]at h
   cases h
   obtain⟨h1,h2⟩:=UO _ _ hc;have:=bD h2;refine⟨by omega,decide_eq_false (by omega),by omega,by omega⟩
theorem IZ(n:Nat):(gU n).length<=3:=by
 unfold gU
 repeat' split
 all_goals simp
theorem Nv(l:List UInt8)(i:Nat)(hi:i<=l.length):i+bi l i<=l.length:=by
 have key:∀k lo hi',0<=lo->oI l (i+k) lo hi'=true->i+k<l.length:=fun k lo hi' h0 h=>by
  have:=of_decide_eq_true h;exact bD (by omega)
 have hlo:0<=(if nx l i=224 then(160:Int) else if nx l i=240 then 144 else 128):=by
  repeat' split
  all_goals omega
 unfold bi;simp only[];generalize (if nx l i=224 then(160:Int) else if nx l i=240 then 144 else 128)=lo at hlo ⊢;generalize (if nx l i=237 then(159:Int) else if nx l i=244 then 143 else 191)=hi';split
 ·omega
 ·rename_i h0;have hlt:i<l.length:=bD (by omega);split
  ·omega
  split
  ·omega
  split
  ·omega
  ·rename_i h1;have a1:=key 1 lo hi' hlo (by simpa using h1);split
   ·omega
   split
   ·omega
   ·rename_i h2;have a2:=key 2 128 191 (by omega) (by simpa using h2);split
    ·omega
    split
    ·omega
    ·rename_i h3;have a3:=key 3 128 191 (by omega) (by simpa using h3);omega
theorem EK(l:List UInt8)(f i:Nat)(acc:List UInt8):str l (f+1) i acc =
  if nx l i=34 then .ok (acc,i+1)
  else if nx l i=92 then(match esc l i with | .error e=>.error e | .ok (b,j)=>str l f j (acc++b))
  else if nx l i=-1\/jG (nx l i)=true then .error (2,i)
  else if bi l i=0 then .error (2,i)
  else str l f (i+bi l i) (acc++au l i (bi l i)):=rfl
theorem acC{w1 w2:World}{r:Option Nat}(h:w.grownBy w1 r)(hB:w.heap.size<=B)(hb:Below B w1 w2):w.grownBy w2 r :=
 ⟨hb.os.trans h.os,hb.tape.trans h.tape,hb.output.trans h.output,Nat.le_trans h.size hb.size,fun k hk hn=>(hb.block k (by omega)).trans (h.block k hk hn)⟩
theorem Rd.bel(h:Rd w R s i T)(hR:R<B)(hb:Below B w w'):Rd w' R s i T:=(hb.block R hR).trans h
theorem Rd.lt(h:Rd w R s i T):R<w.heap.size:=(bJ h)
theorem acD{g3 g4:Nat}(h:Lib.Utf8Tabs g3 g4 w)(h3:¬R=g3)(h4:¬R=g4)(hg:w.grownBy w' (some R)):Lib.Utf8Tabs g3 g4 w' :=
 ⟨fun c hc=>hg.cell (h.1 c hc) (by simp;exact fun e=>h3 e.symm),fun i hi=>⟨hg.cell (h.2 i hi).1 (by simp;exact fun e=>h4 e.symm),hg.cell (h.2 i hi).2 (by simp;exact fun e=>h4 e.symm)⟩⟩
theorem acE(l:List UInt8)(i n j:Nat)(hi:i<l.length)(h:oL l i=.ok (n,j)):(gU n).length+i<=j:=by
 have h0:=h;unfold oL at h;split at h
 ·rename_i hx;have hlt:=bD (by rw[hx];decide);unfold xE at h
  cases hf:four l 4 (i+2) 0 with
  |error e=>rw[hf]at h;cases h
  |ok q=>
   obtain⟨m,k⟩:=q;rw[hf]at h;have h2:(if rQ m=true then Except.error (2,i) else Except.ok (m,k):Rs (Nat × Nat))=.ok (n,j):=h;split at h2
   ·cases h2
   ·cases h2
    obtain⟨h3,h4,h5⟩:=Ns l 4 (i+2) 0 n j (by omega) hf;have:=IZ n;omega
 ·cases hc:mV (nx l (i+1)) with
  |none=>rw[hc]at h;cases h
  |some m=>
   rw[hc]at h
   cases h
   obtain⟨h1,h2⟩:=UO _ _ hc;unfold gU;rw[if_pos h1];simp;omega
theorem I4(l:List UInt8):∀(f i:Nat) (acc t:List UInt8) (j:Nat),i<=l.length->str l f i acc=.ok (t,j)->i<j/\j<=l.length/\t.length+i<=acc.length+j:=by
 intro f
 induction f with
 |zero=>intro i acc t j hi h;cases h
 |succ f ih=>
  intro i acc t j hi h;rw[EK]at h;split at h
  ·rename_i hx;have:=bD (l:=l) (i:=i) (by rw[hx];decide)
   cases h
   exact⟨by omega,by omega,by omega⟩
  ·split at h
   ·rename_i hx;have hlt:=bD (l:=l) (i:=i) (by rw[hx];decide);rw[Nj]at h
    cases he:oL l i with
    |error e=>rw[he]at h;cases h
    |ok q=>
     obtain⟨n,k⟩:=q;rw[he]at h;have h2:str l f k (acc++gU n)=.ok (t,j):=h;obtain⟨-,-,e3,e4⟩:=Nu l i n k hlt he;have e5:=acE l i n k hlt he;obtain⟨a,b,c⟩:=ih k _ t j e4 h2;rw[List.length_append]at c;exact⟨by omega,b,by omega⟩
   ·split at h
    ·cases h
    ·split at h
     ·cases h
     ·rename_i hs;have hk:=Nv l i hi;obtain⟨a,b,c⟩:=ih (i+bi l i) _ t j hk h;have hl:(au l i (bi l i)).length<=bi l i:=by
       unfold au;simp;omega
      rw[List.length_append]at c;exact⟨by omega,b,by omega⟩
theorem xK(l:List UInt8)(i:Nat)(k:List UInt8)(j:Nat)(hi:i<=l.length)(h:dw l i=.ok (k,j)):i<j/\j<=l.length/\k.length<=l.length:=by
 unfold dw at h;split at h
 ·rename_i hx;have hlt:=bD (l:=l) (i:=i) (by rw[hx];decide);obtain⟨a,b,c⟩:=I4 l _ (i+1) [] k j (by omega) h;simp at c;exact⟨by omega,b,by omega⟩
 ·split at h
  ·cases h
  ·rename_i hn;have:=qH bP l i hi
   cases h
   refine⟨by omega,by omega,?_⟩;unfold au;simp;omega
theorem UQ(X:ByteArray):X.toList.length=X.size:=by rw[ByteArray.toList_eq];exact Array.length_toList
theorem acF(R:Nat)(s:ByteArray)(i T:Nat)(E:Int->TypeId × Value)(w:World)(h:Rd w R s i T)(hs:s.size<=1048576)(he:Es w E)(hR:Far R)
  (hx:aI (nx s.data.toList i)=true\/nx s.data.toList i=43\/nx s.data.toList i=45) :
  Calls prog 126 #[.pointer (some ⟨R,0,none⟩)] w (TJ R s T E (ji s.data.toList i) w):=by
 have hl:s.data.toList.length=s.size:=by simp
 have hil:i<s.size:=by
  rw[<-hl]
  rcases hx with h|h|h
  ·have:=of_decide_eq_true h;exact bD (by omega)
  ·exact bD (by omega)
  ·exact bD (by omega)
 have CN:=ae (fun k w (h1:Rd w R s k T) (h2:k<=s.size)=>nN R s k T w h1 h2 hs);have CB:=ae Iu;have UR:Hd (∀p w,Calls prog 124 #[.iface (E 2).1 (E 2).2,.int .i64 (p:Nat)] w fun e w'=>(∃v,e=.returned v/\dD w' v E 2 p)/\w.grownBy w' none):=fun p w=>uh p _ _ w
 have UT:Hd (∀p w,Calls prog 124 #[.iface (E 3).1 (E 3).2,.int .i64 (p:Nat)] w fun e w'=>(∃v,e=.returned v/\dD w' v E 3 p)/\w.grownBy w' none):=fun p w=>uh p _ _ w
 have mP:=ae (fun w' (hg:w.grownBy w' (some R))=>(he.grow hR hg).te);have EL:=ae (fun w' (hg:w.grownBy w' (some R))=>(he.grow hR hg).ra);have CH:Hd (∀k w',w.grownBy w' (some R)->Rd w' R s k T->Calls prog 104 #[.pointer (some ⟨R,0,none⟩)] w' fun e w''=>(∃v,e=.returned v/\dD w'' v E 2 k)/\w'.grownBy w'' none):=fun k w' hg hr=>xC R s k T (E 2).1 (E 2).2 w' hr (he.grow hR hg).te
 obtain⟨ty2,UU⟩:=zN ((E 2).1);obtain⟨pv2,hpv2⟩:=zN ((E 2).2);obtain⟨ty3,UV⟩:=zN ((E 3).1);obtain⟨pv3,UW⟩:=zN ((E 3).2);rw[UU,hpv2]at UR mP;rw[UV,UW]at UT EL;have HST:=ae (fun k (hk:k<s.size) (hb:aI (nx s.data.toList k)=true)=>rO aI _ k (by omega) hb);have gQ:=ae (fun k (hb:aI (nx s.data.toList k)=false)=>mJ aI _ k hb);have dC:Hd (∀k,k<=s.size->aI (nx s.data.toList k)=true->k<s.size):=fun k hk hb=>by
  apply Classical.byContradiction;intro hn;rw[jF _ _ (by omega)]at hb;exact absurd hb (by decide)
 have Nw:i<=iE s.data.toList i/\iE s.data.toList i<=s.size/\((aI (nx s.data.toList i)=true/\iE s.data.toList i=i)\/((nx s.data.toList i=43\/nx s.data.toList i=45)/\iE s.data.toList i=i+1)):=by
  unfold iE
  by_cases hd:aI (nx s.data.toList i)=true
  ·rw[if_pos hd];exact⟨by omega,by omega,Or.inl ⟨hd,rfl⟩⟩
  ·rw[if_neg hd];refine⟨by omega,by omega,Or.inr ⟨?_,rfl⟩⟩
   rcases hx with h|h
   ·exact absurd h hd
   ·exact h
 have hA1:Hd (iE s.data.toList i=if aI (nx s.data.toList i)=true then i else i+1):=rfl;have hjj:=qH aI s.data.toList (iE s.data.toList i) (by omega);rw[hl]at hjj;have hall:=Nr aI s.data.toList (iE s.data.toList i);have kX:Hd (ji s.data.toList i=_):=acx s.data.toList i;have hat:=fun j (h1:j<=s.size) (h2:iE s.data.toList i<j) (h3:(∀c∈au s.data.toList (iE s.data.toList i) (j-iE s.data.toList i),aI (c.toNat:Int)=true)) (h4:j-iE s.data.toList i<=18)=>acu s.data.toList i _ j (by omega) h2 h3 h4 Nw.2.2
 obtain⟨a,ha⟩:=zN (iE s.data.toList i);obtain⟨J,hJ⟩:=zN (toR aI s.data.toList a);rw[ha]at Nw hA1 hjj hall kX hat;rw[hJ]at hjj hall kX;obtain⟨D,hD⟩:=zN (au s.data.toList a (J-a));have hDl:D.length=J-a:=by rw[<-hD];exact UJ _ _ _ (by omega)
 have hAt:a<J->J-a<=18->Lib.atoiAll (au s.data.toList i (J-i))=.ok (if nx s.data.toList i=45 then -(iR D 0:Int) else(iR D 0:Int)):=fun h1 h2=>by
  have:=hat J hjj.2 h1 (by rw[hD];rw[hD]at hall;exact hall) h2;rw[hD]at this;exact this
 rw[hD]at kX;obtain⟨val,hval⟩:=zN ((if nx s.data.toList i=45 then -(iR D 0:Int) else(iR D 0:Int)));rw[hval]at kX hAt;have HJ:=ae hJ;obtain⟨W,hW⟩:=zN (au s.data.toList i (J-i));have UX:W.length<=1048576:=by rw[<-hW];unfold au;rw[List.length_take,List.length_drop];omega
 rw[hW]at hAt;have s1:∀wx,(Instr.slice 9 (.string s) (some (.int .i64 (a:Int))) (some (.int .i64 (J:Int))) none).run prog wx=.ok (.string ⟨D.toArray⟩) wx:=fun wx=>by rw[<-hD];exact mM s a J hjj.1 hjj.2 wx
 have s2:∀wx,(Instr.slice 9 (.string s) (some (.int .i64 (i:Int))) (some (.int .i64 (J:Int))) none).run prog wx=.ok (.string ⟨W.toArray⟩) wx:=fun wx=>by rw[<-hW];exact mM s i J (by omega) hjj.2 wx
 have CA:=ae (fun(h1:a<J) (h2:J-a<=18) w=>acw W val UX (hAt h1 h2) w);have UY:a<J->∃c r,D=c :: r/\(c.toNat:Int)=nx s.data.toList a:=fun h1=>by
  have hal:a<s.data.toList.length:=by omega
  refine⟨s.data.toList[a],au s.data.toList (a+1) (J-a-1),?_,(qG s.data.toList a hal).symm⟩;rw[<-hD,show J-a=(J-a-1)+1 by omega];exact UK _ _ _ hal
 obtain⟨X,hX⟩:∃X:ByteArray,⟨D.toArray⟩=X:=⟨_,rfl⟩;obtain⟨Y,hY⟩:∃Y:ByteArray,⟨W.toArray⟩=Y:=⟨_,rfl⟩;have hXl:X.toList=D:=by rw[<-hX,ByteArray.toList_eq]
 have iD:X.size=J-a:=by rw[<-hX];show D.toArray.size=_;simp[hDl]
 have HX0:Hd (∀h:0<X.size,((X[0]'h).toNat:Int)=nx s.data.toList a):=fun h=>by
  obtain⟨c,r,e1,e2⟩:=UY (by omega);subst hX;rw[<-e2];subst e1;rfl
 have mX:Hd (a=i->Y=X):=fun e=>by rw[<-hX,<-hY,<-hD,<-hW,e]
 rw[hX]at s1;rw[hY]at s2 CA;obtain⟨G,hG⟩:=zN (ji s.data.toList i);rw[hG]at kX ⊢;obtain⟨hia,has,-⟩:=Nw;obtain⟨haJ,hJs⟩:=hjj;obtain⟨z,hz⟩:=zN (nx s.data.toList a);rw[hz]at kX HX0;have um:=ae kX.o;have H0:=ae h;have C0:=ae (fun w' (h1:Rd w' R s i T)=>CN.o i w' h1 (by omega));obtain⟨x,hxx⟩:=zN (nx s.data.toList i);rw[hxx]at C0 hA1;have Ny:=ae (CB.o x);obtain⟨b0,hb0⟩:=zN (aI x);rw[hb0]at Ny hA1;obtain⟨c0,c1,-,-⟩:=h.cells;obtain⟨p,hp⟩:=zN (i);rw[hp]at c1 s2 um;clear h hJ hG hD hval hW hX hY hXl hxx hb0 hz hAt hat UY hDl UX hall ha kX UU hpv2 UV UW he hx hl hp;go_enter func126,ntmps126;go_wp2_with (go_at_call 67;refine(C0.o _ H0.o).mono ?_);rintro e w1 ⟨rfl,hg1⟩;have HR1:=ae (H0.o.grow hg1);have aC:=ae (aP (ax w (some R)) hg1);obtain⟨-,e1,-,ef⟩:=HR1.o.cells
 have ef1:=ef 1;have aN:Hd (Rd (w1.setCell ⟨R,1,none⟩ (.int .i64 ((i:Int)+1))) R s (i+1) T):=HR1.o.set (i+1);have kC:Hd (w.grownBy (w1.setCell ⟨R,1,none⟩ (.int .i64 ((i:Int)+1))) (some R)):=aT aC.o 1 _;clear hg1 ef c0 c1
 rcases b0 with - | -
 all_goals (
  first
   | (have HA:a=i:=by have:=hA1.o;rw[if_pos rfl]at this;exact this
      subst HA;go_wp2_with (go_at_call 99;refine(Ny.o _).mono ?_;rintro e wZ ⟨rfl,rfl⟩);have UZ:=HR1;have U0:=aC)
   | (have HA:Hd (a=i+1):=by have:=hA1.o;rw[if_neg (by decide)]at this;exact this
      have hai:(i:Int)+1=(a:Int):=by have:=HA.o;omega
      go_wp2_with (go_at_call 99;refine(Ny.o _).mono ?_;rintro e wZ ⟨rfl,rfl⟩);have UZ:Hd (Rd (wZ.setCell ⟨R,1,none⟩ (.int .i64 (a:Int))) R s a T):=by
       have:=aN.o;rw[hai,<-HA.o]at this;exact this
      have U0:Hd (w.grownBy (wZ.setCell ⟨R,1,none⟩ (.int .i64 (a:Int))) (some R)):=by
       have:=kC.o;rw[hai]at this;exact this
      try rw[hai]
      clear hai)
  go_loopw [] (fun wr=>∃k:Nat,Rd wr R s k T/\k<=s.size/\toR aI s.data.toList k=J/\w.grownBy wr (some R)) (fun wr=>s.size-(match wr.cell? ⟨R,1,none⟩ with|some (.int _ k)=>k.toNat|_=>0))
  case atStart=>exact⟨a,UZ.o,by omega,HJ.o,U0.o⟩
  case round=>
   obtain⟨k,hrd,hk,hbl,hg⟩:=hrel;have dJ:=ae hrd;have fV:=ae hbl;have HG:=ae hg;have C1:=ae (CN.o k wr hrd hk);have eY:Hd ((match wr.cell? ⟨R,1,none⟩ with|some (.int _ k)=>k.toNat|_=>0)=k):=by show _=_;rw[hrd.cells.2.1];simp
   have dP:=ae (fun(hb:aI (nx s.data.toList k)=true)=>HST.o k (dC.o k hk hb) hb);have HS2:=ae (gQ.o k);have HL2:=ae (dC.o k hk);obtain⟨c,hc⟩:=zN (nx s.data.toList k);rw[hc]at C1 dP HS2 HL2;have fZ:=ae (fun w=>CB.o c w);obtain⟨b,hb⟩:=zN (aI c);rw[hb]at fZ dP HS2 HL2;clear hrd hbl hg hc hb
   cases b with
   |true=>
    have hkl:=HL2.o (by trivial);have HN:=ae ((dP.o (by trivial)).symm.trans fV.o);go_wp2_with (first|(go_at_call 67;refine C1.o.mono ?_;rintro e w2 ⟨rfl,hg2⟩;obtain⟨-,d1,-,df⟩:=(dJ.o.grow hg2).cells;have df1:=df 1)|(go_at_call 99;refine(fZ.o _).mono ?_;rintro e w' ⟨rfl,rfl⟩));have kV:Hd (Rd (w'.setCell ⟨R,1,none⟩ (.int .i64 ((k:Int)+1))) R s (k+1) T):=(dJ.o.grow hg2).set (k+1);refine⟨⟨k+1,kV.o,by omega,HN.o,aT (aP HG.o hg2) 1 _⟩,?_⟩;rw[eY.o,kV.o.cells.2.1];simp;omega
   |false=>
    have zg:=ae ((HS2.o (by trivial)).symm.trans fV.o);go_wp2_with (first|(go_at_call 67;refine C1.o.mono ?_;rintro e w2 ⟨rfl,hg2⟩)|(go_at_call 99;refine(fZ.o _).mono ?_;rintro e w' ⟨rfl,rfl⟩));have HR2:Hd (Rd w' R s J T):=by rw[<-zg.o];exact dJ.o.grow hg2
    have HG2:=ae (aP HG.o hg2);obtain⟨d0,d1,-,-⟩:=HR2.o.cells;have dte:=mP.o _ HG2.o;have dra:=EL.o _ HG2.o;clear hg2
    by_cases hJa:J=a
    ·have hbe:X.toList.isEmpty=true:=by
      have:X.toList.length=0:=by rw[UQ];omega
      rw[List.isEmpty_iff];exact List.length_eq_zero_iff.1 this
     have aJ:Hd (G=.error (2,J)):=by
      show _=_;rw[um.o,if_pos (Or.inl hJa),hJa]
     have xJ:=ae (fun n=>CH.o J _ (az HG2.o n) HR2.o);clear hJa;go_quiet (fail);go_wp2_with (go_at_call 104;refine(xJ.o _).mono ?_;rintro e w3 ⟨⟨v,rfl,hv⟩,hg3⟩);refine bodyPost_ret (results_tmp2 (t:=2) (u:=3) rfl _ _ _) rfl ?_;rw[aJ.o];exact⟨fun n j hh=>(by cases hh),fun c p hh=>(by cases hh;exact⟨v,rfl,hv,J,Rd.grow (w:=World.drewN w' _) HR2.o hg3⟩),aP (az HG2.o _) hg3⟩
    ·have hbe:X.toList.isEmpty=false:=by
      rw[Bool.eq_false_iff];intro hh;rw[List.isEmpty_iff]at hh;have:X.toList.length=0:=by rw[hh];rfl
      rw[UQ]at this;omega
     have hX0:0<X.size:=by omega
     have hz0:=HX0.o hX0;have hJg:a<J:=by omega
     by_cases hzz:z=48/\1<J-a
     ·have aJ:Hd (G=.error (2,a)):=by
       show _=_;rw[um.o,if_pos (Or.inr ⟨hzz.2,hzz.1⟩)]
      have hq1:(z == 48)=true:=by simp[hzz.1]
      have hq2:(1:Int)<(X.size:Int):=by omega
      clear hJa hzz;go_quiet (fail);go_wp2_with (go_at_call 124;refine(UR.o _ _).mono ?_;rintro e w3 ⟨⟨v,rfl,hv⟩,hg3⟩);refine bodyPost_ret (results_tmp2 (t:=2) (u:=3) rfl _ _ _) rfl ?_;rw[aJ.o];exact⟨fun n j hh=>(by cases hh),fun c p hh=>(by cases hh;exact⟨v,rfl,hv,J,Rd.grow (w:=World.drewN w' _) HR2.o hg3⟩),aP (az HG2.o _) hg3⟩
     ·have aU:Hd (G=if 18<J-a then .error (3,p) else .ok (val,J)):=by
       show _=_;rw[um.o,if_neg (by rintro(h|h);exact hJa h;exact hzz ⟨h.2,h.1⟩)]
      have hcase:((z == 48)=true/\(X.size:Int)<=1)\/(z == 48)=false:=by
       by_cases h:z=48
       ·exact Or.inl ⟨by simp[h],by omega⟩
       ·exact Or.inr (by simp[h])
      clear hzz hJa
      by_cases h18:18<J-a
      ·have aJ:Hd (G=.error (3,p)):=by show _=_;rw[aU.o,if_pos h18]
       have hq2:(18:Int)<(X.size:Int):=by omega
       clear h18;go_quiet (fail)
       rcases hcase with⟨hq,hq3⟩|hq
       ·exfalso;omega
       ·go_wp2_with (go_at_call 124;refine(UT.o _ _).mono ?_;rintro e w3 ⟨⟨v,rfl,hv⟩,hg3⟩);refine bodyPost_ret (results_tmp2 (t:=2) (u:=3) rfl _ _ _) rfl ?_;rw[aJ.o];exact⟨fun n j hh=>(by cases hh),fun c p hh=>(by cases hh;exact⟨v,rfl,hv,J,Rd.grow (w:=World.drewN w' _) HR2.o hg3⟩),aP (az HG2.o _) hg3⟩
      ·have aJ:Hd (G=.ok (val,J)):=by show _=_;rw[aU.o,if_neg h18]
       have hq2:(X.size:Int)<=18:=by omega
       have Bq:=ae (CA.o hJg (by omega));clear h18;go_quiet (fail)
       rcases hcase with⟨hq,hq3⟩|hq
       all_goals (
        go_wp2
        go_region_held3 (fun u=>u.cell? ⟨R,0,none⟩=some (.string s)/\u.cell? ⟨R,1,none⟩=some (.int .i64 (J:Int))) ((first|exact⟨World.grownBy.cell (by assumption) (And.left (by assumption)) (by simp),World.grownBy.cell (by assumption) (And.right (by assumption)) (by simp)⟩|go_keep)) (first|(go_at_call 156;refine(Bq.o _).mono ?_;rintro e w6 ⟨rfl,dV⟩))
        have oM:w'.grownBy w6 none:=⟨dV.os,dV.tape,dV.output,dV.size,dV.block⟩;have oN:=ae (HR2.o.grow oM);have lL:=ae (aP HG2.o oM);clear dV oM;go_wp2;refine bodyPost_ret (results_tmp2 (t:=2) (u:=3) rfl _ _ _) rfl ?_;rw[aJ.o];exact⟨fun n j hh=>(by cases hh;exact⟨rfl,oN.o⟩),fun c p hh=>(by cases hh),lL.o⟩))
end Go.Proofs.YtbcfhgpfgdbjgaaGreatDoor
