import Derived.Test.YtnnbgjaphfhibaaGreatDoorN06
set_option linter.unusedVariables false
set_option linter.unusedSimpArgs false
set_option maxRecDepth 100000
set_option maxHeartbeats 6400000
open Go.Proofs.Tryz
namespace Go.Proofs.YtnnbgjaphfhibaaGreatDoor
open Go.RowKit Go.Joins
def dI(wr:World)(R:Nat):Nat:=match wr.cell? ⟨R,1,none⟩ with|some (.int _ k)=>k.toNat|_=>0
theorem uX{w:World}{R:Nat}{s:ByteArray}{L O:Value}{now de i:Nat}{er:Int}{p:Nat}(h:Dd w R s L O now de i er p):dI w R=i:=by unfold dI;rw[h.cells.2.1];simp
def gz(l:List UInt8)(i:Nat):Rs Nat:=if(bi l i).1=true then .ok (bi l i).2 else .error (2,(bi l i).2)
def iG(l:List UInt8)(i:Nat):Rs Nat:=if nx l (toR dm l i)=10\/nx l (toR dm l i)=-1 then .ok (toR dm l i) else .error (2,toR dm l i)
theorem PQ(l:List UInt8)(i:Nat)(h:nx l i=35):gz l i=iG l i:=by
 unfold gz bi iG;rw[if_pos h]
 by_cases h2:nx l (toR dm l i)=10\/nx l (toR dm l i)=-1
 ·simp only[if_pos h2,if_true]
 ·simp[if_neg h2]
theorem PS(l:List UInt8)(i:Nat)(h:¬nx l i=35):gz l i=.ok i:=by
 unfold gz;rw[Ep l i h];rfl
theorem Yb(l:List UInt8)(i:Nat)(h:nx l i=-1):iG l i=.ok i:=by
 unfold iG;rw[zV dm l i (zW h),if_pos (Or.inr h)]
theorem Yc(l:List UInt8)(i:Nat)(h:nx l i=10):iG l i=.ok i:=by
 unfold iG;rw[lG dm l i (by rw[h];rfl),if_pos (Or.inl h)]
theorem Yd(l:List UInt8)(i:Nat)(h:gG (nx l i)=true)(h10:¬nx l i=10)(h1:¬nx l i=-1):iG l i=.error (2,i):=by
 unfold iG;rw[lG dm l i (by unfold dm;rw[h];simp),if_neg (by rintro(h|h);exact h10 h;exact h1 h)]
theorem PT(l:List UInt8)(i:Nat)(h:gG (nx l i)=false)(h10:¬nx l i=10)(h1:¬nx l i=-1):iG l i=iG l (i+1):=by
 unfold iG;have hb:=Eo l i;rw[ql dm l i (bu (by omega)) (by unfold dm;rw[h];simp[h10])]
theorem PU(c:UInt8)(w:World):Calls prog 84 #[.int .u8 (c.toNat:Int)] w fun e w'=>e=.returned (.bool (gG (c.toNat:Int)))/\w'=w:=by
 have:=c.toNat_lt;go_enter func84,ntmps84;go_wp2
 all_goals go_ret
 all_goals (refine⟨bV ?_,rfl⟩;rw[Bool.eq_iff_iff];unfold gG xg;simp;try omega)
theorem PV(R:Nat)(s:ByteArray)(L O:Value)(now de:Nat)(q:Rs Nat)(w:World)(h:Ds w R s L O now de q)(hs:s.size<=1048576) :
  Calls prog 51 #[.pointer (some ⟨R,0,none⟩)] w fun e w'=>e=.returned (.tuple #[])/\Ds w' R s L O now de (q.bind fun i=>.ok (bl s.data.toList i))/\w.grownBy w' (some R):=by
 have hl:s.data.toList.length=s.size:=by simp
 have CI:Hd (∀q c w,0<=c->Ds w R s L O now de q->Calls prog 52 #[.pointer (some ⟨R,0,none⟩),.int .u8 c] w fun e w'=>e=.returned (.bool (ed s.data.toList q c))/\w.grownBy w' none):=fun q c w h0 h1=>rG R s L O now de q c h0 w h1 hs
 have HST:Hd (∀k,k<s.size->fC (nx s.data.toList k)=true->bl s.data.toList k=bl s.data.toList (k+1)):=fun k hk hb=>ql fC _ k (by omega) hb
 have jH:Hd (∀k,fC (nx s.data.toList k)=false->bl s.data.toList k=k):=fun k hb=>lG fC _ k hb
 have cZ:Hd (∀k,0<=nx s.data.toList k->k<s.size):=fun k hb=>by rw[<-hl];exact bu hb
 obtain⟨J,hJ⟩:∃J:Rs Nat,(q.bind fun i=>.ok (bl s.data.toList i))=J:=⟨_,rfl⟩;have HJ:Hd ((q.bind fun i=>.ok (bl s.data.toList i))=J):=hJ;have H0:Hd (Ds w R s L O now de q):=h;rw[hJ];clear h hJ;go_enter func51,ntmps51;go_wp2;go_loopw [] (fun wr=>∃q:Rs Nat,Ds wr R s L O now de q/\(q.bind fun i=>.ok (bl s.data.toList i))=J/\w.grownBy wr (some R)) (fun wr=>s.size-dI wr R)
 case atStart=>exact⟨q,H0.o,HJ.o,ak _ _⟩
 case round =>
  obtain⟨q,hds,hbl,hg⟩:=hrel;have HG:Hd (w.grownBy wr (some R)):=hg;have C1:Hd (∀c w,0<=c->Ds w R s L O now de q->Calls prog 52 #[.pointer (some ⟨R,0,none⟩),.int .u8 c] w fun e w'=>e=.returned (.bool (ed s.data.toList q c))/\w.grownBy w' none):=CI.o q;have eU:Hd (Ds wr R s L O now de q):=hds;have fP:Hd ((q.bind fun i=>.ok (bl s.data.toList i))=J):=hbl;clear hds hbl hg;obtain⟨b1,hb1⟩:∃b,ed s.data.toList q 32=b:=⟨_,rfl⟩;obtain⟨b2,hb2⟩:∃b,ed s.data.toList q 9=b:=⟨_,rfl⟩;have xA:Hd (∀w,Ds w R s L O now de q->Calls prog 52 #[.pointer (some ⟨R,0,none⟩),.int .u8 32] w fun e w'=>e=.returned (.bool b1)/\w.grownBy w' none):=fun w h=>by rw[<-hb1];exact C1.o 32 w (by decide) h
  have C9:Hd (∀w,Ds w R s L O now de q->Calls prog 52 #[.pointer (some ⟨R,0,none⟩),.int .u8 9] w fun e w'=>e=.returned (.bool b2)/\w.grownBy w' none):=fun w h=>by rw[<-hb2];exact C1.o 9 w (by decide) h
  have HB1:Hd (ed s.data.toList q 32=b1):=hb1;have HB2:Hd (ed s.data.toList q 9=b2):=hb2;clear hb1 hb2;have PW:Hd ((b1=true\/b2=true)->∃k,k<s.size/\Dd wr R s L O now de k 0 0/\(Except.ok (bl s.data.toList (k+1)):Rs Nat)=J):=fun hor=>by
   match q,eU.o,HB1.o,HB2.o,fP.o with
   | .error e,_,hh1,hh2,_=>
    exfalso;unfold ed at hh1 hh2;subst hh1 hh2
    rcases hor with h|h<;>cases h
   | .ok k,hd,hh1,hh2,hj =>
    have hx:fC (nx s.data.toList k)=true:=by
     unfold ed at hh1 hh2;unfold fC;subst hh1 hh2
     rcases hor with h|h
     ·have:=of_decide_eq_true h;simp[this]
     ·have:=of_decide_eq_true h;simp[this]
    have hkl:k<s.size:=cZ.o k (by unfold fC at hx;have:=of_decide_eq_true hx;omega);refine⟨k,hkl,hd.2,?_⟩;rw[<-HST.o k hkl hx];exact hj
  have qm:Hd (b1=false->b2=false->q=J):=fun h1 h2=>by
   match q,eU.o,HB1.o,HB2.o,fP.o with
   | .error e,_,_,_,hj=>exact hj
   | .ok k,hd,hh1,hh2,hj =>
    rw[<-hj];show _=Except.ok _;rw[jH.o k];unfold ed at hh1 hh2;unfold fC;rw[h1]at hh1;rw[h2]at hh2;have:=of_decide_eq_false hh1;have:=of_decide_eq_false hh2;simp[*]
  have step:∀(wx:World) (k:Nat),wr.grownBy wx none->k<s.size->Dd wr R s L O now de k 0 0->(Except.ok (bl s.data.toList (k+1)):Rs Nat)=J->(∃q:Rs Nat,Ds (wx.setCell ⟨R,1,none⟩ (.int .i64 ((k:Int)+1))) R s L O now de q/\(q.bind fun i=>.ok (bl s.data.toList i))=J/\w.grownBy (wx.setCell ⟨R,1,none⟩ (.int .i64 ((k:Int)+1))) (some R))/\s.size-dI (wx.setCell ⟨R,1,none⟩ (.int .i64 ((k:Int)+1))) R<s.size-dI wr R:=fun wx k hg hk hd hj=>by
   have hd2:=(hd.grow hg).setI (k+1);refine⟨⟨.ok (k+1),⟨by omega,hd2⟩,hj,aV (aF HG.o hg) 1 _⟩,?_⟩;have e1:=uX hd2;rw[uX hd];have e2:(wx.setCell ⟨R,1,none⟩ (.int .i64 ((k+1:Nat):Int)))=wx.setCell ⟨R,1,none⟩ (.int .i64 ((k:Int)+1)):=rfl;rw[e2]at e1;rw[e1];omega
  have PX:Hd (∀(wx:World) (k:Nat),wr.grownBy wx none->k<s.size->Dd wr R s L O now de k 0 0->(Except.ok (bl s.data.toList (k+1)):Rs Nat)=J->(∃q:Rs Nat,Ds (wx.setCell ⟨R,1,none⟩ (.int .i64 ((k:Int)+1))) R s L O now de q/\(q.bind fun i=>.ok (bl s.data.toList i))=J/\w.grownBy (wx.setCell ⟨R,1,none⟩ (.int .i64 ((k:Int)+1))) (some R))/\s.size-dI (wx.setCell ⟨R,1,none⟩ (.int .i64 ((k:Int)+1))) R<s.size-dI wr R):=step;clear step
  cases b1 with
  | true =>
   obtain⟨k,hk,hd,hj⟩:=PW.o (Or.inl rfl);have HD:Hd (Dd wr R s L O now de k 0 0):=hd;have HJ2:Hd ((Except.ok (bl s.data.toList (k+1)):Rs Nat)=J):=hj;clear hd hj;go_wp2_with (go_at_call 52;refine(xA.o _ eU.o).mono ?_)
   first|rintro e w1 rfl hg1|rintro e w1 ⟨rfl,hg1⟩
   have ay:Hd (wr.grownBy w1 none):=hg1;obtain⟨-,c1,-,-,-,-,-,-,df⟩:=(HD.o.grow hg1).cells;have df1:=df 1;clear hg1 df;go_wp2;exact PX.o w1 k ay.o hk HD.o HJ2.o
  | false =>
   cases b2 with
   | true =>
    obtain⟨k,hk,hd,hj⟩:=PW.o (Or.inr rfl);have HD:Hd (Dd wr R s L O now de k 0 0):=hd;have HJ2:Hd ((Except.ok (bl s.data.toList (k+1)):Rs Nat)=J):=hj;clear hd hj;go_wp2_with (go_at_call 52;refine(xA.o _ eU.o).mono ?_)
    first|rintro e w1 rfl hg1|rintro e w1 ⟨rfl,hg1⟩
    have ay:Hd (wr.grownBy w1 none):=hg1;clear hg1;go_wp2_with (go_at_call 52;refine(C9.o _ (eU.o.grow ay.o)).mono ?_)
    first|rintro e w2 rfl hg2|rintro e w2 ⟨rfl,hg2⟩
    have HG2:Hd (wr.grownBy w2 none):=ai ay.o hg2;obtain⟨-,c1,-,-,-,-,-,-,df⟩:=(HD.o.grow HG2.o).cells;have df1:=df 1;clear hg2 df;go_wp2;exact PX.o w2 k HG2.o hk HD.o HJ2.o
   | false =>
    have HQ:Hd (q=J):=qm.o rfl rfl;go_wp2_with (go_at_call 52;refine(xA.o _ eU.o).mono ?_)
    first|rintro e w1 rfl hg1|rintro e w1 ⟨rfl,hg1⟩
    have ay:Hd (wr.grownBy w1 none):=hg1;clear hg1;go_wp2_with (go_at_call 52;refine(C9.o _ (eU.o.grow ay.o)).mono ?_)
    first|rintro e w2 rfl hg2|rintro e w2 ⟨rfl,hg2⟩
    have HG2:Hd (wr.grownBy w2 none):=ai ay.o hg2;clear hg2;go_wp2;refine bodyPost_end (results_none rfl _ _ _) rfl ⟨rfl,?_,aF HG.o HG2.o⟩;rw[<-HQ.o];exact eU.o.grow HG2.o
theorem Ye(l:List UInt8)(f i:Nat)(h:fC (nx l i)=true):gap l f i=gap l f (i+1)\/f=0:=by
 cases f with
 | zero=>exact Or.inr rfl
 | succ f =>
  left;have hi:i<l.length:=bu (by unfold fC at h;have:=of_decide_eq_true h;omega);have e:bl l i=bl l (i+1):=ql fC l i hi h;rw[tH,tH,e]
theorem PY(l:List UInt8)(f i:Nat)(h:nx l i=10):gap l (f+1) i=gap l f (i+1):=by
 have e:bl l i=i:=lG fC l i (by rw[h];rfl);have e2:bi l i=(true,i):=Ep l i (by rw[h];decide);rw[tH,e,e2];simp only[h];rfl
theorem PZ(l:List UInt8)(f i:Nat)(h:fC (nx l i)=false)(h1:¬nx l i=10)(h2:¬nx l i=35):gap l (f+1) i=.ok i:=by
 have e:bl l i=i:=lG fC l i h;have e2:bi l i=(true,i):=Ep l i h2;rw[tH,e,e2];simp[h1]
theorem Yf(l:List UInt8)(f i:Nat)(h:nx l i=35):gap l (f+1) i=(gz l i).bind (gap l (f+1)):=by
 have e:bl l i=i:=lG fC l i (by rw[h];rfl);rw[tH,e];unfold gz;have hc:bi l i=if nx l (toR dm l i)=10\/nx l (toR dm l i)=-1 then(true,toR dm l i) else(false,toR dm l i):=by unfold bi;rw[if_pos h]
 rw[hc]
 by_cases h1:nx l (toR dm l i)=10\/nx l (toR dm l i)=-1
 ·simp only[if_pos h1,if_true];rw[if_neg (by decide)];show _=gap l (f+1) (toR dm l i)
  rcases h1 with h1|h1
  ·rw[if_pos h1,PY l f _ h1]
  ·rw[if_neg (by rw[h1];decide),PZ l f _ (by rw[h1];rfl) (by rw[h1];decide) (by rw[h1];decide)]
 ·simp only[if_neg h1,if_true];rw[if_neg (by decide)];rfl
theorem Yg(l:List UInt8)(i j:Nat)(h:nx l i=35)(hj:gz l i=.ok j):i<j/\j<=l.length:=by
 have hi:i<l.length:=bu (by omega);rw[PQ l i h,PT l i (by rw[h];rfl) (by rw[h];decide) (by rw[h];decide)]at hj;have:=oQ dm l (i+1) (by omega);unfold iG at hj;split at hj
 ·injection hj with hj;omega
 ·cases hj
def iH:List UInt8->Nat->Nat
 | [],n=>n
 | c :: r,n=>iH r (if n<=99999999999999999 then 10*n+(c.toNat - 48) else 1000000000000000000)
theorem P5:∀(ds:List UInt8),iH ds 1000000000000000000=1000000000000000000
 | []=>rfl
 | c :: r=>by
  unfold iH;rw[if_neg (by omega)];exact P5 r
theorem P6:∀(ds:List UInt8) (n a:Nat),(∀c∈ds,c.toNat<=57)->n<10 ^ a->a+ds.length<=18->iH ds n=gJ ds n/\gJ ds n<10 ^ (a+ds.length)
 | [],n,a,_,hn,_=>⟨rfl,hn⟩
 | c :: r,n,a,hd,hn,hl=>by
  have hc:=hd c (by simp);simp only[List.length_cons]at hl ⊢;have h17:10 ^ a<=10 ^ 17:=Nat.pow_le_pow_right (by omega) (by omega);have hle:n<=99999999999999999:=by
   have e:(10:Nat) ^ 17=100000000000000000:=by decide
   omega
  unfold iH gJ;rw[if_pos hle];have hn':10*n+(c.toNat - 48)<10 ^ (a+1):=by rw[Nat.pow_succ];omega
  have:=P6 r _ (a+1) (fun x hx=>hd x (by simp[hx])) hn' (by omega);rw[show a+1+r.length=a+(r.length+1) by omega]at this;exact this
theorem P7:∀(ds:List UInt8) (n a:Nat),(∀c∈ds,c.toNat<=57)->10 ^ a<=n->n<=1000000000000000000->18<=a+ds.length->iH ds n=1000000000000000000
 | [],n,a,_,hn,hm,hl=>by
  have h18:10 ^ 18<=10 ^ a:=Nat.pow_le_pow_right (by omega) (by simpa using hl);have e:(10:Nat) ^ 18=1000000000000000000:=by decide
  show n=_;omega
 | c :: r,n,a,hd,hn,hm,hl=>by
  have hc:=hd c (by simp);unfold iH
  by_cases hle:n<=99999999999999999
  ·rw[if_pos hle];refine P7 r _ (a+1) (fun x hx=>hd x (by simp[hx])) (by rw[Nat.pow_succ];omega) (by omega) (by simp only[List.length_cons]at hl;omega)
  ·rw[if_neg hle];exact P5 r
theorem P8:∀(a b:List UInt8) (n:Nat),iH (a++b) n=iH b (iH a n)
 | [],b,n=>rfl
 | c :: r,b,n=>by
  show iH (r++b) _=iH b (iH r _);rw[P8 r b]
open Go.RowKit Go.Joins
def dE(wr:World)(R:Nat):Int:=match wr.cell? ⟨R,5,none⟩ with|some (.int _ e)=>e|_=>1
theorem P9{w:World}{R:Nat}{s:ByteArray}{L O:Value}{now de i:Nat}{er:Int}{p:Nat}(h:Dd w R s L O now de i er p):dE w R=er:=by unfold dE;rw[h.cells.2.2.2.2.2.1]
def dM(wr:World)(R:Nat)(s:ByteArray):Nat:=if dE wr R=0 then s.size-dI wr R+1 else 0
theorem tX{w:World}{R:Nat}{s:ByteArray}{L O:Value}{now de i:Nat}{p:Nat}(h:Dd w R s L O now de i 0 p):dM w R s=s.size-i+1:=by
 unfold dM;rw[P9 h,uX h,if_pos rfl]
theorem EO{w:World}{R:Nat}{s:ByteArray}{L O:Value}{now de i:Nat}{er:Int}{p:Nat}(h:Dd w R s L O now de i er p)(he:¬er=0):dM w R s=0:=by
 unfold dM;rw[P9 h,if_neg he]
theorem byte_at(s:ByteArray)(k:Nat)(hk:k<s.size):nx s.data.toList k=(s[k].toNat:Int):=by
 rw[oP _ _ (by simpa using hk)];rfl
theorem Qa(R:Nat)(s:ByteArray)(L O:Value)(now de:Nat)(q:Rs Nat)(w:World)(h:Ds w R s L O now de q)(hs:s.size<=1048576) :
  Calls prog 55 #[.pointer (some ⟨R,0,none⟩)] w fun e w'=>e=.returned (.tuple #[])/\Ds w' R s L O now de (q.bind (gz s.data.toList))/\w.grownBy w' (some R):=by
 have hl:s.data.toList.length=s.size:=by simp
 have CI:Hd (Calls prog 52 #[.pointer (some ⟨R,0,none⟩),.int .u8 35] w fun e w'=>e=.returned (.bool (ed s.data.toList q 35))/\w.grownBy w' none):=rG R s L O now de q 35 (by decide) w h hs;have eU:Hd (Ds w R s L O now de q):=h;have qy:Hd (ed s.data.toList q 35=true->∃k,q=.ok k/\q.bind (gz s.data.toList)=iG s.data.toList k):=fun hh=>by
  match q with
  | .error e=>unfold ed at hh;cases hh
  | .ok k=>exact⟨k,rfl,PQ _ k (of_decide_eq_true hh)⟩
 have HC2:Hd (ed s.data.toList q 35=false->q.bind (gz s.data.toList)=q):=fun hh=>by
  match q with
  | .error e=>rfl
  | .ok k=>exact PS _ k (of_decide_eq_false hh)
 obtain⟨b,hb⟩:=zN (ed s.data.toList q 35);rw[hb]at CI qy HC2;have HX:Hd (∀k (hk:k<s.size),nx s.data.toList k=(s[k].toNat:Int)):=byte_at s;have jK:Hd (∀k,nx s.data.toList k=10->iG s.data.toList k=.ok k):=Yc _;have HE2:Hd (∀k,s.size<=k->iG s.data.toList k=.ok k):=fun k hk=>Yb _ _ (ji _ _ (by omega))
 have Jg:Hd (∀k (hk:k<s.size),gG (s[k].toNat:Int)=true->¬(s[k].toNat:Int)=10->iG s.data.toList k=.error (2,k)):=fun k hk h1 h2=>Yd _ _ (by rw[byte_at s k hk];exact h1) (by rw[byte_at s k hk];exact h2) (by rw[byte_at s k hk];omega)
 have EP:Hd (∀k (hk:k<s.size),gG (s[k].toNat:Int)=false->¬(s[k].toNat:Int)=10->iG s.data.toList k=iG s.data.toList (k+1)):=fun k hk h1 h2=>PT _ _ (by rw[byte_at s k hk];exact h1) (by rw[byte_at s k hk];exact h2) (by rw[byte_at s k hk];omega)
 clear h hb
 cases b with
 | false =>
  rw[HC2.o rfl];go_enter func55,ntmps55;go_wp2_with (go_at_call 52;refine CI.o.mono ?_)
  first|rintro e w1 rfl hg1|rintro e w1 ⟨rfl,hg1⟩
  have ay:Hd (w.grownBy w1 none):=hg1;clear hg1;go_wp2;refine bodyPost_ret (results_none rfl _ _ _) rfl ?_;exact⟨rfl,eU.o.grow ay.o,aF (ak w (some R)) ay.o⟩
 | true =>
  obtain⟨k0,hq,hcr⟩:=qy.o rfl;rw[hcr];obtain⟨Q,hQ⟩:=zN (iG s.data.toList k0);have HQ:Hd (iG s.data.toList k0=Q):=hQ;rw[hQ];have HD0:Hd (k0<=s.size/\Dd w R s L O now de k0 0 0):=by
   have:=eU.o;rw[hq]at this;exact this
  clear hq hcr hQ qy HC2 eU;go_enter func55,ntmps55;go_wp2_with (go_at_call 52;refine CI.o.mono ?_)
  first|rintro e w1 rfl hg1|rintro e w1 ⟨rfl,hg1⟩
  have ay:Hd (w.grownBy w1 (some R)):=aF (ak w (some R)) hg1;have HD1:Hd (Dd w1 R s L O now de k0 0 0):=HD0.o.2.grow hg1;clear hg1;go_wp2;go_loopw [] (fun wr=>∃q:Rs Nat,Ds wr R s L O now de q/\q.bind (iG s.data.toList)=Q/\w.grownBy wr (some R)) (fun wr=>dM wr R s)
  case atStart=>exact⟨.ok k0,⟨HD0.o.1,HD1.o⟩,HQ.o,ay.o⟩
  case round =>
   obtain⟨q,hds,hbl,hg⟩:=hrel;have HG:Hd (w.grownBy wr (some R)):=hg;clear hg
   match q,hds,hbl with
   | .error (c,p),⟨hc,j,hj,hd⟩,hq =>
    have mg:Hd (Q=.error (c,p)):=hq.symm;obtain⟨c0,c1,-,-,-,c5,-,-,-⟩:=hd.cells;have hn:(c == 0)=false:=by simpa using hc
    have HD:Hd (Dd wr R s L O now de j c p):=hd;have HC:Hd (c≠0):=hc;clear hd hq hc
    by_cases hlt:j<s.size
    ·have hlt':decide ((j:Int)<(s.size:Int))=true:=by simp;omega
     obtain⟨b,hb⟩:=zN (((s[j].toNat:Int) != 10))
     cases b with
     | true =>
      go_wp2;go_quiet (fail);go_wp2;refine bodyPost_end (results_none rfl _ _ _) rfl ?_;rw[mg.o];exact⟨rfl,⟨HC.o,j,hj,HD.o⟩,⟨HG.o.os,HG.o.tape,HG.o.output,HG.o.size,HG.o.block⟩⟩
     | false =>
      go_wp2;go_quiet (fail);go_wp2;refine bodyPost_end (results_none rfl _ _ _) rfl ?_;rw[mg.o];exact⟨rfl,⟨HC.o,j,hj,HD.o⟩,⟨HG.o.os,HG.o.tape,HG.o.output,HG.o.size,HG.o.block⟩⟩
    ·have hge:decide ((j:Int)<(s.size:Int))=false:=by simp;omega
     go_wp2;go_quiet (fail);go_wp2;refine bodyPost_end (results_none rfl _ _ _) rfl ?_;rw[mg.o];exact⟨rfl,⟨HC.o,j,hj,HD.o⟩,⟨HG.o.os,HG.o.tape,HG.o.output,HG.o.size,HG.o.block⟩⟩
   | .ok k,⟨hk,hd⟩,hq =>
    have EQ:Hd (iG s.data.toList k=Q):=hq;obtain⟨c0,c1,-,-,-,c5,-,-,df⟩:=hd.cells;have df1:=df 1;have HD:Hd (Dd wr R s L O now de k 0 0):=hd;have HM:Hd (dM wr R s=s.size-k+1):=tX hd;clear hd hq df
    by_cases hlt:k<s.size
    ·have hlt':decide ((k:Int)<(s.size:Int))=true:=by simp;omega
     have hu:=s[k].toNat_lt;have ER:Hd (nx s.data.toList k=(s[k].toNat:Int)):=HX.o k hlt;have Yh:Hd (nx s.data.toList k=10->iG s.data.toList k=.ok k):=jK.o k;have Qb:Hd (gG (s[k].toNat:Int)=true->¬(s[k].toNat:Int)=10->iG s.data.toList k=.error (2,k)):=Jg.o k hlt;have Qc:Hd (gG (s[k].toNat:Int)=false->¬(s[k].toNat:Int)=10->iG s.data.toList k=iG s.data.toList (k+1)):=EP.o k hlt;have CC:Hd (∀w,Calls prog 84 #[.int .u8 (s[k].toNat:Int)] w fun e w'=>e=.returned (.bool (gG (s[k].toNat:Int)))/\w'=w):=PU s[k];obtain⟨b,hb⟩:=zN (((s[k].toNat:Int) != 10))
     cases b with
     | false =>
      have mg:Hd (Q=.ok k):=by
       show _=_;rw[<-EQ.o,Yh.o (by rw[ER.o];simpa using hb)]
      go_wp2;go_quiet (fail);go_wp2;refine bodyPost_end (results_none rfl _ _ _) rfl ?_;rw[mg.o];exact⟨rfl,⟨hk,HD.o⟩,⟨HG.o.os,HG.o.tape,HG.o.output,HG.o.size,HG.o.block⟩⟩
     | true =>
      have zY:Hd (¬(s[k].toNat:Int)=10):=by
       show ¬_;simpa using hb
      obtain⟨b2,hb2⟩:∃b,gG (s[k].toNat:Int)=b:=⟨_,rfl⟩;rw[hb2]at CC Qb Qc;clear hb2
      cases b2 with
      | true =>
       have mg:Hd (Q=.error (2,k)):=EQ.o.symm.trans (Qb.o rfl zY.o);have CF:Hd (∀wx,Dd wx R s L O now de k 0 0->Calls prog 82 #[.pointer (some ⟨R,0,none⟩),.int .i64 2,.int .i64 (k:Nat)] wx fun en w'=>en=.returned (.tuple #[])/\Dd w' R s L O now de k 2 k/\wx.grownBy w' (some R)):=fun wx hg=>oV R s L O now de k 2 k wx hg
       go_wp2;go_quiet (fail);have aC:Hd (Dd (wr.drewN nq) R s L O now de k 0 0):=HD.o;have dO:Hd (w.grownBy (wr.drewN nq) (some R)):=au HG.o nq;obtain⟨wA,hwA⟩:∃W,wr.drewN nq=W:=⟨_,rfl⟩;rw[hwA]at aC dO ⊢;obtain⟨d0,d1,-,-,-,d5,-,-,dg⟩:=aC.o.cells;have dg1:=dg 1;clear hwA dg;go_wp2;go_quiet (first|(go_at_call 84;exact Calls.quiet_of_same (CC.o _)));go_wp2_with (first|(go_at_call 84;refine(CC.o _).mono ?_;rintro e w' ⟨rfl,rfl⟩)|(go_at_call 82;refine(CF.o _ ?_).mono ?_;exact aC.o;rintro e w2 ⟨rfl,hd2,hg2⟩;obtain⟨-,d1,-,-,-,-,-,-,dff⟩:=hd2.cells;have dff1:=dff 1));refine⟨⟨.error (2,k),⟨by decide,k+1,by omega,hd2.setI (k+1)⟩,mg.o.symm,aV (dH (w1:=wA) dO.o ⟨hg2.os,hg2.tape,hg2.output,hg2.size,hg2.block⟩) 1 _⟩,?_⟩;rw[HM.o];have e1:=EO (hd2.setI (k+1)) (by decide);have e2:(w2.setCell ⟨R,1,none⟩ (.int .i64 ((k+1:Nat):Int)))=w2.setCell ⟨R,1,none⟩ (.int .i64 ((k:Int)+1)):=rfl
       rw[e2]at e1;rw[e1];omega
      | false =>
       have mg:Hd (iG s.data.toList (k+1)=Q):=(Qc.o rfl zY.o).symm.trans EQ.o;go_wp2;go_quiet (fail);have aC:Hd (Dd (wr.drewN nq) R s L O now de k 0 0):=HD.o;have dO:Hd (w.grownBy (wr.drewN nq) (some R)):=au HG.o nq;obtain⟨wA,hwA⟩:∃W,wr.drewN nq=W:=⟨_,rfl⟩;rw[hwA]at aC dO ⊢;obtain⟨d0,d1,-,-,-,d5,-,-,dg⟩:=aC.o.cells;have dg1:=dg 1;clear hwA dg;go_wp2;go_quiet (first|(go_at_call 84;exact Calls.quiet_of_same (CC.o _)));go_wp2_with (go_at_call 84;refine(CC.o _).mono ?_;rintro e w' ⟨rfl,rfl⟩);have HS:=aC.o.setI (k+1);refine⟨⟨.ok (k+1),⟨by omega,HS⟩,mg.o,?_⟩,?_⟩
       ·exact aV (au dO.o _) 1 _
       ·rw[HM.o];refine Nat.lt_of_le_of_lt (Nat.le_of_eq (tX (i:=k+1) HS)) (by omega)
    ·have hge:decide ((k:Int)<(s.size:Int))=false:=by simp;omega
     have mg:Hd (Q=.ok k):=EQ.o.symm.trans (HE2.o k (by omega));go_wp2;go_quiet (fail);go_wp2;refine bodyPost_end (results_none rfl _ _ _) rfl ?_;rw[mg.o];exact⟨rfl,⟨hk,HD.o⟩,⟨HG.o.os,HG.o.tape,HG.o.output,HG.o.size,HG.o.block⟩⟩
open Go.RowKit Go.Joins
theorem Yi(R:Nat)(s:ByteArray)(L O:Value)(now de:Nat)(q:Rs Nat)(w:World)(h:Ds w R s L O now de q)(hs:s.size<=1048576) :
  Calls prog 162 #[.pointer (some ⟨R,0,none⟩)] w fun e w'=>e=.returned (.tuple #[])/\Ds w' R s L O now de (q.bind (gap s.data.toList (s.data.toList.length+1)))/\w.grownBy w' (some R):=by
 have hl:s.data.toList.length=s.size:=by simp
 have CI:Hd (∀q c w,0<=c->Ds w R s L O now de q->Calls prog 52 #[.pointer (some ⟨R,0,none⟩),.int .u8 c] w fun e w'=>e=.returned (.bool (ed s.data.toList q c))/\w.grownBy w' none):=fun q c w h0 h1=>rG R s L O now de q c h0 w h1 hs
 have CC:Hd (∀q w,Ds w R s L O now de q->Calls prog 55 #[.pointer (some ⟨R,0,none⟩)] w fun e w'=>e=.returned (.tuple #[])/\Ds w' R s L O now de (q.bind (gz s.data.toList))/\w.grownBy w' (some R)):=fun q w h=>Qa R s L O now de q w h hs
 have cZ:Hd (∀k,0<=nx s.data.toList k->k<s.size):=fun k hb=>by rw[<-hl];exact bu hb
 have HX:Hd (∀k (hk:k<s.size),nx s.data.toList k=(s[k].toNat:Int)):=byte_at s;have jK:Hd (∀f k,fC (nx s.data.toList k)=true->gap s.data.toList (f+1) k=gap s.data.toList (f+1) (k+1)):=fun f k hb=>(Ye _ (f+1) k hb).resolve_right (by omega)
 have HE2:Hd (∀f k,nx s.data.toList k=10->gap s.data.toList (f+1) k=gap s.data.toList f (k+1)):=PY _;have Jg:Hd (∀f k,nx s.data.toList k=35->gap s.data.toList (f+1) k=(gz s.data.toList k).bind (gap s.data.toList (f+1))):=Yf _;have EP:Hd (∀f k,fC (nx s.data.toList k)=false->¬nx s.data.toList k=10->¬nx s.data.toList k=35->gap s.data.toList (f+1) k=.ok k):=PZ _;have Yj:Hd (∀k j,nx s.data.toList k=35->gz s.data.toList k=.ok j->k<j/\j<=s.size):=fun k j h1 h2=>by rw[<-hl];exact Yg _ k j h1 h2
 obtain⟨G,hG⟩:=zN (q.bind (gap s.data.toList (s.data.toList.length+1)));have iV:Hd (q.bind (gap s.data.toList (s.data.toList.length+1))=G):=hG;have H0:Hd (Ds w R s L O now de q):=h;rw[hG];have uY:Hd (∀k,q=.ok k->s.size-k<s.data.toList.length+1):=fun k _=>by omega
 clear h hG;go_enter func162,ntmps162;go_wp2;go_loopw [] (fun wr=>∃(q:Rs Nat) (f:Nat),Ds wr R s L O now de q/\(∀k,q=.ok k->s.size-k<f)/\q.bind (gap s.data.toList f)=G/\w.grownBy wr (some R)) (fun wr=>dM wr R s)
 case atStart=>exact⟨q,_,H0.o,uY.o,iV.o,ak _ _⟩
 case round =>
  obtain⟨q,f,hds,hf,ni,hg⟩:=hrel;have HG:Hd (w.grownBy wr (some R)):=hg;have eU:Hd (Ds wr R s L O now de q):=hds;have C1:Hd (∀c w,0<=c->Ds w R s L O now de q->Calls prog 52 #[.pointer (some ⟨R,0,none⟩),.int .u8 c] w fun e w'=>e=.returned (.bool (ed s.data.toList q c))/\w.grownBy w' none):=CI.o q;obtain⟨b1,hb1⟩:∃b,ed s.data.toList q 32=b:=⟨_,rfl⟩;obtain⟨b2,hb2⟩:∃b,ed s.data.toList q 9=b:=⟨_,rfl⟩;obtain⟨b3,hb3⟩:∃b,ed s.data.toList q 10=b:=⟨_,rfl⟩;obtain⟨b4,hb4⟩:∃b,ed s.data.toList q 35=b:=⟨_,rfl⟩;have xA:Hd (∀w,Ds w R s L O now de q->Calls prog 52 #[.pointer (some ⟨R,0,none⟩),.int .u8 32] w fun e w'=>e=.returned (.bool b1)/\w.grownBy w' none):=fun w h=>by rw[<-hb1];exact C1.o 32 w (by decide) h
  have C9:Hd (∀w,Ds w R s L O now de q->Calls prog 52 #[.pointer (some ⟨R,0,none⟩),.int .u8 9] w fun e w'=>e=.returned (.bool b2)/\w.grownBy w' none):=fun w h=>by rw[<-hb2];exact C1.o 9 w (by decide) h
  have C10:Hd (∀w,Ds w R s L O now de q->Calls prog 52 #[.pointer (some ⟨R,0,none⟩),.int .u8 10] w fun e w'=>e=.returned (.bool b3)/\w.grownBy w' none):=fun w h=>by rw[<-hb3];exact C1.o 10 w (by decide) h
  have Qd:Hd (∀w,Ds w R s L O now de q->Calls prog 52 #[.pointer (some ⟨R,0,none⟩),.int .u8 35] w fun e w'=>e=.returned (.bool b4)/\w.grownBy w' none):=fun w h=>by rw[<-hb4];exact C1.o 35 w (by decide) h
  clear hds hg C1 CI
  by_cases hor:b1=true\/b2=true\/b3=true\/b4=true
  ·-- it goes on
   obtain⟨k,hq⟩:∃k,q=.ok k:=by
    match q with
    | .ok k=>exact⟨k,rfl⟩
    | .error e =>
     exfalso;unfold ed at hb1 hb2 hb3 hb4;subst hb1 hb2 hb3 hb4;simp at hor
   rw[hq]at hb1 hb2 hb3 hb4 ni hf;obtain⟨x,hx⟩:=zN (nx s.data.toList k);have e1:decide (x=32)=b1:=by rw[<-hx];exact hb1
   have e2:decide (x=9)=b2:=by rw[<-hx];exact hb2
   have e3:decide (x=10)=b3:=by rw[<-hx];exact hb3
   have e4:decide (x=35)=b4:=by rw[<-hx];exact hb4
   have hfk:=hf k rfl;obtain⟨f,rfl⟩:∃f',f=f'+1:=⟨f-1,by omega⟩;have Ar:gap s.data.toList (f+1) k=G:=ni;have hd:k<=s.size/\Dd wr R s L O now de k 0 0:=by have:=eU.o;rw[hq]at this;exact this
   have hxo:x=32\/x=9\/x=10\/x=35:=by
    subst e1 e2 e3 e4;simpa using hor
   have hkl:k<s.size:=cZ.o k (by rw[hx];omega);have Au:Hd (nx s.data.toList k=(s[k].toNat:Int)):=HX.o k hkl;have HD:Hd (Dd wr R s L O now de k 0 0):=hd.2;have HM:Hd (dM wr R s=s.size-k+1):=tX hd.2;clear hb1 hb2 hb3 hb4 hf hor EP
   by_cases h35:x=35
   ·-- a comment
    have hb:((s[k].toNat:Int) == 35)=true:=by rw[<-Au.o,hx];simp[h35]
    have bC:Hd ((gz s.data.toList k).bind (gap s.data.toList (f+1))=G):=by
     show _=_;rw[<-Jg.o f k (by rw[hx,h35]),Ar]
    have Qe:Hd (∀j,gz s.data.toList k=.ok j->k<j/\j<=s.size):=fun j=>Yj.o k j (by rw[hx,h35])
    have Yk:Hd (∀w',wr.grownBy w' none->Calls prog 55 #[.pointer (some ⟨R,0,none⟩)] w' fun e w''=>e=.returned (.tuple #[])/\Ds w'' R s L O now de (gz s.data.toList k)/\w'.grownBy w'' (some R)):=fun w' hg=>CC.o (.ok k) w' ⟨hd.1,hd.2.grow hg⟩
    obtain rfl:b1=false:=by rw[<-e1,h35];rfl
    obtain rfl:b2=false:=by rw[<-e2,h35];rfl
    obtain rfl:b3=false:=by rw[<-e3,h35];rfl
    obtain rfl:b4=true:=by rw[<-e4,h35];rfl
    clear e1 e2 e3 e4 hx hxo h35 ni Ar hq hd;go_wp2_with (go_at_call 52;refine(xA.o _ eU.o).mono ?_)
    first|rintro e w1 rfl hg1|rintro e w1 ⟨rfl,hg1⟩
    have ay:Hd (wr.grownBy w1 none):=hg1;clear hg1;go_wp2_with (go_at_call 52;refine(C9.o _ (eU.o.grow ay.o)).mono ?_)
    first|rintro e w2 rfl hg2|rintro e w2 ⟨rfl,hg2⟩
    have HG2:Hd (wr.grownBy w2 none):=ai ay.o hg2;clear hg2;go_wp2_with (go_at_call 52;refine(C10.o _ (eU.o.grow HG2.o)).mono ?_)
    first|rintro e w3 rfl hg3|rintro e w3 ⟨rfl,hg3⟩
    have aO:Hd (wr.grownBy w3 none):=ai HG2.o hg3;clear hg3;go_wp2_with (go_at_call 52;refine(Qd.o _ (eU.o.grow aO.o)).mono ?_)
    first|rintro e w4 rfl hg4|rintro e w4 ⟨rfl,hg4⟩
    have dQ:Hd (wr.grownBy w4 none):=ai aO.o hg4;obtain⟨c0,c1,-⟩:=(HD.o.grow dQ.o).cells;clear hg4;go_wp2;go_quiet (fail);go_wp2_with (go_at_call 55;refine(Yk.o _ ?_).mono ?_;exact au dQ.o _;rintro e w5 ⟨rfl,hd5,hg5⟩);have gQ:Hd (w.grownBy w5 (some R)):=dH (aF HG.o dQ.o) ⟨hg5.os,hg5.tape,hg5.output,hg5.size,hg5.block⟩;have HD5:Hd (Ds w5 R s L O now de (gz s.data.toList k)):=hd5;obtain⟨u,hu⟩:=zN (gz s.data.toList k);rw[hu]at HD5 Qe bC;clear hd5 hg5 hu;go_wp2
    match u,HD5.o,Qe.o,bC.o with
    | .error (c,p),hh,_,hgc =>
     obtain⟨hc,j,hj,hd⟩:=hh;refine⟨⟨.error (c,p),f+1,⟨hc,j,hj,hd⟩,fun _ hh=>(by cases hh),hgc,gQ.o⟩,?_⟩;rw[HM.o,EO hd hc];omega
    | .ok j,hh,hlc,hgc =>
     have:=hlc j rfl;refine⟨⟨.ok j,f+1,hh,fun _ hh=>(by cases hh;omega),hgc,gQ.o⟩,?_⟩;rw[HM.o,tX hh.2];omega
   ·have hb:((s[k].toNat:Int) == 35)=false:=by rw[<-Au.o,hx];simpa using h35
    have IU:Hd (∃f',s.size-(k+1)<f'/\gap s.data.toList f' (k+1)=G):=by
     by_cases h10:x=10
     ·exact⟨f,by omega,by rw[<-HE2.o f k (by rw[hx,h10])];exact Ar⟩
     ·refine⟨f+1,by omega,?_⟩;rw[<-jK.o f k (by rw[hx];unfold fC;simp;omega)];exact Ar
    have fin:∀wx:World,wr.grownBy wx none->(∃(q:Rs Nat) (f:Nat),Ds (wx.setCell ⟨R,1,none⟩ (.int .i64 ((k:Int)+1))) R s L O now de q/\(∀k,q=.ok k->s.size-k<f)/\q.bind (gap s.data.toList f)=G/\w.grownBy (wx.setCell ⟨R,1,none⟩ (.int .i64 ((k:Int)+1))) (some R))/\dM (wx.setCell ⟨R,1,none⟩ (.int .i64 ((k:Int)+1))) R s<dM wr R s:=fun wx hg=>by
     obtain⟨f',hf',hgg⟩:=IU.o;have hdd:=(HD.o.grow hg).setI (k+1);refine⟨⟨.ok (k+1),f',⟨by omega,hdd⟩,fun _ hh=>(by cases hh;omega),hgg,aV (aF HG.o hg) 1 _⟩,?_⟩;have e1:=tX hdd;have e2:(wx.setCell ⟨R,1,none⟩ (.int .i64 ((k+1:Nat):Int)))=wx.setCell ⟨R,1,none⟩ (.int .i64 ((k:Int)+1)):=rfl;rw[e2]at e1;rw[e1,HM.o];omega
    have Aw:Hd (∀wx:World,wr.grownBy wx none->(∃(q:Rs Nat) (f:Nat),Ds (wx.setCell ⟨R,1,none⟩ (.int .i64 ((k:Int)+1))) R s L O now de q/\(∀k,q=.ok k->s.size-k<f)/\q.bind (gap s.data.toList f)=G/\w.grownBy (wx.setCell ⟨R,1,none⟩ (.int .i64 ((k:Int)+1))) (some R))/\dM (wx.setCell ⟨R,1,none⟩ (.int .i64 ((k:Int)+1))) R s<dM wr R s):=fin;clear fin;have ES:Hd (b1=true\/(b1=false/\b2=true)\/(b1=false/\b2=false/\b3=true)):=by
     show _\/_;subst e1 e2 e3
     rcases hxo with h|h|h|h
     ·left;simp[h]
     ·right;left;simp[h]
     ·right;right;simp[h]
     ·exact(h35 h).elim
    clear e1 e2 e3 e4 hx hxo h35 ni Ar hq hd;go_wp2_with (go_at_call 52;refine(xA.o _ eU.o).mono ?_)
    first|rintro e w1 rfl hg1|rintro e w1 ⟨rfl,hg1⟩
    have ay:Hd (wr.grownBy w1 none):=hg1;clear hg1
    rcases ES.o with rfl|⟨rfl,rfl⟩|⟨rfl,rfl,rfl⟩
    ·obtain⟨c0,c1,-,-,-,-,-,-,df⟩:=(HD.o.grow ay.o).cells;have df1:=df 1;clear df;go_wp2;go_quiet (fail);go_wp2;exact Aw.o _ (ai ay.o ⟨rfl,rfl,rfl,Nat.le_refl _,fun _ _ _=>rfl⟩)
    ·go_wp2_with (go_at_call 52;refine(C9.o _ (eU.o.grow ay.o)).mono ?_)
     first|rintro e w2 rfl hg2|rintro e w2 ⟨rfl,hg2⟩
     have HG2:Hd (wr.grownBy w2 none):=ai ay.o hg2;obtain⟨c0,c1,-,-,-,-,-,-,df⟩:=(HD.o.grow HG2.o).cells;have df1:=df 1;clear df hg2;go_wp2;go_quiet (fail);go_wp2;exact Aw.o _ (ai HG2.o ⟨rfl,rfl,rfl,Nat.le_refl _,fun _ _ _=>rfl⟩)
    ·go_wp2_with (go_at_call 52;refine(C9.o _ (eU.o.grow ay.o)).mono ?_)
     first|rintro e w2 rfl hg2|rintro e w2 ⟨rfl,hg2⟩
     have HG2:Hd (wr.grownBy w2 none):=ai ay.o hg2;clear hg2;go_wp2_with (go_at_call 52;refine(C10.o _ (eU.o.grow HG2.o)).mono ?_)
     first|rintro e w3 rfl hg3|rintro e w3 ⟨rfl,hg3⟩
     have aO:Hd (wr.grownBy w3 none):=ai HG2.o hg3;obtain⟨c0,c1,-,-,-,-,-,-,df⟩:=(HD.o.grow aO.o).cells;have df1:=df 1;clear df hg3;go_wp2;go_quiet (fail);go_wp2;exact Aw.o _ (ai aO.o ⟨rfl,rfl,rfl,Nat.le_refl _,fun _ _ _=>rfl⟩)
  ·-- nothing of the kind
   have Yl:Hd (q=G):=by
    show q=G;rw[<-ni]
    match q with
    | .error e=>rfl
    | .ok k =>
     have hfk:=hf k rfl;obtain⟨f,rfl⟩:∃f',f=f'+1:=⟨f-1,by omega⟩;unfold ed at hb1 hb2 hb3 hb4;subst hb1 hb2 hb3 hb4;simp only[decide_eq_true_eq,not_or]at hor;refine(EP.o f k ?_ hor.2.2.1 hor.2.2.2).symm;unfold fC;simp[hor.1,hor.2.1]
   obtain rfl:b1=false:=by cases b1<;>simp at hor ⊢
   obtain rfl:b2=false:=by cases b2<;>simp at hor ⊢
   obtain rfl:b3=false:=by cases b3<;>simp at hor ⊢
   obtain rfl:b4=false:=by cases b4<;>simp at hor ⊢
   clear hb1 hb2 hb3 hb4 hf hor ni;go_wp2_with (go_at_call 52;refine(xA.o _ eU.o).mono ?_)
   first|rintro e w1 rfl hg1|rintro e w1 ⟨rfl,hg1⟩
   have ay:Hd (wr.grownBy w1 none):=hg1;clear hg1;go_wp2_with (go_at_call 52;refine(C9.o _ (eU.o.grow ay.o)).mono ?_)
   first|rintro e w2 rfl hg2|rintro e w2 ⟨rfl,hg2⟩
   have HG2:Hd (wr.grownBy w2 none):=ai ay.o hg2;clear hg2;go_wp2_with (go_at_call 52;refine(C10.o _ (eU.o.grow HG2.o)).mono ?_)
   first|rintro e w3 rfl hg3|rintro e w3 ⟨rfl,hg3⟩
   have aO:Hd (wr.grownBy w3 none):=ai HG2.o hg3;clear hg3;go_wp2_with (go_at_call 52;refine(Qd.o _ (eU.o.grow aO.o)).mono ?_)
   first|rintro e w4 rfl hg4|rintro e w4 ⟨rfl,hg4⟩
   have dQ:Hd (wr.grownBy w4 none):=ai aO.o hg4;clear hg4;go_wp2;refine bodyPost_end (results_none rfl _ _ _) rfl ⟨rfl,?_,aF HG.o dQ.o⟩;rw[<-Yl.o];exact eU.o.grow dQ.o
end Go.Proofs.YtnnbgjaphfhibaaGreatDoor
