import Derived.Test.YtnnbgjaphfhibaaGreatDoorM08
import Derived.Laws.BytesString
set_option linter.unusedVariables false
set_option linter.unusedSimpArgs false
set_option maxRecDepth 100000
set_option maxHeartbeats 6400000
open Go.Proofs.Tryz
namespace Go.Proofs.YtnnbgjaphfhibaaGreatDoor
open Go.RowKit Go.Joins
def Bq(n:Int):Bool:=decide (55296<=n/\n<=57343)
def nO(n:Nat):Bool:=Bq (n:Nat)
theorem Y6(n:Int)(h0:0<=n)(hn:n<65536)(w:World):Calls prog 238 #[.int .i32 n] w fun e w'=>e=.returned (.bool (!Bq n))/\w'=w:=by
 have HX:Hd (Bq n=decide (55296<=n/\n<=57343)):=rfl;obtain⟨y,hy⟩:=zN (Bq n);rw[hy]at HX ⊢;clear hy;go_enter func238,ntmps238;go_wp2
 all_goals go_ret
 all_goals (refine⟨bV ?_,rfl⟩;rw[HX.o];simp;try omega)
theorem Y7(n:Nat)(hn:n<65536)(w:World):Calls prog 238 #[.int .i32 (n:Nat)] w fun e w'=>e=.returned (.bool (!nO n))/\w'=w:=Y6 (n:Nat) (by omega) (by omega) w
def Ko(p:Nat):Rs (Nat × Nat)->Rs (Nat × Nat)
 | .error e=>.error e
 | .ok (n,j)=>if nO n=true then .error (2,p) else .ok (n,j)
def um(l:List UInt8)(i p:Nat):Rs (Nat × Nat):=Ko p (four l 4 i 0)
theorem Bv(l:List UInt8)(k i n:Nat):four l (k+1) i n=if hexV (nx l i)<0 then .error (2,i) else four l k (i+1) (16*n+(hexV (nx l i)).toNat):=rfl
theorem Y8(c d:Nat)(hc:c<4096)(hd:d<16):bits BinOp.or IntKind.i32 ((c:Int)*16) (d:Int)=((16*c+d:Nat):Int):=by
 have e1:(c:Int)*16=((c*16:Nat):Int):=by simp
 have e2:c*16 ||| d=16*c+d:=by
  have:=Nat.shiftLeft_add_eq_or_of_lt (a:=c) (b:=d) (i:=4) (by omega);rw[Nat.shiftLeft_eq]at this;have e:(2:Nat) ^ 4=16:=rfl;rw[e]at this;omega
 have e3:(BitVec.ofInt 32 ((c:Int)*16) ||| BitVec.ofInt 32 (d:Int)).toNat=16*c+d:=by
  rw[e1,BitVec.ofInt_natCast,BitVec.ofInt_natCast,BitVec.toNat_or,BitVec.toNat_ofNat,BitVec.toNat_ofNat,Nat.mod_eq_of_lt (by omega),Nat.mod_eq_of_lt (by omega),e2]
 show IntKind.i32.wrap (((BitVec.ofInt 32 ((c:Int)*16) ||| BitVec.ofInt 32 (d:Int)).toNat:Nat):Int)=_;rw[e3];simp[IntKind.wrap,IntKind.bits,IntKind.signed];omega
theorem Kq:hexV (-1)=-1:=by decide
def yZ(R:Nat)(s:ByteArray)(T:Nat)(E:Int->TypeId × Value)(g:Rs (Nat × Nat))(w:World)(e:Ending)(w':World):Prop:=(∀n j,g=.ok (n,j)->e=.returned (.tuple #[.int .i32 (n:Nat),.nilIface])/\Rd w' R s j T)/\(∀c p,g=.error (c,p)->∃v,e=.returned (.tuple #[.int .i32 0,v])/\aV w' v E c p/\∃j,Rd w' R s j T)/\w.grownBy w' (some R)
theorem Y9(R:Nat)(s:ByteArray)(i T p:Nat)(E:Int->TypeId × Value)(w:World)(h:Rd w R s i T)(hi:i<=s.size)(hs:s.size<=1048576)(he:Es w E)(hR:Far R) :
  Calls prog 228 #[.pointer (some ⟨R,0,none⟩),.int .i64 (p:Nat)] w (yZ R s T E (um s.data.toList i p) w):=by
 have CN:Hd (∀k w,Rd w R s k T->k<=s.size->Calls prog 104 #[.pointer (some ⟨R,0,none⟩)] w fun e w'=>e=.returned (.int .i64 (nx s.data.toList k))/\w.grownBy w' none):=fun k w h1 h2=>mV R s k T w h1 h2 hs
 have CX:Hd (∀c,-1<=c/\c<256->∀w,Calls prog 237 #[.int .i64 c] w fun e w'=>e=.returned (.int .i64 (hexV c))/\w'=w):=Y4;have CV:Hd (∀n:Nat,n<65536->∀w,Calls prog 238 #[.int .i32 (n:Nat)] w fun e w'=>e=.returned (.bool (!nO n))/\w'=w):=Y7;have CW:Hd (∀w,Calls prog 195 #[.iface (E 2).1 (E 2).2,.int .i64 (p:Nat)] w fun e w'=>(∃v,e=.returned v/\FaultV w' v p (E 2).1 (E 2).2)/\w.grownBy w' none):=fun w=>rV p _ _ w
 have lI:Hd (∀w',w.grownBy w' (some R)->w'.cell? ⟨6,0,none⟩=some (.iface (E 2).1 (E 2).2)):=fun w' hg=>(he.grow hR hg).te
 have dP:Hd (∀w' v q,FaultV w' v q (E 2).1 (E 2).2->aV w' v E 2 q):=fun _ _ _ h=>h
 obtain⟨ty,hty⟩:=zN ((E 2).1);obtain⟨pv,hpv⟩:=zN ((E 2).2);rw[hty,hpv]at CW lI dP;have CH:Hd (∀k w',w.grownBy w' (some R)->Rd w' R s k T->Calls prog 156 #[.pointer (some ⟨R,0,none⟩)] w' fun e w''=>(∃v,e=.returned v/\FaultV w'' v k ty pv)/\w'.grownBy w'' none):=fun k w' hg hr=>vO R s k T ty pv w' hr (lI.o w' hg)
 have hl:s.data.toList.length=s.size:=by simp
 have Kr:Hd (∀k i n,four s.data.toList (k+1) i n=if hexV (nx s.data.toList i)<0 then .error (2,i) else four s.data.toList k (i+1) (16*n+(hexV (nx s.data.toList i)).toNat)):=Bv _;have Bz:Hd (∀c,-1<=hexV c/\hexV c<16):=FI;have Ku:Hd (∀i,-1<=nx s.data.toList i/\nx s.data.toList i<256):=Fa _;have cZ:Hd (∀k,k<=s.size->0<=hexV (nx s.data.toList k)->k<s.size):=fun k hk hb=>by
  apply Classical.byContradiction;intro hn;rw[jG _ _ (by omega),Kq]at hb;omega
 obtain⟨F,hF⟩:=zN (four s.data.toList 4 i 0);have HF:Hd (four s.data.toList 4 i 0=F):=hF;obtain⟨G,hG⟩:=zN (um s.data.toList i p);have QY:Hd (G=Ko p F):=by show _=_;rw[<-hG,<-hF];rfl
 rw[hG];have H0:Hd (Rd w R s i T):=h;clear h hF hG hty hpv he;go_enter func228,ntmps228;go_wp2;go_loopw [6,8] (fun vc vk wr=>∃k c j:Nat,vc=.int .i32 (c:Nat)/\vk=.int .i64 (k:Nat)/\k<=4/\c<16 ^ k/\four s.data.toList (4-k) j c=F/\Rd wr R s j T/\j<=s.size/\w.grownBy wr (some R)) (fun _ vk _=>4-(intOf vk).toNat)
 case atStart=>exact⟨0,0,i,rfl,rfl,by omega,by omega,HF.o,H0.o,hi,ax _ _⟩
 case round =>
  obtain⟨k,c,j,rfl,rfl,hk,hc,hf,hrd,hj,hg⟩:=hrel;have dB:Hd (Rd _ R s j T):=hrd;have HG:Hd (w.grownBy _ (some R)):=hg
  by_cases hk4:k=4
  ·subst hk4;have hc4:c<65536:=by omega
   have kN:Hd (F=.ok (c,j)):=hf.symm;have aA:Hd (G=if nO c=true then .error (2,p) else .ok (c,j)):=by
    show _=_;rw[QY.o,kN.o];rfl
   have y7:Hd (∀w,Calls prog 238 #[.int .i32 (c:Nat)] w fun e w'=>e=.returned (.bool (!nO c))/\w'=w):=CV.o c hc4;have dte:=lI.o _ hg;obtain⟨b,hb⟩:=zN (nO c);rw[hb]at y7 aA;clear hb hrd hg hf hc hk
   cases b with
   | true =>
    go_wp2_with (first|(go_at_call 238;refine(y7.o _).mono ?_;rintro e w' ⟨rfl,rfl⟩)|(go_at_call 195;refine(CW.o _).mono ?_;rintro e w3 ⟨⟨v,rfl,hv⟩,hg3⟩));refine bodyPost_ret (results_tmp2 (t:=4) (u:=5) rfl _ _ _) rfl ?_;rw[aA.o];exact⟨fun n j hh=>(by cases hh),fun c p hh=>(by cases hh;exact⟨v,rfl,dP.o _ _ _ hv,_,dB.o.grow hg3⟩),aG HG.o hg3⟩
   | false =>
    go_wp2_with (go_at_call 238;refine(y7.o _).mono ?_;rintro e w' ⟨rfl,rfl⟩);refine bodyPost_ret (results_tmp2 (t:=4) (u:=5) rfl _ _ _) rfl ?_;rw[aA.o];exact⟨fun n j hh=>(by cases hh;exact⟨rfl,dB.o⟩),fun c p hh=>(by cases hh),HG.o⟩
  ·have hk3:k<4:=by omega
   obtain⟨m,hm⟩:∃m,4-k=m+1:=⟨3-k,by omega⟩;have hm2:4-(k+1)=m:=by omega
   rw[hm,Kr.o]at hf;have C1:Hd (Calls prog 104 #[.pointer (some ⟨R,0,none⟩)] _ fun e w'=>e=.returned (.int .i64 (nx s.data.toList j))/\World.grownBy _ w' none):=CN.o j _ hrd hj;have hxb:=Bz.o (nx s.data.toList j);have C2:Hd (∀w,Calls prog 237 #[.int .i64 (nx s.data.toList j)] w fun e w'=>e=.returned (.int .i64 (hexV (nx s.data.toList j)))/\w'=w):=CX.o _ (Ku.o j);have QZ:Hd (0<=hexV (nx s.data.toList j)->j<s.size):=cZ.o j hj;obtain⟨d,hd⟩:=zN (hexV (nx s.data.toList j));rw[hd]at C2 hf hxb QZ;obtain⟨x,hx⟩:=zN (nx s.data.toList j);rw[hx]at C1 C2;obtain⟨hd1,hd2⟩:=hxb;have kN:Hd ((if d<0 then .error (2,j) else four s.data.toList m (j+1) (16*c+d.toNat))=F):=hf;have hc4:c<4096:=Nat.lt_of_lt_of_le hc (Nat.pow_le_pow_right (by decide) (show k<=3 by omega));have HC:Hd (c<16 ^ k):=hc;clear hd hx hf hrd hg hm hk4 hk hc
   by_cases hd0:d<0
   ·have aA:Hd (G=.error (2,j)):=by
     show _=_;have:=kN.o;rw[if_pos hd0]at this;rw[QY.o,<-this];rfl
    go_wp2_with (first|(go_at_call 104;refine C1.o.mono ?_;rintro e w2 ⟨rfl,hg2⟩)|(go_at_call 237;refine(C2.o _).mono ?_;rintro e w' ⟨rfl,rfl⟩)|(go_at_call 156;refine(CH.o j _ (aG HG.o hg2) (dB.o.grow hg2)).mono ?_;rintro e w5 ⟨⟨v,rfl,hv⟩,hg5⟩));refine bodyPost_ret (results_tmp2 (t:=4) (u:=5) rfl _ _ _) rfl ?_;rw[aA.o];exact⟨fun n j hh=>(by cases hh),fun c p hh=>(by cases hh;exact⟨v,rfl,dP.o _ _ _ hv,_,(dB.o.grow hg2).grow hg5⟩),aG (aG HG.o hg2) hg5⟩
   ·have hjl:j<s.size:=QZ.o (by omega);obtain⟨d,rfl⟩:∃d':Nat,d=(d':Int):=⟨d.toNat,by omega⟩;have iL:Hd (four s.data.toList m (j+1) (16*c+d)=F):=by
     have:=kN.o;rw[if_neg hd0]at this;show _=_;simpa using this
    have hd3:¬((d:Int)<0):=hd0;go_wp2_with (first|(go_at_call 104;refine C1.o.mono ?_;rintro e w2 ⟨rfl,hg2⟩;obtain⟨-,d1,-,df⟩:=(dB.o.grow hg2).cells;have df1:=df 1)|(go_at_call 237;refine(C2.o _).mono ?_;rintro e w' ⟨rfl,rfl⟩));rw[Y8 c d hc4 (by omega)];have jH:Hd (Rd (w'.setCell ⟨R,1,none⟩ (.int .i64 ((j:Int)+1))) R s (j+1) T):=(dB.o.grow hg2).set (j+1);refine⟨⟨k+1,16*c+d,j+1,rfl,by simp,by omega,?_,by rw[hm2];exact iL.o,jH.o,by omega,aQ (aG HG.o hg2) 1 _⟩,?_⟩
    ·have:=HC.o;rw[Nat.pow_succ];omega
    ·simp[intOf];omega
open Go.RowKit Go.Joins
theorem Kv(w:World)(c:Int):(convert 90 9 (.slice (some ⟨w.heap.size,0,none⟩) 1 1)).run prog (w.alloc (.cells #[.int .u8 c] 5))=.ok (.string ⟨#[UInt8.ofNat c.toNat]⟩) (w.alloc (.cells #[.int .u8 c] 5)):=by
 rw[run_convert_bytes_string _ 90 9 5 _ 1 1 underlying90 underlying5 underlying9];rw[run_bytesToString _ _ 1 1 [c] (run_loadCells_list _ _ [.int .u8 c] (by
  intro j v hj
  match j,hj with
  | 0,hj=>simp at hj;subst hj;simp[Addr.add]))]
 rfl
theorem Za(w:World)(c d:Int):(convert 90 9 (.slice (some ⟨w.heap.size,0,none⟩) 2 2)).run prog (w.alloc (.cells #[.int .u8 c,.int .u8 d] 5))=.ok (.string ⟨#[UInt8.ofNat c.toNat,UInt8.ofNat d.toNat]⟩) (w.alloc (.cells #[.int .u8 c,.int .u8 d] 5)):=by
 rw[run_convert_bytes_string _ 90 9 5 _ 2 2 underlying90 underlying5 underlying9];rw[run_bytesToString _ _ 2 2 [c,d] (run_loadCells_list _ _ [.int .u8 c,.int .u8 d] (by
  intro j v hj
  match j,hj with
  | 0,hj=>simp at hj;subst hj;simp[Addr.add]
  | 1,hj=>simp at hj;subst hj;simp[Addr.add]))]
 rfl
theorem Zb(w:World)(c d e:Int):(convert 90 9 (.slice (some ⟨w.heap.size,0,none⟩) 3 3)).run prog (w.alloc (.cells #[.int .u8 c,.int .u8 d,.int .u8 e] 5))=.ok (.string ⟨#[UInt8.ofNat c.toNat,UInt8.ofNat d.toNat,UInt8.ofNat e.toNat]⟩) (w.alloc (.cells #[.int .u8 c,.int .u8 d,.int .u8 e] 5)):=by
 rw[run_convert_bytes_string _ 90 9 5 _ 3 3 underlying90 underlying5 underlying9];rw[run_bytesToString _ _ 3 3 [c,d,e] (run_loadCells_list _ _ [.int .u8 c,.int .u8 d,.int .u8 e] (by
  intro j v hj
  match j,hj with
  | 0,hj=>simp at hj;subst hj;simp[Addr.add]
  | 1,hj=>simp at hj;subst hj;simp[Addr.add]
  | 2,hj=>simp at hj;subst hj;simp[Addr.add]))]
 rfl
theorem Kw(x y:List UInt8)(wx:World)(h:x.length+y.length<=9223372036854775807):(Op.stringOp .add ⟨x.toArray⟩ ⟨y.toArray⟩).run prog wx=.ok (.string ⟨(x++y).toArray⟩) wx:=by
 rw[run_string_add_sum wx _ _ (by
  show x.toArray.size+y.toArray.size<=_;simpa using h),ByteArray.mk_append_mk]
theorem BA{a b:List UInt8}(h:a=b):Ending.returned (.string ⟨a.toArray⟩)=.returned (.string ⟨b.toArray⟩):=by rw[h]
theorem Q3(n:Nat)(hn:n<65536)(w:World):Calls prog 202 #[.int .i64 (n:Nat)] w fun e w'=>e=.returned (.string ⟨(gz n).toArray⟩)/\w.grownBy w' none:=by
 have k1:=Kv w;have k2:=Za w;have k3:=Zb w;have e64:(n:Int).tdiv 64=((n / 64:Nat):Int):=by rw[Int.tdiv_eq_ediv_of_nonneg (by omega)];omega
 have m64:(n:Int).tmod 64=((n % 64:Nat):Int):=by rw[Int.tmod_eq_emod_of_nonneg (by omega)];omega
 have e4096:(n:Int).tdiv 4096=((n / 4096:Nat):Int):=by rw[Int.tdiv_eq_ediv_of_nonneg (by omega)];omega
 have m6464:((n / 64:Nat):Int).tmod 64=((n / 64 % 64:Nat):Int):=by rw[Int.tmod_eq_emod_of_nonneg (by omega)];omega
 by_cases h1:n<128
 ·have HW:Hd (gz n=[UInt8.ofNat n]):=by show _=_;unfold gz;rw[if_pos h1]
  clear k2 k3 e64 m64 e4096 m6464;go_enter func202,ntmps202;go_wp2;go_ret;refine⟨BA ?_,World.grownBy_alloc _ _ none⟩;rw[HW.o]
 ·by_cases h2:n<2048
  ·have HW:Hd (gz n=[UInt8.ofNat (192+n / 64),UInt8.ofNat (128+n % 64)]):=by show _=_;unfold gz;rw[if_neg h1,if_pos h2]
   clear k1 k3 e4096 m6464;go_enter func202,ntmps202;go_wp2;go_ret;refine⟨BA ?_,World.grownBy_alloc _ _ none⟩;rw[HW.o]
  ·have HW:Hd (gz n=[UInt8.ofNat (224+n / 4096),UInt8.ofNat (128+n / 64 % 64),UInt8.ofNat (128+n % 64)]):=by show _=_;unfold gz;rw[if_neg h1,if_neg h2]
   clear k1 k2;go_enter func202,ntmps202;go_wp2;go_ret;refine⟨BA ?_,World.grownBy_alloc _ _ none⟩;rw[HW.o]
theorem Zc(x:Int)(h0:0<=x)(h1:x<256):hexV x=yY (if 65<=x/\x<=70 then x+32 else x):=by
 unfold hexV yY au;simp only[decide_eq_true_eq]
 repeat' split
 all_goals omega
def Q4(R:Nat)(s:ByteArray)(L O:Value)(now de:Nat)(g:Rs (Nat × Nat))(w:World)(e:Ending)(w':World):Prop:=(∀n j,g=.ok (n,j)->e=.returned (.int .i64 (n:Nat))/\Ds w' R s L O now de (.ok j))/\(∀c p,g=.error (c,p)->e=.returned (.int .i64 0)/\Ds w' R s L O now de (.error (c,p)))/\w.grownBy w' (some R)
theorem Zd(R:Nat)(s:ByteArray)(L O:Value)(now de i:Nat)(w:World)(h:Dd w R s L O now de i 0 0)(hi:i<=s.size)(hs:s.size<=1048576) :
  Calls prog 201 #[.pointer (some ⟨R,0,none⟩)] w (Q4 R s L O now de (four s.data.toList 4 i 0) w):=by
 have hl:s.data.toList.length=s.size:=by simp
 have Kr:Hd (∀k i n,four s.data.toList (k+1) i n=if hexV (nx s.data.toList i)<0 then .error (2,i) else four s.data.toList k (i+1) (16*n+(hexV (nx s.data.toList i)).toNat)):=Bv _;have Bz:Hd (∀c,-1<=hexV c/\hexV c<16):=FI;have HX:Hd (∀k (hk:k<s.size),nx s.data.toList k=(s[k].toNat:Int)):=byte_at s;have uk:Hd (∀k,s.size<=k->hexV (nx s.data.toList k)=-1):=fun k hk=>by rw[jG _ _ (by omega)];exact Kq
 have CS:Hd (∀c,0<=c->c<256->∀w,Calls prog 126 #[.int .u8 c] w fun e w'=>e=.returned (.int .i64 (yY c))/\w'=w):=fun c h0 h1 w=>YR c h0 h1 w
 have y8:Hd (∀x,0<=x->x<256->hexV x=yY (if 65<=x/\x<=70 then x+32 else x)):=Zc;obtain⟨F,hF⟩:=zN (four s.data.toList 4 i 0);have HF:Hd (four s.data.toList 4 i 0=F):=hF;rw[hF];have H0:Hd (Dd w R s L O now de i 0 0):=h;clear h hF;go_enter func201,ntmps201;go_wp2;go_loopw [3,4] (fun vn vk wr=>∃k n j:Nat,vn=.int .i64 (n:Nat)/\vk=.int .i64 (k:Nat)/\k<=4/\n<16 ^ k/\four s.data.toList (4-k) j n=F/\Dd wr R s L O now de j 0 0/\j<=s.size/\w.grownBy wr (some R)) (fun _ vk _=>4-(intOf vk).toNat)
 case atStart=>exact⟨0,0,i,rfl,rfl,by omega,by omega,HF.o,H0.o,hi,ax _ _⟩
 case round =>
  obtain⟨k,n,j,rfl,rfl,hk,hn,hf,hd,hj,hg⟩:=hrel;have HD:Hd (Dd _ R s L O now de j 0 0):=hd;have HG:Hd (w.grownBy _ (some R)):=hg
  by_cases hk4:k=4
  ·subst hk4;have kN:Hd (F=.ok (n,j)):=hf.symm;clear hd hg hf hn hk;go_wp2;refine bodyPost_ret (results_tmp (t:=2) rfl _ _ _) rfl ?_;rw[kN.o];exact⟨fun n j hh=>(by cases hh;exact⟨rfl,hj,HD.o⟩),fun c p hh=>(by cases hh),HG.o⟩
  ·have hk3:k<4:=by omega
   obtain⟨m,hm⟩:∃m,4-k=m+1:=⟨3-k,by omega⟩;have hm2:4-(k+1)=m:=by omega
   rw[hm,Kr.o]at hf;have hn4:n<4096:=Nat.lt_of_lt_of_le hn (Nat.pow_le_pow_right (by decide) (show k<=3 by omega));have HN:Hd (n<16 ^ k):=hn;have hxb:=Bz.o (nx s.data.toList j);obtain⟨c0,c1,-,-,-,c5,-,-,df⟩:=hd.cells;have df1:=df 1;have vT:=uk.o j;obtain⟨d,BB⟩:=zN (hexV (nx s.data.toList j));rw[BB]at hf hxb vT;have kN:Hd ((if d<0 then .error (2,j) else four s.data.toList m (j+1) (16*n+d.toNat))=F):=hf;obtain⟨hd1,hd2⟩:=hxb;have CF:Hd (∀wx,Dd wx R s L O now de j 0 0->Calls prog 82 #[.pointer (some ⟨R,0,none⟩),.int .i64 2,.int .i64 (j:Nat)] wx fun en w'=>en=.returned (.tuple #[])/\Dd w' R s L O now de j 2 j/\wx.grownBy w' (some R)):=fun wx hg=>pJ R s L O now de j 2 j wx hg
   by_cases hlt:j<s.size
   ·have hlt':decide ((j:Int)<(s.size:Int))=true:=by simp;omega
    have hxj:=HX.o j hlt;have hu:=s[j].toNat_lt;have hsg:=y8.o (nx s.data.toList j) (by omega) (by omega);rw[BB,hxj]at hsg
    by_cases hA:65<=(s[j].toNat:Int)/\(s[j].toNat:Int)<=70
    ·have jQ:Hd (∀w,Calls prog 126 #[.int .u8 ((s[j].toNat:Int)+32)] w fun e w'=>e=.returned (.int .i64 d)/\w'=w):=fun w=>by
      rw[if_pos hA]at hsg;rw[hsg];exact CS.o _ (by omega) (by omega) w
     have h65:65<=(s[j].toNat:Int):=hA.1;have h70:(s[j].toNat:Int)<=70:=hA.2;have hwr:IntKind.u8.wrap ((s[j].toNat:Int)+32)=(s[j].toNat:Int)+32:=by simp[IntKind.wrap,IntKind.bits,IntKind.signed];omega
     clear hsg hd hg hf hm hk4 hk hn BB hxj df vT
     by_cases hd0:d<0
     ·have aA:Hd (F=.error (2,j)):=by
       have:=kN.o;rw[if_pos hd0]at this;exact this.symm
      go_wp2;go_quiet (fail);have aF:Hd (Dd (wr.drewN nq) R s L O now de j 0 0):=HD.o;have dO:Hd (w.grownBy (wr.drewN nq) (some R)):=aj HG.o nq;obtain⟨wA,hwA⟩:∃W,wr.drewN nq=W:=⟨_,rfl⟩;rw[hwA]at aF dO ⊢;obtain⟨g0,g1,-,-,-,g5,-,-,dg⟩:=aF.o.cells;have dg1:=dg 1;clear hwA dg;go_wp2;go_quiet (fail);have aN:Hd (Dd (wA.drewN nq) R s L O now de j 0 0):=aF.o;have aH:Hd (w.grownBy (wA.drewN nq) (some R)):=aj dO.o nq;obtain⟨wB,hwB⟩:∃W,wA.drewN nq=W:=⟨_,rfl⟩;rw[hwB]at aN aH ⊢;obtain⟨g0',g1',-,-,-,g5',-,-,dg⟩:=aN.o.cells;have dg2:=dg 1;clear hwB dg;go_wp2_with (first|(go_at_call 126;refine(jQ.o _).mono ?_;rintro e w' ⟨rfl,rfl⟩)|(go_at_call 82;refine(CF.o _ aN.o).mono ?_;rintro e w2 ⟨rfl,hd2,hg2⟩));refine bodyPost_ret (results_tmp (t:=2) rfl _ _ _) rfl ?_;rw[aA.o];exact⟨fun n j hh=>(by cases hh),fun c p hh=>(by cases hh;exact⟨rfl,by decide,j,hj,hd2⟩),dH aH.o hg2⟩
     ·obtain⟨d,rfl⟩:∃d':Nat,d=(d':Int):=⟨d.toNat,by omega⟩;have iL:Hd (four s.data.toList m (j+1) (16*n+d)=F):=by
       have:=kN.o;rw[if_neg hd0]at this;show _=_;simpa using this
      have rY:Hd (16*n+d<16 ^ (k+1)):=by
       have:=HN.o;show _ < _;rw[Nat.pow_succ];omega
      go_wp2;go_quiet (fail);have aF:Hd (Dd (wr.drewN nq) R s L O now de j 0 0):=HD.o;have dO:Hd (w.grownBy (wr.drewN nq) (some R)):=aj HG.o nq;obtain⟨wA,hwA⟩:∃W,wr.drewN nq=W:=⟨_,rfl⟩;rw[hwA]at aF dO ⊢;obtain⟨g0,g1,-,-,-,g5,-,-,dg⟩:=aF.o.cells;have dg1:=dg 1;clear hwA dg;go_wp2;go_quiet (fail);have aN:Hd (Dd (wA.drewN nq) R s L O now de j 0 0):=aF.o;have aH:Hd (w.grownBy (wA.drewN nq) (some R)):=aj dO.o nq;obtain⟨wB,hwB⟩:∃W,wA.drewN nq=W:=⟨_,rfl⟩;rw[hwB]at aN aH ⊢;obtain⟨g0',g1',-,-,-,g5',-,-,dg⟩:=aN.o.cells;have dg2:=dg 1;clear hwB dg;go_wp2_with (go_at_call 126;refine(jQ.o _).mono ?_;rintro e w' ⟨rfl,rfl⟩);go_roundw
      case rel =>
       exact⟨k+1,16*n+d,j+1,by go_num,by go_num,by omega,rY.o,by rw[hm2];exact iL.o,aN.o.setI (j+1),by omega,aQ aH.o 1 _⟩
      case measure=>simp[intOf];omega
    ·have jQ:Hd (∀w,Calls prog 126 #[.int .u8 ((s[j].toNat:Int))] w fun e w'=>e=.returned (.int .i64 d)/\w'=w):=fun w=>by
      rw[if_neg hA]at hsg;rw[hsg];exact CS.o _ (by omega) (by omega) w
     have hA':¬(65<=(s[j].toNat:Int)/\(s[j].toNat:Int)<=70):=hA;clear hsg hd hg hf hm hk4 hk hn BB hxj df vT
     by_cases hd0:d<0
     ·have aA:Hd (F=.error (2,j)):=by
       have:=kN.o;rw[if_pos hd0]at this;exact this.symm
      go_wp2;go_quiet (fail);have aF:Hd (Dd (wr.drewN nq) R s L O now de j 0 0):=HD.o;have dO:Hd (w.grownBy (wr.drewN nq) (some R)):=aj HG.o nq;obtain⟨wA,hwA⟩:∃W,wr.drewN nq=W:=⟨_,rfl⟩;rw[hwA]at aF dO ⊢;obtain⟨g0,g1,-,-,-,g5,-,-,dg⟩:=aF.o.cells;have dg1:=dg 1;clear hwA dg;go_wp2;go_quiet (fail);have aN:Hd (Dd (wA.drewN nq) R s L O now de j 0 0):=aF.o;have aH:Hd (w.grownBy (wA.drewN nq) (some R)):=aj dO.o nq;obtain⟨wB,hwB⟩:∃W,wA.drewN nq=W:=⟨_,rfl⟩;rw[hwB]at aN aH ⊢;obtain⟨g0',g1',-,-,-,g5',-,-,dg⟩:=aN.o.cells;have dg2:=dg 1;clear hwB dg
      by_cases h65:65<=(s[j].toNat:Int)
      ·have h7:¬(s[j].toNat:Int)<=70:=by omega
       go_wp2_with (first|(go_at_call 126;refine(jQ.o _).mono ?_;rintro e w' ⟨rfl,rfl⟩)|(go_at_call 82;refine(CF.o _ aN.o).mono ?_;rintro e w2 ⟨rfl,hd2,hg2⟩));refine bodyPost_ret (results_tmp (t:=2) rfl _ _ _) rfl ?_;rw[aA.o];exact⟨fun n j hh=>(by cases hh),fun c p hh=>(by cases hh;exact⟨rfl,by decide,j,hj,hd2⟩),dH aH.o hg2⟩
      ·have h7:(s[j].toNat:Int)<65:=by omega
       go_wp2_with (first|(go_at_call 126;refine(jQ.o _).mono ?_;rintro e w' ⟨rfl,rfl⟩)|(go_at_call 82;refine(CF.o _ aN.o).mono ?_;rintro e w2 ⟨rfl,hd2,hg2⟩));refine bodyPost_ret (results_tmp (t:=2) rfl _ _ _) rfl ?_;rw[aA.o];exact⟨fun n j hh=>(by cases hh),fun c p hh=>(by cases hh;exact⟨rfl,by decide,j,hj,hd2⟩),dH aH.o hg2⟩
     ·obtain⟨d,rfl⟩:∃d':Nat,d=(d':Int):=⟨d.toNat,by omega⟩;have iL:Hd (four s.data.toList m (j+1) (16*n+d)=F):=by
       have:=kN.o;rw[if_neg hd0]at this;show _=_;simpa using this
      have rY:Hd (16*n+d<16 ^ (k+1)):=by
       have:=HN.o;show _ < _;rw[Nat.pow_succ];omega
      go_wp2;go_quiet (fail);have aF:Hd (Dd (wr.drewN nq) R s L O now de j 0 0):=HD.o;have dO:Hd (w.grownBy (wr.drewN nq) (some R)):=aj HG.o nq;obtain⟨wA,hwA⟩:∃W,wr.drewN nq=W:=⟨_,rfl⟩;rw[hwA]at aF dO ⊢;obtain⟨g0,g1,-,-,-,g5,-,-,dg⟩:=aF.o.cells;have dg1:=dg 1;clear hwA dg;go_wp2;go_quiet (fail);have aN:Hd (Dd (wA.drewN nq) R s L O now de j 0 0):=aF.o;have aH:Hd (w.grownBy (wA.drewN nq) (some R)):=aj dO.o nq;obtain⟨wB,hwB⟩:∃W,wA.drewN nq=W:=⟨_,rfl⟩;rw[hwB]at aN aH ⊢;obtain⟨g0',g1',-,-,-,g5',-,-,dg⟩:=aN.o.cells;have dg2:=dg 1;clear hwB dg
      by_cases h65:65<=(s[j].toNat:Int)
      ·have h7:¬(s[j].toNat:Int)<=70:=by omega
       go_wp2_with (go_at_call 126;refine(jQ.o _).mono ?_;rintro e w' ⟨rfl,rfl⟩);go_roundw
       case rel =>
        exact⟨k+1,16*n+d,j+1,by go_num,by go_num,by omega,rY.o,by rw[hm2];exact iL.o,aN.o.setI (j+1),by omega,aQ aH.o 1 _⟩
       case measure=>simp[intOf];omega
      ·have h7:(s[j].toNat:Int)<65:=by omega
       go_wp2_with (go_at_call 126;refine(jQ.o _).mono ?_;rintro e w' ⟨rfl,rfl⟩);go_roundw
       case rel =>
        exact⟨k+1,16*n+d,j+1,by go_num,by go_num,by omega,rY.o,by rw[hm2];exact iL.o,aN.o.setI (j+1),by omega,aQ aH.o 1 _⟩
       case measure=>simp[intOf];omega
   ·have hge:decide ((j:Int)<(s.size:Int))=false:=by simp;omega
    have hdm:d=-1:=vT (by omega);have aA:Hd (F=.error (2,j)):=by
     have:=kN.o;rw[if_pos (by omega)]at this;exact this.symm
    clear hd hg hf hm hk4 hk hn BB hdm vT df;go_wp2;go_quiet (fail);go_wp2_with (go_at_call 82;refine(CF.o _ ?_).mono ?_;exact HD.o;rintro e w2 ⟨rfl,hd2,hg2⟩);refine bodyPost_ret (results_tmp (t:=2) rfl _ _ _) rfl ?_;rw[aA.o];exact⟨fun n j hh=>(by cases hh),fun c p hh=>(by cases hh;exact⟨rfl,by decide,j,hj,hd2⟩),dH HG.o ⟨hg2.os,hg2.tape,hg2.output,hg2.size,hg2.block⟩⟩
open Go.RowKit Go.Joins
def mZ(M R:Nat)(s:ByteArray)(L O:Value)(now de:Nat)(g:Rs (List UInt8 × Nat))(w:World)(e:Ending)(w':World):Prop:=(∀t j,g=.ok (t,j)->e=.returned (.string ⟨t.toArray⟩)/\Ds w' R s L O now de (.ok j))/\(∀c p,g=.error (c,p)->(∃t:List UInt8,t.length<=M/\e=.returned (.string ⟨t.toArray⟩))/\Ds w' R s L O now de (.error (c,p)))/\w.grownBy w' (some R)
theorem Q5(l:List UInt8):∀(k i n N j:Nat),four l k i n=.ok (N,j)->N<(n+1)*16 ^ k
 | 0,i,n,N,j,h=>by
  have h':(Except.ok (n,i):Rs (Nat × Nat))=.ok (N,j):=h;injection h' with h'
  injection h' with h1 h2
  omega
 | k+1,i,n,N,j,h=>by
  rw[Bv]at h;split at h
  ·cases h
  ·have:=Q5 l k _ _ N j h;have hb:=FI (nx l i);have e:(16*n+(hexV (nx l i)).toNat+1)*16 ^ k<=(16*(n+1))*16 ^ k:=Nat.mul_le_mul_right _ (by omega);rw[Nat.pow_succ];have e2:(n+1)*(16 ^ k*16)=(16*(n+1))*16 ^ k:=by rw[Nat.mul_comm (16 ^ k) 16,<-Nat.mul_assoc,Nat.mul_comm (n+1) 16]
   omega
def BC(i:Nat):Rs (Nat × Nat)->Rs (List UInt8 × Nat)
 | .error e=>.error e
 | .ok (n,j)=>if 55296<=n/\n<=57343 then .error (2,i) else .ok (gz n,j)
theorem Ze(l:List UInt8)(i:Nat)(h:nx l (i+1)=117):esc l i=BC i (four l 4 (i+2) 0):=by
 unfold esc;rw[if_pos h]
 cases four l 4 (i+2) 0<;>rfl
theorem Q7(l:List UInt8)(i:Nat)(h1:¬nx l (i+1)=117)(h2:¬nx l (i+1)=98)(h3:¬nx l (i+1)=116)(h4:¬nx l (i+1)=110)(h5:¬nx l (i+1)=102)(h6:¬nx l (i+1)=114)(h7:¬nx l (i+1)=34)(h8:¬nx l (i+1)=92):esc l i=.error (2,i+1):=by
 unfold esc;rw[if_neg h1,if_neg h2,if_neg h3,if_neg h4,if_neg h5,if_neg h6,if_neg h7,if_neg h8]
theorem Zf(l:List UInt8)(i:Nat)(h:nx l (i+1)=98):esc l i=.ok ([8],i+2):=by
 unfold esc;rw[if_neg (by rw[h];decide),if_pos h]
theorem Zg(l:List UInt8)(i:Nat)(h:nx l (i+1)=116):esc l i=.ok ([9],i+2):=by
 unfold esc;rw[if_neg (by rw[h];decide),if_neg (by rw[h];decide),if_pos h]
theorem Zh(l:List UInt8)(i:Nat)(h:nx l (i+1)=110):esc l i=.ok ([10],i+2):=by
 unfold esc;rw[if_neg (by rw[h];decide),if_neg (by rw[h];decide),if_neg (by rw[h];decide),if_pos h]
theorem Zi(l:List UInt8)(i:Nat)(h:nx l (i+1)=102):esc l i=.ok ([12],i+2):=by
 unfold esc;rw[if_neg (by rw[h];decide),if_neg (by rw[h];decide),if_neg (by rw[h];decide),if_neg (by rw[h];decide),if_pos h]
theorem Zj(l:List UInt8)(i:Nat)(h:nx l (i+1)=114):esc l i=.ok ([13],i+2):=by
 unfold esc;rw[if_neg (by rw[h];decide),if_neg (by rw[h];decide),if_neg (by rw[h];decide),if_neg (by rw[h];decide),if_neg (by rw[h];decide),if_pos h]
theorem Zk(l:List UInt8)(i:Nat)(h:nx l (i+1)=34):esc l i=.ok ([34],i+2):=by
 unfold esc;rw[if_neg (by rw[h];decide),if_neg (by rw[h];decide),if_neg (by rw[h];decide),if_neg (by rw[h];decide),if_neg (by rw[h];decide),if_neg (by rw[h];decide),if_pos h]
theorem Zl(l:List UInt8)(i:Nat)(h:nx l (i+1)=92):esc l i=.ok ([92],i+2):=by
 unfold esc;rw[if_neg (by rw[h];decide),if_neg (by rw[h];decide),if_neg (by rw[h];decide),if_neg (by rw[h];decide),if_neg (by rw[h];decide),if_neg (by rw[h];decide),if_neg (by rw[h];decide),if_pos h]
theorem Zm(R:Nat)(s:ByteArray)(L O:Value)(now de i:Nat)(w:World)(h:Dd w R s L O now de i 0 0)(hi:i<s.size)(hs:s.size<=1048576)(he:s.size<=i+1) :
  Calls prog 160 #[.pointer (some ⟨R,0,none⟩)] w (mZ 3 R s L O now de (esc s.data.toList i) w):=by
 have hl:s.data.toList.length=s.size:=by simp
 have HS:Hd (Dd (w.setCell ⟨R,1,none⟩ (.int .i64 ((i:Int)+1))) R s L O now de (i+1) 0 0):=h.setI (i+1);have fB:Hd (w.grownBy (w.setCell ⟨R,1,none⟩ (.int .i64 ((i:Int)+1))) (some R)):=aQ (ax w (some R)) 1 _;obtain⟨c0,c1,-,-,-,-,-,-,df⟩:=h.cells;have df1:=df 1;have HE:Hd (esc s.data.toList i=.error (2,i+1)):=by
  have e:nx s.data.toList (i+1)=-1:=jG _ _ (by omega);exact Q7 _ _ (by rw[e];decide) (by rw[e];decide) (by rw[e];decide) (by rw[e];decide) (by rw[e];decide) (by rw[e];decide) (by rw[e];decide) (by rw[e];decide)
 rw[HE.o];clear h df;obtain⟨j,hj⟩:=zN (i+1);have hjs:j<=s.size:=by omega
 have hge:decide ((s.size:Int)<=(j:Int))=true:=by simp;omega
 have lJ:(s.size:Int)<=(j:Int):=by omega
 rw[hj]at HS ⊢;clear hj he;go_enter func160,ntmps160;go_wp2;obtain⟨wA,hwA⟩:∃W,w.setCell ⟨R,1,none⟩ (.int .i64 ((i:Int)+1))=W:=⟨_,rfl⟩;rw[hwA]at HS fB ⊢;obtain⟨d0,d1,-,-,-,-,-,-,dg⟩:=HS.o.cells;have dg1:=dg 1;clear hwA dg c0 c1 df1;have CF:Hd (∀wx,Dd wx R s L O now de j 0 0->Calls prog 82 #[.pointer (some ⟨R,0,none⟩),.int .i64 2,.int .i64 (j:Nat)] wx fun en w'=>en=.returned (.tuple #[])/\Dd w' R s L O now de j 2 j/\wx.grownBy w' (some R)):=fun wx hg=>pJ R s L O now de j 2 j wx hg
 go_quiet (fail);go_wp2_with (go_at_call 82;refine(CF.o _ ?_).mono ?_;exact HS.o;rintro e w2 ⟨rfl,hd2,hg2⟩);refine bodyPost_ret (results_tmp (t:=2) rfl _ _ _) rfl ?_;exact⟨fun t k hh=>(by cases hh),fun c p hh=>(by cases hh;exact⟨⟨[],by simp,rfl⟩,by decide,j,by omega,hd2⟩),dH (w1:=wA) fB.o ⟨hg2.os,hg2.tape,hg2.output,hg2.size,hg2.block⟩⟩
open Go.RowKit Go.Joins
theorem Zn(R:Nat)(s:ByteArray)(L O:Value)(now de i:Nat)(w:World)(h:Dd w R s L O now de i 0 0)(hi:i<s.size)(hs:s.size<=1048576)(hn:i+1<s.size)(hx:nx s.data.toList (i+1)=98) :
  Calls prog 160 #[.pointer (some ⟨R,0,none⟩)] w (mZ 3 R s L O now de (esc s.data.toList i) w):=by
 have hl:s.data.toList.length=s.size:=by simp
 have HS:Hd (Dd (w.setCell ⟨R,1,none⟩ (.int .i64 ((i:Int)+1))) R s L O now de (i+1) 0 0):=h.setI (i+1);have fB:Hd (w.grownBy (w.setCell ⟨R,1,none⟩ (.int .i64 ((i:Int)+1))) (some R)):=aQ (ax w (some R)) 1 _;obtain⟨c0,c1,-,-,-,-,-,-,df⟩:=h.cells;have df1:=df 1;have HE:Hd (esc s.data.toList i=.ok ([8],i+2)):=Zf _ _ hx;rw[HE.o];have fU:Hd (∀(hj:i+1<s.size),nx s.data.toList (i+1)=(s[i+1].toNat:Int)):=byte_at s (i+1);clear h df;obtain⟨j,hj⟩:=zN (i+1);have hij:i+2=j+1:=by omega
 have hlt:j<s.size:=by omega
 have hge:decide ((s.size:Int)<=(j:Int))=false:=by simp;omega
 have lJ:¬(s.size:Int)<=(j:Int):=by omega
 rw[hj]at HS hx fU;rw[hij];have HX:Hd (nx s.data.toList j=(s[j].toNat:Int)):=fU.o hlt;clear hj hij fU hn HE;have q98:((s[j].toNat:Int) == 98)=true:=by rw[<-HX.o,hx];rfl
 clear HX hx;go_enter func160,ntmps160;go_wp2;obtain⟨wA,hwA⟩:∃W,w.setCell ⟨R,1,none⟩ (.int .i64 ((i:Int)+1))=W:=⟨_,rfl⟩;rw[hwA]at HS fB ⊢;obtain⟨d0,d1,-,-,-,-,-,-,dg⟩:=HS.o.cells;have dg1:=dg 1;clear hwA dg c0 c1 df1;go_quiet (fail);have aN:Hd (Dd (wA.drewN nq) R s L O now de j 0 0):=HS.o;have aH:Hd (w.grownBy (wA.drewN nq) (some R)):=aj fB.o nq;obtain⟨wB,hwB⟩:∃W,wA.drewN nq=W:=⟨_,rfl⟩;rw[hwB]at aN aH ⊢;obtain⟨f0,f1,-,-,-,-,-,-,fg⟩:=aN.o.cells;have fg1:=fg 1;clear hwB fg d0 d1 dg1;go_wp2;go_quiet (fail);have dJ:Hd (Dd (wB.drewN nq) R s L O now de j 0 0):=aN.o;have bJ:Hd (w.grownBy (wB.drewN nq) (some R)):=aj aH.o nq;obtain⟨wC,fV⟩:∃W,wB.drewN nq=W:=⟨_,rfl⟩;rw[fV]at dJ bJ ⊢;obtain⟨g0,g1,-,-,-,-,-,-,gg⟩:=dJ.o.cells;have gg1:=gg 1;have fH:Hd (Dd (wC.setCell ⟨R,1,none⟩ (.int .i64 ((j:Int)+1))) R s L O now de (j+1) 0 0):=dJ.o.setI (j+1)
 have gX:Hd (w.grownBy (wC.setCell ⟨R,1,none⟩ (.int .i64 ((j:Int)+1))) (some R)):=aQ bJ.o 1 _;clear fV gg f0 f1 fg1;go_wp2;go_ret;exact⟨fun t k hh=>(by cases hh;exact⟨rfl,by omega,fH.o⟩),fun c p hh=>(by cases hh),gX.o⟩
theorem Zo(R:Nat)(s:ByteArray)(L O:Value)(now de i:Nat)(w:World)(h:Dd w R s L O now de i 0 0)(hi:i<s.size)(hs:s.size<=1048576)(hn:i+1<s.size)(hx:nx s.data.toList (i+1)=116) :
  Calls prog 160 #[.pointer (some ⟨R,0,none⟩)] w (mZ 3 R s L O now de (esc s.data.toList i) w):=by
 have hl:s.data.toList.length=s.size:=by simp
 have HS:Hd (Dd (w.setCell ⟨R,1,none⟩ (.int .i64 ((i:Int)+1))) R s L O now de (i+1) 0 0):=h.setI (i+1);have fB:Hd (w.grownBy (w.setCell ⟨R,1,none⟩ (.int .i64 ((i:Int)+1))) (some R)):=aQ (ax w (some R)) 1 _;obtain⟨c0,c1,-,-,-,-,-,-,df⟩:=h.cells;have df1:=df 1;have HE:Hd (esc s.data.toList i=.ok ([9],i+2)):=Zg _ _ hx;rw[HE.o];have fU:Hd (∀(hj:i+1<s.size),nx s.data.toList (i+1)=(s[i+1].toNat:Int)):=byte_at s (i+1);clear h df;obtain⟨j,hj⟩:=zN (i+1);have hij:i+2=j+1:=by omega
 have hlt:j<s.size:=by omega
 have hge:decide ((s.size:Int)<=(j:Int))=false:=by simp;omega
 have lJ:¬(s.size:Int)<=(j:Int):=by omega
 rw[hj]at HS hx fU;rw[hij];have HX:Hd (nx s.data.toList j=(s[j].toNat:Int)):=fU.o hlt;clear hj hij fU hn HE;have q98:((s[j].toNat:Int) == 98)=false:=by rw[<-HX.o,hx];rfl
 have q116:((s[j].toNat:Int) == 116)=true:=by rw[<-HX.o,hx];rfl
 clear HX hx;go_enter func160,ntmps160;go_wp2;obtain⟨wA,hwA⟩:∃W,w.setCell ⟨R,1,none⟩ (.int .i64 ((i:Int)+1))=W:=⟨_,rfl⟩;rw[hwA]at HS fB ⊢;obtain⟨d0,d1,-,-,-,-,-,-,dg⟩:=HS.o.cells;have dg1:=dg 1;clear hwA dg c0 c1 df1;go_quiet (fail);have aN:Hd (Dd (wA.drewN nq) R s L O now de j 0 0):=HS.o;have aH:Hd (w.grownBy (wA.drewN nq) (some R)):=aj fB.o nq;obtain⟨wB,hwB⟩:∃W,wA.drewN nq=W:=⟨_,rfl⟩;rw[hwB]at aN aH ⊢;obtain⟨f0,f1,-,-,-,-,-,-,fg⟩:=aN.o.cells;have fg1:=fg 1;clear hwB fg d0 d1 dg1;go_wp2;go_quiet (fail);have dJ:Hd (Dd (wB.drewN nq) R s L O now de j 0 0):=aN.o;have bJ:Hd (w.grownBy (wB.drewN nq) (some R)):=aj aH.o nq;obtain⟨wC,fV⟩:∃W,wB.drewN nq=W:=⟨_,rfl⟩;rw[fV]at dJ bJ ⊢;obtain⟨g0,g1,-,-,-,-,-,-,gg⟩:=dJ.o.cells;have gg1:=gg 1;have fH:Hd (Dd (wC.setCell ⟨R,1,none⟩ (.int .i64 ((j:Int)+1))) R s L O now de (j+1) 0 0):=dJ.o.setI (j+1)
 have gX:Hd (w.grownBy (wC.setCell ⟨R,1,none⟩ (.int .i64 ((j:Int)+1))) (some R)):=aQ bJ.o 1 _;clear fV gg f0 f1 fg1;go_wp2;go_ret;exact⟨fun t k hh=>(by cases hh;exact⟨rfl,by omega,fH.o⟩),fun c p hh=>(by cases hh),gX.o⟩
theorem Zp(R:Nat)(s:ByteArray)(L O:Value)(now de i:Nat)(w:World)(h:Dd w R s L O now de i 0 0)(hi:i<s.size)(hs:s.size<=1048576)(hn:i+1<s.size)(hx:nx s.data.toList (i+1)=110) :
  Calls prog 160 #[.pointer (some ⟨R,0,none⟩)] w (mZ 3 R s L O now de (esc s.data.toList i) w):=by
 have hl:s.data.toList.length=s.size:=by simp
 have HS:Hd (Dd (w.setCell ⟨R,1,none⟩ (.int .i64 ((i:Int)+1))) R s L O now de (i+1) 0 0):=h.setI (i+1);have fB:Hd (w.grownBy (w.setCell ⟨R,1,none⟩ (.int .i64 ((i:Int)+1))) (some R)):=aQ (ax w (some R)) 1 _;obtain⟨c0,c1,-,-,-,-,-,-,df⟩:=h.cells;have df1:=df 1;have HE:Hd (esc s.data.toList i=.ok ([10],i+2)):=Zh _ _ hx;rw[HE.o];have fU:Hd (∀(hj:i+1<s.size),nx s.data.toList (i+1)=(s[i+1].toNat:Int)):=byte_at s (i+1);clear h df;obtain⟨j,hj⟩:=zN (i+1);have hij:i+2=j+1:=by omega
 have hlt:j<s.size:=by omega
 have hge:decide ((s.size:Int)<=(j:Int))=false:=by simp;omega
 have lJ:¬(s.size:Int)<=(j:Int):=by omega
 rw[hj]at HS hx fU;rw[hij];have HX:Hd (nx s.data.toList j=(s[j].toNat:Int)):=fU.o hlt;clear hj hij fU hn HE;have q98:((s[j].toNat:Int) == 98)=false:=by rw[<-HX.o,hx];rfl
 have q116:((s[j].toNat:Int) == 116)=false:=by rw[<-HX.o,hx];rfl
 have q110:((s[j].toNat:Int) == 110)=true:=by rw[<-HX.o,hx];rfl
 clear HX hx;go_enter func160,ntmps160;go_wp2;obtain⟨wA,hwA⟩:∃W,w.setCell ⟨R,1,none⟩ (.int .i64 ((i:Int)+1))=W:=⟨_,rfl⟩;rw[hwA]at HS fB ⊢;obtain⟨d0,d1,-,-,-,-,-,-,dg⟩:=HS.o.cells;have dg1:=dg 1;clear hwA dg c0 c1 df1;go_quiet (fail);have aN:Hd (Dd (wA.drewN nq) R s L O now de j 0 0):=HS.o;have aH:Hd (w.grownBy (wA.drewN nq) (some R)):=aj fB.o nq;obtain⟨wB,hwB⟩:∃W,wA.drewN nq=W:=⟨_,rfl⟩;rw[hwB]at aN aH ⊢;obtain⟨f0,f1,-,-,-,-,-,-,fg⟩:=aN.o.cells;have fg1:=fg 1;clear hwB fg d0 d1 dg1;go_wp2;go_quiet (fail);have dJ:Hd (Dd (wB.drewN nq) R s L O now de j 0 0):=aN.o;have bJ:Hd (w.grownBy (wB.drewN nq) (some R)):=aj aH.o nq;obtain⟨wC,fV⟩:∃W,wB.drewN nq=W:=⟨_,rfl⟩;rw[fV]at dJ bJ ⊢;obtain⟨g0,g1,-,-,-,-,-,-,gg⟩:=dJ.o.cells;have gg1:=gg 1;have fH:Hd (Dd (wC.setCell ⟨R,1,none⟩ (.int .i64 ((j:Int)+1))) R s L O now de (j+1) 0 0):=dJ.o.setI (j+1)
 have gX:Hd (w.grownBy (wC.setCell ⟨R,1,none⟩ (.int .i64 ((j:Int)+1))) (some R)):=aQ bJ.o 1 _;clear fV gg f0 f1 fg1;go_wp2;go_ret;exact⟨fun t k hh=>(by cases hh;exact⟨rfl,by omega,fH.o⟩),fun c p hh=>(by cases hh),gX.o⟩
theorem Zq(R:Nat)(s:ByteArray)(L O:Value)(now de i:Nat)(w:World)(h:Dd w R s L O now de i 0 0)(hi:i<s.size)(hs:s.size<=1048576)(hn:i+1<s.size)(hx:nx s.data.toList (i+1)=102) :
  Calls prog 160 #[.pointer (some ⟨R,0,none⟩)] w (mZ 3 R s L O now de (esc s.data.toList i) w):=by
 have hl:s.data.toList.length=s.size:=by simp
 have HS:Hd (Dd (w.setCell ⟨R,1,none⟩ (.int .i64 ((i:Int)+1))) R s L O now de (i+1) 0 0):=h.setI (i+1);have fB:Hd (w.grownBy (w.setCell ⟨R,1,none⟩ (.int .i64 ((i:Int)+1))) (some R)):=aQ (ax w (some R)) 1 _;obtain⟨c0,c1,-,-,-,-,-,-,df⟩:=h.cells;have df1:=df 1;have HE:Hd (esc s.data.toList i=.ok ([12],i+2)):=Zi _ _ hx;rw[HE.o];have fU:Hd (∀(hj:i+1<s.size),nx s.data.toList (i+1)=(s[i+1].toNat:Int)):=byte_at s (i+1);clear h df;obtain⟨j,hj⟩:=zN (i+1);have hij:i+2=j+1:=by omega
 have hlt:j<s.size:=by omega
 have hge:decide ((s.size:Int)<=(j:Int))=false:=by simp;omega
 have lJ:¬(s.size:Int)<=(j:Int):=by omega
 rw[hj]at HS hx fU;rw[hij];have HX:Hd (nx s.data.toList j=(s[j].toNat:Int)):=fU.o hlt;clear hj hij fU hn HE;have q98:((s[j].toNat:Int) == 98)=false:=by rw[<-HX.o,hx];rfl
 have q116:((s[j].toNat:Int) == 116)=false:=by rw[<-HX.o,hx];rfl
 have q110:((s[j].toNat:Int) == 110)=false:=by rw[<-HX.o,hx];rfl
 have q102:((s[j].toNat:Int) == 102)=true:=by rw[<-HX.o,hx];rfl
 clear HX hx;go_enter func160,ntmps160;go_wp2;obtain⟨wA,hwA⟩:∃W,w.setCell ⟨R,1,none⟩ (.int .i64 ((i:Int)+1))=W:=⟨_,rfl⟩;rw[hwA]at HS fB ⊢;obtain⟨d0,d1,-,-,-,-,-,-,dg⟩:=HS.o.cells;have dg1:=dg 1;clear hwA dg c0 c1 df1;go_quiet (fail);have aN:Hd (Dd (wA.drewN nq) R s L O now de j 0 0):=HS.o;have aH:Hd (w.grownBy (wA.drewN nq) (some R)):=aj fB.o nq;obtain⟨wB,hwB⟩:∃W,wA.drewN nq=W:=⟨_,rfl⟩;rw[hwB]at aN aH ⊢;obtain⟨f0,f1,-,-,-,-,-,-,fg⟩:=aN.o.cells;have fg1:=fg 1;clear hwB fg d0 d1 dg1;go_wp2;go_quiet (fail);have dJ:Hd (Dd (wB.drewN nq) R s L O now de j 0 0):=aN.o;have bJ:Hd (w.grownBy (wB.drewN nq) (some R)):=aj aH.o nq;obtain⟨wC,fV⟩:∃W,wB.drewN nq=W:=⟨_,rfl⟩;rw[fV]at dJ bJ ⊢;obtain⟨g0,g1,-,-,-,-,-,-,gg⟩:=dJ.o.cells;have gg1:=gg 1;have fH:Hd (Dd (wC.setCell ⟨R,1,none⟩ (.int .i64 ((j:Int)+1))) R s L O now de (j+1) 0 0):=dJ.o.setI (j+1)
 have gX:Hd (w.grownBy (wC.setCell ⟨R,1,none⟩ (.int .i64 ((j:Int)+1))) (some R)):=aQ bJ.o 1 _;clear fV gg f0 f1 fg1;go_wp2;go_ret;exact⟨fun t k hh=>(by cases hh;exact⟨rfl,by omega,fH.o⟩),fun c p hh=>(by cases hh),gX.o⟩
theorem Zt(R:Nat)(s:ByteArray)(L O:Value)(now de i:Nat)(w:World)(h:Dd w R s L O now de i 0 0)(hi:i<s.size)(hs:s.size<=1048576)(hn:i+1<s.size)(hx:nx s.data.toList (i+1)=114) :
  Calls prog 160 #[.pointer (some ⟨R,0,none⟩)] w (mZ 3 R s L O now de (esc s.data.toList i) w):=by
 have hl:s.data.toList.length=s.size:=by simp
 have HS:Hd (Dd (w.setCell ⟨R,1,none⟩ (.int .i64 ((i:Int)+1))) R s L O now de (i+1) 0 0):=h.setI (i+1);have fB:Hd (w.grownBy (w.setCell ⟨R,1,none⟩ (.int .i64 ((i:Int)+1))) (some R)):=aQ (ax w (some R)) 1 _;obtain⟨c0,c1,-,-,-,-,-,-,df⟩:=h.cells;have df1:=df 1;have HE:Hd (esc s.data.toList i=.ok ([13],i+2)):=Zj _ _ hx;rw[HE.o];have fU:Hd (∀(hj:i+1<s.size),nx s.data.toList (i+1)=(s[i+1].toNat:Int)):=byte_at s (i+1);clear h df;obtain⟨j,hj⟩:=zN (i+1);have hij:i+2=j+1:=by omega
 have hlt:j<s.size:=by omega
 have hge:decide ((s.size:Int)<=(j:Int))=false:=by simp;omega
 have lJ:¬(s.size:Int)<=(j:Int):=by omega
 rw[hj]at HS hx fU;rw[hij];have HX:Hd (nx s.data.toList j=(s[j].toNat:Int)):=fU.o hlt;clear hj hij fU hn HE;have q98:((s[j].toNat:Int) == 98)=false:=by rw[<-HX.o,hx];rfl
 have q116:((s[j].toNat:Int) == 116)=false:=by rw[<-HX.o,hx];rfl
 have q110:((s[j].toNat:Int) == 110)=false:=by rw[<-HX.o,hx];rfl
 have q102:((s[j].toNat:Int) == 102)=false:=by rw[<-HX.o,hx];rfl
 have q114:((s[j].toNat:Int) == 114)=true:=by rw[<-HX.o,hx];rfl
 clear HX hx;go_enter func160,ntmps160;go_wp2;obtain⟨wA,hwA⟩:∃W,w.setCell ⟨R,1,none⟩ (.int .i64 ((i:Int)+1))=W:=⟨_,rfl⟩;rw[hwA]at HS fB ⊢;obtain⟨d0,d1,-,-,-,-,-,-,dg⟩:=HS.o.cells;have dg1:=dg 1;clear hwA dg c0 c1 df1;go_quiet (fail);have aN:Hd (Dd (wA.drewN nq) R s L O now de j 0 0):=HS.o;have aH:Hd (w.grownBy (wA.drewN nq) (some R)):=aj fB.o nq;obtain⟨wB,hwB⟩:∃W,wA.drewN nq=W:=⟨_,rfl⟩;rw[hwB]at aN aH ⊢;obtain⟨f0,f1,-,-,-,-,-,-,fg⟩:=aN.o.cells;have fg1:=fg 1;clear hwB fg d0 d1 dg1;go_wp2;go_quiet (fail);have dJ:Hd (Dd (wB.drewN nq) R s L O now de j 0 0):=aN.o;have bJ:Hd (w.grownBy (wB.drewN nq) (some R)):=aj aH.o nq;obtain⟨wC,fV⟩:∃W,wB.drewN nq=W:=⟨_,rfl⟩;rw[fV]at dJ bJ ⊢;obtain⟨g0,g1,-,-,-,-,-,-,gg⟩:=dJ.o.cells;have gg1:=gg 1;have fH:Hd (Dd (wC.setCell ⟨R,1,none⟩ (.int .i64 ((j:Int)+1))) R s L O now de (j+1) 0 0):=dJ.o.setI (j+1)
 have gX:Hd (w.grownBy (wC.setCell ⟨R,1,none⟩ (.int .i64 ((j:Int)+1))) (some R)):=aQ bJ.o 1 _;clear fV gg f0 f1 fg1;go_wp2;go_ret;exact⟨fun t k hh=>(by cases hh;exact⟨rfl,by omega,fH.o⟩),fun c p hh=>(by cases hh),gX.o⟩
open Go.RowKit Go.Joins
theorem Zu(R:Nat)(s:ByteArray)(L O:Value)(now de i:Nat)(w:World)(h:Dd w R s L O now de i 0 0)(hi:i<s.size)(hs:s.size<=1048576)(hn:i+1<s.size)(hx:nx s.data.toList (i+1)=34) :
  Calls prog 160 #[.pointer (some ⟨R,0,none⟩)] w (mZ 3 R s L O now de (esc s.data.toList i) w):=by
 have hl:s.data.toList.length=s.size:=by simp
 have HS:Hd (Dd (w.setCell ⟨R,1,none⟩ (.int .i64 ((i:Int)+1))) R s L O now de (i+1) 0 0):=h.setI (i+1);have fB:Hd (w.grownBy (w.setCell ⟨R,1,none⟩ (.int .i64 ((i:Int)+1))) (some R)):=aQ (ax w (some R)) 1 _;obtain⟨c0,c1,-,-,-,-,-,-,df⟩:=h.cells;have df1:=df 1;have HE:Hd (esc s.data.toList i=.ok ([34],i+2)):=Zk _ _ hx;rw[HE.o];have fU:Hd (∀(hj:i+1<s.size),nx s.data.toList (i+1)=(s[i+1].toNat:Int)):=byte_at s (i+1);clear h df;obtain⟨j,hj⟩:=zN (i+1);have hij:i+2=j+1:=by omega
 have hlt:j<s.size:=by omega
 have hge:decide ((s.size:Int)<=(j:Int))=false:=by simp;omega
 have lJ:¬(s.size:Int)<=(j:Int):=by omega
 rw[hj]at HS hx fU;rw[hij];have HX:Hd (nx s.data.toList j=(s[j].toNat:Int)):=fU.o hlt;clear hj hij fU hn HE;have q98:((s[j].toNat:Int) == 98)=false:=by rw[<-HX.o,hx];rfl
 have q116:((s[j].toNat:Int) == 116)=false:=by rw[<-HX.o,hx];rfl
 have q110:((s[j].toNat:Int) == 110)=false:=by rw[<-HX.o,hx];rfl
 have q102:((s[j].toNat:Int) == 102)=false:=by rw[<-HX.o,hx];rfl
 have q114:((s[j].toNat:Int) == 114)=false:=by rw[<-HX.o,hx];rfl
 have q34:((s[j].toNat:Int) == 34)=true:=by rw[<-HX.o,hx];rfl
 have hb:s[j].toNat=34:=by have:=HX.o;omega
 clear HX hx;go_enter func160,ntmps160;go_wp2;obtain⟨wA,hwA⟩:∃W,w.setCell ⟨R,1,none⟩ (.int .i64 ((i:Int)+1))=W:=⟨_,rfl⟩;rw[hwA]at HS fB ⊢;obtain⟨d0,d1,-,-,-,-,-,-,dg⟩:=HS.o.cells;have dg1:=dg 1;clear hwA dg c0 c1 df1;go_quiet (fail);have aN:Hd (Dd (wA.drewN nq) R s L O now de j 0 0):=HS.o;have aH:Hd (w.grownBy (wA.drewN nq) (some R)):=aj fB.o nq;obtain⟨wB,hwB⟩:∃W,wA.drewN nq=W:=⟨_,rfl⟩;rw[hwB]at aN aH ⊢;obtain⟨f0,f1,-,-,-,-,-,-,fg⟩:=aN.o.cells;have fg1:=fg 1;clear hwB fg d0 d1 dg1;go_wp2;go_quiet (fail);have dJ:Hd (Dd (wB.drewN nq) R s L O now de j 0 0):=aN.o;have bJ:Hd (w.grownBy (wB.drewN nq) (some R)):=aj aH.o nq;obtain⟨wC,fV⟩:∃W,wB.drewN nq=W:=⟨_,rfl⟩;rw[fV]at dJ bJ ⊢;obtain⟨g0,g1,-,-,-,-,-,-,gg⟩:=dJ.o.cells;have gg1:=gg 1;have fH:Hd (Dd (wC.setCell ⟨R,1,none⟩ (.int .i64 ((j:Int)+1))) R s L O now de (j+1) 0 0):=dJ.o.setI (j+1)
 have gX:Hd (w.grownBy (wC.setCell ⟨R,1,none⟩ (.int .i64 ((j:Int)+1))) (some R)):=aQ bJ.o 1 _;clear fV gg f0 f1 fg1;have HB:Hd (([UInt8.ofNat ((s[j].toNat:Int)).toNat]:List UInt8)=[34]):=by show _=_;simp[hb]
 have FM:(s[j].toNat:Int)=34:=by omega
 have kd:=Kv (wC.setCell ⟨R,1,none⟩ (.int .i64 ((j:Int)+1))) 34;rw[show(wC.setCell ⟨R,1,none⟩ (.int .i64 ((j:Int)+1))).heap.size=wC.heap.size by simp[World.setCell]]at kd;clear hb;go_wp2;go_ret;refine⟨fun t k hh=>?_,fun c p hh=>(by cases hh),aG gX.o (World.grownBy_alloc _ _ none)⟩
 cases hh
 exact⟨by first|exact BA HB.o|rfl,⟨by omega,fH.o.grow (World.grownBy_alloc _ _ none)⟩⟩
theorem Zv(R:Nat)(s:ByteArray)(L O:Value)(now de i:Nat)(w:World)(h:Dd w R s L O now de i 0 0)(hi:i<s.size)(hs:s.size<=1048576)(hn:i+1<s.size)(hx:nx s.data.toList (i+1)=92) :
  Calls prog 160 #[.pointer (some ⟨R,0,none⟩)] w (mZ 3 R s L O now de (esc s.data.toList i) w):=by
 have hl:s.data.toList.length=s.size:=by simp
 have HS:Hd (Dd (w.setCell ⟨R,1,none⟩ (.int .i64 ((i:Int)+1))) R s L O now de (i+1) 0 0):=h.setI (i+1);have fB:Hd (w.grownBy (w.setCell ⟨R,1,none⟩ (.int .i64 ((i:Int)+1))) (some R)):=aQ (ax w (some R)) 1 _;obtain⟨c0,c1,-,-,-,-,-,-,df⟩:=h.cells;have df1:=df 1;have HE:Hd (esc s.data.toList i=.ok ([92],i+2)):=Zl _ _ hx;rw[HE.o];have fU:Hd (∀(hj:i+1<s.size),nx s.data.toList (i+1)=(s[i+1].toNat:Int)):=byte_at s (i+1);clear h df;obtain⟨j,hj⟩:=zN (i+1);have hij:i+2=j+1:=by omega
 have hlt:j<s.size:=by omega
 have hge:decide ((s.size:Int)<=(j:Int))=false:=by simp;omega
 have lJ:¬(s.size:Int)<=(j:Int):=by omega
 rw[hj]at HS hx fU;rw[hij];have HX:Hd (nx s.data.toList j=(s[j].toNat:Int)):=fU.o hlt;clear hj hij fU hn HE;have q98:((s[j].toNat:Int) == 98)=false:=by rw[<-HX.o,hx];rfl
 have q116:((s[j].toNat:Int) == 116)=false:=by rw[<-HX.o,hx];rfl
 have q110:((s[j].toNat:Int) == 110)=false:=by rw[<-HX.o,hx];rfl
 have q102:((s[j].toNat:Int) == 102)=false:=by rw[<-HX.o,hx];rfl
 have q114:((s[j].toNat:Int) == 114)=false:=by rw[<-HX.o,hx];rfl
 have q34:((s[j].toNat:Int) == 34)=false:=by rw[<-HX.o,hx];rfl
 have q92:((s[j].toNat:Int) == 92)=true:=by rw[<-HX.o,hx];rfl
 have hb:s[j].toNat=92:=by have:=HX.o;omega
 clear HX hx;go_enter func160,ntmps160;go_wp2;obtain⟨wA,hwA⟩:∃W,w.setCell ⟨R,1,none⟩ (.int .i64 ((i:Int)+1))=W:=⟨_,rfl⟩;rw[hwA]at HS fB ⊢;obtain⟨d0,d1,-,-,-,-,-,-,dg⟩:=HS.o.cells;have dg1:=dg 1;clear hwA dg c0 c1 df1;go_quiet (fail);have aN:Hd (Dd (wA.drewN nq) R s L O now de j 0 0):=HS.o;have aH:Hd (w.grownBy (wA.drewN nq) (some R)):=aj fB.o nq;obtain⟨wB,hwB⟩:∃W,wA.drewN nq=W:=⟨_,rfl⟩;rw[hwB]at aN aH ⊢;obtain⟨f0,f1,-,-,-,-,-,-,fg⟩:=aN.o.cells;have fg1:=fg 1;clear hwB fg d0 d1 dg1;go_wp2;go_quiet (fail);have dJ:Hd (Dd (wB.drewN nq) R s L O now de j 0 0):=aN.o;have bJ:Hd (w.grownBy (wB.drewN nq) (some R)):=aj aH.o nq;obtain⟨wC,fV⟩:∃W,wB.drewN nq=W:=⟨_,rfl⟩;rw[fV]at dJ bJ ⊢;obtain⟨g0,g1,-,-,-,-,-,-,gg⟩:=dJ.o.cells;have gg1:=gg 1;have fH:Hd (Dd (wC.setCell ⟨R,1,none⟩ (.int .i64 ((j:Int)+1))) R s L O now de (j+1) 0 0):=dJ.o.setI (j+1)
 have gX:Hd (w.grownBy (wC.setCell ⟨R,1,none⟩ (.int .i64 ((j:Int)+1))) (some R)):=aQ bJ.o 1 _;clear fV gg f0 f1 fg1;have HB:Hd (([UInt8.ofNat ((s[j].toNat:Int)).toNat]:List UInt8)=[92]):=by show _=_;simp[hb]
 have FM:(s[j].toNat:Int)=92:=by omega
 have kd:=Kv (wC.setCell ⟨R,1,none⟩ (.int .i64 ((j:Int)+1))) 92;rw[show(wC.setCell ⟨R,1,none⟩ (.int .i64 ((j:Int)+1))).heap.size=wC.heap.size by simp[World.setCell]]at kd;clear hb;go_wp2;go_ret;refine⟨fun t k hh=>?_,fun c p hh=>(by cases hh),aG gX.o (World.grownBy_alloc _ _ none)⟩
 cases hh
 exact⟨by first|exact BA HB.o|rfl,⟨by omega,fH.o.grow (World.grownBy_alloc _ _ none)⟩⟩
open Go.RowKit Go.Joins
theorem Zw(R:Nat)(s:ByteArray)(L O:Value)(now de i:Nat)(w:World)(h:Dd w R s L O now de i 0 0)(hi:i<s.size)(hs:s.size<=1048576)(hn:i+1<s.size)(m98:¬nx s.data.toList (i+1)=98)(m116:¬nx s.data.toList (i+1)=116)(m110:¬nx s.data.toList (i+1)=110)(m102:¬nx s.data.toList (i+1)=102)(m114:¬nx s.data.toList (i+1)=114)(m34:¬nx s.data.toList (i+1)=34)(m92:¬nx s.data.toList (i+1)=92)(m117:¬nx s.data.toList (i+1)=117) :
  Calls prog 160 #[.pointer (some ⟨R,0,none⟩)] w (mZ 3 R s L O now de (esc s.data.toList i) w):=by
 have hl:s.data.toList.length=s.size:=by simp
 have HS:Hd (Dd (w.setCell ⟨R,1,none⟩ (.int .i64 ((i:Int)+1))) R s L O now de (i+1) 0 0):=h.setI (i+1);have fB:Hd (w.grownBy (w.setCell ⟨R,1,none⟩ (.int .i64 ((i:Int)+1))) (some R)):=aQ (ax w (some R)) 1 _;obtain⟨c0,c1,-,-,-,-,-,-,df⟩:=h.cells;have df1:=df 1;have HE:Hd (esc s.data.toList i=.error (2,i+1)):=Q7 _ _ m117 m98 m116 m110 m102 m114 m34 m92;rw[HE.o];have fU:Hd (∀(hj:i+1<s.size),nx s.data.toList (i+1)=(s[i+1].toNat:Int)):=byte_at s (i+1);clear h df;obtain⟨j,hj⟩:=zN (i+1);have hij:i+2=j+1:=by omega
 have hlt:j<s.size:=by omega
 have hge:decide ((s.size:Int)<=(j:Int))=false:=by simp;omega
 have lJ:¬(s.size:Int)<=(j:Int):=by omega
 rw[hj]at HS fU m98 m116 m110 m102 m114 m34 m92 m117;rw[hj];have HX:Hd (nx s.data.toList j=(s[j].toNat:Int)):=fU.o hlt;clear hj hij fU hn HE;have q98:((s[j].toNat:Int) == 98)=false:=by rw[beq_eq_false_iff_ne,<-HX.o];exact m98
 have q116:((s[j].toNat:Int) == 116)=false:=by rw[beq_eq_false_iff_ne,<-HX.o];exact m116
 have q110:((s[j].toNat:Int) == 110)=false:=by rw[beq_eq_false_iff_ne,<-HX.o];exact m110
 have q102:((s[j].toNat:Int) == 102)=false:=by rw[beq_eq_false_iff_ne,<-HX.o];exact m102
 have q114:((s[j].toNat:Int) == 114)=false:=by rw[beq_eq_false_iff_ne,<-HX.o];exact m114
 have q34:((s[j].toNat:Int) == 34)=false:=by rw[beq_eq_false_iff_ne,<-HX.o];exact m34
 have q92:((s[j].toNat:Int) == 92)=false:=by rw[beq_eq_false_iff_ne,<-HX.o];exact m92
 have q117:((s[j].toNat:Int) == 117)=false:=by rw[beq_eq_false_iff_ne,<-HX.o];exact m117
 clear HX m98 m116 m110 m102 m114 m34 m92 m117;go_enter func160,ntmps160;go_wp2;obtain⟨wA,hwA⟩:∃W,w.setCell ⟨R,1,none⟩ (.int .i64 ((i:Int)+1))=W:=⟨_,rfl⟩;rw[hwA]at HS fB ⊢;obtain⟨d0,d1,-,-,-,-,-,-,dg⟩:=HS.o.cells;have dg1:=dg 1;clear hwA dg c0 c1 df1;go_quiet (fail);have aN:Hd (Dd (wA.drewN nq) R s L O now de j 0 0):=HS.o;have aH:Hd (w.grownBy (wA.drewN nq) (some R)):=aj fB.o nq;obtain⟨wB,hwB⟩:∃W,wA.drewN nq=W:=⟨_,rfl⟩;rw[hwB]at aN aH ⊢;obtain⟨f0,f1,-,-,-,-,-,-,fg⟩:=aN.o.cells;have fg1:=fg 1;clear hwB fg d0 d1 dg1;go_wp2;go_quiet (fail);have dJ:Hd (Dd (wB.drewN nq) R s L O now de j 0 0):=aN.o;have bJ:Hd (w.grownBy (wB.drewN nq) (some R)):=aj aH.o nq;obtain⟨wC,fV⟩:∃W,wB.drewN nq=W:=⟨_,rfl⟩;rw[fV]at dJ bJ ⊢;obtain⟨g0,g1,-,-,-,-,-,-,gg⟩:=dJ.o.cells;have gg1:=gg 1;have fH:Hd (Dd (wC.setCell ⟨R,1,none⟩ (.int .i64 ((j:Int)+1))) R s L O now de (j+1) 0 0):=dJ.o.setI (j+1)
 have gX:Hd (w.grownBy (wC.setCell ⟨R,1,none⟩ (.int .i64 ((j:Int)+1))) (some R)):=aQ bJ.o 1 _;clear fV gg f0 f1 fg1;have hsub:IntKind.i64.wrap ((j:Int)+1-1)=(j:Int):=by rw[IntKind.wrap_i64];omega
 have CF:Hd (∀wx,Dd wx R s L O now de (j+1) 0 0->Calls prog 82 #[.pointer (some ⟨R,0,none⟩),.int .i64 2,.int .i64 (j:Nat)] wx fun en w'=>en=.returned (.tuple #[])/\Dd w' R s L O now de (j+1) 2 j/\wx.grownBy w' (some R)):=fun wx hg=>pJ R s L O now de (j+1) 2 j wx hg
 obtain⟨-,k1,-⟩:=fH.o.cells;go_wp2_with (go_at_call 82;refine(CF.o _ fH.o).mono ?_;rintro e w2 ⟨rfl,hd2,hg2⟩);refine bodyPost_ret (results_tmp (t:=2) rfl _ _ _) rfl ?_;exact⟨fun t k hh=>(by cases hh),fun c p hh=>(by cases hh;exact⟨⟨[],by simp,rfl⟩,by decide,j+1,by omega,hd2⟩),dH gX.o hg2⟩
end Go.Proofs.YtnnbgjaphfhibaaGreatDoor
