import Derived.Test.YtbcfhgpfgdbjgaaGreatDoorK07
import Derived.Laws.BytesString
import Derived.Test.YtbcfhgpfgdbjgaaGreatDoorK08
set_option linter.all false
set_option maxRecDepth 100000
set_option maxHeartbeats 0
open Go.Proofs.Tryz
namespace Go.Proofs.YtbcfhgpfgdbjgaaGreatDoor
open Go.RowKit Go.Joins
theorem Wi(w:World)(c:Int):(convert 245 9 (.slice (some ⟨w.heap.size,0,none⟩) 1 1)).run prog (w.alloc (.cells #[.int .u8 c] 5))=.ok (.string ⟨#[UInt8.ofNat c.toNat]⟩) (w.alloc (.cells #[.int .u8 c] 5)):=by
 rw[run_convert_bytes_string _ 245 9 5 _ 1 1 underlying245 underlying5 underlying9];rw[run_bytesToString _ _ 1 1 [c] (run_loadCells_list _ _ [.int .u8 c] (by
  intro j v hj
  match j,hj with
  | 0,hj=>simp at hj;subst hj;simp[Addr.add]))]
 rfl
theorem adH(w:World)(c d:Int):(convert 245 9 (.slice (some ⟨w.heap.size,0,none⟩) 2 2)).run prog (w.alloc (.cells #[.int .u8 c,.int .u8 d] 5))=.ok (.string ⟨#[UInt8.ofNat c.toNat,UInt8.ofNat d.toNat]⟩) (w.alloc (.cells #[.int .u8 c,.int .u8 d] 5)):=by
 rw[run_convert_bytes_string _ 245 9 5 _ 2 2 underlying245 underlying5 underlying9];rw[run_bytesToString _ _ 2 2 [c,d] (run_loadCells_list _ _ [.int .u8 c,.int .u8 d] (by
  intro j v hj
  match j,hj with
  | 0,hj=>simp at hj;subst hj;simp[Addr.add]
  | 1,hj=>simp at hj;subst hj;simp[Addr.add]))]
 rfl
theorem adI(w:World)(c d e:Int):(convert 245 9 (.slice (some ⟨w.heap.size,0,none⟩) 3 3)).run prog (w.alloc (.cells #[.int .u8 c,.int .u8 d,.int .u8 e] 5))=.ok (.string ⟨#[UInt8.ofNat c.toNat,UInt8.ofNat d.toNat,UInt8.ofNat e.toNat]⟩) (w.alloc (.cells #[.int .u8 c,.int .u8 d,.int .u8 e] 5)):=by
 rw[run_convert_bytes_string _ 245 9 5 _ 3 3 underlying245 underlying5 underlying9];rw[run_bytesToString _ _ 3 3 [c,d,e] (run_loadCells_list _ _ [.int .u8 c,.int .u8 d,.int .u8 e] (by
  intro j v hj
  match j,hj with
  | 0,hj=>simp at hj;subst hj;simp[Addr.add]
  | 1,hj=>simp at hj;subst hj;simp[Addr.add]
  | 2,hj=>simp at hj;subst hj;simp[Addr.add]))]
 rfl
theorem Oe(x y:List UInt8)(wx:World)(h:x.length+y.length<=9223372036854775807):(Op.stringOp .add ⟨x.toArray⟩ ⟨y.toArray⟩).run prog wx=.ok (.string ⟨(x++y).toArray⟩) wx:=by
 rw[run_string_add_sum wx _ _ (by
  show x.toArray.size+y.toArray.size<=_;simpa using h),ByteArray.mk_append_mk]
theorem Ji{a b:List UInt8}(h:a=b):Ending.returned (.string ⟨a.toArray⟩)=.returned (.string ⟨b.toArray⟩):=by rw[h]
theorem Wj(n:Nat)(hn:n<65536)(w:World):Calls prog 146 #[.int .i64 (n:Nat)] w fun e w'=>e=.returned (.string ⟨(gU n).toArray⟩)/\w.grownBy w' none:=by
 have k1:=Wi w;have k2:=adH w;have k3:=adI w;have e64:(n:Int).tdiv 64=((n / 64:Nat):Int):=by rw[Int.tdiv_eq_ediv_of_nonneg (by omega)];omega
 have m64:(n:Int).tmod 64=((n % 64:Nat):Int):=by rw[Int.tmod_eq_emod_of_nonneg (by omega)];omega
 have e4096:(n:Int).tdiv 4096=((n / 4096:Nat):Int):=by rw[Int.tdiv_eq_ediv_of_nonneg (by omega)];omega
 have m6464:((n / 64:Nat):Int).tmod 64=((n / 64 % 64:Nat):Int):=by rw[Int.tmod_eq_emod_of_nonneg (by omega)];omega
 by_cases h1:n<128
 ·have HW:Hd (gU n=[UInt8.ofNat n]):=by show _=_;unfold gU;rw[if_pos h1]
  clear k2 k3 e64 m64 e4096 m6464;go_enter func146,ntmps146;go_wp2;go_ret;refine⟨Ji ?_,World.grownBy_alloc _ _ none⟩;rw[HW.o]
 ·by_cases h2:n<2048
  ·have HW:Hd (gU n=[UInt8.ofNat (192+n / 64),UInt8.ofNat (128+n % 64)]):=by show _=_;unfold gU;rw[if_neg h1,if_pos h2]
   clear k1 k3 e4096 m6464;go_enter func146,ntmps146;go_wp2;go_ret;refine⟨Ji ?_,World.grownBy_alloc _ _ none⟩;rw[HW.o]
  ·have HW:Hd (gU n=[UInt8.ofNat (224+n / 4096),UInt8.ofNat (128+n / 64 % 64),UInt8.ofNat (128+n % 64)]):=by show _=_;unfold gU;rw[if_neg h1,if_neg h2]
   clear k1 k2;go_enter func146,ntmps146;go_wp2;go_ret;refine⟨Ji ?_,World.grownBy_alloc _ _ none⟩;rw[HW.o]
theorem adJ(x:Int)(h0:0<=x)(h1:x<256):hexV x=IW (if 65<=x/\x<=70 then x+32 else x):=by
 unfold hexV IW aI;simp only[decide_eq_true_eq]
 repeat' split
 all_goals omega
def adK(R:Nat)(s:ByteArray)(L O:Value)(now de:Nat)(g:Rs (Nat × Nat))(w:World)(e:Ending)(w':World):Prop:=(∀n j,g=.ok (n,j)->e=.returned (.int .i64 (n:Nat))/\Ds w' R s L O now de (.ok j))/\(∀c p,g=.error (c,p)->e=.returned (.int .i64 0)/\Ds w' R s L O now de (.error (c,p)))/\w.grownBy w' (some R)
theorem adL(R:Nat)(s:ByteArray)(L O:Value)(now de i:Nat)(w:World)(h:Dd w R s L O now de i 0 0)(hi:i<=s.size)(hs:s.size<=1048576) :
  Calls prog 145 #[.pointer (some ⟨R,0,none⟩)] w (adK R s L O now de (four s.data.toList 4 i 0) w):=by
 have hl:s.data.toList.length=s.size:=by simp
 have MO:Hd (∀k i n,four s.data.toList (k+1) i n=if hexV (nx s.data.toList i)<0 then .error (2,i) else four s.data.toList k (i+1) (16*n+(hexV (nx s.data.toList i)).toNat)):=Ey _;have Ez:=ae IB;have HX:Hd (∀k (hk:k<s.size),nx s.data.toList k=(s[k].toNat:Int)):=byte_at s;have vO:Hd (∀k,s.size<=k->hexV (nx s.data.toList k)=-1):=fun k hk=>by rw[jF _ _ (by omega)];exact ML
 have CS:=ae (fun c (h0:0<=c) (h1:c<256) w=>ab6 c h0 h1 w);have lg:=ae adJ;obtain⟨F,hF⟩:=zN (four s.data.toList 4 i 0);have HF:=ae hF;rw[hF];have H0:=ae h;clear h hF;go_enter func145,ntmps145;go_wp2;go_loopw [3,4] (fun vn vk wr=>∃k n j:Nat,vn=.int .i64 (n:Nat)/\vk=.int .i64 (k:Nat)/\k<=4/\n<16 ^ k/\four s.data.toList (4-k) j n=F/\Dd wr R s L O now de j 0 0/\j<=s.size/\w.grownBy wr (some R)) (fun _ vk _=>4-(intOf vk).toNat)
 case atStart=>exact⟨0,0,i,rfl,rfl,by omega,by omega,HF.o,H0.o,hi,ax _ _⟩
 case round=>
  obtain⟨k,n,j,rfl,rfl,hk,hn,hf,hd,hj,hg⟩:=hrel;have HD:Hd (Dd _ R s L O now de j 0 0):=hd;have HG:Hd (w.grownBy _ (some R)):=hg
  by_cases hk4:k=4
  ·subst hk4;have jk:Hd (F=.ok (n,j)):=hf.symm;clear hd hg hf hn hk;go_wp2;refine bodyPost_ret (results_tmp (t:=2) rfl _ _ _) rfl ?_;rw[jk.o];exact⟨fun n j hh=>(by cases hh;exact⟨rfl,hj,HD.o⟩),fun c p hh=>(by cases hh),HG.o⟩
  ·have hk3:k<4:=by omega
   obtain⟨m,hm⟩:∃m,4-k=m+1:=⟨3-k,by omega⟩;have hm2:4-(k+1)=m:=by omega
   rw[hm,MO.o]at hf;have hn4:n<4096:=Nat.lt_of_lt_of_le hn (Nat.pow_le_pow_right (by decide) (show k<=3 by omega));have HN:=ae hn;have hxb:=Ez.o (nx s.data.toList j);obtain⟨c0,c1,-,-,-,c5,-,-,df⟩:=hd.cells;have df1:=df 1;have xZ:=vO.o j;obtain⟨d,Fh⟩:=zN (hexV (nx s.data.toList j));rw[Fh]at hf hxb xZ;have jk:=ae hf;obtain⟨hd1,hd2⟩:=hxb;have CF:=ae (fun wx (hg:Dd wx R s L O now de j 0 0)=>qK R s L O now de j 2 j wx hg)
   by_cases hlt:j<s.size
   ·have hlt':decide ((j:Int)<(s.size:Int))=true:=by simp;omega
    have hxj:=HX.o j hlt;have hu:=s[j].toNat_lt;have hsg:=lg.o (nx s.data.toList j) (by omega) (by omega);rw[Fh,hxj]at hsg
    by_cases hA:65<=(s[j].toNat:Int)/\(s[j].toNat:Int)<=70
    ·have jw:Hd (∀w,Calls prog 62 #[.int .u8 ((s[j].toNat:Int)+32)] w fun e w'=>e=.returned (.int .i64 d)/\w'=w):=fun w=>by
      rw[if_pos hA]at hsg;rw[hsg];exact CS.o _ (by omega) (by omega) w
     have h65:=hA.1;have h70:=hA.2;have hwr:IntKind.u8.wrap ((s[j].toNat:Int)+32)=(s[j].toNat:Int)+32:=by simp[IntKind.wrap,IntKind.bits,IntKind.signed];omega
     clear hsg hd hg hf hm hk4 hk hn Fh hxj df xZ
     by_cases hd0:d<0
     ·have aJ:Hd (F=.error (2,j)):=by
       have:=jk.o;rw[if_pos hd0]at this;exact this.symm
      go_wp2;go_quiet (fail);have aF:Hd (Dd (wr.drewN nq) R s L O now de j 0 0):=HD.o;have dh:=ae (az HG.o nq);obtain⟨wA,hwA⟩:=zN (wr.drewN nq);rw[hwA]at aF dh ⊢;obtain⟨g0,g1,-,-,-,g5,-,-,dg⟩:=aF.o.cells;have dg1:=dg 1;clear hwA dg;go_wp2;go_quiet (fail);have bg:Hd (Dd (wA.drewN nq) R s L O now de j 0 0):=aF.o;have aW:=ae (az dh.o nq);obtain⟨wB,hwB⟩:=zN (wA.drewN nq);rw[hwB]at bg aW ⊢;obtain⟨g0',g1',-,-,-,g5',-,-,dg⟩:=bg.o.cells;have dg2:=dg 1;clear hwB dg;go_wp2_with (first|(go_at_call 62;refine(jw.o _).mono ?_;rintro e w' ⟨rfl,rfl⟩)|(go_at_call 58;refine(CF.o _ bg.o).mono ?_;rintro e w2 ⟨rfl,hd2,hg2⟩));refine bodyPost_ret (results_tmp (t:=2) rfl _ _ _) rfl ?_;rw[aJ.o];exact⟨fun n j hh=>(by cases hh),fun c p hh=>(by cases hh;exact⟨rfl,by decide,j,hj,hd2⟩),dK aW.o hg2⟩
     ·obtain⟨d,rfl⟩:∃d':Nat,d=(d':Int):=⟨d.toNat,by omega⟩;have l9:Hd (four s.data.toList m (j+1) (16*n+d)=F):=by
       have:=jk.o;rw[if_neg hd0]at this;show _=_;simpa using this
      have BI:Hd (16*n+d<16 ^ (k+1)):=by
       have:=HN.o;show _ < _;rw[Nat.pow_succ];omega
      go_wp2;go_quiet (fail);have aF:Hd (Dd (wr.drewN nq) R s L O now de j 0 0):=HD.o;have dh:=ae (az HG.o nq);obtain⟨wA,hwA⟩:=zN (wr.drewN nq);rw[hwA]at aF dh ⊢;obtain⟨g0,g1,-,-,-,g5,-,-,dg⟩:=aF.o.cells;have dg1:=dg 1;clear hwA dg;go_wp2;go_quiet (fail);have bg:Hd (Dd (wA.drewN nq) R s L O now de j 0 0):=aF.o;have aW:=ae (az dh.o nq);obtain⟨wB,hwB⟩:=zN (wA.drewN nq);rw[hwB]at bg aW ⊢;obtain⟨g0',g1',-,-,-,g5',-,-,dg⟩:=bg.o.cells;have dg2:=dg 1;clear hwB dg;go_wp2_with (go_at_call 62;refine(jw.o _).mono ?_;rintro e w' ⟨rfl,rfl⟩);go_roundw
      case rel=>
       exact⟨k+1,16*n+d,j+1,by go_num,by go_num,by omega,BI.o,by rw[hm2];exact l9.o,bg.o.setI (j+1),by omega,aT aW.o 1 _⟩
      case measure=>simp[intOf];omega
    ·have jw:Hd (∀w,Calls prog 62 #[.int .u8 ((s[j].toNat:Int))] w fun e w'=>e=.returned (.int .i64 d)/\w'=w):=fun w=>by
      rw[if_neg hA]at hsg;rw[hsg];exact CS.o _ (by omega) (by omega) w
     have hA':=hA;clear hsg hd hg hf hm hk4 hk hn Fh hxj df xZ
     by_cases hd0:d<0
     ·have aJ:Hd (F=.error (2,j)):=by
       have:=jk.o;rw[if_pos hd0]at this;exact this.symm
      go_wp2;go_quiet (fail);have aF:Hd (Dd (wr.drewN nq) R s L O now de j 0 0):=HD.o;have dh:=ae (az HG.o nq);obtain⟨wA,hwA⟩:=zN (wr.drewN nq);rw[hwA]at aF dh ⊢;obtain⟨g0,g1,-,-,-,g5,-,-,dg⟩:=aF.o.cells;have dg1:=dg 1;clear hwA dg;go_wp2;go_quiet (fail);have bg:Hd (Dd (wA.drewN nq) R s L O now de j 0 0):=aF.o;have aW:=ae (az dh.o nq);obtain⟨wB,hwB⟩:=zN (wA.drewN nq);rw[hwB]at bg aW ⊢;obtain⟨g0',g1',-,-,-,g5',-,-,dg⟩:=bg.o.cells;have dg2:=dg 1;clear hwB dg
      by_cases h65:65<=(s[j].toNat:Int)
      ·have h7:¬(s[j].toNat:Int)<=70:=by omega
       go_wp2_with (first|(go_at_call 62;refine(jw.o _).mono ?_;rintro e w' ⟨rfl,rfl⟩)|(go_at_call 58;refine(CF.o _ bg.o).mono ?_;rintro e w2 ⟨rfl,hd2,hg2⟩));refine bodyPost_ret (results_tmp (t:=2) rfl _ _ _) rfl ?_;rw[aJ.o];exact⟨fun n j hh=>(by cases hh),fun c p hh=>(by cases hh;exact⟨rfl,by decide,j,hj,hd2⟩),dK aW.o hg2⟩
      ·have h7:(s[j].toNat:Int)<65:=by omega
       go_wp2_with (first|(go_at_call 62;refine(jw.o _).mono ?_;rintro e w' ⟨rfl,rfl⟩)|(go_at_call 58;refine(CF.o _ bg.o).mono ?_;rintro e w2 ⟨rfl,hd2,hg2⟩));refine bodyPost_ret (results_tmp (t:=2) rfl _ _ _) rfl ?_;rw[aJ.o];exact⟨fun n j hh=>(by cases hh),fun c p hh=>(by cases hh;exact⟨rfl,by decide,j,hj,hd2⟩),dK aW.o hg2⟩
     ·obtain⟨d,rfl⟩:∃d':Nat,d=(d':Int):=⟨d.toNat,by omega⟩;have l9:Hd (four s.data.toList m (j+1) (16*n+d)=F):=by
       have:=jk.o;rw[if_neg hd0]at this;show _=_;simpa using this
      have BI:Hd (16*n+d<16 ^ (k+1)):=by
       have:=HN.o;show _ < _;rw[Nat.pow_succ];omega
      go_wp2;go_quiet (fail);have aF:Hd (Dd (wr.drewN nq) R s L O now de j 0 0):=HD.o;have dh:=ae (az HG.o nq);obtain⟨wA,hwA⟩:=zN (wr.drewN nq);rw[hwA]at aF dh ⊢;obtain⟨g0,g1,-,-,-,g5,-,-,dg⟩:=aF.o.cells;have dg1:=dg 1;clear hwA dg;go_wp2;go_quiet (fail);have bg:Hd (Dd (wA.drewN nq) R s L O now de j 0 0):=aF.o;have aW:=ae (az dh.o nq);obtain⟨wB,hwB⟩:=zN (wA.drewN nq);rw[hwB]at bg aW ⊢;obtain⟨g0',g1',-,-,-,g5',-,-,dg⟩:=bg.o.cells;have dg2:=dg 1;clear hwB dg
      by_cases h65:65<=(s[j].toNat:Int)
      ·have h7:¬(s[j].toNat:Int)<=70:=by omega
       go_wp2_with (go_at_call 62;refine(jw.o _).mono ?_;rintro e w' ⟨rfl,rfl⟩);go_roundw
       case rel=>
        exact⟨k+1,16*n+d,j+1,by go_num,by go_num,by omega,BI.o,by rw[hm2];exact l9.o,bg.o.setI (j+1),by omega,aT aW.o 1 _⟩
       case measure=>simp[intOf];omega
      ·have h7:(s[j].toNat:Int)<65:=by omega
       go_wp2_with (go_at_call 62;refine(jw.o _).mono ?_;rintro e w' ⟨rfl,rfl⟩);go_roundw
       case rel=>
        exact⟨k+1,16*n+d,j+1,by go_num,by go_num,by omega,BI.o,by rw[hm2];exact l9.o,bg.o.setI (j+1),by omega,aT aW.o 1 _⟩
       case measure=>simp[intOf];omega
   ·have hge:decide ((j:Int)<(s.size:Int))=false:=by simp;omega
    have hdm:=xZ (by omega);have aJ:Hd (F=.error (2,j)):=by
     have:=jk.o;rw[if_pos (by omega)]at this;exact this.symm
    clear hd hg hf hm hk4 hk hn Fh hdm xZ df;go_wp2;go_quiet (fail);go_wp2_with (go_at_call 58;refine(CF.o _ ?_).mono ?_;exact HD.o;rintro e w2 ⟨rfl,hd2,hg2⟩);refine bodyPost_ret (results_tmp (t:=2) rfl _ _ _) rfl ?_;rw[aJ.o];exact⟨fun n j hh=>(by cases hh),fun c p hh=>(by cases hh;exact⟨rfl,by decide,j,hj,hd2⟩),dK HG.o ⟨hg2.os,hg2.tape,hg2.output,hg2.size,hg2.block⟩⟩
def Fj(M R:Nat)(s:ByteArray)(L O:Value)(now de:Nat)(g:Rs (List UInt8 × Nat))(w:World)(e:Ending)(w':World):Prop:=(∀t j,g=.ok (t,j)->e=.returned (.string ⟨t.toArray⟩)/\Ds w' R s L O now de (.ok j))/\(∀c p,g=.error (c,p)->(∃t:List UInt8,t.length<=M/\e=.returned (.string ⟨t.toArray⟩))/\Ds w' R s L O now de (.error (c,p)))/\w.grownBy w' (some R)
theorem Wl(l:List UInt8):∀(k i n N j:Nat),four l k i n=.ok (N,j)->N<(n+1)*16 ^ k
 | 0,i,n,N,j,h=>by
  have h':(Except.ok (n,i):Rs (Nat × Nat))=.ok (N,j):=h;injection h' with h'
  injection h' with h1 h2
  omega
 | k+1,i,n,N,j,h=>by
  rw[Ey]at h;split at h
  ·cases h
  ·have:=Wl l k _ _ N j h;have hb:=IB (nx l i);have e:(16*n+(hexV (nx l i)).toNat+1)*16 ^ k<=(16*(n+1))*16 ^ k:=Nat.mul_le_mul_right _ (by omega);rw[Nat.pow_succ];have e2:(n+1)*(16 ^ k*16)=(16*(n+1))*16 ^ k:=by rw[Nat.mul_comm (16 ^ k) 16,<-Nat.mul_assoc,Nat.mul_comm (n+1) 16]
   omega
def Jj(i:Nat):Rs (Nat × Nat)->Rs (List UInt8 × Nat)
 | .error e=>.error e
 | .ok (n,j)=>if 55296<=n/\n<=57343 then .error (2,i) else .ok (gU n,j)
theorem adM(l:List UInt8)(i:Nat)(h:nx l (i+1)=117):esc l i=Jj i (four l 4 (i+2) 0):=by
 unfold esc;rw[if_pos h]
 cases four l 4 (i+2) 0<;>rfl
theorem Wn(l:List UInt8)(i:Nat)(h1:¬nx l (i+1)=117)(h2:¬nx l (i+1)=98)(h3:¬nx l (i+1)=116)(h4:¬nx l (i+1)=110)(h5:¬nx l (i+1)=102)(h6:¬nx l (i+1)=114)(h7:¬nx l (i+1)=34)(h8:¬nx l (i+1)=92):esc l i=.error (2,i+1):=by
 unfold esc;rw[if_neg h1,if_neg h2,if_neg h3,if_neg h4,if_neg h5,if_neg h6,if_neg h7,if_neg h8]
theorem adN(l:List UInt8)(i:Nat)(h:nx l (i+1)=98):esc l i=.ok ([8],i+2):=by
 unfold esc;rw[if_neg (by rw[h];decide),if_pos h]
theorem adO(l:List UInt8)(i:Nat)(h:nx l (i+1)=116):esc l i=.ok ([9],i+2):=by
 unfold esc;rw[if_neg (by rw[h];decide),if_neg (by rw[h];decide),if_pos h]
theorem adP(l:List UInt8)(i:Nat)(h:nx l (i+1)=110):esc l i=.ok ([10],i+2):=by
 unfold esc;rw[if_neg (by rw[h];decide),if_neg (by rw[h];decide),if_neg (by rw[h];decide),if_pos h]
theorem adQ(l:List UInt8)(i:Nat)(h:nx l (i+1)=102):esc l i=.ok ([12],i+2):=by
 unfold esc;rw[if_neg (by rw[h];decide),if_neg (by rw[h];decide),if_neg (by rw[h];decide),if_neg (by rw[h];decide),if_pos h]
theorem adR(l:List UInt8)(i:Nat)(h:nx l (i+1)=114):esc l i=.ok ([13],i+2):=by
 unfold esc;rw[if_neg (by rw[h];decide),if_neg (by rw[h];decide),if_neg (by rw[h];decide),if_neg (by rw[h];decide),if_neg (by rw[h];decide),if_pos h]
theorem adS(l:List UInt8)(i:Nat)(h:nx l (i+1)=34):esc l i=.ok ([34],i+2):=by
 unfold esc;rw[if_neg (by rw[h];decide),if_neg (by rw[h];decide),if_neg (by rw[h];decide),if_neg (by rw[h];decide),if_neg (by rw[h];decide),if_neg (by rw[h];decide),if_pos h]
theorem adT(l:List UInt8)(i:Nat)(h:nx l (i+1)=92):esc l i=.ok ([92],i+2):=by
 unfold esc;rw[if_neg (by rw[h];decide),if_neg (by rw[h];decide),if_neg (by rw[h];decide),if_neg (by rw[h];decide),if_neg (by rw[h];decide),if_neg (by rw[h];decide),if_neg (by rw[h];decide),if_pos h]
theorem adU(R:Nat)(s:ByteArray)(L O:Value)(now de i:Nat)(w:World)(h:Dd w R s L O now de i 0 0)(hi:i<s.size)(hs:s.size<=1048576)(he:s.size<=i+1) :
  Calls prog 114 #[.pointer (some ⟨R,0,none⟩)] w (Fj 3 R s L O now de (esc s.data.toList i) w):=by
 have hl:s.data.toList.length=s.size:=by simp
 have HS:Hd (Dd (w.setCell ⟨R,1,none⟩ (.int .i64 ((i:Int)+1))) R s L O now de (i+1) 0 0):=h.setI (i+1);have kC:Hd (w.grownBy (w.setCell ⟨R,1,none⟩ (.int .i64 ((i:Int)+1))) (some R)):=aT (ax w (some R)) 1 _;obtain⟨c0,c1,-,-,-,-,-,-,df⟩:=h.cells;have df1:=df 1;have HE:Hd (esc s.data.toList i=.error (2,i+1)):=by
  have e:nx s.data.toList (i+1)=-1:=jF _ _ (by omega);exact Wn _ _ (by rw[e];decide) (by rw[e];decide) (by rw[e];decide) (by rw[e];decide) (by rw[e];decide) (by rw[e];decide) (by rw[e];decide) (by rw[e];decide)
 rw[HE.o];clear h df;obtain⟨j,hj⟩:=zN (i+1);have hjs:j<=s.size:=by omega
 have hge:decide ((s.size:Int)<=(j:Int))=true:=by simp;omega
 have uF:(s.size:Int)<=(j:Int):=by omega
 rw[hj]at HS ⊢;clear hj he;go_enter func114,ntmps114;go_wp2;obtain⟨wA,hwA⟩:=zN (w.setCell ⟨R,1,none⟩ (.int .i64 ((i:Int)+1)));rw[hwA]at HS kC ⊢;obtain⟨d0,d1,-,-,-,-,-,-,dg⟩:=HS.o.cells;have dg1:=dg 1;clear hwA dg c0 c1 df1;have CF:=ae (fun wx (hg:Dd wx R s L O now de j 0 0)=>qK R s L O now de j 2 j wx hg);go_quiet (fail);go_wp2_with (go_at_call 58;refine(CF.o _ ?_).mono ?_;exact HS.o;rintro e w2 ⟨rfl,hd2,hg2⟩);refine bodyPost_ret (results_tmp (t:=2) rfl _ _ _) rfl ?_;exact⟨fun t k hh=>(by cases hh),fun c p hh=>(by cases hh;exact⟨⟨[],by simp,rfl⟩,by decide,j,by omega,hd2⟩),dK (w1:=wA) kC.o ⟨hg2.os,hg2.tape,hg2.output,hg2.size,hg2.block⟩⟩
theorem adV(R:Nat)(s:ByteArray)(L O:Value)(now de i:Nat)(w:World)(h:Dd w R s L O now de i 0 0)(hi:i<s.size)(hs:s.size<=1048576)(hn:i+1<s.size)(m117:¬nx s.data.toList (i+1)=117) :
  Calls prog 114 #[.pointer (some ⟨R,0,none⟩)] w (Fj 3 R s L O now de (esc s.data.toList i) w):=by
 have hl:s.data.toList.length=s.size:=by simp
 have HS:Hd (Dd (w.setCell ⟨R,1,none⟩ (.int .i64 ((i:Int)+1))) R s L O now de (i+1) 0 0):=h.setI (i+1);have kC:Hd (w.grownBy (w.setCell ⟨R,1,none⟩ (.int .i64 ((i:Int)+1))) (some R)):=aT (ax w (some R)) 1 _;obtain⟨c0,c1,-,-,-,-,-,-,df⟩:=h.cells;have df1:=df 1;obtain⟨j,hj⟩:=zN (i+1);have hlt:j<s.size:=by omega
 have hX:=byte_at s j hlt;have he:∀c:Int,(nx s.data.toList (i+1)=c/\((s[j].toNat:Int) == c)=true)\/(¬nx s.data.toList (i+1)=c/\((s[j].toNat:Int) == c)=false):=fun c=>by rw[hj,hX];by_cases h:(s[j].toNat:Int)=c<;>simp[h]
 have q117:=((he 117).resolve_left fun h=>m117 h.1).2;clear h df hX
 rcases he 98 with a|a<;>rcases he 116 with b|b<;>rcases he 110 with c|c<;>rcases he 102 with d|d<;>rcases he 114 with e|e<;>rcases he 34 with f|f<;>rcases he 92 with g|g
 all_goals first
  | omega
  | (
     first
    | rw[adN _ _ a.1]
    | rw[adO _ _ b.1]
    | rw[adP _ _ c.1]
    | rw[adQ _ _ d.1]
    | rw[adR _ _ e.1]
    | rw[adS _ _ f.1]
    | rw[adT _ _ g.1]
    | rw[Wn _ _ m117 a.1 b.1 c.1 d.1 e.1 f.1 g.1]
     obtain⟨-,a⟩:=a;obtain⟨-,b⟩:=b;obtain⟨-,c⟩:=c;obtain⟨-,d⟩:=d;obtain⟨-,e⟩:=e;obtain⟨-,f⟩:=f;obtain⟨-,g⟩:=g;clear he m117;have hij:i+2=j+1:=by omega
     rw[hj]at HS
     first|rw[hij]|rw[hj]
     have hge:decide ((s.size:Int)<=(j:Int))=false:=by simp;omega
     have uF:¬(s.size:Int)<=(j:Int):=by omega
     clear hj hij hn;go_enter func114,ntmps114;go_wp2;obtain⟨wA,hwA⟩:=zN (w.setCell ⟨R,1,none⟩ (.int .i64 ((i:Int)+1)));rw[hwA]at HS kC ⊢;obtain⟨d0,d1,-,-,-,-,-,-,dg⟩:=HS.o.cells;have dg1:=dg 1;clear hwA dg c0 c1 df1;go_quiet (fail);have bg:Hd (Dd (wA.drewN nq) R s L O now de j 0 0):=HS.o;have aW:=ae (az kC.o nq);obtain⟨wB,hwB⟩:=zN (wA.drewN nq);rw[hwB]at bg aW ⊢;obtain⟨f0,f1,-,-,-,-,-,-,fg⟩:=bg.o.cells;have fg1:=fg 1;clear hwB fg d0 d1 dg1;go_wp2;go_quiet (fail);have lm:Hd (Dd (wB.drewN nq) R s L O now de j 0 0):=bg.o;have dU:=ae (az aW.o nq);obtain⟨wC,oU⟩:=zN (wB.drewN nq);rw[oU]at lm dU ⊢;obtain⟨g0,g1,-,-,-,-,-,-,gg⟩:=lm.o.cells;have gg1:=gg 1;have jL:Hd (Dd (wC.setCell ⟨R,1,none⟩ (.int .i64 ((j:Int)+1))) R s L O now de (j+1) 0 0):=lm.o.setI (j+1);have kW:Hd (w.grownBy (wC.setCell ⟨R,1,none⟩ (.int .i64 ((j:Int)+1))) (some R)):=aT dU.o 1 _
     clear oU gg f0 f1 fg1;have kd:=fun v=>Wi (wC.setCell ⟨R,1,none⟩ (.int .i64 ((j:Int)+1))) v
     rw[show(wC.setCell ⟨R,1,none⟩ (.int .i64 ((j:Int)+1))).heap.size=wC.heap.size by simp[World.setCell]]at kd
     first
      | (
      first
        | (have Jk:(s[j].toNat:Int)=34:=by simpa using f)
        | (have Jk:(s[j].toNat:Int)=92:=by simpa using g)
      first|have kd:=kd 34|skip
      go_wp2;go_ret;refine⟨fun t k hh=>?_,fun c p hh=>(by cases hh),aP kW.o (World.grownBy_alloc _ _ none)⟩
      cases hh
      exact⟨by first|(refine Ji ?_;simp)|rfl,⟨by omega,jL.o.grow (World.grownBy_alloc _ _ none)⟩⟩)
      | (
      have z1:((s[j].toNat:Int) == 98)=false:=a;have z2:((s[j].toNat:Int) == 116)=false:=b;have z3:((s[j].toNat:Int) == 110)=false:=c;have z4:((s[j].toNat:Int) == 102)=false:=d;have z5:((s[j].toNat:Int) == 114)=false:=e;have hsub:IntKind.i64.wrap ((j:Int)+1-1)=(j:Int):=by rw[IntKind.wrap_i64];omega
      have CF:=ae (fun wx (hg:Dd wx R s L O now de (j+1) 0 0)=>qK R s L O now de (j+1) 2 j wx hg);obtain⟨-,k1,-⟩:=jL.o.cells;clear kd;go_wp2_with (go_at_call 58;refine(CF.o _ jL.o).mono ?_;rintro e w2 ⟨rfl,hd2,hg2⟩);refine bodyPost_ret (results_tmp (t:=2) rfl _ _ _) rfl ?_;exact⟨fun t k hh=>(by cases hh),fun c p hh=>(by cases hh;exact⟨⟨[],by simp,rfl⟩,by decide,j+1,by omega,hd2⟩),dK kW.o hg2⟩)
      | (
      clear kd;go_wp2;go_ret;exact⟨fun t k hh=>(by cases hh;exact⟨rfl,by omega,jL.o⟩),fun c p hh=>(by cases hh),kW.o⟩))
theorem adW(R:Nat)(s:ByteArray)(L O:Value)(now de i:Nat)(w:World)(h:Dd w R s L O now de i 0 0)(hi:i<s.size)(hs:s.size<=1048576)(hn:i+1<s.size)(hx:nx s.data.toList (i+1)=117) :
  Calls prog 114 #[.pointer (some ⟨R,0,none⟩)] w (Fj 3 R s L O now de (esc s.data.toList i) w):=by
 have hl:s.data.toList.length=s.size:=by simp
 have HS:Hd (Dd (w.setCell ⟨R,1,none⟩ (.int .i64 ((i:Int)+1))) R s L O now de (i+1) 0 0):=h.setI (i+1);have kC:Hd (w.grownBy (w.setCell ⟨R,1,none⟩ (.int .i64 ((i:Int)+1))) (some R)):=aT (ax w (some R)) 1 _;obtain⟨c0,c1,-,-,-,-,-,-,df⟩:=h.cells;have df1:=df 1;have HE:=ae (adM _ _ hx);rw[HE.o];have Og:Hd (∀(hj:i+1<s.size),nx s.data.toList (i+1)=(s[i+1].toNat:Int)):=byte_at s (i+1);clear h df;obtain⟨j,hj⟩:=zN (i+1);have hij:i+2=j+1:=by omega
 have hlt:j<s.size:=by omega
 have hge:decide ((s.size:Int)<=(j:Int))=false:=by simp;omega
 have uF:¬(s.size:Int)<=(j:Int):=by omega
 rw[hj]at HS hx Og;rw[hij];have HX:=ae (Og.o hlt);clear hj hij Og hn HE;have q98:((s[j].toNat:Int) == 98)=false:=by rw[<-HX.o,hx];rfl
 have q116:((s[j].toNat:Int) == 116)=false:=by rw[<-HX.o,hx];rfl
 have q110:((s[j].toNat:Int) == 110)=false:=by rw[<-HX.o,hx];rfl
 have q102:((s[j].toNat:Int) == 102)=false:=by rw[<-HX.o,hx];rfl
 have q114:((s[j].toNat:Int) == 114)=false:=by rw[<-HX.o,hx];rfl
 have q34:((s[j].toNat:Int) == 34)=false:=by rw[<-HX.o,hx];rfl
 have q92:((s[j].toNat:Int) == 92)=false:=by rw[<-HX.o,hx];rfl
 have q117:((s[j].toNat:Int) == 117)=true:=by rw[<-HX.o,hx];rfl
 clear HX hx;have Wp:=ae (fun wx (h:Dd wx R s L O now de (j+1) 0 0)=>adL R s L O now de (j+1) wx h (by omega) hs);have Jl:Hd (∀n k,four s.data.toList 4 (j+1) 0=.ok (n,k)->n<65536):=fun n k hh=>by have:=Wl _ _ _ _ _ _ hh;omega
 have CW:=ae Wj;have CW0:Hd (∀w,Calls prog 146 #[.int .i64 0] w fun e w'=>e=.returned (.string ⟨(gU 0).toArray⟩)/\w.grownBy w' none):=Wj 0 (by omega);obtain⟨F,hF⟩:=zN (four s.data.toList 4 (j+1) 0);rw[hF]at Wp Jl ⊢;clear hF;go_enter func114,ntmps114;go_wp2;obtain⟨wA,hwA⟩:=zN (w.setCell ⟨R,1,none⟩ (.int .i64 ((i:Int)+1)));rw[hwA]at HS kC ⊢;obtain⟨d0,d1,-,-,-,-,-,-,dg⟩:=HS.o.cells;have dg1:=dg 1;clear hwA dg c0 c1 df1;go_quiet (fail);have bg:Hd (Dd (wA.drewN nq) R s L O now de j 0 0):=HS.o;have aW:=ae (az kC.o nq);obtain⟨wB,hwB⟩:=zN (wA.drewN nq);rw[hwB]at bg aW ⊢;obtain⟨f0,f1,-,-,-,-,-,-,fg⟩:=bg.o.cells;have fg1:=fg 1;clear hwB fg d0 d1 dg1;go_wp2;go_quiet (fail);have lm:Hd (Dd (wB.drewN nq) R s L O now de j 0 0):=bg.o;have dU:=ae (az aW.o nq);obtain⟨wC,oU⟩:=zN (wB.drewN nq)
 rw[oU]at lm dU ⊢;obtain⟨g0,g1,-,-,-,-,-,-,gg⟩:=lm.o.cells;have gg1:=gg 1;have jL:Hd (Dd (wC.setCell ⟨R,1,none⟩ (.int .i64 ((j:Int)+1))) R s L O now de (j+1) 0 0):=lm.o.setI (j+1);have kW:Hd (w.grownBy (wC.setCell ⟨R,1,none⟩ (.int .i64 ((j:Int)+1))) (some R)):=aT dU.o 1 _;clear oU gg f0 f1 fg1;go_wp2_with (go_at_call 145;refine(Wp.o _ jL.o).mono ?_);rintro e w2 ⟨h1,h2,hg2⟩;have HG2:=ae (dK kW.o hg2);clear hg2
 match F,h1,h2,Jl with
 | .error (c,p),h1,h2,_ =>
  obtain⟨rfl,hne,k,hk,hd⟩:=h2 c p rfl;obtain⟨-,-,-,-,-,e5,-⟩:=hd.cells;have hb:(c == 0)=false:=by simpa using hne
  have HD:=ae hd;have nP:=ae hne;have HK:=ae hk;clear h1 h2 hd hne hk;go_wp2_with (go_at_call 146;refine(CW0.o _).mono ?_;rintro e w3 ⟨rfl,hg3⟩);go_ret;exact⟨fun t k hh=>(by have hh:(Except.error (c,p):Rs (List UInt8 × Nat))=.ok (t,k):=hh;cases hh),fun c' p' hh=>(by have hh:(Except.error (c,p):Rs (List UInt8 × Nat))=.error (c',p'):=hh;injection hh with hh;injection hh with e1 e2;subst e1 e2;exact⟨⟨gU 0,by decide,rfl⟩,nP.o,k,HK.o,HD.o.grow hg3⟩),aP HG2.o hg3⟩
 | .ok (n,k),h1,h2,Jl =>
  obtain⟨rfl,hk,hd⟩:=h1 n k rfl;have hn:=Jl.o n k rfl;obtain⟨-,-,-,-,-,e5,-⟩:=hd.cells;have HD:=ae hd;have HK:=ae hk;have Oh:=ae (CW.o n hn);have HWL:Hd ((gU n).length<=3):=by
   show _<=_;have:=IZ n;omega
  have CF:=ae (fun wx (hg:Dd wx R s L O now de k 0 0)=>qK R s L O now de k 2 i wx hg);clear h1 h2 hd hk
  by_cases Oi:55296<=n
  ·by_cases h57:n<=57343
   ·have HE:Hd (Jj i (.ok (n,k))=.error (2,i)):=by show(if _ then _ else _)=_;exact if_pos ⟨Oi,h57⟩
    have g1':(55296:Int)<=(n:Int):=by omega
    have g2':(n:Int)<=57343:=by omega
    go_wp2_with (first|(go_at_call 58;refine(CF.o _ HD.o).mono ?_;rintro e w3 ⟨rfl,hd3,hg3⟩)|(go_at_call 146;refine(Oh.o _).mono ?_;rintro e w4 ⟨rfl,hg4⟩));go_ret;rw[HE.o];exact⟨fun t k hh=>(by cases hh),fun c p hh=>(by cases hh;exact⟨⟨gU n,HWL.o,rfl⟩,by decide,k,HK.o,hd3.grow hg4⟩),aP (dK HG2.o hg3) hg4⟩
   ·have HE:Hd (Jj i (.ok (n,k))=.ok (gU n,k)):=by show(if _ then _ else _)=_;exact if_neg (fun h=>h57 h.2)
    have g1':(55296:Int)<=(n:Int):=by omega
    have g2':(57343:Int)<(n:Int):=by omega
    go_wp2_with (go_at_call 146;refine(Oh.o _).mono ?_;rintro e w4 ⟨rfl,hg4⟩);go_ret;rw[HE.o];exact⟨fun t k hh=>(by cases hh;exact⟨rfl,HK.o,HD.o.grow hg4⟩),fun c p hh=>(by cases hh),aP HG2.o hg4⟩
  ·have HE:Hd (Jj i (.ok (n,k))=.ok (gU n,k)):=by show(if _ then _ else _)=_;exact if_neg (fun h=>Oi h.1)
   have g1':(n:Int)<55296:=by omega
   have g0':decide ((55296:Int)<=(n:Int))=false:=by rw[decide_eq_false_iff_not];omega
   have g3':¬(55296:Int)<=(n:Int):=by omega
   clear Oi hn g1';go_wp2_with (go_at_call 146;refine(Oh.o _).mono ?_;rintro e w4 ⟨rfl,hg4⟩);go_ret;rw[HE.o];exact⟨fun t k hh=>(by cases hh;exact⟨rfl,HK.o,HD.o.grow hg4⟩),fun c p hh=>(by cases hh),aP HG2.o hg4⟩
theorem adX(R:Nat)(s:ByteArray)(L O:Value)(now de i:Nat)(w:World)(h:Dd w R s L O now de i 0 0)(hi:i<s.size)(hs:s.size<=1048576) :
  Calls prog 114 #[.pointer (some ⟨R,0,none⟩)] w (Fj 3 R s L O now de (esc s.data.toList i) w):=by
 by_cases hn:i+1<s.size
 ·by_cases m117:nx s.data.toList (i+1)=117
  ·exact adW R s L O now de i w h hi hs hn m117
  ·exact adV R s L O now de i w h hi hs hn m117
 ·exact adU R s L O now de i w h hi hs (by omega)
theorem Wq(R:Nat)(s:ByteArray)(L O:Value)(now de i:Nat)(w:World)(h:Dd w R s L O now de i 0 0)(hi:i<s.size)(hq:nx s.data.toList i=34)(hs:s.size<=1048576) :
  Calls prog 84 #[.pointer (some ⟨R,0,none⟩)] w (Fj (4*s.size+4) R s L O now de (str s.data.toList (s.data.toList.length+1) (i+1) []) w):=by
 have hl:s.data.toList.length=s.size:=by simp
 have CM:=ae (fun q w (h:Ds w R s L O now de q)=>Nh R s L O now de q 34 (by decide) w h hs);have CI:=ae (fun q w (h:Ds w R s L O now de q)=>uk R s L O now de q 34 (by decide) w h hs);have CE:=ae (fun k w (h:Dd w R s L O now de k 0 0) (hk:k<s.size)=>adX R s L O now de k w h hk hs);have CSq:=ae (fun k w (hk:k<s.size)=>ab9 s k hk w hs);have HST:Hd (∀f i acc,str s.data.toList (f+1) i acc =
  if nx s.data.toList i=34 then .ok (acc,i+1)
  else if nx s.data.toList i=92 then(match esc s.data.toList i with | .error e=>.error e | .ok (b,j)=>str s.data.toList f j (acc++b))
  else if nx s.data.toList i=-1\/jG (nx s.data.toList i)=true then .error (2,i)
  else if bi s.data.toList i=0 then .error (2,i)
  else str s.data.toList f (i+bi s.data.toList i) (acc++au s.data.toList i (bi s.data.toList i))):=EK _
 have dC:Hd (∀k,0<=nx s.data.toList k->k<s.size):=fun k hb=>by rw[<-hl];exact bD hb
 have Oj:Hd (∀k b j,k<s.size->esc s.data.toList k=.ok (b,j)->b.length<=3/\k+2<=j/\j<=s.size):=fun k b j hk he=>by
  rw[Nj]at he
  cases hN:oL s.data.toList k with
  |error e=>rw[hN]at he;cases he
  |ok q=>
   obtain⟨n,j'⟩:=q;rw[hN]at he;have:=Nu _ k n j' (by omega) hN;have e1:(Except.ok (gU n,j'):Rs (List UInt8 × Nat))=.ok (b,j):=he;injection e1 with e1
   injection e1 with e1 e2
   have:=IZ n;subst e1 e2;omega
 have BJ:Hd (∀k,k<=s.size->k+bi s.data.toList k<=s.size):=fun k hk=>by rw[<-hl];exact Nv _ k (by omega)
 have jc:Hd (∀k,(au s.data.toList k (bi s.data.toList k)).length<=3*bi s.data.toList k):=fun k=>by
  have:(au s.data.toList k (bi s.data.toList k)).length<=bi s.data.toList k:=by unfold au;rw[List.length_take];omega
  show _<=_;omega
 have HX:Hd (∀k (hk:k<s.size),nx s.data.toList k=(s[k].toNat:Int)):=byte_at s;have vO:Hd (∀k,nx s.data.toList k=-1->s.size<=k):=fun k hk=>by rw[<-hl];exact En hk
 obtain⟨G,hG⟩:=zN (str s.data.toList (s.data.toList.length+1) (i+1) []);have iT:=ae hG;have BK:Hd ((Except.bind (.ok i) fun i=>must s.data.toList i 34:Rs Nat)=.ok (i+1)):=by
  show must s.data.toList i 34=_;unfold must;rw[if_pos hq]
 rw[hG];have H0:Hd (Ds w R s L O now de (.ok i)):=⟨by omega,h⟩;clear h hG hq;go_enter func84,ntmps84;go_wp2_with (go_at_call 43;refine(CM.o _ _ H0.o).mono ?_;rintro e w1 ⟨rfl,hd1,hg1⟩);rw[BK.o]at hd1;have HD1:=ae hd1;have aC:=ae hg1;clear hd1 hg1 H0 BK;go_loopw [3] (fun vo wr=>∃(q:Rs Nat) (f:Nat) (acc:List UInt8),vo=.string ⟨acc.toArray⟩/\Ds wr R s L O now de q/\(∀k,q=.ok k->s.size-k<f/\str s.data.toList f k acc=G/\acc.length<=3*k)/\(∀c p,q=.error (c,p)->G=.error (c,p)/\acc.length<=3*s.size+3)/\w.grownBy wr (some R)) (fun _ wr=>dM wr R s)
 case atStart=>exact⟨.ok (i+1),s.data.toList.length+1,[],rfl,HD1.o,fun k hk=>(by cases hk;exact⟨by omega,iT.o,by simp⟩),fun c p hk=>(by cases hk),aC.o⟩
 case round=>
  obtain⟨q,f,acc,rfl,hds,hok,her,hg⟩:=hrel;have HG:Hd (w.grownBy _ (some R)):=hg;clear hg
  match q,hds,hok,her with
  | .error (c,p),hds,_,her =>
   obtain⟨Ws,hacc⟩:=her c p rfl;have kW:=ae Ws;obtain⟨hc,j,hj,hd⟩:=hds;obtain⟨-,-,-,-,-,c5,-⟩:=hd.cells;have hn:(c == 0)=false:=by simpa using hc
   have dF:Hd (Ds _ R s L O now de (.error (c,p))):=⟨hc,j,hj,hd⟩;have HAC:=ae hacc;clear hd her Ws hc hj hacc;go_wp2_with (go_at_call 43;refine(CM.o _ _ dF.o).mono ?_;rintro e w2 ⟨rfl,hd2,hg2⟩);refine bodyPost_ret (results_tmp (t:=2) rfl _ _ _) rfl ?_;rw[kW.o];exact⟨fun t k hh=>(by cases hh),fun c p hh=>(by cases hh;exact⟨⟨acc,by have:=HAC.o;omega,rfl⟩,hd2⟩),dK HG.o hg2⟩
  | .ok k,hds,hok,_ =>
   obtain⟨hf,hstr,hacc⟩:=hok k rfl;obtain⟨hk,hd⟩:=hds;obtain⟨f,rfl⟩:∃f',f=f'+1:=⟨f-1,by omega⟩;rw[HST.o]at hstr;obtain⟨c0,c1,-,-,-,c5,-,-,df⟩:=hd.cells;have df1:=df 1;have HD:Hd (Dd _ R s L O now de k 0 0):=hd;have dF:Hd (Ds _ R s L O now de (.ok k)):=⟨hk,hd⟩;have HM:Hd (dM _ R s=s.size-k+1):=vU hd;have gK:Hd (∀w,Ds w R s L O now de (.ok k)->Calls prog 39 #[.pointer (some ⟨R,0,none⟩),.int .u8 34] w fun e w'=>e=.returned (.bool (decide (nx s.data.toList k=34)))/\w.grownBy w' none):=fun w h=>CI.o (.ok k) w h
   have CF:=ae (fun wx (hg:Dd wx R s L O now de k 0 0)=>qK R s L O now de k 2 k wx hg);have uC:=ae (dC.o k);have xZ:=ae (vO.o k);have HXB:=ae ((Ip s.data.toList k).1);have EG:=ae (HX.o k);have pU:Hd (nx s.data.toList k=34->(Except.bind (.ok k) fun i=>must s.data.toList i 34:Rs Nat)=.ok (k+1)):=fun h=>by
    show must s.data.toList k 34=_;unfold must;rw[if_pos h]
   obtain⟨x,hx⟩:=zN (nx s.data.toList k);rw[hx]at gK uC xZ HXB EG pU hstr;have vY:Hd ((if x=34 then .ok (acc,k+1)
    else if x=92 then(match esc s.data.toList k with | .error e=>.error e | .ok (b,j)=>str s.data.toList f j (acc++b))
    else if x=-1\/jG x=true then .error (2,k)
    else if bi s.data.toList k=0 then .error (2,k)
    else str s.data.toList f (k+bi s.data.toList k) (acc++au s.data.toList k (bi s.data.toList k)))=G):=hstr
   clear hd hx hstr hok df
   by_cases h34:x=34
   ·rw[decide_eq_true h34]at gK;have aJ:Hd (G=.ok (acc,k+1)):=by
     have:=vY.o;rw[if_pos h34]at this;exact this.symm
    have BL:=pU.o h34;have pV:=ae BL;clear h34 BL;go_wp2_with (first|(go_at_call 39;refine(gK.o _ dF.o).mono ?_;rintro e w2 ⟨rfl,hg2⟩)|(go_at_call 43;refine(CM.o _ _ (dF.o.grow hg2)).mono ?_;rintro e w3 ⟨rfl,hd3,hg3⟩));refine bodyPost_ret (results_tmp (t:=2) rfl _ _ _) rfl ?_;rw[aJ.o];rw[pV.o]at hd3;exact⟨fun t k hh=>(by cases hh;exact⟨rfl,hd3⟩),fun c p hh=>(by cases hh),dK (aP HG.o hg2) hg3⟩
   ·rw[decide_eq_false h34]at gK;go_wp2_with (go_at_call 39;refine(gK.o _ dF.o).mono ?_;rintro e w2 ⟨rfl,hg2⟩);have HD2:=ae (HD.o.grow hg2);have HG2:=ae (aP HG.o hg2);obtain⟨e0,e1,-,-,-,e5,-,-,ef⟩:=HD2.o.cells;have ef1:=ef 1;clear hg2 ef c0 c1 c5 df1
    by_cases hm1:x=-1
    ·have hge:=xZ.o hm1;have hgd:decide ((s.size:Int)<=(k:Int))=true:=by simp;omega
     have aJ:Hd (G=.error (2,k)):=by
      have:=vY.o;rw[if_neg h34,if_neg (by omega),if_pos (Or.inl hm1)]at this;exact this.symm
     clear h34 hm1;go_quiet (fail);go_wp2_with (go_at_call 58;refine(CF.o _ ?_).mono ?_;exact HD2.o;rintro e w3 ⟨rfl,hd3,hg3⟩);refine bodyPost_ret (results_tmp (t:=2) rfl _ _ _) rfl ?_;rw[aJ.o];exact⟨fun t k hh=>(by cases hh),fun c p hh=>(by cases hh;exact⟨⟨[],by simp,rfl⟩,by decide,k,hk,hd3⟩),dK (w1:=w2) HG2.o ⟨hg3.os,hg3.tape,hg3.output,hg3.size,hg3.block⟩⟩
    ·have hkl:=uC.o (by have:=HXB.o;omega);have hgd:decide ((s.size:Int)<=(k:Int))=false:=by simp;omega
     have oJ:¬(s.size:Int)<=(k:Int):=by omega
     have fE:=ae (EG.o hkl);have CC:Hd (∀w,Calls prog 60 #[.int .u8 (s[k].toNat:Int)] w fun e w'=>e=.returned (.bool (jG x))/\w'=w):=fun w=>by rw[fE.o];exact Ui s[k] w
     obtain⟨bb,hbb⟩:=zN (jG x);have zD:=ae hbb;rw[hbb]at CC;clear hbb
     cases bb with
     |true=>
      have aJ:Hd (G=.error (2,k)):=by
       have:=vY.o;rw[if_neg h34,if_neg (fun e=>by have:=zD.o;rw[e]at this;cases this),if_pos (Or.inr zD.o)]at this;exact this.symm
      clear h34 hm1;go_quiet (first|(go_at_call 60;exact Calls.quiet_of_same (CC.o _)));go_wp2_with (go_at_call 58;refine(CF.o _ ?_).mono ?_;exact HD2.o;rintro e w3 ⟨rfl,hd3,hg3⟩);refine bodyPost_ret (results_tmp (t:=2) rfl _ _ _) rfl ?_;rw[aJ.o];exact⟨fun t k hh=>(by cases hh),fun c p hh=>(by cases hh;exact⟨⟨[],by simp,rfl⟩,by decide,k,hk,hd3⟩),dK (w1:=w2) HG2.o ⟨hg3.os,hg3.tape,hg3.output,hg3.size,hg3.block⟩⟩
     |false=>
      go_quiet (first|(go_at_call 60;exact Calls.quiet_of_same (CC.o _)));have HD3:Hd (Dd (w2.drewN nq) R s L O now de k 0 0):=HD2.o;have aU:=ae (az HG2.o nq);obtain⟨w3,hw3⟩:=zN (w2.drewN nq);rw[hw3]at HD3 aU ⊢;obtain⟨f0,f1,-,-,-,f5,-,-,ff⟩:=HD3.o.cells;have ff1:=ff 1;clear hw3 ff e0 e1 e5 ef1
      by_cases h92:x=92
      ·have adY:((s[k].toNat:Int) == 92)=true:=by rw[<-fE.o,h92];rfl
       have aB:Hd ((match esc s.data.toList k with | .error e=>.error e | .ok (b,j)=>str s.data.toList f j (acc++b))=G):=by
        have:=vY.o;rw[if_neg h34,if_pos h92]at this;exact this
       have ny:=ae (fun w (h:Dd w R s L O now de k 0 0)=>CE.o k w h hkl);have lK:=ae (fun b j (h:esc s.data.toList k=.ok (b,j))=>Oj.o k b j hkl h);obtain⟨q,hq⟩:=zN (esc s.data.toList k);rw[hq]at aB ny lK;clear h34 h92 hm1 hq;go_wp2;go_quiet (fail);go_wp2_with (go_at_call 114;refine(ny.o _ ?_).mono ?_;exact HD3.o);rintro e w4 ⟨h1,h2,hg4⟩;have dn:=ae (dK (w1:=w3) aU.o ⟨hg4.os,hg4.tape,hg4.output,hg4.size,hg4.block⟩);clear hg4
       match q,h1,h2,aB,lK with
       | .error (c,p),_,h2,aB,_ =>
        obtain⟨⟨t,ht,rfl⟩,hd4⟩:=h2 c p rfl;have HD4:=ae hd4;have aJ:Hd (G=.error (c,p)):=aB.o.symm;have ka:=fun wx=>Oe acc t wx (by omega)
        have HT:Hd ((acc++t).length<=3*s.size+3):=by
         show _<=_;rw[List.length_append];omega
        clear h2 hd4;go_wp2;refine⟨⟨.error (c,p),f,acc++t,rfl,HD4.o,fun k hk=>(by cases hk),fun c p hk=>(by cases hk;exact⟨aJ.o,HT.o⟩),dn.o⟩,?_⟩;obtain⟨hc,j,hj,hd⟩:=HD4.o;rw[HM.o,IR hd hc];omega
       | .ok (b,j),h1,_,aB,lK =>
        obtain⟨rfl,hd4⟩:=h1 b j rfl;obtain⟨hb3,hj1,hj2⟩:=lK.o b j rfl;have HD4:=ae hd4;have aJ:Hd (str s.data.toList f j (acc++b)=G):=aB.o;have ka:=fun wx=>Oe acc b wx (by omega)
        have HT:Hd ((acc++b).length<=3*j):=by
         show _<=_;rw[List.length_append];omega
        clear h1 hd4;go_wp2;refine⟨⟨.ok j,f,acc++b,rfl,HD4.o,fun k hk=>(by cases hk;exact⟨by omega,aJ.o,HT.o⟩),fun c p hk=>(by cases hk),dn.o⟩,?_⟩;rw[HM.o,vU HD4.o.2];omega
      ·have adY:((s[k].toNat:Int) == 92)=false:=by rw[<-fE.o];simpa using h92
       have x8:Hd ((if bi s.data.toList k=0 then .error (2,k) else str s.data.toList f (k+bi s.data.toList k) (acc++au s.data.toList k (bi s.data.toList k)))=G):=by
        have:=vY.o;rw[if_neg h34,if_neg h92,if_neg (by rintro(h|h);exact hm1 h;rw[zD.o]at h;cases h)]at this;exact this
       have Wu:=ae (fun w=>CSq.o k w hkl);have hso:=BJ.o k hk;have Jm:=ae (jc.o k);obtain⟨n,hn⟩:=zN (bi s.data.toList k);rw[hn]at x8 Wu hso Jm;clear h34 h92 hm1 hn;go_wp2;go_quiet (fail);have HD4:Hd (Dd (w3.drewN nq) R s L O now de k 0 0):=HD3.o;have dn:=ae (az aU.o nq);obtain⟨w4,hw4⟩:=zN (w3.drewN nq);rw[hw4]at HD4 dn ⊢;obtain⟨g0,g1,-,-,-,g5,-,-,gg⟩:=HD4.o.cells;have gg1:=gg 1;clear hw4 gg f0 f1 f5 ff1;go_wp2;go_quiet (first|(go_at_call 115;exact Calls.quiet_of_same (Wu.o _)));have HD5:Hd (Dd (w4.drewN nq) R s L O now de k 0 0):=HD4.o;have fJ:=ae (az dn.o nq);obtain⟨w5,hw5⟩:=zN (w4.drewN nq);rw[hw5]at HD5 fJ ⊢;obtain⟨k0,k1,-,-,-,k5,-,-,kf⟩:=HD5.o.cells;have kf1:=kf 1;clear hw5 kf g0 g1 g5 gg1
       by_cases hn0:n=0
       ·have hz:((n:Int) == 0)=true:=by simp[hn0]
        have aJ:Hd (G=.error (2,k)):=by
         have:=x8.o;rw[if_pos hn0]at this;exact this.symm
        clear hn0;go_wp2_with (go_at_call 58;refine(CF.o _ HD5.o).mono ?_;rintro e w6 ⟨rfl,hd6,dV⟩);refine bodyPost_ret (results_tmp (t:=2) rfl _ _ _) rfl ?_;rw[aJ.o];exact⟨fun t k hh=>(by cases hh),fun c p hh=>(by cases hh;exact⟨⟨[],by simp,rfl⟩,by decide,k,hk,hd6⟩),dK fJ.o dV⟩
       ·have hz:((n:Int) == 0)=false:=by rw[beq_eq_false_iff_ne];omega
        have aJ:Hd (str s.data.toList f (k+n) (acc++au s.data.toList k n)=G):=by
         have:=x8.o;rw[if_neg hn0]at this;exact this
        obtain⟨X,hX⟩:∃X:List UInt8,au s.data.toList k n=X:=⟨_,rfl⟩;have hwr:IntKind.i64.wrap ((k:Int)+(n:Int))=(k:Int)+(n:Int):=by rw[IntKind.wrap_i64];omega
        have sl:∀wx,(Instr.slice 9 (.string s) (some (.int .i64 (k:Int))) (some (.int .i64 ((k:Int)+(n:Int)))) none).run prog wx=.ok (.string ⟨X.toArray⟩) wx:=fun wx=>by
         rw[<-hX];have:=mM s k (k+n) (by omega) hso wx;rw[show k+n-k=n by omega,show((k+n:Nat):Int)=(k:Int)+(n:Int) by omega]at this;exact this
        rw[hX]at aJ Jm;have ka:=fun wx=>Oe acc X wx (by have:=Jm.o;omega)
        have HT:Hd ((acc++X).length<=3*(k+n)):=by
         show _<=_;rw[List.length_append];have:=Jm.o;omega
        clear hX;go_wp2;go_quiet (fail);have HD6:Hd (Dd (w5.drewN nq) R s L O now de k 0 0):=HD5.o;have lL:=ae (az fJ.o nq);obtain⟨w6,hw6⟩:=zN (w5.drewN nq);rw[hw6]at HD6 lL ⊢;obtain⟨m0,m1,-,-,-,m5,-,-,mf⟩:=HD6.o.cells;have mf1:=mf 1;clear hw6 mf k0 k1 k5 kf1;have HD7:Hd (Dd (w6.setCell ⟨R,1,none⟩ (.int .i64 ((k:Int)+(n:Int)))) R s L O now de (k+n) 0 0):=HD6.o.setI (k+n);go_wp2;refine⟨⟨.ok (k+n),f,acc++X,rfl,⟨hso,HD7.o⟩,fun k hk=>(by cases hk;exact⟨by omega,aJ.o,HT.o⟩),fun c p hk=>(by cases hk),aT lL.o 1 _⟩,?_⟩;rw[HM.o,vU HD7.o];omega
def Wv(i M R:Nat)(s:ByteArray)(L O:Value)(now de:Nat)(g:Rs (List UInt8 × Nat))(w:World)(e:Ending)(w':World):Prop:=(∀t j,g=.ok (t,j)->e=.returned (.tuple #[.string ⟨t.toArray⟩,.int .i64 (i:Nat)])/\Ds w' R s L O now de (.ok j))/\(∀c p,g=.error (c,p)->(∃t:List UInt8,t.length<=M/\e=.returned (.tuple #[.string ⟨t.toArray⟩,.int .i64 (i:Nat)]))/\Ds w' R s L O now de (.error (c,p)))/\w.grownBy w' (some R)
theorem adZ(l:List UInt8)(i:Nat)(h:nx l i=34):dw l i=str l (l.length+1) (i+1) []:=by unfold dw;rw[if_pos h]
theorem ad1(l:List UInt8)(i:Nat)(h:¬nx l i=34):dw l i=if toR bP l i=i then .error (2,i) else .ok (au l i (toR bP l i-i),toR bP l i):=by unfold dw;rw[if_neg h]
theorem Wx(R:Nat)(s:ByteArray)(L O:Value)(now de i:Nat)(w:World)(h:Dd w R s L O now de i 0 0)(hi:i<=s.size)(hs:s.size<=1048576) :
  Calls prog 55 #[.pointer (some ⟨R,0,none⟩)] w (Wv i (4*s.size+4) R s L O now de (dw s.data.toList i) w):=by
 have hl:s.data.toList.length=s.size:=by simp
 have CI:Hd (Calls prog 39 #[.pointer (some ⟨R,0,none⟩),.int .u8 34] w fun e w'=>e=.returned (.bool (decide (nx s.data.toList i=34)))/\w.grownBy w' none):=uk R s L O now de (.ok i) 34 (by decide) w ⟨hi,h⟩ hs;have HD:=ae h
 by_cases h34:nx s.data.toList i=34
 ·have HK:=ae (adZ _ _ h34);have hlt:i<s.size:=by rw[<-hl];exact bD (by omega)
  rw[decide_eq_true h34]at CI;have CQ:=ae (fun w (h:Dd w R s L O now de i 0 0)=>Wq R s L O now de i w h hlt h34 hs);rw[HK.o];obtain⟨G,hG⟩:=zN (str s.data.toList (s.data.toList.length+1) (i+1) []);rw[hG]at CQ ⊢;obtain⟨c0,c1,-⟩:=h.cells;clear h h34 hG HK;go_enter func55,ntmps55;go_wp2_with (first|(go_at_call 39;refine CI.o.mono ?_;rintro e w1 ⟨rfl,hg1⟩)|(go_at_call 84;refine(CQ.o _ (HD.o.grow hg1)).mono ?_));rintro e w2 ⟨h1,h2,hg2⟩;have HG2:=ae (dK (aP (ax w (some R)) hg1) hg2);clear hg1 hg2
  match G,h1,h2 with
  | .error (c,p),_,h2 =>
   obtain⟨⟨t,ht,rfl⟩,hd⟩:=h2 c p rfl;have jL:=ae hd;have HT:=ae ht;clear h2 hd ht;go_wp2;refine bodyPost_ret (results_tmp2 (t:=2) (u:=3) rfl _ _ _) rfl ?_;exact⟨fun t k hh=>(by cases hh),fun c' p' hh=>(by injection hh with hh;injection hh with e1 e2;subst e1 e2;exact⟨⟨t,HT.o,rfl⟩,jL.o⟩),HG2.o⟩
  | .ok (t,j),h1,_ =>
   obtain⟨rfl,hd⟩:=h1 t j rfl;have jL:=ae hd;clear h1 hd;go_wp2;refine bodyPost_ret (results_tmp2 (t:=2) (u:=3) rfl _ _ _) rfl ?_;exact⟨fun t' k' hh=>(by injection hh with hh;injection hh with e1 e2;subst e1 e2;exact⟨rfl,jL.o⟩),fun c' p' hh=>(by cases hh),HG2.o⟩
 ·have HK:=ae (ad1 _ _ h34);rw[decide_eq_false h34]at CI;rw[HK.o];have HX:Hd (∀k (hk:k<s.size),nx s.data.toList k=(s[k].toNat:Int)):=byte_at s;have HST:Hd (∀k (hk:k<s.size),bP (s[k].toNat:Int)=true->toR bP s.data.toList k=toR bP s.data.toList (k+1)):=fun k hk hb=>rO bP _ k (by omega) (by rw[byte_at s k hk];exact hb)
  have gQ:=ae (fun k (hk:k<s.size) (hb:bP (s[k].toNat:Int)=false)=>mJ bP _ k (by rw[byte_at s k hk];exact hb));have mO:Hd (∀k,s.size<=k->toR bP s.data.toList k=k):=fun k hk=>Em bP _ k (by omega)
  obtain⟨J,hJ⟩:=zN (toR bP s.data.toList i);have HJ:=ae hJ;have hJ1:=qH bP s.data.toList i (by omega);rw[hJ,hl]at hJ1;rw[hJ];obtain⟨G,hG⟩:∃G:Rs (List UInt8 × Nat),(if J=i then .error (2,i) else .ok (au s.data.toList i (J-i),J))=G:=⟨_,rfl⟩;have vZ:=ae hG;rw[hG];obtain⟨c0,c1,-⟩:=h.cells;clear h h34 hG HK hJ;go_enter func55,ntmps55;go_wp2_with (go_at_call 39;refine CI.o.mono ?_;rintro e w1 ⟨rfl,hg1⟩);have HD1:=ae (HD.o.grow hg1);have aC:=ae (aP (ax w (some R)) hg1);clear hg1 c0 c1;go_loopw [] (fun wr=>∃k:Nat,Dd wr R s L O now de k 0 0/\i<=k/\k<=s.size/\toR bP s.data.toList k=J/\w.grownBy wr (some R)) (fun wr=>s.size-dI wr R)
  case atStart=>exact⟨i,HD1.o,by omega,hi,HJ.o,aC.o⟩
  case round=>
   obtain⟨k,hd,hik,hk,hto,hg⟩:=hrel;have HDK:=ae hd;have kz:=ae hg;have eY:=ae (xH hd);have nO:=ae hto;obtain⟨c0,c1,-,-,-,c5,-,-,df⟩:=hd.cells;have df1:=df 1;clear hd hg hto df
   by_cases hlt:k<s.size
   ·have hlt':decide ((k:Int)<(s.size:Int))=true:=by simp;omega
    have CB:=ae (ab5 s[k]);have H1:=ae (HST.o k hlt);have H2:=ae (gQ.o k hlt);obtain⟨b,hb⟩:=zN (bP (s[k].toNat:Int));rw[hb]at CB H1 H2;clear hb
    cases b with
    |true=>
     have HN:=ae ((H1.o rfl).symm.trans nO.o);go_wp2;go_quiet (first|(go_at_call 85;exact Calls.quiet_of_same (CB.o _)));have aF:Hd (Dd (wr.drewN nq) R s L O now de k 0 0):=HDK.o;have dh:=ae (az kz.o nq);obtain⟨wA,hwA⟩:=zN (wr.drewN nq);rw[hwA]at aF dh ⊢;obtain⟨d0,d1,-,-,-,d5,-,-,dg⟩:=aF.o.cells;have dg1:=dg 1;have HS:=aF.o.setI (k+1);have iU:Hd (Dd (wA.setCell ⟨R,1,none⟩ (.int .i64 ((k:Int)+1))) R s L O now de (k+1) 0 0):=HS;clear hwA dg HS;go_wp2;refine⟨⟨k+1,iU.o,by omega,by omega,HN.o,aT dh.o 1 _⟩,?_⟩;rw[eY.o,xH iU.o];omega
    |false=>
     have Fp:=ae (nO.o.symm.trans (H2.o rfl));go_wp2;go_quiet (first|(go_at_call 85;exact Calls.quiet_of_same (CB.o _)));have aF:Hd (Dd (wr.drewN nq) R s L O now de k 0 0):=HDK.o;have dh:=ae (az kz.o nq);obtain⟨wA,hwA⟩:=zN (wr.drewN nq);rw[hwA]at aF dh ⊢;obtain⟨d0,d1,-,-,-,d5,-,-,dg⟩:=aF.o.cells;clear hwA dg
     by_cases hki:k=i
     ·have hb:((k:Int) == (i:Int))=true:=by simp[hki]
      have aJ:Hd (G=.error (2,i)):=by
       have:=vZ.o;rw[if_pos (Fp.o.trans hki)]at this;exact this.symm
      have CF:=ae (fun wx (hg:Dd wx R s L O now de k 0 0)=>qK R s L O now de k 2 i wx hg);have ad2:=hik;have sl:=fun wx=>mM s i k hik hk wx
      have jc:Hd ((au s.data.toList i (k-i)).length<=4*s.size+4):=by
       show _<=_;unfold au;rw[List.length_take];omega
      obtain⟨X,hX⟩:=zN (au s.data.toList i (k-i));rw[hX]at sl jc;clear hki hX;go_wp2_with (go_at_call 58;refine(CF.o _ aF.o).mono ?_;rintro e w2 ⟨rfl,hd2,hg2⟩;obtain⟨e0,e1,-⟩:=hd2.cells);go_quiet (fail);go_wp2;refine bodyPost_ret (results_tmp2 (t:=2) (u:=3) rfl _ _ _) rfl ?_;rw[aJ.o];exact⟨fun t k hh=>(by cases hh),fun c p hh=>(by cases hh;exact⟨⟨X,jc.o,rfl⟩,by decide,k,hk,hd2⟩),az (dK dh.o hg2) _⟩
     ·have hb:((k:Int) == (i:Int))=false:=by rw[beq_eq_false_iff_ne];omega
      have aJ:Hd (G=.ok (au s.data.toList i (k-i),k)):=by
       have:=vZ.o;rw[Fp.o,if_neg hki]at this;exact this.symm
      have sl:=fun wx=>mM s i k hik hk wx
      obtain⟨X,hX⟩:=zN (au s.data.toList i (k-i));rw[hX]at sl aJ;clear hki hX;go_wp2;go_quiet (fail);go_wp2;refine bodyPost_ret (results_tmp2 (t:=2) (u:=3) rfl _ _ _) rfl ?_;rw[aJ.o];exact⟨fun t j hh=>(by cases hh;exact⟨rfl,hk,aF.o⟩),fun c p hh=>(by cases hh),az dh.o _⟩
   ·have hge:decide ((k:Int)<(s.size:Int))=false:=by simp;omega
    have Fp:=ae (nO.o.symm.trans (mO.o k (by omega)));go_wp2;go_quiet (fail);have aF:Hd (Dd (wr.drewN nq) R s L O now de k 0 0):=HDK.o;have dh:=ae (az kz.o nq);obtain⟨wA,hwA⟩:=zN (wr.drewN nq);rw[hwA]at aF dh ⊢;obtain⟨d0,d1,-,-,-,d5,-,-,dg⟩:=aF.o.cells;clear hwA dg
    by_cases hki:k=i
    ·have hb:((k:Int) == (i:Int))=true:=by simp[hki]
     have aJ:Hd (G=.error (2,i)):=by
      have:=vZ.o;rw[if_pos (Fp.o.trans hki)]at this;exact this.symm
     have CF:=ae (fun wx (hg:Dd wx R s L O now de k 0 0)=>qK R s L O now de k 2 i wx hg);have ad2:=hik;have sl:=fun wx=>mM s i k hik hk wx
     have jc:Hd ((au s.data.toList i (k-i)).length<=4*s.size+4):=by
      show _<=_;unfold au;rw[List.length_take];omega
     obtain⟨X,hX⟩:=zN (au s.data.toList i (k-i));rw[hX]at sl jc;clear hki hX;go_wp2_with (go_at_call 58;refine(CF.o _ aF.o).mono ?_;rintro e w2 ⟨rfl,hd2,hg2⟩;obtain⟨e0,e1,-⟩:=hd2.cells);go_quiet (fail);go_wp2;refine bodyPost_ret (results_tmp2 (t:=2) (u:=3) rfl _ _ _) rfl ?_;rw[aJ.o];exact⟨fun t k hh=>(by cases hh),fun c p hh=>(by cases hh;exact⟨⟨X,jc.o,rfl⟩,by decide,k,hk,hd2⟩),az (dK dh.o hg2) _⟩
    ·have hb:((k:Int) == (i:Int))=false:=by rw[beq_eq_false_iff_ne];omega
     have aJ:Hd (G=.ok (au s.data.toList i (k-i),k)):=by
      have:=vZ.o;rw[Fp.o,if_neg hki]at this;exact this.symm
     have sl:=fun wx=>mM s i k hik hk wx
     obtain⟨X,hX⟩:=zN (au s.data.toList i (k-i));rw[hX]at sl aJ;clear hki hX;go_wp2;go_quiet (fail);go_wp2;refine bodyPost_ret (results_tmp2 (t:=2) (u:=3) rfl _ _ _) rfl ?_;rw[aJ.o];exact⟨fun t j hh=>(by cases hh;exact⟨rfl,hk,aF.o⟩),fun c p hh=>(by cases hh),az dh.o _⟩
def ad3(R:Nat)(s:ByteArray)(L O:Value)(now de:Nat)(g:Rs (Int × Nat))(w:World)(e:Ending)(w':World):Prop:=(∀n j,g=.ok (n,j)->e=.returned (.int .i64 n)/\Ds w' R s L O now de (.ok j))/\(∀c p,g=.error (c,p)->(∃n:Int,e=.returned (.int .i64 n))/\Ds w' R s L O now de (.error (c,p)))/\w.grownBy w' (some R)
def Ol(l:List UInt8)(i a:Nat)(m:Bool):Rs (Int × Nat) :=
 if toR aI l a=a\/(1<toR aI l a-a/\nx l a=48) then .error (2,a)
 else if 18<toR aI l a-a then .error (3,i)
 else .ok (if m=true then -(iR (au l a (toR aI l a-a)) 0:Int) else(iR (au l a (toR aI l a-a)) 0:Int),toR aI l a)
theorem ad4(l:List UInt8)(i:Nat):ji l i=Ol l i (if aI (nx l i)=true then i else i+1) (decide (nx l i=45)):=by
 unfold ji Ol
 by_cases h:nx l i=45
 ·rw[decide_eq_true h];simp only[if_pos h,if_true]
 ·rw[decide_eq_false h];simp[if_neg h]
theorem Wy(l:List UInt8)(a k:Nat)(ha:a<=k)(hk:k<l.length):au l a (k+1-a)=au l a (k-a)++[l[k]]:=by
 unfold au;rw[show k+1-a=(k-a)+1 by omega,List.take_add_one,List.getElem?_drop,show a+(k-a)=k by omega,List.getElem?_eq_getElem hk];rfl
theorem ad5(l:List UInt8)(a k:Nat)(h:∀c∈au l a (k-a),c.toNat<=57)(ha:a<=k)(hk:k<l.length)(hd:l[k].toNat<=57):∀c∈au l a (k+1-a),c.toNat<=57:=by
 rw[Wy l a k ha hk];intro c hc
 rcases List.mem_append.1 hc with h1|h1
 ·exact h c h1
 ·rw[List.mem_singleton.1 h1];exact hd
theorem ad6(l:List UInt8)(a k n:Nat)(h:jl (au l a (k-a)) 0=n)(ha:a<=k)(hk:k<l.length):jl (au l a (k+1-a)) 0=if n<=99999999999999999 then 10*n+(l[k].toNat - 48) else 1000000000000000000:=by
 rw[Wy l a k ha hk,Uu,h];rfl
theorem Om(l:List UInt8)(a k:Nat)(ha:a<=k)(hk:k<=l.length):(au l a (k-a)).length=k-a:=by
 unfold au;rw[List.length_take,List.length_drop];omega
theorem WA(l:List UInt8)(a k:Nat)(h:∀c∈au l a (k-a),c.toNat<=57)(ha:a<=k)(hk:k<=l.length)(h18:k-a<=18):jl (au l a (k-a)) 0=iR (au l a (k-a)) 0/\iR (au l a (k-a)) 0<=999999999999999999:=by
 have:=Ur (au l a (k-a)) 0 0 h (by decide) (by rw[Om l a k ha hk];omega);refine⟨this.1,?_⟩;have h2:=this.2;have h3:(10:Nat) ^ (0+(au l a (k-a)).length)<=10 ^ 18:=Nat.pow_le_pow_right (by omega) (by rw[Om l a k ha hk];omega);have e:(10:Nat) ^ 18=1000000000000000000:=by decide
 omega
theorem ad7(l:List UInt8)(a k:Nat)(h:∀c∈au l a (k-a),c.toNat<=57)(ha:a<=k)(hk:k<=l.length)(h18:18<k-a)(h49:49<=nx l a):jl (au l a (k-a)) 0=1000000000000000000:=by
 have hal:a<l.length:=by omega
 have e:au l a (k-a)=l[a] :: au l (a+1) (k-(a+1)):=by
  unfold au;rw[List.drop_eq_getElem_cons hal,show k-a=(k-(a+1))+1 by omega,List.take_succ_cons]
 rw[qG l a hal]at h49;have hlen:=Om l (a+1) k (by omega) hk;rw[e]at h ⊢;have hc:=h l[a] (by simp);show jl (au l (a+1) (k-(a+1))) (if 0<=99999999999999999 then 10*0+(l[a].toNat - 48) else 1000000000000000000)=_;rw[if_pos (by omega)];exact Ut _ _ 0 (fun c hc=>h c (by simp[hc])) (by show 1<=_;omega) (by omega) (by omega)
theorem ad8(l:List UInt8)(a:Nat)(h:¬toR aI l a=a):48<=nx l a/\nx l a<=57:=by
 apply Classical.byContradiction;intro hn;exact h (mJ aI l a (by unfold aI;exact decide_eq_false hn))
end Go.Proofs.YtbcfhgpfgdbjgaaGreatDoor
