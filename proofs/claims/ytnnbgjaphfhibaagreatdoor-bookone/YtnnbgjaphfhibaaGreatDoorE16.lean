import Derived.Test.YtnnbgjaphfhibaaGreatDoorE13
import Derived.Deep.RegionHeld3
import Derived.Carry
import Derived.OwnWalk
import Derived.Laws.AppendOwn
import Derived.Deep.AppendSrc
import Derived.Deep.OwnRows
import Derived.Test.YtnnbgjaphfhibaaGreatDoorE03
import Derived.Test.YtnnbgjaphfhibaaGreatDoorE09
set_option linter.all false
set_option maxRecDepth 100000
set_option maxHeartbeats 0
open Go.Proofs.Tryz
namespace Go.Proofs.YtnnbgjaphfhibaaGreatDoor
open Go.RowKit
def Gr(w w':World):Prop:=w.grownBy w' none/\w.drawn<=w'.drawn
theorem acP(w:World)(e:TypeId)(s:ByteArray):Gr w (Lib.bytesWorld w e s):=⟨Lr w e s,Nat.le_succ w.drawn⟩
end Go.Proofs.YtnnbgjaphfhibaaGreatDoor
namespace Go.Proofs.YtnnbgjaphfhibaaGreatDoor.G
open Go.RowKit
theorem Tf(s:ByteArray)(w:World)(hs:s.size<2 ^ 62) :
  Calls prog 236 #[.string s] w fun e w'=>e=.returned (.bool (pW s.data.toList))/\Gr w w':=by
 have kc:=fun(w:World)=>Lib.run_convert_string_bytes (P:=prog) w 9 90 5 s underlying9 underlying90 underlying5
 obtain⟨W,hW⟩:=zN (Lib.bytesWorld w 5 s);have HC:Hd (∀j,(hj:j<s.size)->W.cell? ⟨w.heap.size,j,none⟩=some (.int .u8 (s[j].toNat:Int))):=by
  show ∀j,(hj:j<s.size)->W.cell? ⟨w.heap.size,j,none⟩=some (.int .u8 (s[j].toNat:Int));intro j hj;rw[<-hW,Lib.bytesWorld_cell w _ s j hj];have:s.data.toList.getD j 0=s[j]:=by
   rw[List.getD_eq_getElem?_getD,lL s j hj];rfl
  rw[this]
 have HG:Hd (Gr w W):=by show Gr w W;rw[<-hW];exact acP w _ s
 have kw:=kc w;rw[hW]at kw;clear kc hW;go_enter func236,ntmps236;go_wp2
 go_loop [8] (fun i=>∃k:Nat,k<=s.size/\i=.int .i64 k/\∀j,(hj:j<s.size)->j<k->aN s[j]=true) (fun i=>s.size-(intOf i).toNat)
 case atStart=>exact⟨0,Nat.zero_le _,rfl,fun j hj h=>absurd h (by omega)⟩
 case round =>
  obtain⟨k,hk,rfl,hp⟩:=hrel;have HP:=ae hp;clear hp
  by_cases hlt:k<s.size
  ·have ck:=HC.o k hlt
   cases hd:aN s[k] with
   | true =>
    go_wp2_with (go_at_call 224;refine(yF _ _).mono ?_;rintro e w' ⟨rfl,rfl⟩)
    go_round
    case rel =>
     refine⟨k+1,by omega,by go_num,fun j hj hjk=>?_⟩
     by_cases hjk':j<k
     ·exact HP.o j hj hjk'
     ·have e:j=k:=by omega
      subst e;exact hd
    case measure=>simp[intOf];omega
   | false =>
    have HN:Hd (pW s.data.toList=false):=by
     show pW s.data.toList=false;unfold pW;have:s.data.toList.all aN=false:=by
      rw[List.all_eq_false];exact⟨s[k],List.mem_of_getElem? (lL s k hlt),by simp[hd]⟩
     rw[this,Bool.and_false]
    go_wp2_with (go_at_call 224;refine(yF _ _).mono ?_;rintro e w' ⟨rfl,rfl⟩);go_ret;exact⟨bJ HN.o.symm,HG.o⟩
  ·have hks:k=s.size:=by omega
   have HA:Hd (s.data.toList.all aN=true):=by
    show s.data.toList.all aN=true;rw[List.all_eq_true];intro c hc;obtain⟨j,hj,rfl⟩:=List.getElem_of_mem hc;exact HP.o j (by simpa using hj) (by simp at hj;have:s.size=s.data.size:=rfl;omega)
   clear hks hk;go_wp2;go_ret;refine⟨bJ ?_,HG.o⟩;unfold pW;rw[Lib.toList_data,HA.o,Bool.and_true]
end Go.Proofs.YtnnbgjaphfhibaaGreatDoor.G
namespace Go.Proofs.YtnnbgjaphfhibaaGreatDoor
open Go.RowKit
structure En where
 nm:ByteArray
 ve:ByteArray
 dg:ByteArray
 nd:List ByteArray
def TxS(w:World)(v:Value)(L:List ByteArray):Prop:=(v=.slice none 0 0/\L=[])\/∃a cap,v=.slice (some a) L.length cap/\L.length<=cap/\∀i (hi:i<L.length),w.cell? (a.add i)=some (.string L[i])
theorem TxS.grow{w w':World}{v:Value}{L:List ByteArray}(h:TxS w v L)(hg:w.grownBy w' none):TxS w' v L:=by
 rcases h with h|⟨a,cap,h1,h2,h3⟩
 ·exact Or.inl h
 ·exact Or.inr ⟨a,cap,h1,h2,fun i hi=>hg.cell (h3 i hi) (by simp)⟩
theorem xB{w:World}{v:Value}{L:List ByteArray}(h:TxS w v L):∃o c,v=.slice o L.length c:=by
 rcases h with⟨rfl,rfl⟩|⟨a,cap,rfl,-⟩
 ·exact⟨_,_,rfl⟩
 ·exact⟨_,_,rfl⟩
def EnAt(w:World)(p:Addr)(x:En):Prop:=w.cell? p=some (.string x.nm)/\w.cell? ⟨p.block,p.off+1,none⟩=some (.string x.ve)/\w.cell? ⟨p.block,p.off+2,none⟩=some (.string x.dg)/\∃v,w.cell? ⟨p.block,p.off+3,none⟩=some v/\TxS w v x.nd
theorem EnAt.grow{w w':World}{p:Addr}{x:En}(h:EnAt w p x)(hg:w.grownBy w' none):EnAt w' p x:=by
 obtain⟨h0,h1,h2,v,h3,h4⟩:=h;exact⟨hg.cell h0 (by simp),hg.cell h1 (by simp),hg.cell h2 (by simp),v,hg.cell h3 (by simp),h4.grow hg⟩
def EnS(w:World)(v:Value)(L:List En):Prop:=(v=.slice none 0 0/\L=[])\/∃a cap,v=.slice (some a) L.length cap/\L.length<=cap/\∀i (hi:i<L.length),EnAt w (a.add (i*4)) L[i]
theorem EnS.grow{w w':World}{v:Value}{L:List En}(h:EnS w v L)(hg:w.grownBy w' none):EnS w' v L:=by
 rcases h with h|⟨a,cap,h1,h2,h3⟩
 ·exact Or.inl h
 ·exact Or.inr ⟨a,cap,h1,h2,fun i hi=>(h3 i hi).grow hg⟩
theorem DU{w:World}{v:Value}{L:List En}(h:EnS w v L):∃o c,v=.slice o L.length c:=by
 rcases h with⟨rfl,rfl⟩|⟨a,cap,rfl,-⟩
 ·exact⟨_,_,rfl⟩
 ·exact⟨_,_,rfl⟩
theorem acQ(a:Addr)(n k:Nat)(hk:0<k):a.add (n+k)=⟨(a.add n).block,(a.add n).off+k,none⟩:=by
 unfold Addr.add;rw[if_neg (by omega)]
 by_cases h:n=0
 ·rw[if_pos h,h];simp
 ·rw[if_neg h];simp[Nat.add_assoc]
theorem hblk(a:Addr)(k:Nat):(a.add k).block=a.block:=by unfold Addr.add;split<;>simp
theorem DV{w w':World}(h:Below w.heap.size w w'):w.grownBy w' none:=⟨h.os,h.tape,h.output,h.size,fun k hk _=>h.block k hk⟩
def acR(v:Value)(b:Option Nat):Prop:=∀a n c,v=.slice (some a) n c->0<n->some a.block≠b
theorem TxS.far{w w':World}{v:Value}{L:List ByteArray}{b:Option Nat}(h:TxS w v L)(hg:w.grownBy w' b)(hf:acR v b):TxS w' v L:=by
 rcases h with h|⟨a,cap,rfl,h2,h3⟩
 ·exact Or.inl h
 ·refine Or.inr ⟨a,cap,rfl,h2,fun i hi=>?_⟩;have hb:=hf a _ _ rfl (by omega);exact hg.cell (h3 i hi) (by rw[hblk];exact hb)
theorem Nh{w:World}{base:Nat}{v:Value}{L:List ByteArray}{n:Nat}(hn:n=L.length)(h:w.ownsRow base 9 1 v n (L.map Value.string)):TxS w v L:=by
 subst hn
 rcases h.2 with⟨h1,h2⟩|⟨g,cap,cur,hv,hb,hc,h3,h4,h5,h6⟩
 ·exact Or.inl ⟨h1,List.length_eq_zero_iff.1 h2⟩
 ·refine Or.inr ⟨⟨g,0,none⟩,cap,hv,h3,fun i hi=>?_⟩;have h':=h;rw[hv]at h';exact h'.cells (g:=g) rfl i _ (by rw[List.getElem?_map,List.getElem?_eq_getElem hi];rfl)
def rO(x:En)(v:Value):List Value:=[.string x.nm,.string x.ve,.string x.dg,v]
def vC(L:List En)(vs:List Value):List Value:=(List.zipWith rO L vs).flatten
theorem acS(L:List En)(vs:List Value)(x:En)(v:Value)(h:L.length=vs.length):vC (L++[x]) (vs++[v])=vC L vs++rO x v:=by
 unfold vC;rw[List.zipWith_append h];simp
theorem U5:∀(L:List En) (vs:List Value) (h:L.length=vs.length) (i:Nat) (hi:i<L.length) (k:Nat) (u:Value),(rO L[i] (vs[i]'(by omega)))[k]?=some u->(vC L vs)[i*4+k]?=some u
 | [],vs,h,i,hi,k,u,hu=>by simp at hi
 | x :: L,[],h,i,hi,k,u,hu=>by simp at h
 | x :: L,v :: vs,h,i,hi,k,u,hu=>by
  have e:vC (x :: L) (v :: vs)=rO x v++vC L vs:=rfl;have hl:(rO x v).length=4:=rfl;rw[e]
  cases i with
  | zero =>
   simp only[List.getElem_cons_zero]at hu;have hk:=(List.getElem?_eq_some_iff.1 hu).1;rw[Nat.zero_mul,Nat.zero_add,List.getElem?_append_left hk];exact hu
  | succ i =>
   simp only[List.getElem_cons_succ]at hu;rw[List.getElem?_append_right (by rw[hl];omega),hl,show(i+1)*4+k-4=i*4+k by omega];exact U5 L vs (by simpa using h) i (by simpa using hi) k u hu
theorem U6:(prog.info? 33).map (fun i=>(i.zero,i.size,i.bytes))=some (some (.agg #[.string ⟨#[]⟩,.string ⟨#[]⟩,.string ⟨#[]⟩,.slice none 0 0]),4,72):=by kernel_rfl
theorem Nj:(prog.info? 9).map (fun i=>(i.zero,i.size,i.bytes))=some (some (.string ⟨#[]⟩),1,16):=by kernel_rfl
theorem acT(s:En)(v:Value)(h:v.oneCell'=true):∀u∈rO s v,u.oneCell'=true:=by
 intro u hu;simp only[rO,List.mem_cons,List.not_mem_nil,or_false]at hu
 rcases hu with rfl|rfl|rfl|rfl
 ·rfl
 ·rfl
 ·rfl
 ·exact h
open Go.RowKit
def sg(c:Int):Int:=if 48<=c/\c<=57 then c-48 else if 97<=c/\c<=102 then c-87 else -1
theorem acU(c:Int):0<=sg c↔(48<=c/\c<=57)\/(97<=c/\c<=102):=by unfold sg;split;omega;split;omega;omega
def okS(b:UInt8):Bool:=decide (0<=sg b.toNat)
theorem U7(b:UInt8):okS b=true↔0<=sg b.toNat:=by simp[okS]
def nK(l:List UInt8):Nat:=l.findIdx (fun b=>!okS b)
theorem U8(l:List UInt8)(k:Nat)(hk:k<l.length)(hp:∀j,(hj:j<k)->okS (l[j]'(by omega))=true)(hb:okS l[k]=false):nK l=k:=by
 unfold nK;rw[List.findIdx_eq hk];exact⟨by simp[hb],fun j hj=>by simpa using hp j hj⟩
theorem U9(l:List UInt8)(hp:∀j,(hj:j<l.length)->okS l[j]=true):nK l=l.length:=by
 unfold nK;rw[List.findIdx_eq_length];intro x hx;obtain⟨j,hj,rfl⟩:=List.getElem_of_mem hx;simpa using hp j hj
def oC:List UInt8:=[115,104,97,50,53,54,58]
def lW(l:List UInt8):Bool:=decide (l.length=71) && (l.take 7 == oC) && (decide (nK (l.drop 7)=(l.drop 7).length))
theorem Va(s:ByteArray):(s.extract 0 7).toList=s.data.toList.take 7:=by
 rw[ByteArray.toList_eq,ByteArray.data_extract];simp
theorem acV(l:List UInt8)(hl:l.length=71)(h7:l.take 7=oC):lW l=decide (nK (l.drop 7)=(l.drop 7).length):=by
 unfold lW;rw[hl,h7];rfl
theorem acW(l:List UInt8)(k:Nat)(h7:7<=k)(hk:k<l.length)(hp:∀j,(hj:j<k)->7<=j->(hz:j<l.length)->okS l[j]=true)(hb:okS l[k]=false):decide (nK (l.drop 7)=(l.drop 7).length)=false:=by
 rw[U8 (l.drop 7) (k-7) (by simp;omega) (fun j hj=>by rw[List.getElem_drop];exact hp (7+j) (by omega) (by omega) _) (by
  rw[List.getElem_drop];rw[<-hb];congr 1;congr 1;omega)]
 simp;omega
theorem acX(l:List UInt8)(hp:∀j,7<=j->(hz:j<l.length)->okS l[j]=true):decide (nK (l.drop 7)=(l.drop 7).length)=true:=by
 rw[U9 (l.drop 7) (fun j hj=>by rw[List.getElem_drop];exact hp (7+j) (by omega) _)];simp
theorem acY(l:List UInt8)(h7:¬l.take 7=oC):lW l=false:=by
 unfold lW;rw[show(l.take 7 == oC)=false from by simpa using h7];simp
theorem Vb(c:Int)(w:World)(h0:0<=c)(h1:c<=255):Calls prog 126 #[.int .u8 c] w fun e w'=>e=.returned (.int .i64 (sg c))/\w'=w:=by
 go_enter func126,ntmps126;go_wp2
 all_goals go_ret
 all_goals refine⟨dB ?_,rfl⟩
 all_goals (unfold sg;first|(rw[if_pos ⟨‹_›,‹_›⟩];done)|(rw[if_neg (by omega),if_pos (by omega)];omega)|(rw[if_neg (by omega),if_neg (by omega)]))
theorem Vd(c:Int)(w:World):Calls prog 129 #[.int .u8 c] w fun e w'=>e=.returned (.bool (decide (0<=sg c)))/\w'=w:=by
 go_enter func129,ntmps129;go_wp2
 all_goals go_ret
 all_goals (refine⟨bJ ?_,rfl⟩;rw[Bool.eq_iff_iff];simp[acU];omega)
theorem acZ(s:ByteArray)(w:World)(hs:s.size<=maxLen) :
  Calls prog 92 #[.string s] w fun e w'=>e=.returned (.int .i64 (nK s.data.toList))/\w'=w:=by
 unfold maxLen at hs;go_enter func92,ntmps92;go_wp2
 go_loop [6] (fun i=>∃k:Nat,k<=s.size/\i=.int .i64 k/\∀j,(hj:j<k)->(hz:j<s.data.toList.length)->okS s.data.toList[j]=true) (fun i=>s.size-(intOf i).toNat)
 case atStart=>exact⟨0,Nat.zero_le _,rfl,fun j hj=>absurd hj (by omega)⟩
 case round =>
  obtain⟨k,hk,rfl,hp⟩:=hrel;have HP:=ae hp;clear hp
  by_cases hlt:k<s.size
  ·by_cases hb:0<=sg (s[k].toNat:Int)
   ·have hd:decide (0<=sg (s[k].toNat:Int))=true:=by simpa using hb
    go_wp2_with (go_at_call 129;refine(Vd _ _).mono ?_;rintro e w' ⟨rfl,rfl⟩)
    go_round
    case rel =>
     refine⟨k+1,by omega,by go_num,fun j hj hz=>?_⟩
     by_cases hjk:j<k
     ·exact HP.o j hjk hz
     ·have e:j=k:=by omega
      subst e;rw[U7];exact hb
    case measure=>simp[intOf];omega
   ·have hd:decide (0<=sg (s[k].toNat:Int))=false:=by simpa using hb
    go_wp2_with (go_at_call 129;refine(Vd _ _).mono ?_;rintro e w' ⟨rfl,rfl⟩);go_ret;refine⟨dB ?_,rfl⟩;rw[U8 s.data.toList k (by simpa using hlt) (fun j hj=>HP.o j hj _) (by unfold okS;exact hd)]
  ·have hks:k=s.size:=by omega
   have HE:Hd (nK s.data.toList=s.size):=by
    show nK s.data.toList=s.size;rw[U9 s.data.toList (fun j hj=>HP.o j (by simp at hj;have:s.size=s.data.size:=rfl;omega) hj)];simp
   clear hks;go_wp2;go_ret;exact⟨dB (by rw[HE.o]),rfl⟩
def rP(l:List UInt8):List UInt8:=Lib.trimPrefix l oC
def DW(l:List UInt8):Bool:=Lib.hasPrefix l oC
theorem Nk(s:ByteArray)(w:World):Calls prog 91 #[.string s,.string ⟨#[115,104,97,50,53,54,58]⟩] w fun e w'=>e=.returned (.tuple #[.string ⟨(rP s.data.toList).toArray⟩,.bool (DW s.data.toList)])/\w'=w :=
 Any.strings_CutPrefix Tryz.lays103 s _ w
theorem ac0(l:List UInt8)(w:World)(hs:l.length<=maxLen) :
  Calls prog 92 #[.string ⟨l.toArray⟩] w fun e w'=>e=.returned (.int .i64 (nK l))/\w'=w :=
 acZ ⟨l.toArray⟩ w (by simpa [ByteArray.size] using hs)
def qy(l:List UInt8):Bool:=DW l && (decide ((rP l).length=64) && decide (nK (rP l)=(rP l).length))
theorem Ve(s:ByteArray)(w:World) :
  Calls prog 60 #[.string s] w fun e w'=>e=.returned (.bool (qy s.data.toList))/\w'=w:=by
 by_cases hp:DW s.data.toList=true
 ·by_cases hl:(rP s.data.toList).length=64
  ·have hl':(((rP s.data.toList).length:Int) == 64)=true:=by rw[hl];rfl
   have HE:Hd (qy s.data.toList=decide (nK (rP s.data.toList)=(rP s.data.toList).length)):=by
    show qy s.data.toList=_;unfold qy;rw[hp,hl];rfl
   have hm:(rP s.data.toList).length<=maxLen:=by unfold maxLen;omega
   clear hl;go_enter func60,ntmps60;go_wp2_with (first|(go_at_call 91;refine(Nk _ _).mono ?_;rintro e w' ⟨rfl,rfl⟩)|(go_at_call 92;refine(ac0 _ _ hm).mono ?_;rintro e w' ⟨rfl,rfl⟩));go_ret;refine⟨bJ ?_,rfl⟩;rw[HE.o,Bool.eq_iff_iff];simp;omega
  ·have hl':(((rP s.data.toList).length:Int) == 64)=false:=by simp;omega
   have HE:Hd (qy s.data.toList=false):=by
    show qy s.data.toList=_;unfold qy;rw[hp,decide_eq_false hl];rfl
   clear hl;go_enter func60,ntmps60;go_wp2_with (go_at_call 91;refine(Nk _ _).mono ?_;rintro e w' ⟨rfl,rfl⟩);go_ret;exact⟨bJ HE.o.symm,rfl⟩
 ·have hp':DW s.data.toList=false:=by simpa using hp
  have HE:Hd (qy s.data.toList=false):=by
   show qy s.data.toList=_;unfold qy;rw[hp'];rfl
  clear hp;go_enter func60,ntmps60;go_wp2_with (go_at_call 91;refine(Nk _ _).mono ?_;rintro e w' ⟨rfl,rfl⟩);go_ret;exact⟨bJ HE.o.symm,rfl⟩
theorem ac1(s:ByteArray)(w:World)(hs:s.size<=maxLen) :
  Calls prog 87 #[.string s] w fun e w'=>e=.returned (.bool (lW s.data.toList))/\w'=w:=by
 unfold maxLen at hs
 by_cases hl:s.size=71
 ·have hl':((s.size:Int) != 71)=false:=by simp;omega
  have h7:7<=s.size:=by omega
  by_cases hq:s.data.toList.take 7=oC
  ·have hq':(!(s.extract 0 7).toList == [115,104,97,50,53,54,58])=false:=by rw[Va,hq];rfl
   have HE:=ae (acV _ (by simpa using hl) hq);clear hl hq;go_enter func87,ntmps87;go_wp2
   go_loop [3] (fun i=>∃k:Nat,7<=k/\k<=s.size/\i=.int .i64 k/\∀j,(hj:j<k)->7<=j->(hz:j<s.data.toList.length)->okS s.data.toList[j]=true) (fun i=>s.size-(intOf i).toNat)
   case atStart=>exact⟨7,by omega,h7,rfl,fun j hj h7'=>absurd hj (by omega)⟩
   case round =>
    obtain⟨k,hk7,hk,rfl,hp⟩:=hrel;have HP:=ae hp;clear hp
    by_cases hlt:k<s.size
    ·have hb256:(s[k].toNat:Int)<=255:=by have:=s[k].toNat_lt;omega
     by_cases hb:0<=sg (s[k].toNat:Int)
     ·go_wp2_with (go_at_call 126;refine(Vb _ _ (by omega) (by omega)).mono ?_;rintro e w' ⟨rfl,rfl⟩)
      go_round
      case rel =>
       refine⟨k+1,by omega,by omega,by go_num,fun j hj h7 hz=>?_⟩
       by_cases hjk:j<k
       ·exact HP.o j hjk h7 hz
       ·have e:j=k:=by omega
        subst e;rw[U7];exact hb
      case measure=>simp[intOf];omega
     ·have hbn:sg (s[k].toNat:Int)<0:=by omega
      have hd:decide (0<=sg (s[k].toNat:Int))=false:=by simpa using hb
      have HF:Hd (lW s.data.toList=false):=by
       show lW s.data.toList=false;rw[HE.o];exact acW _ k hk7 (by simpa using hlt) HP.o hd
      clear hb hd;go_wp2_with (go_at_call 126;refine(Vb _ _ (by omega) (by omega)).mono ?_;rintro e w' ⟨rfl,rfl⟩);go_ret;exact⟨bJ HF.o.symm,rfl⟩
    ·have HF:Hd (lW s.data.toList=true):=by
      show lW s.data.toList=true;rw[HE.o];exact acX _ (fun j h7 hz=>HP.o j (by simp at hz;have:s.size=s.data.size:=rfl;omega) h7 hz)
     go_wp2;go_ret;exact⟨bJ HF.o.symm,rfl⟩
  ·have hq':(!(s.extract 0 7).toList == [115,104,97,50,53,54,58])=true:=by rw[Va];simpa [oC] using hq
   have HE:=ae (acY _ hq);clear hl hq;go_enter func87,ntmps87;go_wp2;go_ret;exact⟨bJ HE.o.symm,rfl⟩
 ·have hl':((s.size:Int) != 71)=true:=by simp;omega
  have HE:Hd (lW s.data.toList=false):=by
   show lW s.data.toList=_;unfold lW;rw[decide_eq_false (by simpa using hl)];rfl
  clear hl;go_enter func87,ntmps87;go_wp2;go_ret;exact⟨bJ HE.o.symm,rfl⟩
theorem Vf(l:List UInt8):qy l=lW l:=by
 unfold qy lW DW rP Lib.trimPrefix Lib.hasPrefix
 by_cases h:l.take 7=oC
 ·have hp:List.isPrefixOf oC l=true:=by
   rw[List.isPrefixOf_iff_prefix,<-h];exact List.take_prefix _ _
  have h7:7<=l.length:=by
   have:=congrArg List.length h;simp[oC]at this;omega
  simp only[hp,if_true];rw[show oC.length=7 from rfl,h];simp only[Bool.true_and,beq_self_eq_true,Bool.and_true];congr 1;simp;omega
 ·have hp:List.isPrefixOf oC l=false:=by
   rw[Bool.eq_false_iff];intro hp;rw[List.isPrefixOf_iff_prefix]at hp;apply h;have:=List.prefix_iff_eq_take.1 hp;rw[this];rfl
  rw[hp,show(l.take 7 == oC)=false from by simpa using h];simp
open Go.RowKit
def rQ(c:UInt8):Bool:=decide (97<=c.toNat/\c.toNat<=122)
def qC(c:UInt8):Bool:=rQ c || aN c || decide (c.toNat=45) || decide (c.toNat=95)
def DX(s:ByteArray):Prop:=1<=s.size/\s.size<=30/\(∀h:0<s.size,rQ s[0]=true)/\∀j,(hj:j<s.size)->1<=j->qC s[j]=true
open Classical in
noncomputable def nameB(s:ByteArray):Bool:=decide (DX s)
theorem Vg{s:ByteArray}(h:DX s):nameB s=true:=by simp[nameB,h]
theorem rU{s:ByteArray}(h:¬DX s):nameB s=false:=by simp[nameB,h]
theorem DY(c:UInt8)(w:World):Calls prog 88 #[.int .u8 (c.toNat:Int)] w fun e w'=>e=.returned (.bool (rQ c))/\w'=w:=by
 go_enter func88,ntmps88;go_wp2
 all_goals go_ret
 all_goals (refine⟨bJ ?_,rfl⟩;rw[Bool.eq_iff_iff];simp_all [rQ]<;>omega)
theorem Ig(c:UInt8)(w:World):Calls prog 89 #[.int .u8 (c.toNat:Int)] w fun e w'=>e=.returned (.bool (qC c))/\w'=w:=by
 go_enter func89,ntmps89;go_wp2_with (go_at_call 88;refine(DY _ _).mono ?_;rintro e w' ⟨rfl,rfl⟩)
 all_goals go_ret
 all_goals (refine⟨bJ ?_,rfl⟩;rw[Bool.eq_iff_iff];simp_all [qC,aN]<;>omega)
theorem yX(c:UInt8)(w:World):Calls prog 124 #[.int .u8 (c.toNat:Int)] w fun e w'=>e=.returned (.bool (rQ c))/\w'=w:=by
 go_enter func124,ntmps124;go_wp2
 all_goals go_ret
 all_goals (refine⟨bJ ?_,rfl⟩;rw[Bool.eq_iff_iff];simp_all [rQ]<;>omega)
theorem name_any(s:ByteArray)(w:World)(hs:s.size<2 ^ 62) :
  Calls prog 58 #[.string s] w fun e w'=>e=.returned (.bool (nameB s))/\w'=w:=by
 obtain⟨R,hR⟩:∃R,R=nameB s:=⟨_,rfl⟩;have HR:=ae hR;rw[<-hR];clear hR
 by_cases h0:s.size=0
 ·have HN:=ae (HR.o.trans (rU fun h=>absurd h.1 (by omega)));go_enter func58,ntmps58;go_wp2;go_ret;exact⟨bJ HN.o.symm,rfl⟩
 by_cases h30:30<s.size
 ·have HN:=ae (HR.o.trans (rU fun h=>absurd h.2.1 (by omega)));have h1:¬s.size<1:=by omega
  go_enter func58,ntmps58;go_wp2;go_ret;exact⟨bJ HN.o.symm,rfl⟩
 have hpos:0<s.size:=by omega
 have g1:((s.size:Int) == 0)=false:=by rw[beq_eq_false_iff_ne];omega
 have g2:decide (30<(s.size:Int))=false:=by rw[decide_eq_false_iff_not];omega
 have g3:decide ((s.size:Int)<1)=false:=by rw[decide_eq_false_iff_not];omega
 cases hl:rQ s[0] with
 | false =>
  have HN:=ae (HR.o.trans (rU fun h=>by have:=h.2.2.1 hpos;rw[hl]at this;cases this));go_enter func58,ntmps58;go_wp2_with (first|(go_at_call 88;refine(DY _ _).mono ?_;rintro e w' ⟨rfl,rfl⟩)|(go_at_call 89;refine(Ig _ _).mono ?_;rintro e w' ⟨rfl,rfl⟩));go_ret;exact⟨bJ HN.o.symm,rfl⟩
 | true =>
  go_enter func58,ntmps58;go_wp2_with (first|(go_at_call 88;refine(DY _ _).mono ?_;rintro e w' ⟨rfl,rfl⟩)|(go_at_call 89;refine(Ig _ _).mono ?_;rintro e w' ⟨rfl,rfl⟩))
  go_loop [3] (fun i=>∃k:Nat,1<=k/\k<=s.size/\i=.int .i64 k/\∀j,(hj:j<s.size)->j<k->1<=j->qC s[j]=true) (fun i=>s.size-(intOf i).toNat)
  case atStart=>exact⟨1,Nat.le_refl _,by omega,rfl,fun j hj h h'=>absurd h (by omega)⟩
  case round =>
   obtain⟨k,hk1,hk,rfl,hp⟩:=hrel;have HP:=ae hp;clear hp;clear g1 g2 g3
   by_cases hlt:k<s.size
   ·cases hd:qC s[k] with
    | true =>
     go_wp2_with (first|(go_at_call 88;refine(DY _ _).mono ?_;rintro e w' ⟨rfl,rfl⟩)|(go_at_call 89;refine(Ig _ _).mono ?_;rintro e w' ⟨rfl,rfl⟩))
     all_goals go_round
     case rel =>
      refine⟨k+1,by omega,by omega,by go_num,fun j hj hjk hj1=>?_⟩
      by_cases hjk':j<k
      ·exact HP.o j hj hjk' hj1
      ·have e:j=k:=by omega
       subst e;exact hd
     case measure=>simp[intOf];omega
    | false =>
     have HN:=ae (HR.o.trans (rU fun h=>by have:=h.2.2.2 k hlt hk1;rw[hd]at this;cases this));go_wp2_with (first|(go_at_call 88;refine(DY _ _).mono ?_;rintro e w' ⟨rfl,rfl⟩)|(go_at_call 89;refine(Ig _ _).mono ?_;rintro e w' ⟨rfl,rfl⟩));go_ret;exact⟨bJ HN.o.symm,rfl⟩
   ·have HN:=ae (HR.o.trans (Vg ⟨by omega,by omega,fun _=>hl,fun j hj h=>HP.o j hj (by omega) h⟩));clear hk;go_wp2;go_ret;exact⟨bJ HN.o.symm,rfl⟩
theorem ac2(s:ByteArray)(w:World)(hs:s.size<2 ^ 62) :
  Calls prog 85 #[.string s] w fun e w'=>e=.returned (.bool (nameB s))/\w'=w:=by
 obtain⟨R,hR⟩:∃R,R=nameB s:=⟨_,rfl⟩;have HR:=ae hR;rw[<-hR];clear hR
 by_cases h0:s.size=0
 ·have HN:=ae (HR.o.trans (rU fun h=>absurd h.1 (by omega)));go_enter func85,ntmps85;go_wp2;go_ret;exact⟨bJ HN.o.symm,rfl⟩
 by_cases h30:30<s.size
 ·have HN:=ae (HR.o.trans (rU fun h=>absurd h.2.1 (by omega)));have h1:¬s.size<1:=by omega
  go_enter func85,ntmps85;go_wp2;go_ret;exact⟨bJ HN.o.symm,rfl⟩
 have hpos:0<s.size:=by omega
 have g1:((s.size:Int) == 0)=false:=by rw[beq_eq_false_iff_ne];omega
 have g2:decide (30<(s.size:Int))=false:=by rw[decide_eq_false_iff_not];omega
 have g3:decide ((s.size:Int)<1)=false:=by rw[decide_eq_false_iff_not];omega
 cases hl:rQ s[0] with
 | false =>
  have HN:=ae (HR.o.trans (rU fun h=>by have:=h.2.2.1 hpos;rw[hl]at this;cases this));go_enter func85,ntmps85;go_wp2_with (first|(go_at_call 124;refine(yX _ _).mono ?_;rintro e w' ⟨rfl,rfl⟩)|(go_at_call 122;refine(oZ _ _).mono ?_;rintro e w' ⟨rfl,rfl⟩));go_ret;exact⟨bJ HN.o.symm,rfl⟩
 | true =>
  go_enter func85,ntmps85;go_wp2_with (first|(go_at_call 124;refine(yX _ _).mono ?_;rintro e w' ⟨rfl,rfl⟩)|(go_at_call 122;refine(oZ _ _).mono ?_;rintro e w' ⟨rfl,rfl⟩))
  go_loop [3] (fun i=>∃k:Nat,1<=k/\k<=s.size/\i=.int .i64 k/\∀j,(hj:j<s.size)->j<k->1<=j->qC s[j]=true) (fun i=>s.size-(intOf i).toNat)
  case atStart=>exact⟨1,Nat.le_refl _,by omega,rfl,fun j hj h h'=>absurd h (by omega)⟩
  case round =>
   obtain⟨k,hk1,hk,rfl,hp⟩:=hrel;have HP:=ae hp;clear hp;clear g1 g2 g3
   by_cases hlt:k<s.size
   ·cases hd:qC s[k] with
    | true =>
     rcases Bool.eq_false_or_eq_true (rQ s[k]) with a1|a1
     ·go_wp2_with (first|(go_at_call 124;refine(yX _ _).mono ?_;rintro e w' ⟨rfl,rfl⟩)|(go_at_call 122;refine(oZ _ _).mono ?_;rintro e w' ⟨rfl,rfl⟩))
      go_round
      case rel =>
       refine⟨k+1,by omega,by omega,by go_num,fun j hj hjk hj1=>?_⟩
       by_cases hjk':j<k
       ·exact HP.o j hj hjk' hj1
       ·have e:j=k:=by omega
        subst e;exact hd
      case measure=>simp[intOf];omega
     rcases Bool.eq_false_or_eq_true (aN s[k]) with a2|a2
     ·go_wp2_with (first|(go_at_call 124;refine(yX _ _).mono ?_;rintro e w' ⟨rfl,rfl⟩)|(go_at_call 122;refine(oZ _ _).mono ?_;rintro e w' ⟨rfl,rfl⟩))
      go_round
      case rel =>
       refine⟨k+1,by omega,by omega,by go_num,fun j hj hjk hj1=>?_⟩
       by_cases hjk':j<k
       ·exact HP.o j hj hjk' hj1
       ·have e:j=k:=by omega
        subst e;exact hd
      case measure=>simp[intOf];omega
     by_cases a3:s[k].toNat=45
     ·have b3:((s[k].toNat:Int) != 45)=false:=by rw[a3];rfl
      have b5:((s[k].toNat:Int) != 95)=true:=by rw[a3];rfl
      clear a3;go_wp2_with (first|(go_at_call 124;refine(yX _ _).mono ?_;rintro e w' ⟨rfl,rfl⟩)|(go_at_call 122;refine(oZ _ _).mono ?_;rintro e w' ⟨rfl,rfl⟩))
      go_round
      case rel =>
       refine⟨k+1,by omega,by omega,by go_num,fun j hj hjk hj1=>?_⟩
       by_cases hjk':j<k
       ·exact HP.o j hj hjk' hj1
       ·have e:j=k:=by omega
        subst e;exact hd
      case measure=>simp[intOf];omega
     ·have b3:((s[k].toNat:Int) != 45)=true:=by rw[bne_iff_ne];omega
      have b4:((s[k].toNat:Int) != 95)=false:=by unfold qC at hd;simp[a1,a2,a3]at hd;rw[hd];rfl
      clear a3;go_wp2_with (first|(go_at_call 124;refine(yX _ _).mono ?_;rintro e w' ⟨rfl,rfl⟩)|(go_at_call 122;refine(oZ _ _).mono ?_;rintro e w' ⟨rfl,rfl⟩))
      go_round
      case rel =>
       refine⟨k+1,by omega,by omega,by go_num,fun j hj hjk hj1=>?_⟩
       by_cases hjk':j<k
       ·exact HP.o j hj hjk' hj1
       ·have e:j=k:=by omega
        subst e;exact hd
      case measure=>simp[intOf];omega
    | false =>
     have HN:=ae (HR.o.trans (rU fun h=>by have:=h.2.2.2 k hlt hk1;rw[hd]at this;cases this));obtain⟨a1,a2,a3,a4⟩:rQ s[k]=false/\aN s[k]=false/\¬s[k].toNat=45/\¬s[k].toNat=95:=by
      unfold qC at hd;simpa [and_assoc] using hd
     have b3:((s[k].toNat:Int) != 45)=true:=by rw[bne_iff_ne];omega
     have b4:((s[k].toNat:Int) != 95)=true:=by rw[bne_iff_ne];omega
     clear a3 a4;go_wp2_with (first|(go_at_call 124;refine(yX _ _).mono ?_;rintro e w' ⟨rfl,rfl⟩)|(go_at_call 122;refine(oZ _ _).mono ?_;rintro e w' ⟨rfl,rfl⟩));go_ret;exact⟨bJ HN.o.symm,rfl⟩
   ·have HN:=ae (HR.o.trans (Vg ⟨by omega,by omega,fun _=>hl,fun j hj h=>HP.o j hj (by omega) h⟩));clear hk;go_wp2;go_ret;exact⟨bJ HN.o.symm,rfl⟩
end Go.Proofs.YtnnbgjaphfhibaaGreatDoor
