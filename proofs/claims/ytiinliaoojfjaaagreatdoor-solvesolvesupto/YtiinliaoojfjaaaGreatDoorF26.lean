import Derived.Test.YtiinliaoojfjaaaGreatDoorF21
import Derived.Test.YtiinliaoojfjaaaGreatDoorF24
set_option linter.all false
set_option maxRecDepth 100000
set_option maxHeartbeats 0
open Go.Proofs.Tryz
namespace Go.Proofs.YtiinliaoojfjaaaGreatDoor
open Go.RowKit
theorem aeH(v v':Value)(K:List ByteArray)(w:World)(h:TxS w v K)(h':TxS w v' K)(hK:K.length<=1048576) :
  Calls prog 35 #[v,v'] w fun e w'=>e=.returned (.bool true)/\w.grownBy w' none:=by
 have H1:=ae h;have H2:=ae h';obtain⟨o,c,rfl⟩:=Il h;obtain⟨o',c',rfl⟩:=Il h';have hnn:((K.length:Int) != (K.length:Int))=false:=by simp
 clear h h';go_enter func35,ntmps35;go_wp2;go_loopw [5] (fun vi wr=>∃i:Nat,vi=.int .i64 i/\i<=K.length/\w.grownBy wr none) (fun vi _=>K.length-(intOf vi).toNat)
 case atStart=>exact⟨0,rfl,Nat.zero_le _,ai _ _⟩
 case round =>
  obtain⟨i,rfl,hi,hg⟩:=hrel;have HG:=ae hg
  by_cases hlt:i<K.length
  ·obtain⟨a,cap,e1,e2,e3⟩:∃a cap,(Value.slice o K.length c)=.slice (some a) K.length cap/\K.length<=cap/\∀j (h:j<K.length),wr.cell? (a.add j)=some (.string K[j]):=by
    rcases H1.o.grow hg with⟨h1,h2⟩|h
    ·rw[h2]at hlt;simp at hlt
    ·exact h
   obtain⟨b,cbp,f1,f2,f3⟩:∃a cap,(Value.slice o' K.length c')=.slice (some a) K.length cap/\K.length<=cap/\∀j (h:j<K.length),wr.cell? (a.add j)=some (.string K[j]):=by
    rcases H2.o.grow hg with⟨h1,h2⟩|h
    ·rw[h2]at hlt;simp at hlt
    ·exact h
   cases e1
   cases f1
   have g1:=e3 i hlt;have g2:=f3 i hlt;obtain⟨z,hz⟩:=zN (K[i]);rw[hz]at g1 g2;have hzz:=wC z;clear e3 f3 hz hg;go_wp2;go_quiet (fail);go_wp2;go_roundw
   case rel=>exact⟨i+1,by go_num,by omega,aH HG.o _⟩
   case measure=>simp[intOf];omega
  ·clear hg;have hil:i=K.length:=by omega
   go_wp2;go_ret;exact⟨rfl,HG.o⟩
theorem aeI(v v':Value)(K:List En)(w:World)(h:EnS w v K)(h':EnS w v' K)(hK:K.length<=1048576)(hN:∀x∈K,x.nd.length<=1048576) :
  Calls prog 15 #[v,v'] w fun e w'=>e=.returned (.bool true)/\w.grownBy w' none:=by
 have H1:=ae h;have H2:=ae h';have CS:=ae (fun x (hx:x∈K) (u:Value) (u':Value) (w:World) (h1:TxS w u x.nd) (h2:TxS w u' x.nd)=>aeH u u' x.nd w h1 h2 (hN x hx));obtain⟨o,c,rfl⟩:=zt h;obtain⟨o',c',rfl⟩:=zt h';have hnn:((K.length:Int) != (K.length:Int))=false:=by simp
 clear h h' hN;go_enter func15,ntmps15;go_wp2;go_loopw [5] (fun vi wr=>∃i:Nat,vi=.int .i64 i/\i<=K.length/\w.grownBy wr none) (fun vi _=>K.length-(intOf vi).toNat)
 case atStart=>exact⟨0,rfl,Nat.zero_le _,ai _ _⟩
 case round =>
  obtain⟨i,rfl,hi,hg⟩:=hrel;have HG:=ae hg
  by_cases hlt:i<K.length
  ·obtain⟨a,cap,e1,e2,e3⟩:∃a cap,(Value.slice o K.length c)=.slice (some a) K.length cap/\K.length<=cap/\∀j (h:j<K.length),EnAt wr (a.add (j*4)) K[j]:=by
    rcases H1.o.grow hg with⟨h1,h2⟩|h
    ·rw[h2]at hlt;simp at hlt
    ·exact h
   obtain⟨b,cbp,f1,f2,f3⟩:∃a cap,(Value.slice o' K.length c')=.slice (some a) K.length cap/\K.length<=cap/\∀j (h:j<K.length),EnAt wr (a.add (j*4)) K[j]:=by
    rcases H2.o.grow hg with⟨h1,h2⟩|h
    ·rw[h2]at hlt;simp at hlt
    ·exact h
   cases e1
   cases f1
   obtain⟨g1,g2,g4,sv,g3,gn⟩:=e3 i hlt;obtain⟨k1,k2,k4,sv',k3,kn⟩:=f3 i hlt;have MZ:=ae (CS.o K[i] (List.getElem_mem _) sv sv' wr.drew (gn.grow ⟨rfl,rfl,rfl,Nat.le_refl _,fun _ _ _=>rfl⟩) (kn.grow ⟨rfl,rfl,rfl,Nat.le_refl _,fun _ _ _=>rfl⟩));obtain⟨z1,hz1⟩:=zN (K[i].nm);obtain⟨z2,hz2⟩:=zN (K[i].ve);obtain⟨z4,wu⟩:=zN (K[i].dg);rw[hz1]at g1 k1;rw[hz2]at g2 k2;rw[wu]at g4 k4;have q1:=wC z1;have q2:=wC z2;have q4:=wC z4;clear e3 f3 hz1 hz2 wu hg gn kn;go_wp2
   go_region_held3 (fun w'=>w'.cell? ⟨(a.add (i*4)).block,(a.add (i*4)).off+3,none⟩=some sv/\w'.cell? ⟨(b.add (i*4)).block,(b.add (i*4)).off+3,none⟩=some sv') ((first|exact⟨World.grownBy.cell (by assumption) (And.left (by assumption)) (by simp),World.grownBy.cell (by assumption) (And.right (by assumption)) (by simp)⟩|go_keep)) (first|(go_at_call 35;refine MZ.o.mono ?_;rintro e w1 ⟨rfl,hg1⟩))
   have hg2:=dF hg1;have bg:=ae (ag HG.o hg2);have G1:=hg2.cell g1 (by simp);have G2:=hg2.cell g2 (by simp);have G4:=hg2.cell g4 (by simp);have K1:=hg2.cell k1 (by simp);have K2:=hg2.cell k2 (by simp);have K4:=hg2.cell k4 (by simp);clear hg1 hg2 g1 g2 g3 g4 k1 k2 k3 k4;go_wp2;go_quiet (fail);go_wp2;go_roundw
   case rel=>exact⟨i+1,by go_num,by omega,aH bg.o _⟩
   case measure=>simp[intOf];omega
  ·clear hg;have hil:i=K.length:=by omega
   go_wp2;go_ret;exact⟨rfl,HG.o⟩
end Go.Proofs.YtiinliaoojfjaaaGreatDoor
