import Derived.Test.YtiinliaoojfjaaaGreatDoorF16
set_option linter.all false
set_option maxRecDepth 100000
set_option maxHeartbeats 0
open Go.Proofs.Tryz
namespace Go.Proofs.YtiinliaoojfjaaaGreatDoor
open Go.RowKit Go.Maps
theorem Ns(v v':Value)(K:List Int)(w:World)(h:IS w v K)(h':IS w v' K)(hK:K.length<=1048576) :
  Calls prog 16 #[v,v'] w fun e w'=>e=.returned (.bool true)/\w.grownBy w' none:=by
 have H1:Hd (IS w v K):=h;have H2:Hd (IS w v' K):=h';obtain⟨o,c,rfl⟩:=H6 h;obtain⟨o',c',rfl⟩:=H6 h';have hnn:((K.length:Int) != (K.length:Int))=false:=by simp
 clear h h';go_enter func16,ntmps16;go_wp2;go_loopw [5] (fun vi wr=>∃i:Nat,vi=.int .i64 i/\i<=K.length/\w.grownBy wr none) (fun vi _=>K.length-(intOf vi).toNat)
 case atStart=>exact⟨0,rfl,Nat.zero_le _,ai _ _⟩
 case round =>
  obtain⟨i,rfl,hi,hg⟩:=hrel;have HG:Hd (w.grownBy wr none):=hg
  by_cases hlt:i<K.length
  ·obtain⟨a,ho,e2,e3⟩:=rU (H1.o.grow hg) hlt;obtain⟨b,ho',f2,f3⟩:=rU (H2.o.grow hg) hlt;have g1:=e3 i hlt;have g2:=f3 i hlt;obtain⟨z,hz⟩:∃z:Int,K[i]=z:=⟨_,rfl⟩;rw[hz]at g1 g2;have hzz:(z != z)=false:=by simp
   have hic:i<c:=by omega
   have ajZ:i<c':=by omega
   subst ho ho';clear e3 f3 hz hg e2 f2;go_wp2;go_quiet (fail);go_wp2;go_roundw
   case rel=>exact⟨i+1,by go_num,by omega,aH HG.o _⟩
   case measure=>simp[intOf];omega
  ·clear hg;have hil:i=K.length:=by omega
   go_wp2;go_ret;exact⟨rfl,HG.o⟩
end Go.Proofs.YtiinliaoojfjaaaGreatDoor
