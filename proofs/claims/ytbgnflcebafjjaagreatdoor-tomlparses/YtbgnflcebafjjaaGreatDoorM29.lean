import Derived.Test.YtbgnflcebafjjaaGreatDoorM28
import Derived.Test.YtbgnflcebafjjaaGreatDoorM08
import Derived.Test.YtbgnflcebafjjaaGreatDoorM17
import Derived.Test.YtbgnflcebafjjaaGreatDoorM25
namespace Go.Proofs.YtbgnflcebafjjaaGreatDoor
open Go.RowKit Go.Maps Go.WideMaps Go.Joins
set_option linter.unusedVariables false
set_option maxRecDepth 100000 in
set_option maxHeartbeats 3200000 in
theorem tTold_long (E:Int->TypeId × Value) (b:Int->Addr) (w:World) (S:Sn w E b) :
  Calls Tryz.prog 16 #[.iface (E 1).1 (E 1).2] w fun e w'=>e=.returned (.tuple #[.int .i64 1,.int .i64 0])/\w.grownBy w' none:=by
 have hgT:w.grownBy (w.alloc (.cells #[.pointer none] 65)) none:=World.grownBy_alloc _ _ none
 have hT:=heap_alloc_new w (.cells #[.pointer none] 65)
 have e1:=S.ptr 1 (by decide) (by decide)
 have hlo:=S.lo
 rw [e1] at hlo ⊢
 have CA:Hid (Calls Tryz.prog 24 #[.iface 235 (.pointer (some (b 1))),.iface 67 (.pointer (some ⟨w.heap.size,0,none⟩))] (w.alloc (.cells #[.pointer none] 65)) fun ev w2=>ev=.returned (.bool false)/\w.grownBy w2 none/\w2.cell? ⟨0,0,none⟩=some (.iface 235 (.pointer (some (b 1))))):=by
  refine (as_miss (b 1) ⟨w.heap.size,0,none⟩ (.pointer none) _ (S.grow hgT).ty (by rw [Lib.cell_of_heap hT];rfl) (Lib.frozen_of_heap hT 0)).mono ?_
  rintro e w2 ⟨rfl,hg⟩
  have g2:=gb_trans hgT hg
  exact ⟨rfl,g2,g2.cell hlo (by simp)⟩
 have CI:Hid (∀w,Calls Tryz.prog 25 #[.iface 235 (.pointer (some (b 1))),.iface 235 (.pointer (some (b 1)))] w fun e w'=>e=.returned (.bool true)/\w'=w):=is_same (b 1)
 obtain ⟨x,hx⟩:∃x,b 1=x:=⟨_,rfl⟩
 rw [hx] at CA CI ⊢
 clear hgT hT e1 S hlo hx
 go_enter Tryz.func16,Tryz.ntmps16
 go_wp2_with (first | (go_at_call 24;refine CA.out.mono ?_))
 rintro e w2 ⟨rfl,hg2,y1⟩
 have HG2:Hid (w.grownBy w2 none):=hg2
 clear hg2 CA
 go_wp2_with (first | (go_at_call 25;refine (CI.out _).mono ?_))
 first | rintro e w' rfl rfl | rintro e w' ⟨rfl,rfl⟩
 go_wp2
 refine bodyPost_ret (results_tmp2 (t:=2) (u:=3) rfl _ _ _) rfl ?_
 exact ⟨rfl,HG2.out⟩
def PePost (r:Rs (List Tn)) (w:World) (e:Ending) (w':World):Prop :=
 (∀ns,r=.ok ns->∃N c M T xs ks now n f,e=.returned (.tuple #[.slice (some ⟨N,0,none⟩) ns.length c,.int .i64 0,.int .i64 0])/\TrD w' w.heap.size T ns now N c M xs ks n f) ∧
 (∀c p,r=.error (c,p)->e=.returned (.tuple #[.slice none 0 0,.int .i64 c,.int .i64 (p:Nat)]))/\w.grownBy w' none
set_option maxRecDepth 100000 in
set_option maxHeartbeats 3200000 in
theorem tParse_any (s:ByteArray) (E:Int->TypeId × Value) (b:Int->Addr) (w:World) (G:Gl w w.heap.size E) (S:Sn w E b) (hmx:s.size < 2 ^ 62) :
  Calls Tryz.prog 7 #[.string s] w (PePost (rdToml s.data.toList) w):=by
 have CR:Hid (Calls Tryz.prog 15 #[.string s] w (RdPost s E (rdToml s.data.toList) w)):=tRead_any s E w G S.lo hmx
 have HER:Hid (∀c p,rdToml s.data.toList=.error (c,p)->(c=1/\p=0)\/(2<=c/\c<=5)):=er_toml _
 have CTL:Hid (∀w',w.grownBy w' none->Calls Tryz.prog 16 #[.iface (E 1).1 (E 1).2] w' fun e w''=>e=.returned (.tuple #[.int .i64 1,.int .i64 0])/\w'.grownBy w'' none):=fun w' hg=>tTold_long E b w' (S.grow hg)
 have CTF:Hid (∀w' F (c:Int) p,w.grownBy w' none->1<=c->c<=5->w'.heap[F]?=some (.cells #[.int .i64 (p:Nat),.iface (E c).1 (E c).2] 69 (0,0))->Calls Tryz.prog 16 #[.iface 65 (.pointer (some ⟨F,0,none⟩))] w' fun e w''=>e=.returned (.tuple #[.int .i64 c,.int .i64 (p:Nat)])/\w'.grownBy w'' none):=fun w' F c p hg h1 h2 hF=>by
  have G1:Gl w' w.heap.size E:=G.bel (gb_below hg)
  have hsz:=hg.size
  exact tTold_fault E b w' F c p ⟨G1.es,⟨Nat.lt_of_lt_of_le G1.lo.te hsz,Nat.lt_of_lt_of_le G1.lo.ra hsz,Nat.lt_of_lt_of_le G1.lo.ma hsz,Nat.lt_of_lt_of_le G1.lo.tw hsz⟩,G1.tabs,Nat.lt_of_lt_of_le G1.t3 hsz,Nat.lt_of_lt_of_le G1.t4 hsz⟩ (S.grow hg) h1 h2 hF
 have HE1:Hid (E 1=(235,.pointer (some (b 1)))):=S.ptr 1 (by decide) (by decide)
 obtain ⟨X,hX⟩:∃X,rdToml s.data.toList=X:=⟨_,rfl⟩
 rw [hX] at CR HER ⊢
 clear G S hX
 go_enter Tryz.func7,Tryz.ntmps7
 go_wp2_with (first | (go_at_call 15;refine CR.out.mono ?_))
 rintro e w2 ⟨h1,h2,hg2⟩
 have HG2:Hid (w.grownBy w2 none):=hg2
 clear hg2
 match X,h1,h2,HER with
 | .ok ns,h1,_,_ =>
  obtain ⟨N,c,M,T,xs,ks,now,n,f,rfl,hD⟩:=h1 ns rfl
  have HD:Hid (TrD w2 w.heap.size T ns now N c M xs ks n f):=hD
  clear h1 h2 hD
  go_wp2
  refine bodyPost_ret (results_tmp3 (t:=2) (u:=3) (v:=4) rfl _ _ _) rfl ?_
  exact ⟨fun ns' hh=>(by injection hh with hh;subst hh;exact ⟨N,c,M,T,xs,ks,now,n,f,rfl,HD.out⟩),fun c p hh=>(by cases hh),HG2.out⟩
 | .error (c,p),_,h2,HER =>
  obtain ⟨v,rfl,hor⟩:=h2 c p rfl
  have hrg:=HER.out c p rfl
  rcases hor with ⟨hc1,hv⟩ | ⟨F,hv,hF⟩
  ·obtain ⟨-,hp0⟩:c=1/\p=0:=by rcases hrg with h | h;exact h;omega
   subst hc1 hp0
   have CT:Hid (Calls Tryz.prog 16 #[.iface 235 (.pointer (some (b 1)))] w2 fun e w''=>e=.returned (.tuple #[.int .i64 1,.int .i64 0])/\w2.grownBy w'' none):=by
    have:=CTL.out w2 HG2.out
    rw [HE1.out] at this
    exact this
   rw [HE1.out] at hv
   obtain rfl:=hv
   clear h1 h2 hrg CTF CTL
   go_wp2_with (first | (go_at_call 16;refine CT.out.mono ?_;rintro e w3 ⟨rfl,hg3⟩))
   refine bodyPost_ret (results_tmp3 (t:=2) (u:=3) (v:=4) rfl _ _ _) rfl ?_
   exact ⟨fun ns' hh=>(by cases hh),fun c p hh=>(by cases hh;rfl),gb_trans HG2.out hg3⟩
  ·have CT:Hid (Calls Tryz.prog 16 #[.iface 65 (.pointer (some ⟨F,0,none⟩))] w2 fun e w''=>e=.returned (.tuple #[.int .i64 c,.int .i64 (p:Nat)])/\w2.grownBy w'' none):=CTF.out w2 F c p HG2.out (by omega) (by omega) hF
   obtain rfl:=hv
   clear h1 h2 hrg CTF CTL hF
   go_wp2_with (first | (go_at_call 16;refine CT.out.mono ?_;rintro e w3 ⟨rfl,hg3⟩))
   refine bodyPost_ret (results_tmp3 (t:=2) (u:=3) (v:=4) rfl _ _ _) rfl ?_
   exact ⟨fun ns' hh=>(by cases hh),fun c' p' hh=>(by injection hh with hh;injection hh with e1 e2;subst e1 e2;rfl),gb_trans HG2.out hg3⟩
end Go.Proofs.YtbgnflcebafjjaaGreatDoor
namespace Go.Proofs.YtbgnflcebafjjaaGreatDoor
open Go.RowKit Go.Maps Go.WideMaps Go.Joins
set_option linter.unusedVariables false
def NuS (w:World) (v:Value) (l:List Nat):Prop:=∃o c,v=.slice o l.length c/\∀i (hi:i < l.length),∃g,o=some ⟨g,0,none⟩/\w.cell? ⟨g,i,none⟩=some (.int .i64 (l[i]:Nat))
theorem NuS.of {w:World} {B:Nat} {v:Value} {l:List Nat} (h:w.ownsRow B 3 1 v l.length (l.map fun q=>.int .i64 (q:Nat))):NuS w v l:=by
 obtain ⟨o,c,hv⟩:=own_slice h
 refine ⟨o,c,hv,fun i hi=>?_⟩
 rw [hv] at h
 rcases h.2 with ⟨e1,e2⟩ | ⟨g,cap,cur,e1,_⟩
 ·omega
 ·injection e1 with e1 _ _
  refine ⟨g,e1,?_⟩
  have:=h.cells (g:=g) (by rw [e1];rfl) i (.int .i64 (l[i]:Nat)) (by rw [List.getElem?_map,List.getElem?_eq_getElem hi];rfl)
  rw [zero_off] at this
  exact this
set_option maxRecDepth 100000 in
set_option maxHeartbeats 1600000 in
theorem lSame_any (w:World) (va vb:Value) (la lb:List Nat) (ha:NuS w va la) (hb:NuS w vb lb) (h1:la.length<=1000000) (h2:lb.length<=1000000) :
  Calls Tryz.prog 19 #[va,vb] w fun e w'=>e=.returned (.bool (decide (la=lb)))/\w.grownBy w' none:=by
 obtain ⟨oa,ca,rfl,HA⟩:=ha
 obtain ⟨ob,cb,rfl,HB⟩:=hb
 have HAh:Hid (∀i (hi:i < la.length),∃g,oa=some ⟨g,0,none⟩/\w.cell? ⟨g,i,none⟩=some (.int .i64 (la[i]:Nat))):=HA
 have HBh:Hid (∀i (hi:i < lb.length),∃g,ob=some ⟨g,0,none⟩/\w.cell? ⟨g,i,none⟩=some (.int .i64 (lb[i]:Nat))):=HB
 obtain ⟨r,hr⟩:∃r,decide (la=lb)=r:=⟨_,rfl⟩
 have HR:Hid (decide (la=lb)=r):=hr
 rw [hr]
 obtain ⟨m,hm⟩:∃m,la.length=m:=⟨_,rfl⟩
 obtain ⟨n,hn⟩:∃n,lb.length=n:=⟨_,rfl⟩
 have HM:Hid (la.length=m/\lb.length=n):=⟨hm,hn⟩
 rw [hm] at h1 ⊢
 rw [hn] at h2 ⊢
 clear HA HB hr hm hn
 by_cases hmn:m=n
 ·subst hmn
  have hbe:((m:Int) != (m:Int))=false:=by simp
  go_enter Tryz.func19,Tryz.ntmps19
  go_wp2
  go_loopw [5] (fun vi wr=>∃i:Nat,vi=.int .i64 (i:Nat)/\i<=m/\(∀j (hj:j < la.length) (hj':j < lb.length),j < i->la[j]=lb[j])/\w.grownBy wr none) (fun vi _=>m - (intOf vi).toNat)
  case atStart=>exact ⟨0,rfl,by omega,fun j _ _ h=>absurd h (by omega),gb_refl _ _⟩
  case round =>
   obtain ⟨i,rfl,hi,hpre,hg⟩:=hrel
   have HG:Hid (w.grownBy _ none):=hg
   have HP:Hid (∀j (hj:j < la.length) (hj':j < lb.length),j < i->la[j]=lb[j]):=hpre
   clear hpre
   by_cases hlt:i < m
   ·have hia:i < la.length:=by rw [HM.out.1];exact hlt
    have hib:i < lb.length:=by rw [HM.out.2];exact hlt
    obtain ⟨ga,ea,ca'⟩:=HAh.out i hia
    obtain ⟨gb,eb,cb'⟩:=HBh.out i hib
    have da:=hg.cell ca' (by simp)
    have db:=hg.cell cb' (by simp)
    subst ea eb
    obtain ⟨x,hx⟩:∃x,la[i]=x:=⟨_,rfl⟩
    obtain ⟨y,hy⟩:∃y,lb[i]=y:=⟨_,rfl⟩
    have HXY:Hid (la[i]=x/\lb[i]=y):=⟨hx,hy⟩
    rw [hx] at da
    rw [hy] at db
    clear ca' cb' hx hy hg
    by_cases hxy:x=y
    ·have hb':((x:Int) != (y:Int))=false:=by simp [hxy]
     have HP2:Hid (∀j (hj:j < la.length) (hj':j < lb.length),j < i+1->la[j]=lb[j]):=fun j hj hj' hji=>by
      by_cases h:j < i
      ·exact HP.out j hj hj' h
      ·have e:j=i:=by omega
       subst e
       rw [HXY.out.1,HXY.out.2,hxy]
     clear hxy
     go_wp2
     go_quiet (fail)
     go_wp2
     refine ⟨⟨i+1,by go_num,by omega,HP2.out,gb_drew HG.out _⟩,?_⟩
     simp [intOf]
     omega
    ·have hb':((x:Int) != (y:Int))=true:=by simp;omega
     have HRR:Hid (r=false):=by
      show r=_
      rw [<-HR.out]
      exact decide_eq_false fun e=>hxy (by
       have e1:=HXY.out.1
       have e2:=HXY.out.2
       subst e
       rw [<-e1,<-e2])
     clear hxy
     go_wp2
     go_quiet (fail)
     go_wp2
     go_ret
     exact ⟨ret_bool HRR.out.symm,gb_drew HG.out _⟩
   ·have HRR:Hid (r=true):=by
     show r=_
     rw [<-HR.out]
     refine decide_eq_true (List.ext_getElem (by rw [HM.out.1,HM.out.2]) fun j hj hj'=>HP.out j hj hj' (by rw [HM.out.1] at hj;omega))
    have hge:m<=i:=by omega
    go_wp2
    go_ret
    exact ⟨ret_bool HRR.out.symm,HG.out⟩
 ·have hbe:((m:Int) != (n:Int))=true:=by simp;omega
  have HRR:Hid (r=false):=by
   show r=_
   rw [<-HR.out]
   exact decide_eq_false fun e=>hmn (by rw [<-HM.out.1,<-HM.out.2,e])
  rw [HRR.out]
  clear hmn
  go_enter Tryz.func19,Tryz.ntmps19
  go_wp2
  go_ret
  exact ⟨rfl,gb_refl _ _⟩
end Go.Proofs.YtbgnflcebafjjaaGreatDoor
namespace Go.Proofs.YtbgnflcebafjjaaGreatDoor
open Go.RowKit Go.Maps Go.WideMaps Go.Joins
set_option linter.unusedVariables false
def NoS (w:World) (v:Value) (ns:List Tn):Prop:=∃o c,v=.slice o ns.length c/\∀i (hi:i < ns.length),∃g k,o=some ⟨g,0,none⟩/\w.cell? ⟨g,i * 6,none⟩=some (.int .i64 ns[i].kd)/\w.cell? ⟨g,i * 6+1,none⟩=some (.string ⟨ns[i].ky.toArray⟩)/\w.cell? ⟨g,i * 6+2,none⟩=some (.string ⟨ns[i].tx.toArray⟩)/\w.cell? ⟨g,i * 6+3,none⟩=some (.int .i64 ns[i].nu)/\w.cell? ⟨g,i * 6+4,none⟩=some k/\w.cell? ⟨g,i * 6+5,none⟩=some (.int .i64 (ns[i].pl:Nat))/\NuS w k ns[i].ks
theorem NuS.grow {w w':World} {v:Value} {l:List Nat} (h:NuS w v l) (hg:w.grownBy w' none):NuS w' v l:=by
 obtain ⟨o,c,hv,hc⟩:=h
 refine ⟨o,c,hv,fun i hi=>?_⟩
 obtain ⟨g,h1,h2⟩:=hc i hi
 exact ⟨g,h1,hg.cell h2 (by simp)⟩
set_option maxRecDepth 100000 in
set_option maxHeartbeats 1600000 in
theorem lNodes_same (w:World) (va vb:Value) (ns:List Tn) (ha:NoS w va ns) (hb:NoS w vb ns) (h1:ns.length<=1000000) (h2:∀i (hi:i < ns.length),ns[i].ks.length<=1000000) :
  Calls Tryz.prog 9 #[va,vb] w fun e w'=>e=.returned (.bool true)/\w.grownBy w' none:=by
 obtain ⟨oa,ca,rfl,HA⟩:=ha
 obtain ⟨ob,cb,rfl,HB⟩:=hb
 have HAh:Hid (∀i (hi:i < ns.length),∃g k,oa=some ⟨g,0,none⟩/\w.cell? ⟨g,i * 6,none⟩=some (.int .i64 ns[i].kd)/\w.cell? ⟨g,i * 6+1,none⟩=some (.string ⟨ns[i].ky.toArray⟩)/\w.cell? ⟨g,i * 6+2,none⟩=some (.string ⟨ns[i].tx.toArray⟩)/\w.cell? ⟨g,i * 6+3,none⟩=some (.int .i64 ns[i].nu)/\w.cell? ⟨g,i * 6+4,none⟩=some k/\w.cell? ⟨g,i * 6+5,none⟩=some (.int .i64 (ns[i].pl:Nat))/\NuS w k ns[i].ks):=HA
 have HBh:Hid (∀i (hi:i < ns.length),∃g k,ob=some ⟨g,0,none⟩/\w.cell? ⟨g,i * 6,none⟩=some (.int .i64 ns[i].kd)/\w.cell? ⟨g,i * 6+1,none⟩=some (.string ⟨ns[i].ky.toArray⟩)/\w.cell? ⟨g,i * 6+2,none⟩=some (.string ⟨ns[i].tx.toArray⟩)/\w.cell? ⟨g,i * 6+3,none⟩=some (.int .i64 ns[i].nu)/\w.cell? ⟨g,i * 6+4,none⟩=some k/\w.cell? ⟨g,i * 6+5,none⟩=some (.int .i64 (ns[i].pl:Nat))/\NuS w k ns[i].ks):=HB
 have H2:Hid (∀i (hi:i < ns.length),ns[i].ks.length<=1000000):=h2
 obtain ⟨m,hm⟩:∃m,ns.length=m:=⟨_,rfl⟩
 have HM:Hid (ns.length=m):=hm
 rw [hm] at h1 ⊢
 clear HA HB h2 hm
 have hbe:((m:Int) != (m:Int))=false:=by simp
 go_enter Tryz.func9,Tryz.ntmps9
 go_wp2
 go_loopw [5] (fun vi wr=>∃i:Nat,vi=.int .i64 (i:Nat)/\i<=m/\w.grownBy wr none) (fun vi _=>m - (intOf vi).toNat)
 case atStart=>exact ⟨0,rfl,by omega,gb_refl _ _⟩
 case round =>
  obtain ⟨i,rfl,hi,hg⟩:=hrel
  have HG:Hid (w.grownBy _ none):=hg
  by_cases hlt:i < m
  ·have hin:i < ns.length:=by rw [HM.out];exact hlt
   obtain ⟨ga,ka,ea,a0,a1,a2,a3,a4,a5,a6⟩:=HAh.out i hin
   obtain ⟨gb,kb,eb,b0,b1,b2,b3,b4,b5,b6⟩:=HBh.out i hin
   have HL:=H2.out i hin
   subst ea eb
   have CS:Hid (∀w',w.grownBy w' none->Calls Tryz.prog 19 #[ka,kb] w' fun e w''=>e=.returned (.bool true)/\w'.grownBy w'' none):=fun w' hg=>by
    have:=lSame_any w' ka kb ns[i].ks ns[i].ks (a6.grow hg) (b6.grow hg) HL HL
    rw [decide_eq_true rfl] at this
    exact this
   obtain ⟨oka,cka,rfl,-⟩:=a6
   obtain ⟨okb,ckb,rfl,-⟩:=b6
   obtain ⟨M,hM⟩:∃M,ns[i].ks.length=M:=⟨_,rfl⟩
   obtain ⟨x,hx⟩:∃x,ns[i]=x:=⟨_,rfl⟩
   have A0:=hg.cell a0 (by simp)
   have A1:=hg.cell a1 (by simp)
   have A2:=hg.cell a2 (by simp)
   have A3:=hg.cell a3 (by simp)
   have A4:=hg.cell a4 (by simp)
   have A5:=hg.cell a5 (by simp)
   have B0:=hg.cell b0 (by simp)
   have B1:=hg.cell b1 (by simp)
   have B2:=hg.cell b2 (by simp)
   have B3:=hg.cell b3 (by simp)
   have B4:=hg.cell b4 (by simp)
   have B5:=hg.cell b5 (by simp)
   rw [hM] at A4 B4 CS
   rw [hx] at A0 A1 A2 A3 A5 B0 B1 B2 B3 B5
   obtain ⟨kd,ky,tx,nu,kk,pl⟩:=x
   simp only [] at A0 A1 A2 A3 A5 B0 B1 B2 B3 B5
   clear a0 a1 a2 a3 a4 a5 b0 b1 b2 b3 b4 b5 hM hx hg HL hin
   have z1:(kd != kd)=false:=by simp
   have z2:(nu != nu)=false:=by simp
   have z3:((pl:Int) != (pl:Int))=false:=by simp
   have BA0:=(World.grownBy_alloc wr (.cells #[.int .i64 kd,.string ⟨ky.toArray⟩,.string ⟨tx.toArray⟩,.int .i64 nu,.slice oka M cka,.int .i64 (pl:Nat)] 33) none).cell B0 (by simp)
   have BA1:=(World.grownBy_alloc wr (.cells #[.int .i64 kd,.string ⟨ky.toArray⟩,.string ⟨tx.toArray⟩,.int .i64 nu,.slice oka M cka,.int .i64 (pl:Nat)] 33) none).cell B1 (by simp)
   have BA2:=(World.grownBy_alloc wr (.cells #[.int .i64 kd,.string ⟨ky.toArray⟩,.string ⟨tx.toArray⟩,.int .i64 nu,.slice oka M cka,.int .i64 (pl:Nat)] 33) none).cell B2 (by simp)
   have BA3:=(World.grownBy_alloc wr (.cells #[.int .i64 kd,.string ⟨ky.toArray⟩,.string ⟨tx.toArray⟩,.int .i64 nu,.slice oka M cka,.int .i64 (pl:Nat)] 33) none).cell B3 (by simp)
   have BA4:=(World.grownBy_alloc wr (.cells #[.int .i64 kd,.string ⟨ky.toArray⟩,.string ⟨tx.toArray⟩,.int .i64 nu,.slice oka M cka,.int .i64 (pl:Nat)] 33) none).cell B4 (by simp)
   have BA5:=(World.grownBy_alloc wr (.cells #[.int .i64 kd,.string ⟨ky.toArray⟩,.string ⟨tx.toArray⟩,.int .i64 nu,.slice oka M cka,.int .i64 (pl:Nat)] 33) none).cell B5 (by simp)
   have HGW:Hid (w.grownBy ((wr.alloc (.cells #[.int .i64 kd,.string ⟨ky.toArray⟩,.string ⟨tx.toArray⟩,.int .i64 nu,.slice oka M cka,.int .i64 (pl:Nat)] 33)).alloc (.cells #[.int .i64 kd,.string ⟨ky.toArray⟩,.string ⟨tx.toArray⟩,.int .i64 nu,.slice okb M ckb,.int .i64 (pl:Nat)] 53)) none):=gb_trans (gb_trans HG.out (World.grownBy_alloc _ _ none)) (World.grownBy_alloc _ _ none)
   have hbA:((wr.alloc (.cells #[.int .i64 kd,.string ⟨ky.toArray⟩,.string ⟨tx.toArray⟩,.int .i64 nu,.slice oka M cka,.int .i64 (pl:Nat)] 33)).alloc (.cells #[.int .i64 kd,.string ⟨ky.toArray⟩,.string ⟨tx.toArray⟩,.int .i64 nu,.slice okb M ckb,.int .i64 (pl:Nat)] 53)).heap[wr.heap.size]?=some (.cells #[.int .i64 kd,.string ⟨ky.toArray⟩,.string ⟨tx.toArray⟩,.int .i64 nu,.slice oka M cka,.int .i64 (pl:Nat)] 33 (0,0)):=((World.grownBy_alloc (wr.alloc (.cells #[.int .i64 kd,.string ⟨ky.toArray⟩,.string ⟨tx.toArray⟩,.int .i64 nu,.slice oka M cka,.int .i64 (pl:Nat)] 33)) (.cells #[.int .i64 kd,.string ⟨ky.toArray⟩,.string ⟨tx.toArray⟩,.int .i64 nu,.slice okb M ckb,.int .i64 (pl:Nat)] 53) none).block wr.heap.size (by rw [World.size_alloc];omega) (by simp)).trans (heap_alloc_new wr (.cells #[.int .i64 kd,.string ⟨ky.toArray⟩,.string ⟨tx.toArray⟩,.int .i64 nu,.slice oka M cka,.int .i64 (pl:Nat)] 33))
   have hbB:((wr.alloc (.cells #[.int .i64 kd,.string ⟨ky.toArray⟩,.string ⟨tx.toArray⟩,.int .i64 nu,.slice oka M cka,.int .i64 (pl:Nat)] 33)).alloc (.cells #[.int .i64 kd,.string ⟨ky.toArray⟩,.string ⟨tx.toArray⟩,.int .i64 nu,.slice okb M ckb,.int .i64 (pl:Nat)] 53)).heap[wr.heap.size+1]?=some (.cells #[.int .i64 kd,.string ⟨ky.toArray⟩,.string ⟨tx.toArray⟩,.int .i64 nu,.slice okb M ckb,.int .i64 (pl:Nat)] 53 (0,0)):=by
    have:=heap_alloc_new (wr.alloc (.cells #[.int .i64 kd,.string ⟨ky.toArray⟩,.string ⟨tx.toArray⟩,.int .i64 nu,.slice oka M cka,.int .i64 (pl:Nat)] 33)) (.cells #[.int .i64 kd,.string ⟨ky.toArray⟩,.string ⟨tx.toArray⟩,.int .i64 nu,.slice okb M ckb,.int .i64 (pl:Nat)] 53)
    rw [World.size_alloc] at this
    exact this
   have HBA:Hid (((wr.alloc (.cells #[.int .i64 kd,.string ⟨ky.toArray⟩,.string ⟨tx.toArray⟩,.int .i64 nu,.slice oka M cka,.int .i64 (pl:Nat)] 33)).alloc (.cells #[.int .i64 kd,.string ⟨ky.toArray⟩,.string ⟨tx.toArray⟩,.int .i64 nu,.slice okb M ckb,.int .i64 (pl:Nat)] 53)).heap[wr.heap.size]?=some (.cells #[.int .i64 kd,.string ⟨ky.toArray⟩,.string ⟨tx.toArray⟩,.int .i64 nu,.slice oka M cka,.int .i64 (pl:Nat)] 33 (0,0))):=hbA
   have HBB:Hid (((wr.alloc (.cells #[.int .i64 kd,.string ⟨ky.toArray⟩,.string ⟨tx.toArray⟩,.int .i64 nu,.slice oka M cka,.int .i64 (pl:Nat)] 33)).alloc (.cells #[.int .i64 kd,.string ⟨ky.toArray⟩,.string ⟨tx.toArray⟩,.int .i64 nu,.slice okb M ckb,.int .i64 (pl:Nat)] 53)).heap[wr.heap.size+1]?=some (.cells #[.int .i64 kd,.string ⟨ky.toArray⟩,.string ⟨tx.toArray⟩,.int .i64 nu,.slice okb M ckb,.int .i64 (pl:Nat)] 53 (0,0))):=hbB
   have y1:(ky == ky)=true:=by simp
   have y2:(tx == tx)=true:=by simp
   clear hbA hbB
   go_wp2_with (first | (go_at_call 19;refine (CS.out _ HGW.out).mono ?_))
   rintro e w5 ⟨rfl,hg5⟩
   have HG5:Hid (w.grownBy w5 none):=gb_trans HGW.out hg5
   have pA:=(hg5.block _ (blk_lt HBA.out) (by simp)).trans HBA.out
   have pB:=(hg5.block _ (blk_lt HBB.out) (by simp)).trans HBB.out
   have p0:w5.cell? ⟨wr.heap.size,0,none⟩=some (.int .i64 kd):=by rw [Lib.cell_of_heap pA];rfl
   have r0:w5.cell? ⟨wr.heap.size+1,0,none⟩=some (.int .i64 kd):=by rw [Lib.cell_of_heap pB];rfl
   have p1:w5.cell? ⟨wr.heap.size,1,none⟩=some (.string ⟨ky.toArray⟩):=by rw [Lib.cell_of_heap pA];rfl
   have r1:w5.cell? ⟨wr.heap.size+1,1,none⟩=some (.string ⟨ky.toArray⟩):=by rw [Lib.cell_of_heap pB];rfl
   have p2:w5.cell? ⟨wr.heap.size,2,none⟩=some (.string ⟨tx.toArray⟩):=by rw [Lib.cell_of_heap pA];rfl
   have r2:w5.cell? ⟨wr.heap.size+1,2,none⟩=some (.string ⟨tx.toArray⟩):=by rw [Lib.cell_of_heap pB];rfl
   have p3:w5.cell? ⟨wr.heap.size,3,none⟩=some (.int .i64 nu):=by rw [Lib.cell_of_heap pA];rfl
   have r3:w5.cell? ⟨wr.heap.size+1,3,none⟩=some (.int .i64 nu):=by rw [Lib.cell_of_heap pB];rfl
   have p5:w5.cell? ⟨wr.heap.size,5,none⟩=some (.int .i64 (pl:Nat)):=by rw [Lib.cell_of_heap pA];rfl
   have r5:w5.cell? ⟨wr.heap.size+1,5,none⟩=some (.int .i64 (pl:Nat)):=by rw [Lib.cell_of_heap pB];rfl
   clear hg5 pA pB
   go_wp2
   refine ⟨⟨i+1,by go_num,by omega,HG5.out⟩,?_⟩
   simp [intOf]
   omega
  ·have hge:m<=i:=by omega
   go_wp2
   go_ret
   exact ⟨rfl,HG.out⟩
end Go.Proofs.YtbgnflcebafjjaaGreatDoor
namespace Go.Proofs.YtbgnflcebafjjaaGreatDoor
open Go.RowKit Go.Maps Go.WideMaps Go.Joins
set_option linter.unusedVariables false
theorem stp_er {ns:List Tn} {t p:Nat} {k:List UInt8} {c:Int × Nat} (h:stp ns t k p=.error c):c=(5,p):=by
 unfold stp at h
 split at h
 ·cases h
 ·split at h
  ·cases h
  ·split at h
   ·split at h
    ·cases h
    ·cases h;rfl
   ·cases h;rfl
theorem endT_er {ns:List Tn} {own:List Nat} {t p:Nat} {k:List UInt8} {c:Int × Nat} (h:endT ns own t k p=.error c):c=(5,p):=by
 unfold endT at h
 split at h
 ·cases h
 ·split at h
  ·cases h
  ·cases h;rfl
theorem endL_er {ns:List Tn} {t p:Nat} {k:List UInt8} {c:Int × Nat} (h:endL ns t k p=.error c):c=(5,p):=by
 unfold endL at h
 split at h
 ·cases h
 ·split at h
  ·cases h
  ·cases h;rfl
section
variable {w w':World} {B P P' R:Nat} {s:ByteArray} {now de:Nat} {q:Rs Nat} {ns:List Tn} {own:List Nat}
theorem Dt.toP (h:Dt w B P R s now de q ns own) (hP:P' < B):Dt w B P' R s now de q ns own:=by
 have hb:=h.base
 obtain ⟨h1,h2,N,c,O,oc,xs,ks,h3,h4,h5,h6⟩:=h
 have n1:=(own_typ h5.row (g:=N) rfl).1
 have n2:=(own_typ h5.owr (g:=O) rfl).1
 refine ⟨h1,by omega,N,c,O,oc,xs,ks,by omega,by omega,h5.far2 (by omega) fun i hi e=>?_,h6⟩
 have:=(own_typ (h5.kid i hi) e).1
 omega
theorem DFr.toP (h:DFr B P w w') (hP:P' < B):DFr B P' w w':=⟨h.bel,h.oth,h.bel.block P' hP⟩
theorem Fq.toP {e:Int × Nat} (h:Fq w B P R s now de e) (hP:P' < B):Fq w B P' R s now de e:=by
 obtain ⟨L,O,h1,h2,h3,h4⟩:=h
 obtain ⟨i,er,p,hd⟩:=h1.dd
 have:=blk_lt hd
 exact ⟨L,O,h1,h2,by omega,by omega⟩
end
def ksC (l:List (List UInt8 × Nat)):List Value:=l.map fun x=>.string ⟨x.1.toArray⟩
def plC (l:List (List UInt8 × Nat)):List Value:=l.map fun x=>.int .i64 (x.2:Nat)
theorem ksC_app (l:List (List UInt8 × Nat)) (x:List UInt8 × Nat):ksC (l++[x])=ksC l++[.string ⟨x.1.toArray⟩]:=by simp [ksC]
theorem plC_app (l:List (List UInt8 × Nat)) (x:List UInt8 × Nat):plC (l++[x])=plC l++[.int .i64 (x.2:Nat)]:=by simp [plC]
theorem ksC_at (l:List (List UInt8 × Nat)) (i:Nat) (hi:i < l.length):(ksC l)[i]?=some (.string ⟨l[i].1.toArray⟩):=by simp [ksC,hi]
theorem plC_at (l:List (List UInt8 × Nat)) (i:Nat) (hi:i < l.length):(plC l)[i]?=some (.int .i64 (l[i].2:Nat)):=by simp [plC,hi]
theorem Dt.places {w w':World} {B P R:Nat} {s:ByteArray} {now de j j' g:Nat} {ns:List Tn} {own:List Nat} (h:Dt w B P R s now de (.ok j) ns own) (hg:w.grownBy w' (some R)) (hs:∀L O,Ds w R s L O now de (.ok j)->Ds w' R s L O now de (.ok j')) (h1:w.heap.size<=g) (h2:g < w'.heap.size):Dt w' B g R s now de (.ok j') ns own:=by
 have hb:=h.base
 obtain ⟨a1,a2,N,c,O,oc,xs,ks,a3,a4,a5,a6⟩:=h
 obtain ⟨cn,hn⟩:=(own_typ a5.row (g:=N) rfl).2
 obtain ⟨co,ho⟩:=(own_typ a5.owr (g:=O) rfl).2
 have n1:=blk_lt hn
 have n2:=blk_lt ho
 refine ⟨a1,by omega,N,c,O,oc,xs,ks,by omega,by omega,(a5.keepR a6.2 hg).far2 h2 fun i hi e=>?_,hs _ _ a6⟩
 obtain ⟨cc,hcc⟩:=(own_typ (a5.kid i hi) e).2
 have:=blk_lt hcc
 omega
theorem Ds.uni {w:World} {R:Nat} {s:ByteArray} {L O L' O':Value} {now de i:Nat} (h:Ds w R s L O now de (.ok i)) (h':Ds w R s L' O' now de (.ok i)):L=L'/\O=O':=by
 obtain ⟨-,-,a,b,-⟩:=h.2.cells
 obtain ⟨-,-,a',b',-⟩:=h'.2.cells
 rw [a] at a'
 rw [b] at b'
 exact ⟨Option.some.inj a',Option.some.inj b'⟩
theorem Dt.owns {w:World} {B P R:Nat} {s:ByteArray} {now de j:Nat} {ns:List Tn} {own:List Nat} (h:Dt w B P R s now de (.ok j) ns own) (t:Nat) (ht:t < ns.length):∃O oc v,w.cell? ⟨R,3,none⟩=some (.slice (some ⟨O,0,none⟩) ns.length oc)/\w.cell? ⟨O,t,none⟩=some v/\w.frozen? ⟨O,t,none⟩=false ∧
  (w.setCell ⟨O,t,none⟩ (.bool true)).cell? ⟨R,4,none⟩=some (.int .i64 (now:Nat))/\(w.setCell ⟨O,t,none⟩ (.bool true)).frozen? ⟨R,4,none⟩=false ∧
  Dt ((w.setCell ⟨O,t,none⟩ (.bool true)).setCell ⟨R,4,none⟩ (.int .i64 (t:Nat))) B P R s t de (.ok j) ns (t :: own)/\DFr B P w ((w.setCell ⟨O,t,none⟩ (.bool true)).setCell ⟨R,4,none⟩ (.int .i64 (t:Nat))):=by
 obtain ⟨hb1,hb2,hb3⟩:=h.base
 obtain ⟨h1,h2,N,c,O,oc,xs,ks,h3,h4,h5,h6⟩:=h
 obtain ⟨f1,f2⟩:=h5.flagAt t ht
 obtain ⟨-,-,-,c3,-⟩:=h6.2.cells
 obtain ⟨hOB,cu,hO⟩:=own_typ h5.owr (g:=O) rfl
 have hRO:¬ R=O:=ne_typ h6.2 hO (by decide)
 have m5:=h5.mark t ht
 have d6:=h6.other (gb_setc w O t (.bool true)) hRO
 obtain ⟨-,-,-,-,e4,-,-,-,ef⟩:=d6.2.cells
 have fr1:DFr B P w (w.setCell ⟨O,t,none⟩ (.bool true)):=DFr.row (gb_setc w O t (.bool true)) hb1 hb2 hOB h4 hO (Or.inr (Or.inr (Or.inr rfl)))
 have fr2:DFr B P (w.setCell ⟨O,t,none⟩ (.bool true)) ((w.setCell ⟨O,t,none⟩ (.bool true)).setCell ⟨R,4,none⟩ (.int .i64 (t:Nat))):=dfr_R d6 h1 h2 m5.hP (gb_setc _ R 4 _)
 exact ⟨O,oc,_,c3,f1,f2,e4,ef 4,⟨h1,h2,N,c,O,oc,xs,ks,h3,h4,m5.keepR d6.2 (gb_setc _ R 4 _),d6.setN t⟩,fr1.two fr2⟩
end Go.Proofs.YtbgnflcebafjjaaGreatDoor
