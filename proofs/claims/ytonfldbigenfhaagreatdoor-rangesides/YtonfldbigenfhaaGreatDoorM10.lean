import Derived.Test.YtonfldbigenfhaaGreatDoorM09
import Derived.Deep.OwnRows
import Derived.Deep.RegionHeld3
namespace Go.Proofs.YtonfldbigenfhaaGreatDoor
open Go.RowKit
set_option linter.unusedVariables false
theorem infoInt:(Tryz.prog.info? 3).map (fun i=>(i.zero,i.size,i.bytes))=some (some (.int .i64 0),1,8):=by kernel_rfl
def BegunAt (w:World) (B n:Nat) (b:Nat->Int):Prop:=w.heap[B]?=some (.cells ((List.range n).map fun j=>Value.int .i64 (b j)).toArray 3 (0,0))
theorem BegunAt.cell {w:World} {B n:Nat} {b:Nat->Int} (h:BegunAt w B n b) {j:Nat} (hj:j < n):w.cell? ⟨B,j,none⟩=some (.int .i64 (b j)):=by
 rw [Lib.cell_of_heap h];simp [hj]
theorem BegunAt.f {w:World} {B n:Nat} {b:Nat->Int} (h:BegunAt w B n b) (j:Nat):w.frozen? ⟨B,j,none⟩=false:=Lib.frozen_of_heap h j
theorem BegunAt.set {w:World} {B n:Nat} {b:Nat->Int} (h:BegunAt w B n b) {l:Nat} (hl:l < n) (d:Int):BegunAt (w.setCell ⟨B,l,none⟩ (.int .i64 (b l+d))) B n (upd b l d):=by
 unfold BegunAt at h ⊢
 simp only [World.setCell,Array.getElem?_modify,h,if_true,Option.map_some]
 congr 2
 apply Array.ext'
 apply List.ext_getElem?
 intro k
 simp only [Option.isSome_none,Bool.false_eq_true,if_false]
 rw [Array.toList_setIfInBounds]
 simp only [List.getElem?_set,List.getElem?_map,List.length_map,List.length_range]
 by_cases hk:l=k
 ·subst hk
  simp [hl,upd]
 ·simp only [hk,if_false]
  by_cases hkn:k < n
  ·simp [hkn,upd]
   intro e
   exact absurd e.symm hk
  ·simp [hkn]
theorem BegunAt.grow {w w':World} {B n:Nat} {b:Nat->Int} {r:Option Nat} (h:BegunAt w B n b) (hg:w.grownBy w' r) (hn:some B ≠ r):BegunAt w' B n b:=by
 unfold BegunAt at h ⊢
 rw [hg.block B ((Array.getElem?_eq_some_iff.1 h).1) hn];exact h
theorem BegunAt.drew {w:World} {B n:Nat} {b:Nat->Int} (h:BegunAt w B n b) (m:Nat):BegunAt (w.drewN m) B n b:=h
theorem made_zero (n:Nat):madeCells #[Value.int .i64 0] n=((List.range n).map fun _=>Value.int .i64 0).toArray:=by
 apply Array.ext'
 simp [madeCells]
 intro a ha
 rw [Nat.mod_one];rfl
theorem own_down {w:World} {b b':Nat} {e:TypeId} {size:Nat} {v:Value} {n:Nat} {xs:List Value} (h:w.ownsRow b e size v n xs) (hb:b'<=b):w.ownsRow b' e size v n xs:=by
 refine ⟨h.1,?_⟩
 rcases h.2 with h | ⟨g,cap,cur,h1,h2,h3⟩
 ·exact Or.inl h
 ·exact Or.inr ⟨g,cap,cur,h1,Nat.le_trans hb h2,h3⟩
def SweepPost (ch:Int->Bool) (Ls:List (List Sp)) (w:World) (e:Ending) (w':World):Prop :=
 w.grownBy w' none/\((¬ Ls.all (·.all soundS)=true/\e=.returned (.tuple #[.slice none 0 0,.int .i64 2])) ∨
  (Ls.all (·.all soundS)=true/\∃(E:List Er) (vs:Value),E.Perm (erL 0 Ls)/\SortedE (E.map toEd)/\e=.returned (.tuple #[vs,.int .i64 0])/\SpS w' vs (outs (swT (fun b=>ch (having Ls.length b)) (fun _=>0) false (E.map toEd)))/\w'.ownsRow w.heap.size 37 11 vs (outs (swT (fun b=>ch (having Ls.length b)) (fun _=>0) false (E.map toEd))).length ((outs (swT (fun b=>ch (having Ls.length b)) (fun _=>0) false (E.map toEd))).flatMap spC)))
theorem keep15 {p0 p1 p2 p3 p4 p5 p6 p7 p8 p9:Addr} {c0 c1 c2 c3 c4 c5 c6 c7 c8 c9:Value} {w w':World} (hg:w.grownBy w' none) (h:w.cell? p0=some c0/\w.cell? p1=some c1/\w.cell? p2=some c2/\w.cell? p3=some c3/\w.cell? p4=some c4/\w.cell? p5=some c5/\w.cell? p6=some c6/\w.cell? p7=some c7/\w.cell? p8=some c8/\w.cell? p9=some c9):w'.cell? p0=some c0/\w'.cell? p1=some c1/\w'.cell? p2=some c2/\w'.cell? p3=some c3/\w'.cell? p4=some c4/\w'.cell? p5=some c5/\w'.cell? p6=some c6/\w'.cell? p7=some c7/\w'.cell? p8=some c8/\w'.cell? p9=some c9:=by
 obtain ⟨h0,h1,h2,h3,h4,h5,h6,h7,h8,h9⟩:=h
 exact ⟨hg.cell h0 (by simp),hg.cell h1 (by simp),hg.cell h2 (by simp),hg.cell h3 (by simp),hg.cell h4 (by simp),hg.cell h5 (by simp),hg.cell h6 (by simp),hg.cell h7 (by simp),hg.cell h8 (by simp),hg.cell h9 (by simp)⟩
def SwRel (ch:Int->Bool) (n B:Nat) (E:List Er) (w2:World) (vs vh von vi:Value) (wk:World):Prop :=
 ∃(i:Nat) (b:Nat->Int) (on:Bool) (T:List V),vi=.int .i64 i/\i<=E.length/\vh=.int .i64 (having n b)/\von=.bool on/\(∀j,-(i:Int)<=b j/\b j<=i) ∧
  swT (fun b=>ch (having n b)) (fun _=>0) false (E.map toEd)=T++swT (fun b=>ch (having n b)) b on ((E.map toEd).drop i)/\T.length<=i/\(T.length % 2=if on=true then 1 else 0) ∧
  BegunAt wk B n b/\wk.ownsRow w2.heap.size 37 11 vs (outs T).length ((outs T).flatMap spC)/\w2.grownBy wk (some B)
set_option maxRecDepth 100000 in
set_option maxHeartbeats 6400000 in
theorem sweep_some (hsort:SortSays) (a:Addr) (n cap:Nat) (Ls:List (List Sp)) (w:World) (hn:Ls.length=n) (hcap:n<=cap) (hn2:n<=2) (h:Lists w a Ls) (hsz:∀l ∈ Ls,l.length<=1048576/\∀s ∈ l,smallS s) :
  Calls Tryz.prog 49 #[.func (.func 50) #[] #[],.slice (some a) n cap] w (SweepPost (fun x=>decide (0 < x)) Ls w):=by
 have HA:Hid (Lists w a Ls):=h
 have HS:Hid (∀l ∈ Ls,l.length<=1048576/\∀s ∈ l,smallS s):=hsz
 have HN:Hid (Ls.length=n):=hn
 have CE:Hid (∀w,Lists w a Ls->Calls Tryz.prog 82 #[.slice (some a) n cap] w (EdgesPost Ls w)):=fun w h=>edgesOf_by hsort a n cap Ls w hn hcap hn2 h hsz
 have hmk:=run_make_row' (P:=Tryz.prog) 131 3 (.int .i64 0) 8 Tryz.underlying131 infoInt rfl .i64 .i64 n (by omega) (by omega)
 obtain ⟨ch,hch⟩:∃ch:Int->Bool,ch=fun x=>decide (0 < x):=⟨_,rfl⟩
 have HCH:Hid (ch=fun x=>decide (0 < x)):=hch
 rw [<-hch]
 clear h hsz hn hch
 go_enter Tryz.func49,Tryz.ntmps49
 go_wp2
 go_loopw [18] (fun vi wr=>∃j:Nat,vi=.int .i64 j/\j<=n/\(∀k (hk:k < Ls.length),k < j->Ls[k].all soundS=true)/\w.grownBy wr none) (fun vi _=>n - (intOf vi).toNat)
 case atStart=>exact ⟨0,rfl,Nat.zero_le _,fun k hk h=>absurd h (by omega),gb_refl _ _⟩
 case round =>
  obtain ⟨j,rfl,hj,hp,hg⟩:=hrel
  have HP:Hid (∀k (hk:k < Ls.length),k < j->Ls[k].all soundS=true):=hp
  have HG:Hid (w.grownBy wr none):=hg
  clear hp hg
  by_cases hlt:j < n
  ·have hjl:j < Ls.length:=by rw [HN.out];exact hlt
   obtain ⟨sl,hcell,hsp⟩:=HA.out j hjl
   have cj:wr.cell? (a.add j)=some sl:=HG.out.cell hcell (by simp)
   have CS:Hid (Calls Tryz.prog 81 #[sl] wr fun e w'=>e=.returned (.bool (Ls[j].all soundS))/\wr.grownBy w' none):=cSoundP sl Ls[j] wr (hsp.grow HG.out) (HS.out _ (List.getElem_mem hjl)).1 (HS.out _ (List.getElem_mem hjl)).2
   obtain ⟨b,hb⟩:∃b,Ls[j].all soundS=b:=⟨_,rfl⟩
   rw [hb] at CS
   have HB:Hid (Ls[j].all soundS=b):=hb
   clear hcell hsp hb
   go_wp2_with (first | (go_at_call 81;refine CS.out.mono ?_))
   rintro e w1 ⟨rfl,hg⟩
   replace HG:Hid (w.grownBy w1 none):=gb_trans HG.out hg
   clear hg cj
   cases b with
   | false =>
    go_wp2
    refine bodyPost_ret (results_tmp2 rfl _ _ _) rfl ⟨HG.out,Or.inl ⟨fun hall=>?_,rfl⟩⟩
    have:=List.all_eq_true.1 hall _ (List.getElem_mem hjl)
    rw [HB.out] at this
    exact absurd this (by decide)
   | true =>
    go_wp2
    go_roundw
    case rel =>
     refine ⟨j+1,by go_num,by omega,fun k hk hkj=>?_,HG.out⟩
     by_cases hkj':k < j
     ·exact HP.out k hk hkj'
     ·have e:k=j:=by omega
      subst e
      exact HB.out
    case measure=>simp [intOf];omega
  ·have HALL:Hid (Ls.all (·.all soundS)=true):=by
    show _=true
    rw [List.all_eq_true]
    intro l hl
    obtain ⟨k,hk,rfl⟩:=List.getElem_of_mem hl
    exact HP.out k hk (by rw [HN.out] at hk;omega)
   clear HP
   go_wp2_with (first | (go_at_call 82;refine (CE.out _ (HA.out.grow (gb_alloc HG.out _))).mono ?_))
   rintro e w2 ⟨ve,E,rfl,hp,hso,ho2,hb2⟩
   obtain ⟨B,hB⟩:∃B,wr.heap.size=B:=⟨_,rfl⟩
   have HBG:Hid (BegunAt w2 B n (fun _=>0)):=by
    show w2.heap[B]?=_
    rw [hb2.block B (by rw [<-hB];simp),<-hB,heap_alloc_new wr,made_zero]
   have hB2:B < w2.heap.size:=(Array.getElem?_eq_some_iff.1 HBG.out).1
   have HG2:Hid (w.grownBy w2 none):=gb_trans (gb_alloc HG.out _) (below_gb' hb2)
   have HWB:Hid (w.heap.size<=B):=by show _<=_;rw [<-hB];exact HG.out.size
   have HPE:Hid (E.Perm (erL 0 Ls)/\SortedE (E.map toEd)):=⟨hp,hso⟩
   have HEL:Hid (E.length<=8388608/\∀e ∈ E,e.l < n/\(e.d=1\/e.d=-1)/\e.a4.size<=1048576):=by
    show _/\_
    have hl:=erL_len Ls (fun l hl=>(HS.out l hl).1) 0
    rw [HN.out] at hl
    refine ⟨by rw [hp.length_eq];omega,fun e he=>?_⟩
    have he':e ∈ erL 0 Ls:=hp.mem_iff.1 he
    have h1:=er_in Ls 0 e he'
    have h2:=er_small Ls HS.out 0 e he'
    rw [HN.out] at h1
    exact ⟨by omega,h1.2.2,h2⟩
   have hbase:(wr.alloc (.cells (madeCells #[.int .i64 0] n) 3)).heap.size=B+1:=by rw [<-hB];simp
   rw [hbase] at ho2
   rw [hB]
   have hef:=edges_form ho2
   clear hB hb2 hp hso ho2 hbase HG hmk
   have FIN:Hid (∀(vs:Value) (T:List V) (wk:World),w2.grownBy wk (some B)->wk.ownsRow w2.heap.size 37 11 vs (outs T).length ((outs T).flatMap spC)->swT (fun b=>ch (having n b)) (fun _=>0) false (E.map toEd)=T->SweepPost ch Ls w (.returned (.tuple #[vs,.int .i64 0])) wk):=by
    intro vs T wk h1 h2 h3
    have h4:w.grownBy wk none:=⟨h1.os.trans HG2.out.os,h1.tape.trans HG2.out.tape,h1.output.trans HG2.out.output,Nat.le_trans HG2.out.size h1.size,fun k hk _=>(h1.block k (Nat.lt_of_lt_of_le hk HG2.out.size) (by have:=HWB.out;simp;omega)).trans (HG2.out.block k hk (by simp))⟩
    refine ⟨h4,Or.inr ⟨HALL.out,E,vs,HPE.out.1,HPE.out.2,rfl,?_⟩⟩
    rw [HN.out,h3]
    exact ⟨sps_own h2,own_down h2 HG2.out.size⟩
   rcases hef with ⟨rfl,hE⟩ | ⟨ga,capE,rfl,hcE,hga,hga2,hgs,hEd⟩
   ·have HE0:Hid (E=[]):=hE
    clear hE
    go_wp2
    go_loopw [8,9,10,33] (fun vs vh von vi wk=>vi=.int .i64 0/\vs=.slice none 0 0/\w2.grownBy wk (some B)) (fun _ _ _ vi _=>0)
    case atStart=>exact ⟨rfl,rfl,gb_refl _ _⟩
    case round =>
     obtain ⟨rfl,rfl,hgk⟩:=hrel
     have HF:Hid (SweepPost ch Ls w (.returned (.tuple #[.slice none 0 0,.int .i64 0])) wr):=FIN.out (.slice none 0 0) [] wr hgk (World.ownsRow_nil _ _ _ _) (by rw [HE0.out];rfl)
     clear hgk
     go_wp2
     exact bodyPost_ret (results_tmp2 (t:=4) (u:=5) rfl _ _ _) rfl HF.out
   ·have HED:Hid (∀i (hi:i < E.length),EdAt w2 (ga.add (i * 7)) E[i]):=hEd
    have HGA:Hid (B < ga.block/\ga.block < w2.heap.size/\ga.spot=none):=⟨by omega,hga2,hgs⟩
    clear hEd hga hga2 hgs
    go_wp2
    go_loopw [8,9,10,33] (fun vs vh von vi wk=>SwRel ch n B E w2 vs vh von vi wk) (fun _ _ _ vi _=>E.length - (intOf vi).toNat)
    case atStart=>exact ⟨0,fun _=>0,false,[],rfl,Nat.zero_le _,by rw [having_zero],rfl,fun _=>by simp,rfl,Nat.le_refl _,rfl,HBG.out,World.ownsRow_nil _ _ _ _,gb_refl _ _⟩
    case round =>
     obtain ⟨i,b,on,T,rfl,hi,rfl,rfl,hbb,hT,hTi,hTp,hbg,how,hgw⟩:=hrel
     by_cases hlt:i < E.length
     ·obtain ⟨er,her⟩:∃er,E[i]=er:=⟨_,rfl⟩
      have HE:Hid (EdAt wr (ga.add (i * 7)) er):=by
       show EdAt wr _ er
       rw [<-her]
       exact (HED.out i hlt).grow hgw (by rw [add_block];have:=HGA.out.1;simp;omega)
      obtain ⟨e0,e1,e2,e3,e4,e5,e6⟩:=HE.out
      have hme:=HEL.out.2 er (by rw [<-her];exact List.getElem_mem hlt)
      have hiE:=HEL.out.1
      obtain ⟨N,hN⟩:∃N,wr.heap.size=N:=⟨_,rfl⟩
      obtain ⟨W3,hW3⟩:∃W,wr.alloc (.cells #[.int .i64 er.a1,.int .i64 er.a2,.int .i64 er.a3,.string er.a4,.string er.a5,.int .i64 er.l,.int .i64 er.d] 135)=W:=⟨_,rfl⟩
      have hg3:wr.grownBy W3 none:=by rw [<-hW3];exact gb_alloc (gb_refl wr none) _
      have hNl:w2.heap.size<=N:=by rw [<-hN];exact hgw.size
      have HNB:Hid (N ≠ B/\w2.heap.size<=N):=⟨by omega,hNl⟩
      have HR3:Hid (EdAt W3 ⟨N,0,none⟩ er):=by
       show EdAt W3 _ er
       have hr:W3.heap[N]?=some (.cells #[.int .i64 er.a1,.int .i64 er.a2,.int .i64 er.a3,.string er.a4,.string er.a5,.int .i64 er.l,.int .i64 er.d] 135 (0,0)):=by rw [<-hW3,<-hN];exact heap_alloc_new wr _
       exact ⟨by rw [Lib.cell_of_heap hr];rfl,by rw [Lib.cell_of_heap hr];rfl,by rw [Lib.cell_of_heap hr];rfl,by rw [Lib.cell_of_heap hr];rfl,by rw [Lib.cell_of_heap hr];rfl,by rw [Lib.cell_of_heap hr];rfl,by rw [Lib.cell_of_heap hr];rfl⟩
      have HBG3:Hid (BegunAt W3 B n b):=hbg.grow hg3 (by simp)
      have HO3:Hid (W3.ownsRow w2.heap.size 37 11 u8 (outs T).length ((outs T).flatMap spC)):=own_keep how hg3
      have HG3:Hid (w2.grownBy W3 (some B)):=gb_trans hgw (gb_weak hg3 _)
      obtain ⟨d0,d1,d2,d3,d4,d5,d6⟩:=HR3.out
      simp only [Nat.zero_add] at d1 d2 d3 d4 d5 d6
      have cb:=HBG3.out.cell hme.1
      have fb:=HBG3.out.f er.l
      have hbl:=hbb er.l
      have CB:Hid (∀wx,wx.cell? ⟨B,er.l,none⟩=some (.int .i64 (b er.l))->wx.frozen? ⟨B,er.l,none⟩=false->Calls Tryz.prog 83 #[.pointer (some ⟨B,er.l,none⟩),.int .i64 er.d] wx fun e w'=>e=.returned (.int .i64 (min (b er.l+er.d) 1 - min (b er.l) 1))/\w'=wx.setCell ⟨B,er.l,none⟩ (.int .i64 (b er.l+er.d))):=fun wx h1 h2=>begin_any B er.l (b er.l) er.d wx h1 h2 (by omega) (by omega)
      have hhb:=having_bound n b i hbb
      have hni:(n:Int) * i<=2 * 8388608:=by
       have h1:(n:Int)<=2:=by omega
       have h2:(i:Int)<=8388608:=by omega
       have h3:(n:Int) * i<=2 * i:=Int.mul_le_mul_of_nonneg_right h1 (by omega)
       omega
      have hw:IntKind.i64.wrap (having n b+(min (b er.l+er.d) 1 - min (b er.l) 1))=having n (upd b er.l er.d):=by
       rw [having_upd n er.l er.d b hme.1,IntKind.wrap_i64]
       omega
      have hln:er.l < n:=hme.1
      have hNB:=HNB.out.1
      have HME:Hid (er.l < n/\(er.d=1\/er.d=-1)/\er.a4.size<=1048576/\E.length<=8388608):=⟨hme.1,hme.2.1,hme.2.2,hiE⟩
      have HBB:Hid (∀j,-(i:Int)<=b j/\b j<=i):=hbb
      have HTT:Hid (swT (fun b=>ch (having n b)) (fun _=>0) false (E.map toEd)=T++swT (fun b=>ch (having n b)) b on ((E.map toEd).drop i)/\T.length<=i/\(T.length % 2=if on=true then 1 else 0)):=⟨hT,hTi,hTp⟩
      have HER:Hid (E[i]=er):=her
      clear hbb hT hTi hTp hbg how hgw her hme hiE hbl hhb hni hg3 hNl
      have kk:∀o v,W3.cell? ⟨N,o,none⟩=some v->(W3.setCell ⟨B,er.l,none⟩ (.int .i64 (b er.l+er.d))).cell? ⟨N,o,none⟩=some v:=fun o v h=>by
       rw [<-h];exact World.cell?_of_block (heap_setCell_other W3 _ N _ hNB)
      have k0:=kk 0 _ d0
      have k1:=kk 1 _ d1
      have k2:=kk 2 _ d2
      have k3:=kk 3 _ d3
      have k4:=kk 4 _ d4
      have k5:=kk 5 _ d5
      have k6:=kk 6 _ d6
      obtain ⟨W4,hW4⟩:∃W,(W3.setCell ⟨B,er.l,none⟩ (.int .i64 (b er.l+er.d))).drew=W:=⟨_,rfl⟩
      have HR4:Hid (EdAt W4 ⟨N,0,none⟩ er):=by show EdAt W4 _ er;rw [<-hW4];exact ⟨k0,k1,k2,k3,k4,k5,k6⟩
      have HBG4:Hid (BegunAt W4 B n (upd b er.l er.d)):=by show BegunAt W4 _ _ _;rw [<-hW4];exact HBG3.out.set HME.out.1 er.d
      have HG4:Hid (w2.grownBy W4 (some B)):=by show w2.grownBy W4 _;rw [<-hW4];exact gb_drew (gb_set HG3.out _ _) 1
      have HO4:Hid (W4.ownsRow w2.heap.size 37 11 u8 (outs T).length ((outs T).flatMap spC)):=by
       show World.ownsRow _ _ _ _ _ _ _
       rw [<-hW4]
       refine HO3.out.kept (w':=(W3.setCell ⟨B,er.l,none⟩ (.int .i64 (b er.l+er.d))).drew) (gb_drew (gb_set (gb_refl W3 (some B)) er.l (.int .i64 (b er.l+er.d))) 1) ?_
       cases ho:u8.ownBlock with
       | none=>exact Or.inl rfl
       | some q=>exact Or.inr (fun e=>by have:=(HO3.out.lt q ho).1;injection e with e;omega)
      clear kk
      have j5:W4.cell? ⟨N,5,none⟩=some (.int .i64 er.l):=HR4.out.2.2.2.2.2.1
      have j6:W4.cell? ⟨N,6,none⟩=some (.int .i64 er.d):=HR4.out.2.2.2.2.2.2
      go_wp2
      go_region_held3 (fun w'=>w'.cell? ⟨N,5,none⟩=some (.int .i64 er.l)/\w'.cell? ⟨N,6,none⟩=some (.int .i64 er.d)) ((first | exact ⟨d5,d6⟩ | exact ⟨j5,j6⟩ | exact ⟨k5,k6⟩ | go_keep)) (first | (go_at_call 83;refine (CB.out W3.drew cb fb).mono ?_;rintro e w4 ⟨rfl,rfl⟩))
      try rw [hW4]
      clear hW4 j5 j6 k0 k1 k2 k3 k4 k5 k6 cb fb hw d0 d1 d2 d3 d4 d5 d6 CB hW3 hN
      obtain ⟨d0,d1,d2,d3,d4,d5,d6⟩:=HR4.out
      simp only [Nat.zero_add] at d1 d2 d3 d4 d5 d6
      have HST:Hid (swT (fun b=>ch (having n b)) b on ((E.map toEd).drop i)=if nextSame (toEd er) ((E.map toEd).drop (i+1))=true then swT (fun b=>ch (having n b)) (upd b er.l er.d) on ((E.map toEd).drop (i+1)) else if ch (having n (upd b er.l er.d))=on then swT (fun b=>ch (having n b)) (upd b er.l er.d) on ((E.map toEd).drop (i+1)) else (toEd er).at_ :: swT (fun b=>ch (having n b)) (upd b er.l er.d) (ch (having n (upd b er.l er.d))) ((E.map toEd).drop (i+1))):=by
       show swT _ _ _ _=_
       have hd:(E.map toEd).drop i=toEd er :: (E.map toEd).drop (i+1):=by
        rw [List.drop_eq_getElem_cons (by simpa using hlt),List.getElem_map,HER.out]
       rw [hd]
       rfl
      have HBB':Hid (∀j,-((i+1:Nat):Int)<=upd b er.l er.d j/\upd b er.l er.d j<=((i+1:Nat):Int)):=by
       intro k
       have h1:=HBB.out k
       have h2:=HME.out.2.1
       unfold upd
       split <;> omega
      have hiE:=HME.out.2.2.2
      have hw1:IntKind.i64.wrap ((i:Int)+1)=((i+1:Nat):Int):=by rw [IntKind.wrap_i64];omega
      obtain ⟨H,hH⟩:∃H,having n (upd b er.l er.d)=H:=⟨_,rfl⟩
      have HH:Hid (having n (upd b er.l er.d)=H):=hH
      rw [hH]
      clear hH
      by_cases hnx:i+1 < E.length
      ·obtain ⟨er2,her2⟩:∃er2,E[i+1]=er2:=⟨_,rfl⟩
       have HE2:Hid (EdAt W4 (ga.add ((i+1) * 7)) er2):=by
        show EdAt W4 _ er2
        rw [<-her2]
        exact (HED.out (i+1) hnx).grow HG4.out (by rw [add_block];have:=HGA.out.1;simp;omega)
       obtain ⟨x,hx⟩:∃x,verC (toEd er).at_ (toEd er2).at_=x:=⟨_,rfl⟩
       have hm2:=(HEL.out.2 er2 (by rw [<-her2];exact List.getElem_mem hnx)).2.2
       have HNX:Hid (nextSame (toEd er) ((E.map toEd).drop (i+1))=decide (x=0)):=by
        show nextSame _ _=_
        rw [List.drop_eq_getElem_cons (by simpa using hnx),List.getElem_map,her2,<-hx];rfl
       have CC:Hid (∀w,Calls Tryz.prog 44 #[.agg #[.int .i64 er.a1,.int .i64 er.a2,.int .i64 er.a3,.string er.a4,.string er.a5],.agg #[.int .i64 er2.a1,.int .i64 er2.a2,.int .i64 er2.a3,.string er2.a4,.string er2.a5]] w fun e w'=>e=.returned (.int .i64 x)/\w.grownBy w' none):=fun w=>by
        rw [<-hx];exact compare_any er.a1 er.a2 er.a3 er2.a1 er2.a2 er2.a3 er.a4 er.a5 er2.a4 er2.a5 w (by have:=HME.out.2.2.1;omega) (by omega)
       obtain ⟨q0,q1,q2,q3,q4,q5,q6⟩:=HE2.out
       clear hx her2 hm2
       have hnx2:decide (((i+1:Nat):Int) < (E.length:Int))=true:=by simp;omega
       have hnx3:decide (i+1 < E.length)=true:=by simp;omega
       have hnx4:decide ((i:Int)+1 < (E.length:Int))=true:=by simp;omega
       have hnx5:((i+1:Nat):Int) < (E.length:Int):=by omega
       have hnx6:(0:Int)<=((i+1:Nat):Int):=by omega
       have hnx7:(i:Int)+1 < (E.length:Int):=by omega
       have hnx8:(0:Int)<=(i:Int)+1:=by omega
       have hnx9:((i:Int)+1).toNat=i+1:=by omega
       go_wp2
       go_region_held3 (fun w'=>w'.cell? ⟨N,0,none⟩=some (.int .i64 er.a1)/\w'.cell? ⟨N,1,none⟩=some (.int .i64 er.a2)/\w'.cell? ⟨N,2,none⟩=some (.int .i64 er.a3)/\w'.cell? ⟨N,3,none⟩=some (.string er.a4)/\w'.cell? ⟨N,4,none⟩=some (.string er.a5)/\w'.cell? (ga.add ((i+1) * 7))=some (.int .i64 er2.a1)/\w'.cell? ⟨(ga.add ((i+1) * 7)).block,(ga.add ((i+1) * 7)).off+1,none⟩=some (.int .i64 er2.a2)/\w'.cell? ⟨(ga.add ((i+1) * 7)).block,(ga.add ((i+1) * 7)).off+2,none⟩=some (.int .i64 er2.a3)/\w'.cell? ⟨(ga.add ((i+1) * 7)).block,(ga.add ((i+1) * 7)).off+3,none⟩=some (.string er2.a4)/\w'.cell? ⟨(ga.add ((i+1) * 7)).block,(ga.add ((i+1) * 7)).off+4,none⟩=some (.string er2.a5)) ((first | exact keep15 (by assumption) (by assumption) | go_keep)) (first | (go_at_call 44;refine (CC.out _).mono ?_;rintro e w5 ⟨rfl,hg5⟩))
       have HR5:Hid (EdAt w5 ⟨N,0,none⟩ er):=HR4.out.grow (gb_undrew hg5) (by simp)
       have HBG5:Hid (BegunAt w5 B n (upd b er.l er.d)):=HBG4.out.grow (gb_undrew hg5) (by simp)
       have HO5:Hid (w5.ownsRow w2.heap.size 37 11 u8 (outs T).length ((outs T).flatMap spC)):=own_keep HO4.out (gb_undrew hg5)
       have HG5:Hid (w2.grownBy w5 (some B)):=gb_trans HG4.out (gb_weak (gb_undrew hg5) _)
       clear hg5 q0 q1 q2 q3 q4 q5 q6 d0 d1 d2 d3 d4 d5 d6 hnx2 hnx3 hnx4 hnx5 hnx6 hnx7 hnx8 hnx9
       cases hx0:(x == 0) with
       | true =>
        have hxx:x=0:=by simpa using hx0
        have HNEW:Hid (swT (fun b=>ch (having n b)) (fun _=>0) false (E.map toEd)=T++swT (fun b=>ch (having n b)) (upd b er.l er.d) on ((E.map toEd).drop (i+1))):=by
         show _=_
         rw [HTT.out.1,HST.out,HNX.out,hxx]
         rfl
        have HTP:Hid (T.length<=i/\(T.length % 2=if on=true then 1 else 0)):=⟨HTT.out.2.1,HTT.out.2.2⟩
        clear HTT HST
        go_wp2
        go_roundw
        case rel=>exact ⟨i+1,upd b er.l er.d,on,T,by go_num,by omega,by rw [HH.out],rfl,HBB'.out,HNEW.out,by have:=HTP.out.1;omega,HTP.out.2,HBG5.out,HO5.out,HG5.out⟩
        case measure=>simp [intOf];omega
       | false =>
        have hxx:decide (x=0)=false:=by simpa using hx0
        rw [hxx] at HNX
        clear hxx hx0
        have HCC:Hid (ch (having n (upd b er.l er.d))=decide (0 < H)):=by show ch _=_;rw [HCH.out,HH.out]
        obtain ⟨d0,d1,d2,d3,d4,d5,d6⟩:=HR5.out
        simp only [Nat.zero_add] at d1 d2 d3 d4 d5 d6
        cases hc:decide (0 < H) with
        | false =>
         rw [hc] at HCC
         cases on with
         | false =>
          have HNEW:Hid (swT (fun b=>ch (having n b)) (fun _=>0) false (E.map toEd)=T++swT (fun b=>ch (having n b)) (upd b er.l er.d) false ((E.map toEd).drop (i+1))):=by
           show _=_
           rw [HTT.out.1,HST.out,HNX.out,HCC.out]
           rfl
          have HTP:Hid (T.length<=i/\(T.length % 2=if false=true then 1 else 0)):=⟨HTT.out.2.1,HTT.out.2.2⟩
          clear HTT HST
          go_wp2_with (first | (go_at_call 50;refine (some_any _ _ _).mono ?_;rintro e w' ⟨rfl,rfl⟩))
          go_roundw
          case rel=>exact ⟨i+1,upd b er.l er.d,false,T,by go_num,by omega,by rw [HH.out],rfl,HBB'.out,HNEW.out,by have:=HTP.out.1;omega,HTP.out.2,HBG5.out,HO5.out,HG5.out⟩
          case measure=>simp [intOf];omega
         | true =>
          have CBD:Hid (∀w,Calls Tryz.prog 84 #[.agg #[.int .i64 er.a1,.int .i64 er.a2,.int .i64 er.a3,.string er.a4,.string er.a5]] w fun e w'=>e=.returned (.agg #[.int .i64 er.a1,.int .i64 er.a2,.int .i64 er.a3,.string er.a4,.string ⟨#[]⟩])/\w.grownBy w' none):=fun w=>bound_any er.a1 er.a2 er.a3 er.a4 er.a5 w (by have:=HME.out.2.2.1;omega)
          have HNEW:Hid (swT (fun b=>ch (having n b)) (fun _=>0) false (E.map toEd)=(T++[(toEd er).at_])++swT (fun b=>ch (having n b)) (upd b er.l er.d) false ((E.map toEd).drop (i+1))):=by
           show _=_
           rw [HTT.out.1,HST.out,HNX.out,HCC.out,List.append_assoc]
           rfl
          have HTP:Hid (T.length<=i/\T.length % 2=1):=⟨HTT.out.2.1,by have:=HTT.out.2.2;simpa using this⟩
          have hOL:(outs T).length<=8388608:=by have q1:=outs_len T;have q2:=HTP.out.1;omega
          obtain ⟨A,y,hA1,hA2⟩:=outs_odd T (toEd er).at_ HTP.out.2
          rw [hA1] at HO5 hOL
          obtain ⟨M,hM⟩:∃M,A.length=M:=⟨_,rfl⟩
          have hlen:(A++[spV y zeroV0 true]).length=M+1:=by rw [List.length_append,hM];rfl
          rw [hlen] at HO5 hOL
          obtain ⟨gs,capS,hu8⟩:∃gs capS,u8=.slice (some ⟨gs,0,none⟩) (M+1) capS:=by
           rcases HO5.out.2 with ⟨_,h0⟩ | ⟨g,cap,cur,h1,_⟩
           ·omega
           ·exact ⟨g,cap,h1⟩
          subst hu8
          have HA2:Hid (outs (T++[(toEd er).at_])=A++[spV y (toEd er).at_ false]/\A.length=M):=⟨hA2,hM⟩
          have hm1:IntKind.i64.wrap (((M+1:Nat):Int) - 1)=((M:Nat):Int):=by rw [IntKind.wrap_i64];omega
          have hm2:((M+1:Nat):Int) - 1=(M:Int):=by omega
          have hm3:(M:Int) < ((M+1:Nat):Int):=by omega
          have hm4:(M:Int) < (M:Int)+1:=by omega
          clear HTT HST hA1 hA2 hM hlen
          go_wp2_with (first | (go_at_call 50;refine (some_any _ _ _).mono ?_;rintro e w9 ⟨rfl,hw9⟩;rw [hw9];clear hw9) | (go_at_call 84;refine (CBD.out _).mono ?_))
          rintro e w6 ⟨rfl,hg6⟩
          have HO6:Hid (w6.ownsRow w2.heap.size 37 11 (.slice (some ⟨gs,0,none⟩) (M+1) capS) (M+1) ((A++[spV y zeroV0 true]).flatMap spC)):=own_keep HO5.out hg6
          have HBG6:Hid (BegunAt w6 B n (upd b er.l er.d)):=HBG5.out.grow hg6 (by simp)
          have HG6:Hid (w2.grownBy w6 (some B)):=gb_trans HG5.out (gb_weak hg6 _)
          have HGS:Hid (w2.heap.size<=gs):=(HO6.out.lt gs rfl).1
          have c5:=last_cell HO6.out HA2.out.2 5 _ rfl
          have c6:=last_cell HO6.out HA2.out.2 6 _ rfl
          have c7:=last_cell HO6.out HA2.out.2 7 _ rfl
          have c8:=last_cell HO6.out HA2.out.2 8 _ rfl
          have c9:=last_cell HO6.out HA2.out.2 9 _ rfl
          have c10:=last_cell HO6.out HA2.out.2 10 _ rfl
          have fz:=own_unfrozen HO6.out
          clear hg6 d0 d1 d2 d3 d4 d5 d6
          go_wp2
          clear c5 c6 c7 c8 c9 c10 fz
          have g9:w6.grownBy ((((((w6.setCell ⟨gs,M * 11+5,none⟩ (.int .i64 er.a1)).setCell ⟨gs,M * 11+5+1,none⟩ (.int .i64 er.a2)).setCell ⟨gs,M * 11+5+2,none⟩ (.int .i64 er.a3)).setCell ⟨gs,M * 11+5+3,none⟩ (.string er.a4)).setCell ⟨gs,M * 11+5+4,none⟩ (.string ⟨#[]⟩)).setCell ⟨gs,M * 11+10,none⟩ (.bool false)) (some gs):=gb_set (gb_set (gb_set (gb_set (gb_set (gb_set (gb_refl w6 (some gs)) _ _) _ _) _ _) _ _) _ _) _ _
          have o9:=own_set (own_set (own_set (own_set (own_set (own_set HO6.out (M * 11+5) (.int .i64 er.a1) (by omega)) (M * 11+5+1) (.int .i64 er.a2) (by omega)) (M * 11+5+2) (.int .i64 er.a3) (by omega)) (M * 11+5+3) (.string er.a4) (by omega)) (M * 11+5+4) (.string ⟨#[]⟩) (by omega)) (M * 11+10) (.bool false) (by omega)
          have hfl:(A++[spV y zeroV0 true]).flatMap spC=A.flatMap spC++spC (spV y zeroV0 true):=by rw [List.flatMap_append];simp
          have hPl:(A.flatMap spC).length=M * 11:=by rw [flat_len,HA2.out.2]
          rw [hfl] at o9
          have hcl:=close_row er y hPl
          have hol:(outs (T++[(toEd er).at_])).length=M+1:=by rw [HA2.out.1,List.length_append,HA2.out.2];rfl
          have hof:(outs (T++[(toEd er).at_])).flatMap spC=A.flatMap spC++spC (spV y (toEd er).at_ false):=by rw [HA2.out.1,List.flatMap_append];simp
          have hgsB:B ≠ gs:=by have:=HGS.out;omega
          refine ⟨⟨i+1,upd b er.l er.d,false,T++[(toEd er).at_],by go_num,by omega,by rw [HH.out],rfl,HBB'.out,HNEW.out,by have:=HTP.out.1;simp;omega,by have:=HTP.out.2;simp;omega,HBG6.out.grow g9 (by simpa using hgsB),?_,gb_own_row HG6.out g9 (fun q hq=>by injection hq with hq;have:=HGS.out;omega)⟩,by simp [intOf];omega⟩
          rw [hol,hof,<-hcl]
          exact o9
        | true =>
         rw [hc] at HCC
         cases on with
         | false =>
          have CBD:Hid (∀w,Calls Tryz.prog 84 #[.agg #[.int .i64 er.a1,.int .i64 er.a2,.int .i64 er.a3,.string er.a4,.string er.a5]] w fun e w'=>e=.returned (.agg #[.int .i64 er.a1,.int .i64 er.a2,.int .i64 er.a3,.string er.a4,.string ⟨#[]⟩])/\w.grownBy w' none):=fun w=>bound_any er.a1 er.a2 er.a3 er.a4 er.a5 w (by have:=HME.out.2.2.1;omega)
          have HNEW:Hid (swT (fun b=>ch (having n b)) (fun _=>0) false (E.map toEd)=(T++[(toEd er).at_])++swT (fun b=>ch (having n b)) (upd b er.l er.d) true ((E.map toEd).drop (i+1))):=by
           show _=_
           rw [HTT.out.1,HST.out,HNX.out,HCC.out,List.append_assoc]
           rfl
          have HTP:Hid (T.length<=i/\T.length % 2=0):=⟨HTT.out.2.1,by have:=HTT.out.2.2;simpa using this⟩
          have HOL:Hid ((outs T).length<=8388608):=by show _<=_;have q1:=outs_len T;have q2:=HTP.out.1;omega
          have hinfo:=infoSp
          obtain ⟨i1,hj0,hjj⟩:=Option.map_eq_some_iff.1 hinfo
          simp only [Prod.mk.injEq] at hjj
          obtain ⟨hy0,hy1,hyb⟩:=hjj
          clear HTT HST hinfo
          go_wp2_with (first | (go_at_call 50;refine (some_any _ _ _).mono ?_;rintro e w9 ⟨rfl,hw9⟩;rw [hw9];clear hw9) | (go_at_call 84;refine (CBD.out _).mono ?_;rintro e w6 ⟨rfl,hg6⟩) | (at_builtin;refine wpList_append_own _ rfl _ _ 22 rfl w2.heap.size 37 i1 _ 11 120 Tryz.underlying22 hj0 hy0 hy1 hyb rfl (by decide) _ _ _ rfl ((own_keep HO5.out hg6).alloc _) _ 1 1 (spC (spV (toEd er).at_ zeroV0 true)) rfl rfl (by rw [spC_open];exact World.news_of_block (heap_alloc_new _ _)) (news_one _) (by unfold maxLen;have:=HOL.out;omega) (by have:=HOL.out;omega) (by have q1:=HG5.out.size;have q2:=hg6.size;simp;omega) ?_;intro v' w7 hown7 hgrow _))
          have hg7:w5.grownBy (w6.alloc (.cells #[.int .i64 er.a1,.int .i64 er.a2,.int .i64 er.a3,.string er.a4,.string ⟨#[]⟩,.int .i64 0,.int .i64 0,.int .i64 0,.string ⟨#[]⟩,.string ⟨#[]⟩,.bool true] 37)) none:=gb_trans hg6 (gb_alloc (gb_refl w6 none) _)
          have hrow:∀q,u8.ownBlock=some q->w2.heap.size<=q:=fun q hq=>(HO5.out.lt q hq).1
          have HF1:Hid (BegunAt w7 B n (upd b er.l er.d)):=(HBG5.out.grow hg7 (by simp)).grow hgrow (fun e=>by have:=hrow B e.symm;omega)
          have HF2:Hid (w2.grownBy w7 (some B)):=gb_own_row (gb_trans HG5.out (gb_weak hg7 _)) hgrow hrow
          have HF3:Hid (w7.ownsRow w2.heap.size 37 11 v' (outs (T++[(toEd er).at_])).length ((outs (T++[(toEd er).at_])).flatMap spC)):=by
           show World.ownsRow _ _ _ _ _ _ _
           rw [outs_even T _ HTP.out.2,List.length_append,List.flatMap_append]
           simpa using hown7
          exact ⟨⟨i+1,upd b er.l er.d,true,T++[(toEd er).at_],by go_num,by omega,by rw [HH.out],rfl,HBB'.out,HNEW.out,by have:=HTP.out.1;simp;omega,by have:=HTP.out.2;simp;omega,HF1.out,HF3.out,HF2.out⟩,by simp [intOf];omega⟩
         | true =>
          have HNEW:Hid (swT (fun b=>ch (having n b)) (fun _=>0) false (E.map toEd)=T++swT (fun b=>ch (having n b)) (upd b er.l er.d) true ((E.map toEd).drop (i+1))):=by
           show _=_
           rw [HTT.out.1,HST.out,HNX.out,HCC.out]
           rfl
          have HTP:Hid (T.length<=i/\(T.length % 2=if true=true then 1 else 0)):=⟨HTT.out.2.1,HTT.out.2.2⟩
          clear HTT HST
          go_wp2_with (first | (go_at_call 50;refine (some_any _ _ _).mono ?_;rintro e w' ⟨rfl,rfl⟩))
          go_roundw
          case rel=>exact ⟨i+1,upd b er.l er.d,true,T,by go_num,by omega,by rw [HH.out],rfl,HBB'.out,HNEW.out,by have:=HTP.out.1;omega,HTP.out.2,HBG5.out,HO5.out,HG5.out⟩
          case measure=>simp [intOf];omega
      ·have HNX:Hid (nextSame (toEd er) ((E.map toEd).drop (i+1))=false):=by
        show nextSame _ _=false
        rw [List.drop_of_length_le (by simp;omega)];rfl
       have hnx2:decide (((i+1:Nat):Int) < (E.length:Int))=false:=by simp;omega
       have hnx3:decide (i+1 < E.length)=false:=by simp;omega
       have hnx4:decide ((i:Int)+1 < (E.length:Int))=false:=by simp;omega
       go_wp2
       go_quiet (fail)
       obtain ⟨w5,hw5⟩:∃w5,W4.drewN nq=w5:=⟨_,rfl⟩
       have HR5:Hid (EdAt w5 ⟨N,0,none⟩ er):=by show EdAt w5 _ er;rw [<-hw5];exact HR4.out
       have HBG5:Hid (BegunAt w5 B n (upd b er.l er.d)):=by show BegunAt w5 _ _ _;rw [<-hw5];exact HBG4.out
       have HO5:Hid (w5.ownsRow w2.heap.size 37 11 u8 (outs T).length ((outs T).flatMap spC)):=by show World.ownsRow _ _ _ _ _ _ _;rw [<-hw5];exact own_keep HO4.out (gb_drew (gb_refl W4 none) nq)
       have HG5:Hid (w2.grownBy w5 (some B)):=by show w2.grownBy w5 _;rw [<-hw5];exact gb_drew HG4.out nq
       try rw [hw5]
       clear hw5 d0 d1 d2 d3 d4 d5 d6 hnx2 hnx3 hnx4
       have HCC:Hid (ch (having n (upd b er.l er.d))=decide (0 < H)):=by show ch _=_;rw [HCH.out,HH.out]
       obtain ⟨d0,d1,d2,d3,d4,d5,d6⟩:=HR5.out
       simp only [Nat.zero_add] at d1 d2 d3 d4 d5 d6
       cases hc:decide (0 < H) with
       | false =>
        rw [hc] at HCC
        cases on with
        | false =>
         have HNEW:Hid (swT (fun b=>ch (having n b)) (fun _=>0) false (E.map toEd)=T++swT (fun b=>ch (having n b)) (upd b er.l er.d) false ((E.map toEd).drop (i+1))):=by
          show _=_
          rw [HTT.out.1,HST.out,HNX.out,HCC.out]
          rfl
         have HTP:Hid (T.length<=i/\(T.length % 2=if false=true then 1 else 0)):=⟨HTT.out.2.1,HTT.out.2.2⟩
         clear HTT HST
         go_wp2_with (first | (go_at_call 50;refine (some_any _ _ _).mono ?_;rintro e w' ⟨rfl,rfl⟩))
         go_roundw
         case rel=>exact ⟨i+1,upd b er.l er.d,false,T,by go_num,by omega,by rw [HH.out],rfl,HBB'.out,HNEW.out,by have:=HTP.out.1;omega,HTP.out.2,HBG5.out,HO5.out,HG5.out⟩
         case measure=>simp [intOf];omega
        | true =>
         have CBD:Hid (∀w,Calls Tryz.prog 84 #[.agg #[.int .i64 er.a1,.int .i64 er.a2,.int .i64 er.a3,.string er.a4,.string er.a5]] w fun e w'=>e=.returned (.agg #[.int .i64 er.a1,.int .i64 er.a2,.int .i64 er.a3,.string er.a4,.string ⟨#[]⟩])/\w.grownBy w' none):=fun w=>bound_any er.a1 er.a2 er.a3 er.a4 er.a5 w (by have:=HME.out.2.2.1;omega)
         have HNEW:Hid (swT (fun b=>ch (having n b)) (fun _=>0) false (E.map toEd)=(T++[(toEd er).at_])++swT (fun b=>ch (having n b)) (upd b er.l er.d) false ((E.map toEd).drop (i+1))):=by
          show _=_
          rw [HTT.out.1,HST.out,HNX.out,HCC.out,List.append_assoc]
          rfl
         have HTP:Hid (T.length<=i/\T.length % 2=1):=⟨HTT.out.2.1,by have:=HTT.out.2.2;simpa using this⟩
         have hOL:(outs T).length<=8388608:=by have q1:=outs_len T;have q2:=HTP.out.1;omega
         obtain ⟨A,y,hA1,hA2⟩:=outs_odd T (toEd er).at_ HTP.out.2
         rw [hA1] at HO5 hOL
         obtain ⟨M,hM⟩:∃M,A.length=M:=⟨_,rfl⟩
         have hlen:(A++[spV y zeroV0 true]).length=M+1:=by rw [List.length_append,hM];rfl
         rw [hlen] at HO5 hOL
         obtain ⟨gs,capS,hu8⟩:∃gs capS,u8=.slice (some ⟨gs,0,none⟩) (M+1) capS:=by
          rcases HO5.out.2 with ⟨_,h0⟩ | ⟨g,cap,cur,h1,_⟩
          ·omega
          ·exact ⟨g,cap,h1⟩
         subst hu8
         have HA2:Hid (outs (T++[(toEd er).at_])=A++[spV y (toEd er).at_ false]/\A.length=M):=⟨hA2,hM⟩
         have hm1:IntKind.i64.wrap (((M+1:Nat):Int) - 1)=((M:Nat):Int):=by rw [IntKind.wrap_i64];omega
         have hm2:((M+1:Nat):Int) - 1=(M:Int):=by omega
         have hm3:(M:Int) < ((M+1:Nat):Int):=by omega
         have hm4:(M:Int) < (M:Int)+1:=by omega
         clear HTT HST hA1 hA2 hM hlen
         go_wp2_with (first | (go_at_call 50;refine (some_any _ _ _).mono ?_;rintro e w9 ⟨rfl,hw9⟩;rw [hw9];clear hw9) | (go_at_call 84;refine (CBD.out _).mono ?_))
         rintro e w6 ⟨rfl,hg6⟩
         have HO6:Hid (w6.ownsRow w2.heap.size 37 11 (.slice (some ⟨gs,0,none⟩) (M+1) capS) (M+1) ((A++[spV y zeroV0 true]).flatMap spC)):=own_keep HO5.out hg6
         have HBG6:Hid (BegunAt w6 B n (upd b er.l er.d)):=HBG5.out.grow hg6 (by simp)
         have HG6:Hid (w2.grownBy w6 (some B)):=gb_trans HG5.out (gb_weak hg6 _)
         have HGS:Hid (w2.heap.size<=gs):=(HO6.out.lt gs rfl).1
         have c5:=last_cell HO6.out HA2.out.2 5 _ rfl
         have c6:=last_cell HO6.out HA2.out.2 6 _ rfl
         have c7:=last_cell HO6.out HA2.out.2 7 _ rfl
         have c8:=last_cell HO6.out HA2.out.2 8 _ rfl
         have c9:=last_cell HO6.out HA2.out.2 9 _ rfl
         have c10:=last_cell HO6.out HA2.out.2 10 _ rfl
         have fz:=own_unfrozen HO6.out
         clear hg6 d0 d1 d2 d3 d4 d5 d6
         go_wp2
         clear c5 c6 c7 c8 c9 c10 fz
         have g9:w6.grownBy ((((((w6.setCell ⟨gs,M * 11+5,none⟩ (.int .i64 er.a1)).setCell ⟨gs,M * 11+5+1,none⟩ (.int .i64 er.a2)).setCell ⟨gs,M * 11+5+2,none⟩ (.int .i64 er.a3)).setCell ⟨gs,M * 11+5+3,none⟩ (.string er.a4)).setCell ⟨gs,M * 11+5+4,none⟩ (.string ⟨#[]⟩)).setCell ⟨gs,M * 11+10,none⟩ (.bool false)) (some gs):=gb_set (gb_set (gb_set (gb_set (gb_set (gb_set (gb_refl w6 (some gs)) _ _) _ _) _ _) _ _) _ _) _ _
         have o9:=own_set (own_set (own_set (own_set (own_set (own_set HO6.out (M * 11+5) (.int .i64 er.a1) (by omega)) (M * 11+5+1) (.int .i64 er.a2) (by omega)) (M * 11+5+2) (.int .i64 er.a3) (by omega)) (M * 11+5+3) (.string er.a4) (by omega)) (M * 11+5+4) (.string ⟨#[]⟩) (by omega)) (M * 11+10) (.bool false) (by omega)
         have hfl:(A++[spV y zeroV0 true]).flatMap spC=A.flatMap spC++spC (spV y zeroV0 true):=by rw [List.flatMap_append];simp
         have hPl:(A.flatMap spC).length=M * 11:=by rw [flat_len,HA2.out.2]
         rw [hfl] at o9
         have hcl:=close_row er y hPl
         have hol:(outs (T++[(toEd er).at_])).length=M+1:=by rw [HA2.out.1,List.length_append,HA2.out.2];rfl
         have hof:(outs (T++[(toEd er).at_])).flatMap spC=A.flatMap spC++spC (spV y (toEd er).at_ false):=by rw [HA2.out.1,List.flatMap_append];simp
         have hgsB:B ≠ gs:=by have:=HGS.out;omega
         refine ⟨⟨i+1,upd b er.l er.d,false,T++[(toEd er).at_],by go_num,by omega,by rw [HH.out],rfl,HBB'.out,HNEW.out,by have:=HTP.out.1;simp;omega,by have:=HTP.out.2;simp;omega,HBG6.out.grow g9 (by simpa using hgsB),?_,gb_own_row HG6.out g9 (fun q hq=>by injection hq with hq;have:=HGS.out;omega)⟩,by simp [intOf];omega⟩
         rw [hol,hof,<-hcl]
         exact o9
       | true =>
        rw [hc] at HCC
        cases on with
        | false =>
         have CBD:Hid (∀w,Calls Tryz.prog 84 #[.agg #[.int .i64 er.a1,.int .i64 er.a2,.int .i64 er.a3,.string er.a4,.string er.a5]] w fun e w'=>e=.returned (.agg #[.int .i64 er.a1,.int .i64 er.a2,.int .i64 er.a3,.string er.a4,.string ⟨#[]⟩])/\w.grownBy w' none):=fun w=>bound_any er.a1 er.a2 er.a3 er.a4 er.a5 w (by have:=HME.out.2.2.1;omega)
         have HNEW:Hid (swT (fun b=>ch (having n b)) (fun _=>0) false (E.map toEd)=(T++[(toEd er).at_])++swT (fun b=>ch (having n b)) (upd b er.l er.d) true ((E.map toEd).drop (i+1))):=by
          show _=_
          rw [HTT.out.1,HST.out,HNX.out,HCC.out,List.append_assoc]
          rfl
         have HTP:Hid (T.length<=i/\T.length % 2=0):=⟨HTT.out.2.1,by have:=HTT.out.2.2;simpa using this⟩
         have HOL:Hid ((outs T).length<=8388608):=by show _<=_;have q1:=outs_len T;have q2:=HTP.out.1;omega
         have hinfo:=infoSp
         obtain ⟨i1,hj0,hjj⟩:=Option.map_eq_some_iff.1 hinfo
         simp only [Prod.mk.injEq] at hjj
         obtain ⟨hy0,hy1,hyb⟩:=hjj
         clear HTT HST hinfo
         go_wp2_with (first | (go_at_call 50;refine (some_any _ _ _).mono ?_;rintro e w9 ⟨rfl,hw9⟩;rw [hw9];clear hw9) | (go_at_call 84;refine (CBD.out _).mono ?_;rintro e w6 ⟨rfl,hg6⟩) | (at_builtin;refine wpList_append_own _ rfl _ _ 22 rfl w2.heap.size 37 i1 _ 11 120 Tryz.underlying22 hj0 hy0 hy1 hyb rfl (by decide) _ _ _ rfl ((own_keep HO5.out hg6).alloc _) _ 1 1 (spC (spV (toEd er).at_ zeroV0 true)) rfl rfl (by rw [spC_open];exact World.news_of_block (heap_alloc_new _ _)) (news_one _) (by unfold maxLen;have:=HOL.out;omega) (by have:=HOL.out;omega) (by have q1:=HG5.out.size;have q2:=hg6.size;simp;omega) ?_;intro v' w7 hown7 hgrow _))
         have hg7:w5.grownBy (w6.alloc (.cells #[.int .i64 er.a1,.int .i64 er.a2,.int .i64 er.a3,.string er.a4,.string ⟨#[]⟩,.int .i64 0,.int .i64 0,.int .i64 0,.string ⟨#[]⟩,.string ⟨#[]⟩,.bool true] 37)) none:=gb_trans hg6 (gb_alloc (gb_refl w6 none) _)
         have hrow:∀q,u8.ownBlock=some q->w2.heap.size<=q:=fun q hq=>(HO5.out.lt q hq).1
         have HF1:Hid (BegunAt w7 B n (upd b er.l er.d)):=(HBG5.out.grow hg7 (by simp)).grow hgrow (fun e=>by have:=hrow B e.symm;omega)
         have HF2:Hid (w2.grownBy w7 (some B)):=gb_own_row (gb_trans HG5.out (gb_weak hg7 _)) hgrow hrow
         have HF3:Hid (w7.ownsRow w2.heap.size 37 11 v' (outs (T++[(toEd er).at_])).length ((outs (T++[(toEd er).at_])).flatMap spC)):=by
          show World.ownsRow _ _ _ _ _ _ _
          rw [outs_even T _ HTP.out.2,List.length_append,List.flatMap_append]
          simpa using hown7
         exact ⟨⟨i+1,upd b er.l er.d,true,T++[(toEd er).at_],by go_num,by omega,by rw [HH.out],rfl,HBB'.out,HNEW.out,by have:=HTP.out.1;simp;omega,by have:=HTP.out.2;simp;omega,HF1.out,HF3.out,HF2.out⟩,by simp [intOf];omega⟩
        | true =>
         have HNEW:Hid (swT (fun b=>ch (having n b)) (fun _=>0) false (E.map toEd)=T++swT (fun b=>ch (having n b)) (upd b er.l er.d) true ((E.map toEd).drop (i+1))):=by
          show _=_
          rw [HTT.out.1,HST.out,HNX.out,HCC.out]
          rfl
         have HTP:Hid (T.length<=i/\(T.length % 2=if true=true then 1 else 0)):=⟨HTT.out.2.1,HTT.out.2.2⟩
         clear HTT HST
         go_wp2_with (first | (go_at_call 50;refine (some_any _ _ _).mono ?_;rintro e w' ⟨rfl,rfl⟩))
         go_roundw
         case rel=>exact ⟨i+1,upd b er.l er.d,true,T,by go_num,by omega,by rw [HH.out],rfl,HBB'.out,HNEW.out,by have:=HTP.out.1;omega,HTP.out.2,HBG5.out,HO5.out,HG5.out⟩
         case measure=>simp [intOf];omega
     ·have hie:i=E.length:=by omega
      have HF:Hid (SweepPost ch Ls w (.returned (.tuple #[u8,.int .i64 0])) wr):=FIN.out u8 T wr hgw how (by rw [hT,hie,List.drop_of_length_le (by simp)];simp [swT])
      clear hT hTi hTp hbg how hgw hbb hie hi
      go_wp2
      exact bodyPost_ret (results_tmp2 (t:=4) (u:=5) rfl _ _ _) rfl HF.out
end Go.Proofs.YtonfldbigenfhaaGreatDoor
