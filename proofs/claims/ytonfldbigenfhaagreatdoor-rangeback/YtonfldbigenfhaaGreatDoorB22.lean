import Derived.Test.YtonfldbigenfhaaGreatDoorB21
import Derived.Test.YtonfldbigenfhaaGreatDoorB13
import Derived.Test.YtonfldbigenfhaaGreatDoorB15
import Derived.Test.YtonfldbigenfhaaGreatDoorB17
import Derived.Test.YtonfldbigenfhaaGreatDoorB02
import Derived.Deep.RegionHeld3
namespace Go.Proofs.YtonfldbigenfhaaGreatDoor
open Go.RowKit
set_option linter.unusedVariables false
def YPost (σ:Bool) (N:List Sp) (w:World) (e:Ending) (w':World):Prop:=w.grownBy w' none/\((σ=false/\e=.returned (.tuple #[.slice none 0 0,.int .i64 2]))\/(σ=true/\∃o n c,e=.returned (.tuple #[.slice o n c,.int .i64 0])/\SpS w' (.slice o n c) N/\∀s ∈ N,NSp s))
theorem yNormal (sl:Value) (L:List Sp) (w:World) (h:SpS w sl L) (hL:L.length<=1048576) (hsz:∀s ∈ L,smallS s):Calls Tryz.prog 33 #[sl] w (YPost (L.all soundS) (outs (tog (holdsL L) false (bnd L))) w):=by
 refine (normal_any sl L w h hL hsz).mono ?_
 intro e w' hp
 refine ⟨hp.1,?_⟩
 rcases hp.2 with ⟨h1,h2⟩ | ⟨h1,E,vs,h2,h3,h4,h5,h6⟩
 ·refine Or.inl ⟨?_,h2⟩
  simpa using h1
 ·obtain ⟨o,n,c,rfl⟩:=sps_slice h5
  have hnt:=sweep_nt (fun x=>decide (0 < x)) [L] (by intro l hl;simp at hl;subst hl;exact ⟨hL,hsz⟩) h1 E h2 h3
  have he:=sweep_bnd (fun x=>decide (0 < x)) (by decide) [L] h1 E h2 h3
  have hff:(fun x=>(fun x=>decide (0 < x)) (haveN ([L].map (·.map toSg)) x))=holdsL L:=funext fun x=>have_one L x
  have hfl:[L].flatten=L:=by simp
  rw [hff,hfl] at he
  rw [he] at h5 hnt
  exact Or.inr ⟨by simpa using h1,o,n,c,h4,h5,nsp_outs hnt⟩
theorem made_str (n:Nat):madeCells #[Value.string ⟨#[]⟩] n=((List.range n).map fun _=>Value.string ⟨#[]⟩).toArray:=by
 apply Array.ext'
 simp [madeCells]
 intro a ha
 rw [Nat.mod_one];rfl
def TxAt (w:World) (B:Nat) (N:List Sp) (i:Nat):Prop:=w.heap[B]?=some (.cells (((N.take i).map fun s=>Value.string ⟨(tOf s).toArray⟩)++List.replicate (N.length - i) (Value.string ⟨#[]⟩)).toArray 9 (0,0))
theorem TxAt.cell {w:World} {B:Nat} {N:List Sp} {i:Nat} (h:TxAt w B N i) (hi:i < N.length):w.cell? ⟨B,i,none⟩=some (.string ⟨#[]⟩):=by
 rw [Lib.cell_of_heap h]
 have h1:((N.take i).map fun s=>Value.string ⟨(tOf s).toArray⟩).length=i:=by rw [List.length_map,List.length_take];omega
 simp only [List.getElem?_toArray]
 rw [List.getElem?_append_right (by omega),h1,Nat.sub_self,List.getElem?_replicate,if_pos (by omega)]
theorem TxAt.f {w:World} {B:Nat} {N:List Sp} {i:Nat} (h:TxAt w B N i) (j:Nat):w.frozen? ⟨B,j,none⟩=false:=Lib.frozen_of_heap h j
theorem TxAt.grow {w w':World} {B:Nat} {N:List Sp} {i:Nat} (h:TxAt w B N i) (hg:w.grownBy w' none):TxAt w' B N i:=by
 unfold TxAt at h ⊢
 rw [hg.block B ((Array.getElem?_eq_some_iff.1 h).1) (by simp)];exact h
theorem TxAt.set {w:World} {B:Nat} {N:List Sp} {i:Nat} (h:TxAt w B N i) (hi:i < N.length) {s:Sp} (hs:N[i]=s):TxAt (w.setCell ⟨B,i,none⟩ (.string ⟨(tOf s).toArray⟩)) B N (i+1):=by
 unfold TxAt at h ⊢
 simp only [World.setCell,Array.getElem?_modify,h,if_true,Option.map_some]
 congr 2
 apply Array.ext'
 simp only [Option.isSome_none,Bool.false_eq_true,if_false]
 rw [Array.toList_setIfInBounds]
 have h1:((N.take i).map fun s=>Value.string ⟨(tOf s).toArray⟩).length=i:=by rw [List.length_map,List.length_take];omega
 have h2:N.length - i=(N.length - (i+1))+1:=by omega
 simp only []
 rw [List.set_append_right _ _ (by omega),h1,Nat.sub_self,h2,List.replicate_succ,List.set_cons_zero,List.take_succ_eq_append_getElem hi,List.map_append,List.append_assoc,hs]
 rfl
theorem join_tx (w:World) (B:Nat) (N:List Sp) (h:TxAt w B N N.length) (hN:N ≠ []) (hns:∀s ∈ N,NSp s) (hl:N.length<=1048576) :
  Calls Tryz.prog 48 #[.slice (some ⟨B,0,none⟩) N.length N.length,.string ⟨#[32,124,124,32]⟩] w fun e w'=>e=.returned (.string ⟨(Lib.join (N.map tOf) sepT).toArray⟩)/\w.grownBy w' none:=by
 have e1:((N.map fun s=>(⟨(tOf s).toArray⟩:ByteArray)).map (·.data.toList))=N.map tOf:=by rw [List.map_map];rfl
 have e2:(⟨#[32,124,124,32]⟩:ByteArray).data.toList=sepT:=rfl
 have e3:(N.map fun s=>(⟨(tOf s).toArray⟩:ByteArray)).length=N.length:=by rw [List.length_map]
 have hr:=rt_len N hns N.length
 rw [List.take_length] at hr
 have hb:B < w.heap.size:=(Array.getElem?_eq_some_iff.1 h).1
 have key:=Any.strings_Join Tryz.lays156 Tryz.Builder_Extra_156 B 0 N.length (N.map fun s=>(⟨(tOf s).toArray⟩:ByteArray)) ⟨#[32,124,124,32]⟩ w (fun j x hj=>by
  rw [Nat.zero_add,Lib.cell_of_heap h]
  simp only [List.getElem?_toArray,List.take_length,Nat.sub_self,List.replicate_zero,List.append_nil]
  rw [List.getElem?_map] at hj ⊢
  cases hq:N[j]? with
  | none=>rw [hq] at hj;cases hj
  | some s =>
   rw [hq] at hj
   simp only [Option.map_some,Option.some.injEq] at hj ⊢
   rw [hj]) hb (by rw [e3];omega) (by rw [e3];exact Nat.le_refl _) (by rw [e1,e2];omega)
 rw [e1,e2,e3] at key
 refine key.mono ?_
 rintro e w' ⟨rfl,hB⟩
 exact ⟨rfl,below_gb' hB⟩
def PPost (σ:Bool) (N:List Sp) (w:World) (e:Ending) (w':World):Prop:=w.grownBy w' none/\((σ=false/\e=.returned (.tuple #[.string ⟨#[]⟩,.int .i64 2]))\/(σ=true/\e=.returned (.tuple #[.string ⟨(rText N).toArray⟩,.int .i64 0])/\∀s ∈ N,NSp s))
set_option maxRecDepth 100000 in
set_option maxHeartbeats 1600000 in
theorem textP_any (sl:Value) (L:List Sp) (N:List Sp) (w:World) (h:SpS w sl L) (ht:Tab w) (hN:outs (tog (holdsL L) false (bnd L))=N) (hL:L.length<=1048576) (hNl:N.length<=1048576) (hsz:∀s ∈ L,smallS s) :
  Calls Tryz.prog 23 #[sl] w (PPost (L.all soundS) N w):=by
 have HA:Hid (SpS w sl L):=h
 have HTB:Hid (Tab w):=ht
 have HNL:Hid (N.length<=1048576):=hNl
 have CN:Hid (∀w a,SpS w a L->Calls Tryz.prog 33 #[a] w (YPost (L.all soundS) N w)):=fun w a h=>by rw [<-hN];exact yNormal a L w h hL hsz
 have CL:Hid (∀w,Calls Tryz.prog 46 #[] w fun e w'=>e=.returned (.agg #[.int .i64 0,.int .i64 0,.int .i64 0,.string ⟨#[48]⟩,.string ⟨#[]⟩])/\w.grownBy w' none):=lowest_any
 have CV:Hid (∀w,Tab w->Calls Tryz.prog 45 #[.agg #[.int .i64 0,.int .i64 0,.int .i64 0,.string ⟨#[48]⟩,.string ⟨#[]⟩]] w fun e w'=>e=.returned (.string ⟨#[48,46,48,46,48,45,48]⟩)/\w.grownBy w' none):=fun w h=>by
  have:=vtext_any 0 0 0 ⟨#[48]⟩ ⟨#[]⟩ w h (by decide) (by decide) (by decide) (by decide) (by decide)
  have e:textV ⟨0,0,0,(⟨#[48]⟩:ByteArray).data.toList,(⟨#[]⟩:ByteArray).data.toList⟩=[48,46,48,46,48,45,48]:=text_zero
  rw [e] at this;exact this
 have aZ:∀wx,(Op.stringOp .add ⟨#[60]⟩ ⟨#[48,46,48,46,48,45,48]⟩).run Tryz.prog wx=.ok (.string ⟨#[60,48,46,48,46,48,45,48]⟩) wx:=fun wx=>add_lists [60] [48,46,48,46,48,45,48] wx (by decide)
 have CX:Hid (∀(s:Sp) w,NSp s->Tab w->Calls Tryz.prog 47 #[.agg #[.int .i64 s.f1,.int .i64 s.f2,.int .i64 s.f3,.string s.f4,.string s.f5,.int .i64 s.t1,.int .i64 s.t2,.int .i64 s.t3,.string s.t4,.string s.t5,.bool s.o]] w fun e w'=>e=.returned (.string ⟨(tOf s).toArray⟩)/\w.grownBy w' none):=fun s w h1 h2=>textOf_any s w h1 h2
 obtain ⟨σ,hσ⟩:∃σ,L.all soundS=σ:=⟨_,rfl⟩
 rw [hσ] at CN ⊢
 obtain ⟨o0,n0,c0,rfl⟩:=sps_slice h
 clear h ht hN hL hNl hsz hσ
 go_enter Tryz.func23,Tryz.ntmps23
 go_wp2_with (first | (go_at_call 33;refine (CN.out _ _ HA.out).mono ?_))
 rintro e w1 ⟨hg,hn⟩
 have HG1:Hid (w.grownBy w1 none):=hg
 have HT1:Hid (Tab w1):=tab_grow HTB.out hg
 clear hg HA HTB
 rcases hn with ⟨rfl,rfl⟩ | ⟨rfl,o1,n1,c1,rfl,hs1,hns⟩
 ·go_wp2
  exact bodyPost_ret (results_tmp2 (t:=2) (u:=3) rfl _ _ _) rfl ⟨HG1.out,Or.inl ⟨rfl,rfl⟩⟩
 have HNS:Hid (∀s ∈ N,NSp s):=hns
 clear hns
 by_cases hz:N=[]
 ·have HR:Hid (rText N=noneT):=by show _=_;rw [hz];rfl
  have hn0:n1=0:=by
   rcases hs1 with ⟨h,_⟩ | ⟨a,cap,h,_⟩
   ·cases h;rfl
   ·cases h;rw [hz];rfl
  subst hn0
  clear hs1
  go_wp2_with (first | (go_at_call 46;refine (CL.out _).mono ?_;rintro e w2 ⟨rfl,hg2⟩) | (go_at_call 45;refine (CV.out _ (tab_grow HT1.out hg2)).mono ?_;rintro e w3 ⟨rfl,hg3⟩))
  refine bodyPost_ret (results_tmp2 (t:=2) (u:=3) rfl _ _ _) rfl ⟨gb_trans HG1.out (gb_trans hg2 hg3),Or.inr ⟨rfl,?_,HNS.out⟩⟩
  rw [HR.out];rfl
 ·rcases hs1 with ⟨_,h⟩ | ⟨a,cap,heq,hcap,hat⟩
  ·exact absurd h hz
  cases heq
  have hpos:0 < N.length:=List.length_pos_iff.2 hz
  have HR:Hid (rText N=Lib.join (N.map tOf) sepT):=if_neg hz
  have HAT:Hid (SpAt w1 a N):=hat
  have hmk:=run_make_row' (P:=Tryz.prog) 93 9 (.string ⟨#[]⟩) 16 Tryz.underlying93 infoStr rfl .i64 .i64 N.length (by have:=HNL.out;omega) (by have:=HNL.out;omega)
  have hnz:((N.length:Int) == 0)=false:=by rw [beq_eq_false_iff_ne];omega
  clear hat
  have HZ:Hid (N ≠ []):=hz
  clear hz
  go_wp2
  obtain ⟨B,hB⟩:∃B,w1.heap.size=B:=⟨_,rfl⟩
  obtain ⟨W1,hW1⟩:∃W,w1.alloc (.cells (madeCells #[.string ⟨#[]⟩] N.length) 9)=W:=⟨_,rfl⟩
  have HX0:Hid (TxAt W1 B N 0):=by
   show W1.heap[B]?=_
   rw [<-hW1,<-hB,heap_alloc_new w1,made_str]
   congr 2
   apply Array.ext'
   simp [List.map_const']
  have HGW:Hid (w1.grownBy W1 none):=by show w1.grownBy W1 none;rw [<-hW1];exact gb_alloc (gb_refl w1 none) _
  have HB:Hid (w1.heap.size<=B):=by show _<=_;omega
  try rw [hW1]
  try rw [hB]
  clear hW1 hB hmk
  go_loopw [28] (fun vi wk=>∃i:Nat,vi=.int .i64 i/\i<=N.length/\TxAt wk B N i/\w1.grownBy wk none) (fun vi _=>N.length - (intOf vi).toNat)
  case atStart=>exact ⟨0,rfl,Nat.zero_le _,HX0.out,HGW.out⟩
  case round =>
   obtain ⟨i,rfl,hi,htx,hgk⟩:=hrel
   have HX:Hid (TxAt wr B N i):=htx
   have HG:Hid (w1.grownBy wr none):=hgk
   clear htx hgk
   by_cases hlt:i < N.length
   ·obtain ⟨s,hs⟩:∃s,N[i]=s:=⟨_,rfl⟩
    have hns:NSp s:=by rw [<-hs];exact HNS.out _ (List.getElem_mem hlt)
    have HEL:Hid (EltAt wr (a.add (i * 11)) s):=by show EltAt wr _ s;rw [<-hs];exact (HAT.out i hlt).grow HG.out
    have HS:Hid (N[i]=s):=hs
    have hTb:Tab wr:=tab_grow HT1.out HG.out
    have CXs:Hid (∀w,Tab w->Calls Tryz.prog 47 #[.agg #[.int .i64 s.f1,.int .i64 s.f2,.int .i64 s.f3,.string s.f4,.string s.f5,.int .i64 s.t1,.int .i64 s.t2,.int .i64 s.t3,.string s.t4,.string s.t5,.bool s.o]] w fun e w'=>e=.returned (.string ⟨(tOf s).toArray⟩)/\w.grownBy w' none):=fun w h=>CX.out s w hns h
    have HTB:Hid (Tab wr):=hTb
    clear hs hns hTb
    obtain ⟨e0,e1,e2,e3,e4,e5,e6,e7,e8,e9,e10⟩:=HEL.out
    have hnl:=HNL.out
    go_wp2_with (first | (go_at_call 47;refine (CXs.out _ (tab_grow HTB.out (gb_alloc (gb_refl wr none) _))).mono ?_))
    rintro e w2 ⟨rfl,hg2⟩
    have hgx:wr.grownBy w2 none:=gb_trans (gb_alloc (gb_refl wr none) _) hg2
    have HX2:Hid (TxAt w2 B N i):=HX.out.grow hgx
    have HGF:Hid (w1.grownBy w2 none):=gb_trans HG.out hgx
    have hc:=HX2.out.cell hlt
    have hf:=HX2.out.f i
    clear hg2 hgx e0 e1 e2 e3 e4 e5 e6 e7 e8 e9 e10
    go_wp2
    exact ⟨⟨i+1,by go_num,by omega,HX2.out.set hlt HS.out,gb_row0 HGF.out (gb_set (gb_refl w2 (some B)) _ _) (fun q hq=>by injection hq with hq;have:=HB.out;omega)⟩,by simp [intOf];omega⟩
   ·have hil:i=N.length:=by omega
    have HJ:Hid (Calls Tryz.prog 48 #[.slice (some ⟨B,0,none⟩) N.length N.length,.string ⟨#[32,124,124,32]⟩] wr fun e w'=>e=.returned (.string ⟨(Lib.join (N.map tOf) sepT).toArray⟩)/\wr.grownBy w' none):=by
     have h1:=HX.out
     rw [hil] at h1
     exact join_tx wr B N h1 HZ.out HNS.out HNL.out
    have HGF:Hid (w.grownBy wr none):=gb_trans HG1.out HG.out
    clear hil hi
    go_wp2_with (first | (go_at_call 48;refine HJ.out.mono ?_;rintro e w9 ⟨rfl,hg9⟩))
    refine bodyPost_ret (results_tmp2 (t:=2) (u:=3) rfl _ _ _) rfl ⟨gb_trans HGF.out hg9,Or.inr ⟨rfl,?_,HNS.out⟩⟩
    rw [HR.out];rfl
open Go.RowKit
set_option linter.unusedVariables false
theorem isSp_any (c:UInt8) (w:World):Calls Tryz.prog 91 #[.int .u8 (c.toNat:Int)] w fun e w'=>e=.returned (.bool (isSp c))/\w'=w:=by
 go_enter Tryz.func91,Tryz.ntmps91
 go_wp2
 all_goals go_ret
 all_goals (refine ⟨ret_bool ?_,rfl⟩;rw [Bool.eq_iff_iff];unfold isSp;simp [<-UInt8.toNat_inj];try omega)
set_option maxHeartbeats 800000 in
theorem run_sp (b:Nat) (s:ByteArray) (i:Nat) (w:World) (hi:i<=s.size) (h:RS b s i w) (hs:s.size < 2 ^ 62) :
  Calls Tryz.prog 90 #[.pointer (some ⟨b,0,none⟩),.func (.func 91) #[] #[]] w fun e w'=>e=.returned (.string ⟨(subT s.data.toList i (runN isSp s.data.toList i)).toArray⟩)/\RS b s (i+runN isSp s.data.toList i) w'/\w.grownBy w' (some b):=by
 have h0:=h.c0
 have h1:=h.c1
 have HR:Hid (RS b s i w):=h
 obtain ⟨N,hN⟩:∃N,i+runN isSp s.data.toList i=N:=⟨_,rfl⟩
 have HN:Hid (N<=s.size):=by
  show N<=s.size
  have:=runN_le isSp s.data.toList i (by simpa using hi)
  simp at this;omega
 have HA:Hid (∀j,i<=j->(hj:j < s.size)->j < N->isSp s[j]=true):=by
  show ∀j,i<=j->(hj:j < s.size)->j < N->isSp s[j]=true
  intro j h1 hj h2
  obtain ⟨g1,g2⟩:=runN_at isSp s.data.toList i (j - i) (by omega)
  have e:i+(j - i)=j:=by omega
  simp only [e] at g2
  exact g2
 have HS:Hid (∀hj:N < s.size,isSp s[N]=false):=by
  show ∀hj:N < s.size,isSp s[N]=false
  intro hj
  have:=runN_stop isSp s.data.toList i (by rw [hN];simpa using hj)
  simp only [hN] at this
  exact this
 have HT:Hid (runN isSp s.data.toList i=N - i/\i<=N):=⟨by omega,by omega⟩
 have HI:Hid (i<=s.size):=hi
 rw [show runN isSp s.data.toList i=N - i by omega]
 obtain ⟨X,hX⟩:∃X:List UInt8,X=subT s.data.toList i (N - i):=⟨_,rfl⟩
 have hsl:∀wx,(Instr.slice 9 (.string s) (some (.int .i64 (i:Int))) (some (.int .i64 (N:Int))) none).run Tryz.prog wx=.ok (.string ⟨X.toArray⟩) wx:=fun wx=>by rw [hX];exact run_sub s i N (by omega) HN.out wx
 rw [<-hX,show i+(N - i)=N by omega]
 clear h hN hi hX
 go_enter Tryz.func90,Tryz.ntmps90
 go_wp2
 go_loopw [] (fun wr=>∃j:Nat,i<=j/\j<=N/\RS b s j wr/\w.grownBy wr (some b)) (fun wr=>s.size - placeOf b wr)
 case atStart=>exact ⟨i,Nat.le_refl _,HT.out.2,HR.out,gb_refl _ _⟩
 case round =>
  obtain ⟨j,hij,hjn,hrs,hgb⟩:=hrel
  have d0:=hrs.c0
  have d1:=hrs.c1
  have df:=hrs.f1
  have HRS:Hid (RS b s j wr):=hrs
  have HGB:Hid (w.grownBy wr (some b)):=hgb
  have hns:=HN.out
  clear hrs hgb h0 h1
  by_cases hlt:j < N
  ·have hjs:j < s.size:=by omega
   have hD:isSp s[j]=true:=HA.out j hij hjs hlt
   have HK:Hid (i<=j/\j < N):=⟨hij,hlt⟩
   clear hlt hjn hns hij
   have hlt2:(j:Int) < (s.size:Int):=by omega
   go_wp2
   go_quiet (first | (go_at_call 91;exact Calls.quiet_of_same (isSp_any _ _)))
   go_wp2
   go_roundw
   case rel =>
    have:=HK.out
    exact ⟨j+1,by omega,by omega,(HRS.out.drew _).set (j+1),gb_set (gb_drew HGB.out _) _ _⟩
   case measure =>
    have e1:=HRS.out.place
    have e2:=((HRS.out.drew nq).set (j+1)).place
    rw [e1]
    exact Nat.lt_of_le_of_lt (Nat.le_of_eq (congrArg (s.size - ·) e2)) (by omega)
  ·have hjN:j=N:=by omega
   subst hjN
   by_cases hjs:j < s.size
   ·have hD:isSp s[j]=false:=HS.out hjs
    have hlt2:(j:Int) < (s.size:Int):=by omega
    clear hlt hjn hns hij
    go_wp2
    go_quiet (first | (go_at_call 91;exact Calls.quiet_of_same (isSp_any _ _)))
    go_wp2
    obtain ⟨W,hW⟩:∃W,wr.drewN nq=W:=⟨_,rfl⟩
    have e0:W.cell? ⟨b,0,none⟩=some (.string s):=by rw [<-hW];exact d0
    have e1:W.cell? ⟨b,1,none⟩=some (.int .i64 (j:Int)):=by rw [<-hW];exact d1
    have HW:Hid (RS b s j W/\w.grownBy W (some b)):=by
     show RS b s j W/\w.grownBy W (some b)
     rw [<-hW];exact ⟨HRS.out.drew _,gb_drew HGB.out _⟩
    rw [hW]
    clear hW d0 d1 df HRS HGB
    go_quiet (fail)
    go_wp2
    go_ret
    exact ⟨rfl,HW.out.1.drew _,gb_drew HW.out.2 _⟩
   ·have hd2:decide ((j:Int) < (s.size:Int))=false:=by simp;omega
    clear hlt hjn hns hij
    go_wp2
    go_quiet (fail)
    go_wp2
    obtain ⟨W,hW⟩:∃W,wr.drewN nq=W:=⟨_,rfl⟩
    have e0:W.cell? ⟨b,0,none⟩=some (.string s):=by rw [<-hW];exact d0
    have e1:W.cell? ⟨b,1,none⟩=some (.int .i64 (j:Int)):=by rw [<-hW];exact d1
    have HW:Hid (RS b s j W/\w.grownBy W (some b)):=by
     show RS b s j W/\w.grownBy W (some b)
     rw [<-hW];exact ⟨HRS.out.drew _,gb_drew HGB.out _⟩
    rw [hW]
    clear hW d0 d1 df HRS HGB
    go_quiet (fail)
    go_wp2
    go_ret
    exact ⟨rfl,HW.out.1.drew _,gb_drew HW.out.2 _⟩
theorem wild0 {l:List UInt8} {i:Nat} (h:l[i]?=some 42):wildAt l i=true:=by unfold wildAt;rw [decide_eq_true h];rfl
theorem wild1 {l:List UInt8} {i:Nat} (h:l[i]?=some 120):wildAt l i=true:=by unfold wildAt;rw [h];rfl
theorem wild2 {l:List UInt8} {i:Nat} (h:l[i]?=some 88):wildAt l i=true:=by unfold wildAt;rw [h];rfl
theorem wild3 {l:List UInt8} {i:Nat} (h0:¬ l[i]?=some 42) (h1:¬ l[i]?=some 120) (h2:¬ l[i]?=some 88):wildAt l i=false:=by unfold wildAt;rw [decide_eq_false h0,decide_eq_false h1,decide_eq_false h2];rfl
set_option maxHeartbeats 400000 in
theorem blanks_any (b:Nat) (s:ByteArray) (i:Nat) (w:World) (hi:i<=s.size) (h:RS b s i w) (hs:s.size < 2 ^ 62) :
  Calls Tryz.prog 58 #[.pointer (some ⟨b,0,none⟩)] w fun e w'=>e=.returned (.bool (decide (i < skipW s.data.toList i)))/\RS b s (skipW s.data.toList i) w'/\w.grownBy w' (some b):=by
 have CR:Hid (Calls Tryz.prog 90 #[.pointer (some ⟨b,0,none⟩),.func (.func 91) #[] #[]] w fun e w'=>e=.returned (.string ⟨(subT s.data.toList i (runN isSp s.data.toList i)).toArray⟩)/\RS b s (i+runN isSp s.data.toList i) w'/\w.grownBy w' (some b)):=run_sp b s i w hi h hs
 have hsl:s.data.toList.length=s.size:=by simp
 have hle:i+runN isSp s.data.toList i<=s.size:=by have:=runN_le isSp s.data.toList i (by rw [hsl];exact hi);rw [hsl] at this;exact this
 have hln:=sub_len s.data.toList i (runN isSp s.data.toList i) (by rw [hsl];exact hle)
 unfold skipW
 obtain ⟨k,hk⟩:∃k,runN isSp s.data.toList i=k:=⟨_,rfl⟩
 rw [hk] at CR hln ⊢
 obtain ⟨X,hX⟩:∃X:ByteArray,X=⟨(subT s.data.toList i k).toArray⟩:=⟨_,rfl⟩
 rw [<-hX] at CR
 have hXs:X.size=k:=by rw [hX];show (subT s.data.toList i k).toArray.size=k;simpa using hln
 clear hk hX hln hsl hle h hi
 by_cases hk0:k=0
 ·have e1:=emp_t2 (hXs.trans hk0)
  have HZ:Hid (decide (i < i+k)=false):=by show _=_;rw [hk0];simp
  clear hk0 hXs
  go_enter Tryz.func58,Tryz.ntmps58
  go_wp2_with (go_at_call 90;refine CR.out.mono ?_)
  rintro e w1 ⟨rfl,hr1,hg1⟩
  have HF:Hid (RS b s (i+k) w1/\w.grownBy w1 (some b)):=⟨hr1,hg1⟩
  clear hr1 hg1
  go_wp2
  go_ret
  exact ⟨ret_bool HZ.out.symm,HF.out.1,HF.out.2⟩
 ·have e1:=emp_f2 (fun h=>hk0 (hXs.symm.trans h))
  have HZ:Hid (decide (i < i+k)=true):=by show _=_;simp;omega
  clear hk0 hXs
  go_enter Tryz.func58,Tryz.ntmps58
  go_wp2_with (go_at_call 90;refine CR.out.mono ?_)
  rintro e w1 ⟨rfl,hr1,hg1⟩
  have HF:Hid (RS b s (i+k) w1/\w.grownBy w1 (some b)):=⟨hr1,hg1⟩
  clear hr1 hg1
  go_wp2
  go_ret
  exact ⟨ret_bool HZ.out.symm,HF.out.1,HF.out.2⟩
set_option maxHeartbeats 400000 in
theorem wild_any (b:Nat) (s:ByteArray) (i:Nat) (w:World) (hi:i<=s.size) (h:RS b s i w) (hs:s.size < 2 ^ 62) :
  Calls Tryz.prog 133 #[.pointer (some ⟨b,0,none⟩)] w fun e w'=>e=.returned (.bool (wildAt s.data.toList i))/\RS b s (if wildAt s.data.toList i=true then i+1 else i) w'/\w.grownBy w' (some b):=by
 by_cases q0:s.data.toList[i]?=some 42
 ·have C0:Hid (∀w,RS b s i w->Calls Tryz.prog 60 #[.pointer (some ⟨b,0,none⟩),.string ⟨#[42]⟩] w fun e w'=>e=.returned (.bool true)/\RS b s (i+1) w'/\w.grownBy w' (some b)):=fun w h=>take_yes b s i 42 w q0 h hs
  have HZ:Hid (wildAt s.data.toList i=true):=wild0 q0
  rw [HZ.out]
  have HR:Hid (RS b s i w):=h
  have HG:Hid (w.grownBy w (some b)):=gb_refl _ _
  clear h hi hs q0
  go_enter Tryz.func133,Tryz.ntmps133
  go_wp2_with (first | (go_at_call 60;refine (C0.out _ HR.out).mono ?_))
  rintro e w1 ⟨rfl,hr,hg⟩
  replace HR:Hid (RS b s (i+1) w1):=hr
  replace HG:Hid (w.grownBy w1 (some b)):=gb_trans HG.out hg
  clear hr hg
  go_wp2
  go_ret
  exact ⟨rfl,HR.out,HG.out⟩
 ·by_cases q1:s.data.toList[i]?=some 120
  ·have C0:Hid (∀w,RS b s i w->Calls Tryz.prog 60 #[.pointer (some ⟨b,0,none⟩),.string ⟨#[42]⟩] w fun e w'=>e=.returned (.bool false)/\RS b s (i) w'/\w.grownBy w' (some b)):=fun w h=>take_no b s i 42 w hi q0 h hs
   have C1:Hid (∀w,RS b s i w->Calls Tryz.prog 60 #[.pointer (some ⟨b,0,none⟩),.string ⟨#[120]⟩] w fun e w'=>e=.returned (.bool true)/\RS b s (i+1) w'/\w.grownBy w' (some b)):=fun w h=>take_yes b s i 120 w q1 h hs
   have HZ:Hid (wildAt s.data.toList i=true):=wild1 q1
   rw [HZ.out]
   have HR:Hid (RS b s i w):=h
   have HG:Hid (w.grownBy w (some b)):=gb_refl _ _
   clear h hi hs q0 q1
   go_enter Tryz.func133,Tryz.ntmps133
   go_wp2_with (first | (go_at_call 60;refine (C0.out _ HR.out).mono ?_))
   rintro e w1 ⟨rfl,hr,hg⟩
   replace HR:Hid (RS b s (i) w1):=hr
   replace HG:Hid (w.grownBy w1 (some b)):=gb_trans HG.out hg
   clear hr hg
   go_wp2_with (first | (go_at_call 60;refine (C1.out _ HR.out).mono ?_))
   rintro e w2 ⟨rfl,hr,hg⟩
   replace HR:Hid (RS b s (i+1) w2):=hr
   replace HG:Hid (w.grownBy w2 (some b)):=gb_trans HG.out hg
   clear hr hg
   go_wp2
   go_ret
   exact ⟨rfl,HR.out,HG.out⟩
  ·by_cases q2:s.data.toList[i]?=some 88
   ·have C0:Hid (∀w,RS b s i w->Calls Tryz.prog 60 #[.pointer (some ⟨b,0,none⟩),.string ⟨#[42]⟩] w fun e w'=>e=.returned (.bool false)/\RS b s (i) w'/\w.grownBy w' (some b)):=fun w h=>take_no b s i 42 w hi q0 h hs
    have C1:Hid (∀w,RS b s i w->Calls Tryz.prog 60 #[.pointer (some ⟨b,0,none⟩),.string ⟨#[120]⟩] w fun e w'=>e=.returned (.bool false)/\RS b s (i) w'/\w.grownBy w' (some b)):=fun w h=>take_no b s i 120 w hi q1 h hs
    have C2:Hid (∀w,RS b s i w->Calls Tryz.prog 60 #[.pointer (some ⟨b,0,none⟩),.string ⟨#[88]⟩] w fun e w'=>e=.returned (.bool true)/\RS b s (i+1) w'/\w.grownBy w' (some b)):=fun w h=>take_yes b s i 88 w q2 h hs
    have HZ:Hid (wildAt s.data.toList i=true):=wild2 q2
    rw [HZ.out]
    have HR:Hid (RS b s i w):=h
    have HG:Hid (w.grownBy w (some b)):=gb_refl _ _
    clear h hi hs q0 q1 q2
    go_enter Tryz.func133,Tryz.ntmps133
    go_wp2_with (first | (go_at_call 60;refine (C0.out _ HR.out).mono ?_))
    rintro e w1 ⟨rfl,hr,hg⟩
    replace HR:Hid (RS b s (i) w1):=hr
    replace HG:Hid (w.grownBy w1 (some b)):=gb_trans HG.out hg
    clear hr hg
    go_wp2_with (first | (go_at_call 60;refine (C1.out _ HR.out).mono ?_))
    rintro e w2 ⟨rfl,hr,hg⟩
    replace HR:Hid (RS b s (i) w2):=hr
    replace HG:Hid (w.grownBy w2 (some b)):=gb_trans HG.out hg
    clear hr hg
    go_wp2_with (first | (go_at_call 60;refine (C2.out _ HR.out).mono ?_))
    rintro e w3 ⟨rfl,hr,hg⟩
    replace HR:Hid (RS b s (i+1) w3):=hr
    replace HG:Hid (w.grownBy w3 (some b)):=gb_trans HG.out hg
    clear hr hg
    go_wp2
    go_ret
    exact ⟨rfl,HR.out,HG.out⟩
   ·have C0:Hid (∀w,RS b s i w->Calls Tryz.prog 60 #[.pointer (some ⟨b,0,none⟩),.string ⟨#[42]⟩] w fun e w'=>e=.returned (.bool false)/\RS b s (i) w'/\w.grownBy w' (some b)):=fun w h=>take_no b s i 42 w hi q0 h hs
    have C1:Hid (∀w,RS b s i w->Calls Tryz.prog 60 #[.pointer (some ⟨b,0,none⟩),.string ⟨#[120]⟩] w fun e w'=>e=.returned (.bool false)/\RS b s (i) w'/\w.grownBy w' (some b)):=fun w h=>take_no b s i 120 w hi q1 h hs
    have C2:Hid (∀w,RS b s i w->Calls Tryz.prog 60 #[.pointer (some ⟨b,0,none⟩),.string ⟨#[88]⟩] w fun e w'=>e=.returned (.bool false)/\RS b s (i) w'/\w.grownBy w' (some b)):=fun w h=>take_no b s i 88 w hi q2 h hs
    have HZ:Hid (wildAt s.data.toList i=false):=wild3 q0 q1 q2
    rw [HZ.out]
    have HR:Hid (RS b s i w):=h
    have HG:Hid (w.grownBy w (some b)):=gb_refl _ _
    clear h hi hs q0 q1 q2
    go_enter Tryz.func133,Tryz.ntmps133
    go_wp2_with (first | (go_at_call 60;refine (C0.out _ HR.out).mono ?_))
    rintro e w1 ⟨rfl,hr,hg⟩
    replace HR:Hid (RS b s (i) w1):=hr
    replace HG:Hid (w.grownBy w1 (some b)):=gb_trans HG.out hg
    clear hr hg
    go_wp2_with (first | (go_at_call 60;refine (C1.out _ HR.out).mono ?_))
    rintro e w2 ⟨rfl,hr,hg⟩
    replace HR:Hid (RS b s (i) w2):=hr
    replace HG:Hid (w.grownBy w2 (some b)):=gb_trans HG.out hg
    clear hr hg
    go_wp2_with (first | (go_at_call 60;refine (C2.out _ HR.out).mono ?_))
    rintro e w3 ⟨rfl,hr,hg⟩
    replace HR:Hid (RS b s (i) w3):=hr
    replace HG:Hid (w.grownBy w3 (some b)):=gb_trans HG.out hg
    clear hr hg
    go_wp2
    go_ret
    exact ⟨rfl,HR.out,HG.out⟩
open Go.RowKit
set_option linter.unusedVariables false
theorem gb_own0 {w wa wb:World} {B:Nat} (h:w.grownBy wa none) (hg:wa.grownBy wb (some B)) (hB:w.heap.size<=B):w.grownBy wb none :=
 ⟨hg.os.trans h.os,hg.tape.trans h.tape,hg.output.trans h.output,Nat.le_trans h.size hg.size,fun k hk hn=>(hg.block k (Nat.lt_of_lt_of_le hk h.size) (fun e=>by have:=Option.some.inj e;omega)).trans (h.block k hk hn)⟩
theorem gb_drw {w w':World} {r:Option Nat} (h:w.grownBy w' r):w.grownBy w'.drew r:=⟨h.os,h.tape,h.output,h.size,h.block⟩
set_option maxRecDepth 100000 in
set_option maxHeartbeats 400000 in
theorem numbersOf_any (A:Nat) (w:World) (h:A < w.heap.size) :
  Calls Tryz.prog 132 #[.pointer (some ⟨A,0,none⟩)] w fun e w'=>e=.returned (.agg #[.pointer (some ⟨A,0,none⟩),.pointer (some ⟨A,1,none⟩),.pointer (some ⟨A,2,none⟩)])/\w.grownBy w' none:=by
 go_enter Tryz.func132,Tryz.ntmps132
 go_wp2
 obtain ⟨B,hB⟩:∃B,w.heap.size=B:=⟨_,rfl⟩
 obtain ⟨W,hW⟩:∃W,w.alloc (.cells #[.pointer none,.pointer none,.pointer none] 181)=W:=⟨_,rfl⟩
 have hrow:W.heap[B]?=some (.cells #[.pointer none,.pointer none,.pointer none] 181 (0,0)):=by rw [<-hW,<-hB];exact heap_alloc_new w _
 have HG:Hid (w.grownBy W none):=by show w.grownBy W none;rw [<-hW];exact gb_alloc (gb_refl w none) _
 have HR:Hid (W.heap[B]?=some (.cells #[.pointer none,.pointer none,.pointer none] 181 (0,0))):=hrow
 have c0:W.cell? ⟨B,0,none⟩=some (.pointer none):=by rw [Lib.cell_of_heap hrow];rfl
 have c1:W.cell? ⟨B,1,none⟩=some (.pointer none):=by rw [Lib.cell_of_heap hrow];rfl
 have c2:W.cell? ⟨B,2,none⟩=some (.pointer none):=by rw [Lib.cell_of_heap hrow];rfl
 have ff:∀o,W.frozen? ⟨B,o,none⟩=false:=fun o=>Lib.frozen_of_heap hrow o
 have HB:Hid (w.heap.size<=B):=by show _<=_;omega
 try rw [hW]
 try rw [hB]
 clear hrow hW hB h
 go_region_held3 (fun w'=>True) (trivial) (fail)
 have HGF:Hid (w.grownBy (((W.setCell ⟨B,0,none⟩ (.pointer (some ⟨A,0,none⟩))).setCell ⟨B,1,none⟩ (.pointer (some ⟨A,1,none⟩))).setCell ⟨B,2,none⟩ (.pointer (some ⟨A,2,none⟩))).drew none):=gb_own0 HG.out (gb_drw (gb_set (gb_set (gb_set (gb_refl W (some B)) _ _) _ _) _ _)) HB.out
 clear c0 c1 c2 ff
 go_wp2
 refine bodyPost_ret (results_cell_row rfl _ _ B 181 #[.pointer (some ⟨A,0,none⟩),.pointer (some ⟨A,1,none⟩),.pointer (some ⟨A,2,none⟩)] (0,0) _ rfl ?_ Tryz.underlying181 rfl (by kernel_rfl)) rfl ⟨rfl,HGF.out⟩
 have h3:(((W.setCell ⟨B,0,none⟩ (.pointer (some ⟨A,0,none⟩))).setCell ⟨B,1,none⟩ (.pointer (some ⟨A,1,none⟩))).setCell ⟨B,2,none⟩ (.pointer (some ⟨A,2,none⟩))).heap[B]?=some (.cells #[.pointer (some ⟨A,0,none⟩),.pointer (some ⟨A,1,none⟩),.pointer (some ⟨A,2,none⟩)] 181 (0,0)):=by
  have hr:=HR.out
  simp [World.setCell,Array.getElem?_modify,hr]
 exact h3
set_option maxHeartbeats 400000 in
theorem signs1_any (a b c n:Int) (P:ByteArray) (w:World) :
  Calls Tryz.prog 123 #[.agg #[.int .i64 a,.int .i64 b,.int .i64 c,.string P,.string ⟨#[]⟩,.int .i64 n]] w fun e w'=>e=.returned (.agg #[.int .i64 a,.int .i64 b,.int .i64 c,.string P,.string ⟨#[]⟩,.int .i64 0,.int .i64 0,.int .i64 0,.string ⟨#[]⟩,.string ⟨#[]⟩,.bool true])/\w.grownBy w' none:=by
 go_enter Tryz.func123,Tryz.ntmps123
 go_wp2
 refine bodyPost_ret (results_cell_row rfl _ _ (w.heap.size+1) 37 #[.int .i64 a,.int .i64 b,.int .i64 c,.string P,.string ⟨#[]⟩,.int .i64 0,.int .i64 0,.int .i64 0,.string ⟨#[]⟩,.string ⟨#[]⟩,.bool true] (0,0) _ rfl ?_ Tryz.underlying37 rfl (by kernel_rfl)) rfl ⟨rfl,gb_alloc (gb_alloc (gb_refl w none) _) _⟩
 have:=heap_alloc_new (w.alloc (.cells #[.int .i64 a,.int .i64 b,.int .i64 c,.string P,.string ⟨#[]⟩,.int .i64 n] 145)) (.cells #[.int .i64 a,.int .i64 b,.int .i64 c,.string P,.string ⟨#[]⟩,.int .i64 0,.int .i64 0,.int .i64 0,.string ⟨#[]⟩,.string ⟨#[]⟩,.bool true] 37)
 rw [show (w.alloc (.cells #[.int .i64 a,.int .i64 b,.int .i64 c,.string P,.string ⟨#[]⟩,.int .i64 n] 145)).heap.size=w.heap.size+1 by simp] at this
 exact this
end Go.Proofs.YtonfldbigenfhaaGreatDoor
