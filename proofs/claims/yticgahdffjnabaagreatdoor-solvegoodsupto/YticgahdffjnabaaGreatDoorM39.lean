import Derived.Test.YticgahdffjnabaaGreatDoorM29
import Derived.Test.YticgahdffjnabaaGreatDoorM05
import Derived.Test.YticgahdffjnabaaGreatDoorM36
set_option linter.unusedVariables false
set_option maxHeartbeats 3200000
namespace Go.Proofs.YticgahdffjnabaaGreatDoor
open Go.RowKit
structure It where
 k:Nat
 v:Vv
def itC (x:It):List Value:=[.int .i64 (x.k:Int),.int .i64 x.v.major,.int .i64 x.v.minor,.int .i64 x.v.patch,.string ⟨x.v.pre.toArray⟩,.string ⟨x.v.build.toArray⟩]
def itemsL (name:ByteArray):List Re->Nat->List It
 | [],_=>[]
 | x :: r,k=>if (decide (x.nm=name) && okV x.ve)=true then ⟨k,verO x.ve⟩ :: itemsL name r (k+1) else itemsL name r (k+1)
theorem items_len (name:ByteArray):∀(L:List Re) (k:Nat),(itemsL name L k).length<=L.length
 | [],k=>Nat.le_refl _
 | x :: r,k=>by
  have:=items_len name r (k+1);unfold itemsL;split <;> simp <;> omega
theorem infoIt:(Tryz.prog.info? 135).map (fun i=>(i.zero,i.size,i.bytes))=some (some (.agg #[.int .i64 0,.int .i64 0,.int .i64 0,.int .i64 0,.string ⟨#[]⟩,.string ⟨#[]⟩]),6,64):=by kernel_rfl
theorem itc_one (s:It):∀u ∈ itC s,u.oneCell'=true:=by
 intro u hu;simp only [itC,List.mem_cons,List.not_mem_nil,or_false] at hu
 rcases hu with rfl | rfl | rfl | rfl | rfl | rfl <;> rfl
theorem own_stay {w w':World} {base:Nat} {e:TypeId} {size:Nat} {v:Value} {n:Nat} {xs:List Value} (h:w.ownsRow base e size v n xs) (hg:w.grownBy w' none):w'.ownsRow base e size v n xs :=
 h.kept hg (by cases v.ownBlock <;> simp)
theorem hrow2 (w:World) (o1 o2:Obj):((w.alloc o1).alloc o2).heap[w.heap.size+1]?=some o2:=by
 have:=heap_alloc_new (w.alloc o1) o2;simpa using this
def ItemsPost (M:List It) (w:World) (e:Ending) (w':World):Prop:=∃v,e=.returned v/\w'.ownsRow w.heap.size 135 6 v M.length (M.flatMap itC)/\Below w.heap.size w w'
set_option maxRecDepth 100000 in
theorem items_at (a:Addr) (cap:Nat) (L:List Re) (name:ByteArray) (w:World) (hL:L.length<=1048576) (hcap:L.length<=cap) (hV:∀x ∈ L,x.ve.size < 2 ^ 62) (h:∀i (hi:i < L.length),ReAt w (a.add (i * 4)) L[i]) :
  Calls Tryz.prog 65 #[.slice (some a) L.length cap,.string name] w (ItemsPost (itemsL name L 0) w):=by
 have HA:Hd (∀i (hi:i < L.length),ReAt w (a.add (i * 4)) L[i]):=h;have CT:Hd (∀x ∈ L,∀w,Calls Tryz.prog 22 #[.string x.ve] w fun e w'=>(∃k:Int,e=.returned (.tuple #[valV (verO x.ve),.int .i64 (parseV x.ve.data.toList).1,.int .i64 k]))/\w.grownBy w' none):=fun x hx w=>(parse_any x.ve w (hV x hx)).mono fun e w' ⟨h1,h2⟩=>⟨⟨_,h1⟩,h2⟩
 obtain ⟨R,hR⟩:=nm (itemsL name L 0);have HR:Hd ([]++itemsL name (L.drop 0) 0=R):=hR;have HRL:Hd (R.length<=1048576):=by rw [<-hR];exact Nat.le_trans (items_len name L 0) hL
 rw [hR];clear h hV hR;have hinfo:=infoIt;obtain ⟨i0,hi0,hii⟩:=Option.map_eq_some_iff.1 hinfo;simp only [Prod.mk.injEq] at hii;obtain ⟨hz0,hz1,hzb⟩:=hii;clear hinfo;go_enter Tryz.func65,Tryz.ntmps65;go_wp2;go_loopw [5,13] (fun vm vi wr=>∃(i:Nat) (M:List It),vi=.int .i64 i/\i<=L.length/\M++itemsL name (L.drop i) i=R/\wr.ownsRow w.heap.size 135 6 vm M.length (M.flatMap itC)/\Below w.heap.size w wr) (fun _ vi _=>L.length - (intOf vi).toNat)
 case atStart=>exact ⟨0,[],rfl,Nat.zero_le _,HR.o,World.ownsRow_nil _ _ _ _,Below.refl _ _⟩
 case round =>
  obtain ⟨i,M,rfl,hi,hf,hown,hb⟩:=hrel;have HO:Hd (wr.ownsRow w.heap.size 135 6 u5 M.length (M.flatMap itC)):=hown;have HB:Hd (Below w.heap.size w wr):=hb
  by_cases hlt:i < L.length
  ·obtain ⟨x,hx⟩:=nm (L[i]);have hat0:ReAt wr (a.add (i * 4)) x:=by rw [<-hx];exact (HA.o i hlt).grow (bel_gb hb)
   obtain ⟨e0,e1,⟨sv,e2,hsv⟩,e3⟩:=hat0;obtain ⟨so,sc,rfl⟩:=nds_slice hsv;obtain ⟨sn,hsn⟩:∃n,x.nd.length=n:=⟨_,rfl⟩;rw [hsn] at e2;clear hsv hsn;have HF:Hd (M++(if (decide (x.nm=name) && okV x.ve)=true then ⟨i,verO x.ve⟩ :: itemsL name (L.drop (i+1)) (i+1) else itemsL name (L.drop (i+1)) (i+1))=R):=by
    show _=_;rw [List.drop_eq_getElem_cons hlt,hx] at hf;exact hf
   have CX:Hd (∀w,Calls Tryz.prog 22 #[.string x.ve] w fun e w'=>(∃k:Int,e=.returned (.tuple #[valV (verO x.ve),.int .i64 (parseV x.ve.data.toList).1,.int .i64 k]))/\w.grownBy w' none):=fun w=>CT.o x (by rw [<-hx];exact List.getElem_mem _) w
   unfold valV at CX;obtain ⟨E,hE⟩:=nm ((parseV x.ve.data.toList).1);obtain ⟨y,hy⟩:=nm (verO x.ve);obtain ⟨y1,y2,y3,y4,y5⟩:=y;rw [hE,hy] at CX;simp only [] at CX;have HK:Hd (okV x.ve=decide (E=0)):=by show _=_;unfold okV;rw [hE]
   rw [hy] at HF;have hbs:=hb.size;clear hf hx hE hy hown hb
   by_cases hn:x.nm=name
   ·have q:=txt_eq hn;have q2:(x.nm.toList != name.toList)=false:=by simp [bne,q]
    have HN:Hd (x.nm=name):=hn;clear hn;go_wp2_with (first | (go_at_call 22;refine (CX.o _).mono ?_));rintro e w1 ⟨⟨k,rfl⟩,hg⟩;have hga:wr.grownBy w1 none:=gb_trans (gb_alloc (gb_refl wr none) _) hg;replace HO:Hd (w1.ownsRow w.heap.size 135 6 u5 M.length (M.flatMap itC)):=own_stay HO.o hga;replace HB:Hd (Below w.heap.size w w1):=hbelow HB.o hbs hga;clear hg hga e0 e1 e2 e3
    cases hz:(E == 0) with
    | true =>
     have hE0:E=0:=by simpa using hz
     have HQ:Hd ((M++[⟨i,⟨y1,y2,y3,y4,y5⟩⟩])++itemsL name (L.drop (i+1)) (i+1)=R):=by
      have:=HF.o;rw [if_pos (by rw [HK.o,HN.o];simp [hE0])] at this;show _=_;rw [List.append_assoc];exact this
     have HML:Hd (M.length+1<=1048576):=by
      have h1:=congrArg List.length HQ.o;have h2:=HRL.o;simp only [List.length_append,List.length_cons,List.length_nil] at h1;show _<=_;omega
     clear hE0;go_wp2_with (first | (at_builtin;refine wpList_append_own _ rfl _ _ 132 rfl w.heap.size 135 i0 (.agg #[.int .i64 0,.int .i64 0,.int .i64 0,.int .i64 0,.string ⟨#[]⟩,.string ⟨#[]⟩]) 6 64 Tryz.underlying132 hi0 hz0 hz1 hzb rfl (by decide) _ _ _ rfl ((HO.o.alloc _).alloc _) _ 1 1 (itC ⟨i,⟨y1,y2,y3,y4,y5⟩⟩) rfl rfl (World.news_of_block (hrow2 _ _ _)) (itc_one _) (by unfold maxLen;have:=HML.o;omega) (by have:=HML.o;omega) (by have:=HB.o.size;simp;omega) ?_;intro v' w3 hown3 hgrow _));have hb3:Below w.heap.size w w3:=((HB.o.alloc HB.o.size _).alloc (by have:=HB.o.size;simp;omega) _).grown hgrow (by have:=HB.o.size;simp;omega) (fun q hq=>(HO.o.lt q hq).1);refine ⟨⟨i+1,M++[⟨i,⟨y1,y2,y3,y4,y5⟩⟩],by go_num,by omega,HQ.o,?_,hb3⟩,by simp [intOf];omega⟩;rw [List.length_append,List.flatMap_append];simpa using hown3
    | false =>
     have HQ:Hd (M++itemsL name (L.drop (i+1)) (i+1)=R):=by
      have h0:¬ E=0:=by simpa using hz
      have:=HF.o;rw [if_neg (by rw [HK.o];simp [h0])] at this;exact this
     go_wp2;exact ⟨⟨i+1,M,by go_num,by omega,HQ.o,HO.o.alloc _,HB.o.alloc HB.o.size _⟩,by simp [intOf];omega⟩
   ·have q:=txt_ne hn;have q2:(x.nm.toList != name.toList)=true:=by simp [bne,q]
    have HQ:Hd (M++itemsL name (L.drop (i+1)) (i+1)=R):=by
     have:=HF.o;rw [if_neg (by simp [hn])] at this;exact this
    clear hn;go_wp2;exact ⟨⟨i+1,M,by go_num,by omega,HQ.o,HO.o.alloc _,HB.o.alloc HB.o.size _⟩,by simp [intOf];omega⟩
  ·have hil:i=L.length:=by omega
   have HQ:Hd (M=R):=by
    show _=_;rw [hil,List.drop_length] at hf;simpa [itemsL] using hf
   clear hf hil hown hb;go_wp2;refine bodyPost_ret (results_tmp (t:=4) rfl _ _ _) rfl ⟨u5,rfl,by rw [<-HQ.o];exact HO.o,HB.o⟩
open Go.RowKit
def ItAt (w:World) (p:Addr) (x:It):Prop:=w.cell? p=some (.int .i64 (x.k:Int))/\w.cell? ⟨p.block,p.off+1,none⟩=some (.int .i64 x.v.major)/\w.cell? ⟨p.block,p.off+2,none⟩=some (.int .i64 x.v.minor)/\w.cell? ⟨p.block,p.off+3,none⟩=some (.int .i64 x.v.patch)/\w.cell? ⟨p.block,p.off+4,none⟩=some (.string ⟨x.v.pre.toArray⟩)/\w.cell? ⟨p.block,p.off+5,none⟩=some (.string ⟨x.v.build.toArray⟩)
theorem ItAt.grow {w w':World} {p:Addr} {x:It} (h:ItAt w p x) (hg:w.grownBy w' none):ItAt w' p x:=by
 obtain ⟨h0,h1,h2,h3,h4,h5⟩:=h;exact ⟨hg.cell h0 (by simp),hg.cell h1 (by simp),hg.cell h2 (by simp),hg.cell h3 (by simp),hg.cell h4 (by simp),hg.cell h5 (by simp)⟩
def ItS (w:World) (v:Value) (M:List It):Prop:=(v=.slice none 0 0/\M=[])\/∃a cap,v=.slice (some a) M.length cap/\M.length<=cap/\∀i (hi:i < M.length),ItAt w (a.add (i * 6)) M[i]
theorem it_get (l:List It):∀(i:Nat) (hi:i < l.length) (k:Nat) (u:Value),(itC l[i])[k]?=some u->(l.flatMap itC)[i * 6+k]?=some u:=by
 induction l with
 | nil=>intro i hi;simp at hi
 | cons t l ih =>
  intro i hi k u h;rw [List.flatMap_cons];have hl:(itC t).length=6:=rfl
  cases i with
  | zero =>
   simp only [List.getElem_cons_zero] at h;have hk:k < (itC t).length:=(List.getElem?_eq_some_iff.1 h).1;rw [Nat.zero_mul,Nat.zero_add,List.getElem?_append_left hk];exact h
  | succ i =>
   simp only [List.getElem_cons_succ] at h;rw [List.getElem?_append_right (by rw [hl];omega),hl,show (i+1) * 6+k - 6=i * 6+k by omega];exact ih i (by simpa using hi) k u h
theorem its_own {w:World} {base:Nat} {v:Value} {L:List It} (h:w.ownsRow base 135 6 v L.length (L.flatMap itC)):ItS w v L:=by
 rcases h.2 with ⟨h1,h2⟩ | ⟨g,cap,cur,hv,hb,hc,h3,h4,h5,h6⟩
 ·exact Or.inl ⟨h1,List.length_eq_zero_iff.1 h2⟩
 ·refine Or.inr ⟨⟨g,0,none⟩,cap,hv,h3,fun i hi=>?_⟩;have h':=h;rw [hv] at h';have key:∀k u,0 < k->(itC L[i])[k]?=some u->w.cell? ⟨((⟨g,0,none⟩:Addr).add (i * 6)).block,((⟨g,0,none⟩:Addr).add (i * 6)).off+k,none⟩=some u:=fun k u hk hu=>by
   have:=h'.cells (g:=g) rfl (i * 6+k) u (it_get L i hi k u hu);rw [hadd_off _ _ k hk] at this;exact this
  have k0:=h'.cells (g:=g) rfl (i * 6+0) _ (it_get L i hi 0 _ rfl);exact ⟨by simpa using k0,key 1 _ (by omega) rfl,key 2 _ (by omega) rfl,key 3 _ (by omega) rfl,key 4 _ (by omega) rfl,key 5 _ (by omega) rfl⟩
def findM (wv:V):List It->Int
 | []=>-1
 | x :: r=>if verC (cutV x.v) wv=0 then (x.k:Int) else findM wv r
theorem find_items (name v:ByteArray) (h:okV v=true):∀(L:List Re) (k:Nat),findM (cutV (verO v)) (itemsL name L k)=findI name v L k
 | [],k=>rfl
 | x :: r,k=>by
  have ih:=find_items name v h r (k+1);unfold itemsL findI hitB togB;rw [h]
  by_cases h1:x.nm=name
  ·by_cases h2:okV x.ve=true
   ·rw [if_pos (by simp [h1,h2])];unfold findM
    by_cases h3:verC (cutV (verO x.ve)) (cutV (verO v))=0
    ·rw [if_pos h3,if_pos (by simp [h1,h2,h3])]
    ·rw [if_neg h3,if_neg (by simp [h3])];exact ih
   ·rw [if_neg (by simp [h2]),if_neg (by simp [h2])];exact ih
  ·rw [if_neg (by simp [h1]),if_neg (by simp [h1])];exact ih
theorem find_none (name v:ByteArray) (h:okV v=false):∀(L:List Re) (k:Nat),findI name v L k=-1
 | [],k=>rfl
 | x :: r,k=>by
  unfold findI hitB togB;rw [if_neg (by simp [h])];exact find_none name v h r (k+1)
theorem items_short (name:ByteArray):∀(L:List Re) (k:Nat),∀x ∈ itemsL name L k,x.v.pre.length<=100/\x.k < k+L.length
 | [],k,x,hx=>by simp [itemsL] at hx
 | y :: r,k,x,hx=>by
  have ih:=items_short name r (k+1);unfold itemsL at hx;split at hx
  ·rcases List.mem_cons.1 hx with rfl | hx
   ·exact ⟨pre_100 y.ve,by simp⟩
   ·have:=ih x hx;exact ⟨this.1,by have:=this.2;simp only [List.length_cons];omega⟩
  ·have:=ih x hx;exact ⟨this.1,by have:=this.2;simp only [List.length_cons];omega⟩
theorem cItems (sl:Value) (L:List Re) (name:ByteArray) (w:World) (h:ReS w sl L) (hL:L.length<=1048576) (hV:∀x ∈ L,x.ve.size < 2 ^ 62) :
  Calls Tryz.prog 65 #[sl,.string name] w (ItemsPost (itemsL name L 0) w):=by
 rcases h with ⟨rfl,rfl⟩ | ⟨a,cap,rfl,h2,h3⟩
 ·go_enter Tryz.func65,Tryz.ntmps65;go_wp2;go_loopw [5,13] (fun vm vi wr=>vi=.int .i64 0/\vm=.slice none 0 0/\Below w.heap.size w wr) (fun _ vi _=>0)
  case atStart=>exact ⟨rfl,rfl,Below.refl _ _⟩
  case round =>
   obtain ⟨rfl,rfl,hb⟩:=hrel;have HB:Hd (Below w.heap.size w wr):=hb;clear hb;go_wp2;refine bodyPost_ret (results_tmp (t:=4) rfl _ _ _) rfl ⟨_,rfl,World.ownsRow_nil _ _ _ _,HB.o⟩
 ·exact items_at a cap L name w hL h2 hV h3
open Go.RowKit
theorem its_slice {w:World} {v:Value} {M:List It} (h:ItS w v M):∃o c,v=.slice o M.length c/\(∀i,i < M.length->∃a,o=some a/\M.length<=c):=by
 rcases h with ⟨rfl,rfl⟩ | ⟨a,cap,rfl,h2,-⟩
 ·exact ⟨_,_,rfl,fun i hi=>by simp at hi⟩
 ·exact ⟨_,_,rfl,fun _ _=>⟨a,rfl,h2⟩⟩
theorem it_block {w:World} {N:Nat} {k:Nat} {y1 y2 y3:Int} {y4 y5:List UInt8} {t:TypeId} (h:w.heap[N]?=some (.cells #[.int .i64 (k:Int),.int .i64 y1,.int .i64 y2,.int .i64 y3,.string ⟨y4.toArray⟩,.string ⟨y5.toArray⟩] t (0,0))):ItAt w ⟨N,0,none⟩ ⟨k,⟨y1,y2,y3,y4,y5⟩⟩ :=
 ⟨by rw [cOH h];rfl,by rw [cOH h];rfl,by rw [cOH h];rfl,by rw [cOH h];rfl,by rw [cOH h];rfl,by rw [cOH h];rfl⟩
set_option maxRecDepth 100000 in
theorem find_any (sl:Value) (L:List Re) (name v:ByteArray) (w:World) (h:ReS w sl L) (hL:L.length<=1048576) (hV:∀x ∈ L,x.ve.size < 2 ^ 62) (hv:v.size < 2 ^ 62) :
  Calls Tryz.prog 46 #[sl,.string name,.string v] w fun e w'=>e=.returned (.int .i64 (findI name v L 0))/\w.grownBy w' none:=by
 have HS:Hd (ReS w sl L):=h;have CP:Hd (∀w,Calls Tryz.prog 22 #[.string v] w fun e w'=>(∃k:Int,e=.returned (.tuple #[valV (verO v),.int .i64 (parseV v.data.toList).1,.int .i64 k]))/\w.grownBy w' none):=fun w=>(parse_any v w hv).mono fun e w' ⟨h1,h2⟩=>⟨⟨_,h1⟩,h2⟩
 have CI:Hd (∀w,ReS w sl L->Calls Tryz.prog 65 #[sl,.string name] w (ItemsPost (itemsL name L 0) w)):=fun w h=>cItems sl L name w h hL hV
 have p1:=pre_100 v;have HFN:Hd (okV v=false->findI name v L 0=-1):=fun h=>find_none name v h L 0
 have HFI:Hd (okV v=true->findM (cutV (verO v)) (itemsL name L 0)=findI name v L 0):=fun h=>find_items name v h L 0
 have HSH:Hd (∀x ∈ itemsL name L 0,x.v.pre.length<=100):=fun x hx=>(items_short name L 0 x hx).1
 have HML:Hd ((itemsL name L 0).length<=1048576):=Nat.le_trans (items_len name L 0) hL;obtain ⟨o0,n0,c0,rfl⟩:∃o n c,sl=.slice o n c:=by
  rcases h with ⟨rfl,-⟩ | ⟨a,cap,rfl,-⟩
  ·exact ⟨_,_,_,rfl⟩
  ·exact ⟨_,_,_,rfl⟩
 unfold valV at CP;obtain ⟨E,hE⟩:=nm ((parseV v.data.toList).1);obtain ⟨y,hy⟩:=nm (verO v);have hok:okV v=decide (E=0):=by unfold okV;rw [hE]
 rw [hE,hy] at CP;rw [hok] at HFN HFI;rw [hy] at HFI p1;obtain ⟨y1,y2,y3,y4,y5⟩:=y;simp only [] at CP p1;obtain ⟨R,hR⟩:=nm (findI name v L 0);obtain ⟨M,hM⟩:=nm (itemsL name L 0);rw [hR] at HFN HFI ⊢;rw [hM] at HFI HSH HML CI;have CC:Hd (∀(x:It) w,x.v.pre.length<=100->Calls Tryz.prog 54 #[.agg #[.int .i64 x.v.major,.int .i64 x.v.minor,.int .i64 x.v.patch,.string ⟨x.v.pre.toArray⟩,.string ⟨x.v.build.toArray⟩],.agg #[.int .i64 y1,.int .i64 y2,.int .i64 y3,.string ⟨y4.toArray⟩,.string ⟨y5.toArray⟩]] w fun e w'=>e=.returned (.int .i64 (verC (cutV x.v) ⟨y1,y2,y3,y4⟩))/\w.grownBy w' none):=fun x w hx=>by
  refine (compare_any _ _ _ _ _ _ _ _ _ _ w (by show x.v.pre.toArray.size < _;simp;omega) (by show y4.toArray.size < _;simp;omega)).mono ?_;rintro e w' ⟨rfl,hg⟩;refine ⟨?_,hg⟩;simp [cutV]
 clear h hE hy hok hR hM p1 hV hv;go_enter Tryz.func46,Tryz.ntmps46;go_wp2_with (first | (go_at_call 22;refine (CP.o _).mono ?_));rintro e w1 ⟨⟨k,rfl⟩,hg⟩;have HG:Hd (w.grownBy w1 none):=hg;clear hg
 by_cases hE:E=0
 ·subst hE;have HFI2:=HFI.o (by simp);have HI:Hd (findM ⟨y1,y2,y3,y4⟩ (M.drop 0)=R):=HFI2;clear HFI2;go_wp2_with (first | (go_at_call 65;refine (CI.o _ (HS.o.grow (gb_alloc HG.o _))).mono ?_));rintro e w2 ⟨vs,rfl,ho,hb⟩;have hgi:(w1.alloc (.cells #[.int .i64 y1,.int .i64 y2,.int .i64 y3,.string ⟨y4.toArray⟩,.string ⟨y5.toArray⟩] 69)).grownBy w2 none:=bel_gb hb;obtain ⟨V0,hV0⟩:∃V,w1.heap.size=V:=⟨_,rfl⟩;have STv:Hd (St V0 y1 y2 y3 ⟨y4.toArray⟩ ⟨y5.toArray⟩ w2):=by
   show St V0 _ _ _ _ _ w2;rw [<-hV0];exact (st_row (heap_alloc_new w1 _)).grow hgi
  have hits:=its_own ho;have HIT:Hd (ItS w2 vs M):=hits;obtain ⟨ov,cv,rfl,hov⟩:=its_slice hits;replace HG:Hd (w.grownBy w2 none):=gb_trans HG.o (gb_trans (gb_alloc (gb_refl w1 none) _) hgi)
  try rw [hV0]
  clear ho hb hgi hV0 hits;go_wp2;go_loopw [24] (fun vi wr=>∃i:Nat,vi=.int .i64 i/\i<=M.length/\findM ⟨y1,y2,y3,y4⟩ (M.drop i)=R/\w2.grownBy wr none) (fun vi _=>M.length - (intOf vi).toNat)
  case atStart=>exact ⟨0,rfl,Nat.zero_le _,HI.o,gb_refl _ _⟩
  case round =>
   obtain ⟨i,rfl,hi,hf,hg⟩:=hrel;replace STv:Hd (St V0 y1 y2 y3 ⟨y4.toArray⟩ ⟨y5.toArray⟩ wr):=STv.o.grow hg;replace HG:Hd (w.grownBy wr none):=gb_trans HG.o hg;have HW2:Hd (w2.grownBy wr none):=hg;have hml:=HML.o
   by_cases hlt:i < M.length
   ·obtain ⟨a,rfl,hcv⟩:=hov i hlt;obtain ⟨x,hx⟩:=nm (M[i]);have hat:ItAt wr (a.add (i * 6)) x:=by
     rcases HIT.o with ⟨e,-⟩ | ⟨a',cap',e,-,h3⟩
     ·cases e
     ·cases e
      rw [<-hx];exact (h3 i hlt).grow hg
    have HF:Hd ((if verC (cutV x.v) ⟨y1,y2,y3,y4⟩=0 then (x.k:Int) else findM ⟨y1,y2,y3,y4⟩ (M.drop (i+1)))=R):=by
     show _=_;rw [List.drop_eq_getElem_cons hlt,hx] at hf;exact hf
    have CX:Hd (∀w,Calls Tryz.prog 54 #[.agg #[.int .i64 x.v.major,.int .i64 x.v.minor,.int .i64 x.v.patch,.string ⟨x.v.pre.toArray⟩,.string ⟨x.v.build.toArray⟩],.agg #[.int .i64 y1,.int .i64 y2,.int .i64 y3,.string ⟨y4.toArray⟩,.string ⟨y5.toArray⟩]] w fun e w'=>e=.returned (.int .i64 (verC (cutV x.v) ⟨y1,y2,y3,y4⟩))/\w.grownBy w' none):=fun w=>CC.o x w (HSH.o x (by rw [<-hx];exact List.getElem_mem _))
    obtain ⟨c,hc⟩:=nm (verC (cutV x.v) ⟨y1,y2,y3,y4⟩);rw [hc] at CX HF;obtain ⟨xk,⟨z1,z2,z3,z4,z5⟩⟩:=x;simp only [] at CX HF;obtain ⟨e0,e1,e2,e3,e4,e5⟩:=hat;simp only [] at e0 e1 e2 e3 e4 e5;obtain ⟨s1,s2,s3,s4,s5⟩:=STv.o;have hVlt:V0 < wr.heap.size:=hcell_lt s1;have gA:=gb_alloc (gb_refl wr none) (.cells #[.int .i64 (xk:Int),.int .i64 z1,.int .i64 z2,.int .i64 z3,.string ⟨z4.toArray⟩,.string ⟨z5.toArray⟩] 135);have t1:=gA.cell s1 (by simp);have t2:=gA.cell s2 (by simp);have t3:=gA.cell s3 (by simp);have t4:=gA.cell s4 (by simp);have t5:=gA.cell s5 (by simp);clear hf hg hx hc gA;go_wp2_with (first | (go_at_call 54;refine (CX.o _).mono ?_));rintro e w3 ⟨rfl,hg⟩;have hit:ItAt w3 ⟨wr.heap.size,0,none⟩ ⟨xk,⟨z1,z2,z3,z4,z5⟩⟩:=(it_block (heap_alloc_new wr _)).grow hg;have hk:=hit.1;simp only [] at hk;have hgr:wr.grownBy w3 none:=gb_trans (gb_alloc (gb_refl wr none) _) hg;have HG3:Hd (w.grownBy w3 none):=gb_trans HG.o hgr
    have HW3:Hd (wr.grownBy w3 none):=hgr;clear hg hgr hit e0 e1 e2 e3 e4 e5 s1 s2 s3 s4 s5 t1 t2 t3 t4 t5 hVlt
    cases hz:(c == 0) with
    | true =>
     have h0:c=0:=by simpa using hz
     have HQ:Hd ((xk:Int)=R):=by
      have:=HF.o;rw [if_pos h0] at this;exact this
     clear h0;go_wp2;go_ret;exact ⟨ret_int HQ.o,HG3.o⟩
    | false =>
     have h0:¬ c=0:=by simpa using hz
     have HQ:Hd (findM ⟨y1,y2,y3,y4⟩ (M.drop (i+1))=R):=by
      have:=HF.o;rw [if_neg h0] at this;exact this
     clear h0;go_wp2;exact ⟨⟨i+1,by go_num,by omega,HQ.o,gb_trans HW2.o HW3.o⟩,by simp [intOf];omega⟩
   ·have hil:i=M.length:=by omega
    have HQ:Hd (-1=R):=by
     show _=_;rw [hil,List.drop_length] at hf;exact hf
    clear hf hil hg;go_wp2;go_ret;exact ⟨ret_int HQ.o,HG.o⟩
 ·have hE1:(E == 0)=false:=by simp [hE]
  have hE2:(E != 0)=true:=by simp [hE]
  have HQ:Hd (-1=R):=(HFN.o (by simp [hE])).symm;clear hE;go_wp2;go_ret;exact ⟨ret_int HQ.o,gb_alloc HG.o _⟩
open Go.RowKit
theorem fault_many {i:Nat} {P:List Re} {x:Re} (h:50<=i\/20 < x.nd.length):faultR i P x=4:=by unfold faultR;rw [if_pos h]
theorem fault_text {i:Nat} {P:List Re} {x:Re} (h:¬ (50<=i\/20 < x.nd.length)) (h2:nameB x.nm=false\/okV x.ve=false\/wrongN x.nd=2):faultR i P x=2:=by unfold faultR;rw [if_neg h,if_pos h2]
theorem fault_rest {i:Nat} {P:List Re} {x:Re} (h:¬ (50<=i\/20 < x.nd.length)) (h2:¬ (nameB x.nm=false\/okV x.ve=false\/wrongN x.nd=2)):faultR i P x=if wrongN x.nd=5\/P.any (hitB x.nm x.ve)=true then 5 else 0:=by unfold faultR;rw [if_neg h,if_neg h2]
theorem re_block {w:World} {N:Nat} {n v d:ByteArray} {sv:Value} {t:TypeId} (h:w.heap[N]?=some (.cells #[.string n,.string v,sv,.string d] t (0,0))):w.cell? ⟨N,0,none⟩=some (.string n)/\w.cell? ⟨N,1,none⟩=some (.string v)/\w.cell? ⟨N,2,none⟩=some sv/\w.cell? ⟨N,3,none⟩=some (.string d) :=
 ⟨by rw [cOH h];rfl,by rw [cOH h];rfl,by rw [cOH h];rfl,by rw [cOH h];rfl⟩
theorem res_take {w:World} {a:Addr} {cap:Nat} {L:List Re} (i:Nat) (hi:i<=L.length) (hc:L.length<=cap) (h:∀j (hj:j < L.length),ReAt w (a.add (j * 4)) L[j]):ReS w (.slice (some a) i cap) (L.take i):=by
 have hl:(L.take i).length=i:=by simp;omega
 refine Or.inr ⟨a,cap,by rw [hl],by omega,fun j hj=>?_⟩;rw [List.getElem_take];exact h j (by omega)
set_option maxRecDepth 100000 in
theorem faultOf_at (a:Addr) (cap:Nat) (L:List Re) (i:Nat) (w:World) (hi:i < L.length) (hcap:L.length<=cap) (h:∀j (hj:j < L.length),ReAt w (a.add (j * 4)) L[j]) (hL:L.length<=1048576) (hV:∀x ∈ L,x.nm.size < 2 ^ 60/\x.ve.size < 2 ^ 60) (hN:∀x ∈ L,x.nd.length<=1048576) (hS:∀x ∈ L,∀y ∈ x.nd,y.n.size < 2 ^ 60/\y.r.size < 2 ^ 60) :
  Calls Tryz.prog 32 #[.slice (some a) L.length cap,.int .i64 i] w fun e w'=>e=.returned (.int .i64 (faultL L i))/\w.grownBy w' none:=by
 rw [faultL_at L i hi];have HA:Hd (∀j (hj:j < L.length),ReAt w (a.add (j * 4)) L[j]):=h;obtain ⟨x,hx⟩:=nm (L[i]);have hmem:x ∈ L:=by rw [<-hx];exact List.getElem_mem _
 obtain ⟨e0,e1,⟨sv,e2,hsv⟩,e3⟩:ReAt w (a.add (i * 4)) x:=by rw [<-hx];exact h i hi
 rw [hx];have HP:Hd (∀w',w.grownBy w' none->ReS w' (.slice (some a) i cap) (L.take i)):=fun w' hg=>res_take i (by omega) hcap fun j hj=>(HA.o j hj).grow hg
 have HSV:Hd (NdS w sv x.nd):=hsv;obtain ⟨so,sc,rfl⟩:=nds_slice hsv;have CP:Hd (∀w,Calls Tryz.prog 22 #[.string x.ve] w fun e w'=>(∃(x1 x2 x3:Int) (x4 x5:ByteArray) (k:Int),e=.returned (.tuple #[.agg #[.int .i64 x1,.int .i64 x2,.int .i64 x3,.string x4,.string x5],.int .i64 (parseV x.ve.data.toList).1,.int .i64 k]))/\w.grownBy w' none):=fun w=>(parse_any x.ve w (by have:=(hV x hmem).2;omega)).mono fun e w' ⟨h1,h2⟩=>⟨⟨_,_,_,_,_,_,h1⟩,h2⟩
 have CN:Hd (∀w,Calls Tryz.prog 33 #[.string x.nm] w fun e w'=>e=.returned (.bool (nameB x.nm))/\w'=w):=fun w=>name_any x.nm w (by have:=(hV x hmem).1;omega)
 have CF:Hd (∀w,NdS w (.slice so x.nd.length sc) x.nd->Calls Tryz.prog 20 #[.slice so x.nd.length sc] w fun e w'=>e=.returned (.int .i64 (wrongN x.nd))/\w.grownBy w' none):=fun w h=>fault_any _ x.nd w h (hN x hmem) (hS x hmem)
 have CI:Hd (∀w,ReS w (.slice (some a) i cap) (L.take i)->Calls Tryz.prog 46 #[.slice (some a) i cap,.string x.nm,.string x.ve] w fun e w'=>e=.returned (.int .i64 (findI x.nm x.ve (L.take i) 0))/\w.grownBy w' none):=fun w h=>find_any _ (L.take i) x.nm x.ve w h (by simp;omega) (fun y hy=>by have:=(hV y (List.mem_of_mem_take hy)).2;omega) (by have:=(hV x hmem).2;omega)
 have HFI:Hd (0<=findI x.nm x.ve (L.take i) 0 ↔ (L.take i).any (hitB x.nm x.ve)=true):=find_any_iff _ _ _ _;have hil:i<=1048576:=by omega
 have hiL:(i:Int) < (L.length:Int):=by omega
 have hic:i<=cap:=by omega
 clear h hV hN hS hmem hx hsv;obtain ⟨R,hR⟩:=nm (faultR i (L.take i) x);rw [hR]
 by_cases hm:50<=i
 ·have HR:Hd (R=4):=hR.symm.trans (fault_many (Or.inl hm));clear hR;go_enter Tryz.func32,Tryz.ntmps32;go_wp2;go_ret;exact ⟨ret_int HR.o.symm,gb_alloc (gb_refl w none) _⟩
 ·by_cases hn:20 < x.nd.length
  ·have HR:Hd (R=4):=hR.symm.trans (fault_many (Or.inr hn));clear hR;go_enter Tryz.func32,Tryz.ntmps32;go_wp2;go_ret;exact ⟨ret_int HR.o.symm,gb_alloc (gb_refl w none) _⟩
  ·have hmany:¬ (50<=i\/20 < x.nd.length):=by omega
   have HT:Hd (nameB x.nm=false\/okV x.ve=false\/wrongN x.nd=2->R=2):=fun h=>hR.symm.trans (fault_text hmany h)
   have HQ:Hd (¬ (nameB x.nm=false\/okV x.ve=false\/wrongN x.nd=2)->R=if wrongN x.nd=5\/(L.take i).any (hitB x.nm x.ve)=true then 5 else 0):=fun h=>hR.symm.trans (fault_rest hmany h)
   have hok:okV x.ve=decide ((parseV x.ve.data.toList).1=0):=rfl;rw [hok] at HT HQ;obtain ⟨E,hE⟩:=nm ((parseV x.ve.data.toList).1);rw [hE] at HT HQ CP;obtain ⟨q,hq⟩:=nm (nameB x.nm);rw [hq] at HT HQ CN;obtain ⟨W,hW⟩:=nm (wrongN x.nd);rw [hW] at HT HQ CF;obtain ⟨F,hF⟩:=nm (findI x.nm x.ve (L.take i) 0);rw [hF] at HFI CI;obtain ⟨nn,hnn⟩:=nm (x.nd.length);rw [hnn] at HSV CF e2 hn;obtain ⟨xn,xv,xd,xa⟩:=x;simp only [] at CP CN CI e0 e1 e3 HSV CF HQ HFI;clear hR hmany hok hE hq hW hF hnn;obtain ⟨A,hA⟩:=nm (w.heap.size);go_enter Tryz.func32,Tryz.ntmps32;go_wp2_with (first | (go_at_call 22;refine (CP.o _).mono ?_));rintro e w1 ⟨⟨x1,x2,x3,x4,x5,k,rfl⟩,hg1⟩;obtain ⟨c0,c1,c2,c3⟩:=re_block ((hg1.block w.heap.size (by simp) (by simp)).trans (heap_alloc_new w _));have HG1:Hd (w.grownBy w1 none):=gb_trans (gb_alloc (gb_refl w none) _) hg1;have HAL:Hd (A < w1.heap.size):=by
    have:=hg1.size;simp at this;show A < _;omega
   try rw [hA]
   rw [hA] at c0 c1 c2 c3;have hal:=HAL.o;clear hg1 e0 e1 e2 e3;have g1:=gb_alloc (gb_refl w1 none) (.cells #[.int .i64 x1,.int .i64 x2,.int .i64 x3,.string x4,.string x5] 69);have d0:=g1.cell c0 (by simp);have d1:=g1.cell c1 (by simp);have d2:=g1.cell c2 (by simp);clear c0 c1 c2 c3;go_wp2_with (first | (go_at_call 20;refine (CF.o _ (HSV.o.grow (gb_trans HG1.o g1))).mono ?_));rintro e w2 ⟨rfl,hg2⟩;have f0:=hg2.cell d0 (by simp);have f1:=hg2.cell d1 (by simp);have HG2:Hd (w.grownBy w2 none):=gb_trans HG1.o (gb_trans g1 hg2);clear d0 d1 d2 g1 hg2 HSV hal hA;have HPP:Hd (∀w',w2.grownBy w' none->ReS w' (.slice (some a) i cap) (L.take i)):=fun w' hg=>HP.o w' (gb_trans HG2.o hg)
   cases q with
   | false =>
    go_wp2_with (first | (go_at_call 33;refine (CN.o _).mono ?_;rintro e w' ⟨rfl,rfl⟩));go_ret;exact ⟨ret_int (HT.o (Or.inl (by trivial))).symm,HG2.o⟩
   | true =>
    by_cases hE:E=0
    ·subst hE
     by_cases hW2:W=2
     ·subst hW2;go_wp2_with (first | (go_at_call 33;refine (CN.o _).mono ?_;rintro e w' ⟨rfl,rfl⟩));go_ret;exact ⟨ret_int (HT.o (Or.inr (Or.inr (by trivial)))).symm,HG2.o⟩
     ·have hw2:(W == 2)=false:=by simp [hW2]
      have HQ':Hd (R=if W=5\/(L.take i).any (hitB xn xv)=true then 5 else 0):=HQ.o (by simp [hW2]);clear hW2
      by_cases hW5:W=5
      ·subst hW5;have HR:Hd (R=5):=HQ'.o.trans (if_pos (Or.inl rfl));have h55:((5:Int) == 5)=true:=rfl;go_wp2_with (first | (go_at_call 33;refine (CN.o _).mono ?_;rintro e w' ⟨rfl,rfl⟩));go_quiet (fail);go_wp2;go_ret;exact ⟨ret_int HR.o.symm,gb_drew HG2.o _⟩
      ·have hw5:(W == 5)=false:=by simp [hW5]
       have HR5:Hd (0<=F->R=5):=fun h=>HQ'.o.trans (if_pos (Or.inr (HFI.o.1 h)))
       have HR0:Hd (¬ 0<=F->R=0):=fun h=>HQ'.o.trans (if_neg (fun h2=>h2.elim hW5 (fun h3=>h (HFI.o.2 h3))))
       have CII:Hd (Calls Tryz.prog 46 #[.slice (some a) i cap,.string xn,.string xv] w2.drew fun e w'=>e=.returned (.int .i64 F)/\w2.drew.grownBy w' none):=CI.o _ (HPP.o _ ⟨rfl,rfl,rfl,Nat.le_refl _,fun _ _ _=>rfl⟩);clear hW5;go_wp2_with (first | (go_at_call 33;refine (CN.o _).mono ?_;rintro e w' ⟨rfl,rfl⟩))
       go_region_held3 (fun w'=>w'.cell? ⟨A,0,none⟩=some (.string xn)/\w'.cell? ⟨A,1,none⟩=some (.string xv)) ((first | exact ⟨World.grownBy.cell (by assumption) (And.left (by assumption)) (by simp),World.grownBy.cell (by assumption) (And.right (by assumption)) (by simp)⟩ | go_keep)) (first | (go_at_call 46;refine CII.o.mono ?_;rintro e w3 ⟨rfl,hg3⟩))
       have HG3:Hd (w.grownBy w3 none):=gb_trans HG2.o (gb_undrew hg3);clear hg3
       by_cases hF:0<=F
       ·go_wp2;go_ret;exact ⟨ret_int (HR5.o hF).symm,HG3.o⟩
       ·go_wp2;go_ret;exact ⟨ret_int (HR0.o hF).symm,HG3.o⟩
    ·have hE1:(E != 0)=true:=by simp [hE]
     have HR:Hd (R=2):=HT.o (Or.inr (Or.inl (by simp [hE])));clear hE;go_wp2_with (first | (go_at_call 33;refine (CN.o _).mono ?_;rintro e w' ⟨rfl,rfl⟩));go_ret;exact ⟨ret_int HR.o.symm,HG2.o⟩
set_option maxRecDepth 100000 in
theorem check_any (v:Value) (L:List Re) (w:World) (h:ReS w v L) (hL:L.length<=1048576) (hV:∀x ∈ L,x.nm.size < 2 ^ 60/\x.ve.size < 2 ^ 60) (hN:∀x ∈ L,x.nd.length<=1048576) (hS:∀x ∈ L,∀y ∈ x.nd,y.n.size < 2 ^ 60/\y.r.size < 2 ^ 60) :
  Calls Tryz.prog 19 #[v] w fun e w'=>e=.returned (.tuple #[.int .i64 (chkFrom L L.length).1,.int .i64 ((chkFrom L L.length).2:Int)])/\w.grownBy w' none:=by
 have H1:Hd (ReS w v L):=h;have CF:Hd (∀(a:Addr) (cap i:Nat) (w:World),i < L.length->L.length<=cap->(∀j (hj:j < L.length),ReAt w (a.add (j * 4)) L[j])->Calls Tryz.prog 32 #[.slice (some a) L.length cap,.int .i64 i] w fun e w'=>e=.returned (.int .i64 (faultL L i))/\w.grownBy w' none):=fun a cap i w h1 h2 h3=>faultOf_at a cap L i w h1 h2 h3 hL hV hN hS
 obtain ⟨o,c,rfl⟩:∃o c,v=.slice o L.length c:=by
  rcases h with ⟨rfl,rfl⟩ | ⟨a,cap,rfl,-⟩
  ·exact ⟨_,_,rfl⟩
  ·exact ⟨_,_,rfl⟩
 have HH:Hd (∀i,i < L.length->¬ faultL L i=0->chkFrom L (L.length - i)=(faultL L i,i)):=chk_hit L;have HM:Hd (∀i,i < L.length->faultL L i=0->chkFrom L (L.length - i)=chkFrom L (L.length - (i+1))):=chk_miss L;obtain ⟨R,hR⟩:=nm (chkFrom L L.length);have HS0:Hd (chkFrom L (L.length - 0)=R):=hR;rw [hR];clear h hV hN hS hR;go_enter Tryz.func19,Tryz.ntmps19;go_wp2;go_loopw [8] (fun vi wr=>∃i:Nat,vi=.int .i64 i/\i<=L.length/\chkFrom L (L.length - i)=R/\w.grownBy wr none) (fun vi _=>L.length - (intOf vi).toNat)
 case atStart=>exact ⟨0,rfl,Nat.zero_le _,HS0.o,gb_refl _ _⟩
 case round =>
  obtain ⟨i,rfl,hi,hc,hg⟩:=hrel;have HG:Hd (w.grownBy wr none):=hg;have HC:Hd (chkFrom L (L.length - i)=R):=hc
  by_cases hlt:i < L.length
  ·have CFF:Hd (Calls Tryz.prog 32 #[.slice o L.length c,.int .i64 i] wr fun e w'=>e=.returned (.int .i64 (faultL L i))/\wr.grownBy w' none):=by
    rcases H1.o.grow hg with ⟨h1,h2⟩ | ⟨a,cap,h1,h2,h3⟩
    ·rw [h2] at hlt;simp at hlt
    ·cases h1
     exact CF.o a c i wr hlt h2 h3
   have HH':Hd (¬ faultL L i=0->R=(faultL L i,i)):=fun h=>HC.o.symm.trans (HH.o i hlt h)
   have HM':Hd (faultL L i=0->chkFrom L (L.length - (i+1))=R):=fun h=>(HM.o i hlt h).symm.trans HC.o
   obtain ⟨F,hF⟩:=nm (faultL L i);rw [hF] at CFF HH' HM';clear hF hc hg
   by_cases hz:F=0
   ·subst hz;go_wp2_with (first | (go_at_call 32;refine CFF.o.mono ?_;rintro e w3 ⟨rfl,hg3⟩));exact ⟨⟨i+1,by go_num,by omega,HM'.o (by trivial),gb_trans HG.o hg3⟩,by simp [intOf];omega⟩
   ·have hz1:(F != 0)=true:=by simp [hz]
    have HR:Hd (R=(F,i)):=HH'.o hz;clear hz;go_wp2_with (first | (go_at_call 32;refine CFF.o.mono ?_;rintro e w3 ⟨rfl,hg3⟩));refine bodyPost_ret (results_tmp2 (t:=2) (u:=3) rfl _ _ _) rfl ⟨?_,gb_trans HG.o hg3⟩;rw [HR.o];rfl
  ·have hil:i=L.length:=by omega
   have HR:Hd (R=(0,0)):=by
    show R=_;rw [<-hc,hil,Nat.sub_self];rfl
   clear hc hg hil hi;go_wp2;refine bodyPost_ret (results_tmp2 (t:=2) (u:=3) rfl _ _ _) rfl ⟨?_,HG.o⟩;rw [HR.o];rfl
end Go.Proofs.YticgahdffjnabaaGreatDoor
