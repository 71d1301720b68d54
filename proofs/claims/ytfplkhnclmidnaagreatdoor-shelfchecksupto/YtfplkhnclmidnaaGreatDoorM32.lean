import Derived.Test.YtfplkhnclmidnaaGreatDoorM11
import Derived.Test.YtfplkhnclmidnaaGreatDoorM10
import Derived.Test.YtfplkhnclmidnaaGreatDoorM31
namespace Go.Proofs.YtfplkhnclmidnaaGreatDoor
open Go.RowKit
set_option linter.unusedVariables false
structure It where
 k:Nat
 v:Vv
def itC (x:It):List Value:=[.int .i64 (x.k:Int),.int .i64 x.v.major,.int .i64 x.v.minor,.int .i64 x.v.patch,.string ⟨x.v.pre.toArray⟩,.string ⟨x.v.build.toArray⟩]
def itemsL (name:ByteArray):List Re->Nat->List It
 | [],_=>[]
 | x :: r,k=>if (decide (x.nm=name) && okV x.ve)=true then ⟨k,verO x.ve⟩ :: itemsL name r (k+1) else itemsL name r (k+1)
theorem items_len (name:ByteArray):∀(L:List Re) (k:Nat),(itemsL name L k).length<=L.length
 | [],k=>Nat.le_refl _
 | x :: r,k=>by
  have:=items_len name r (k+1)
  unfold itemsL
  split <;> simp <;> omega
theorem infoIt:(Tryz.prog.info? 98).map (fun i=>(i.zero,i.size,i.bytes))=some (some (.agg #[.int .i64 0,.int .i64 0,.int .i64 0,.int .i64 0,.string ⟨#[]⟩,.string ⟨#[]⟩]),6,64):=by kernel_rfl
theorem itc_one (s:It):∀u ∈ itC s,u.oneCell'=true:=by
 intro u hu
 simp only [itC,List.mem_cons,List.not_mem_nil,or_false] at hu
 rcases hu with rfl | rfl | rfl | rfl | rfl | rfl <;> rfl
theorem own_stay {w w':World} {base:Nat} {e:TypeId} {size:Nat} {v:Value} {n:Nat} {xs:List Value} (h:w.ownsRow base e size v n xs) (hg:w.grownBy w' none):w'.ownsRow base e size v n xs :=
 h.kept hg (by cases v.ownBlock <;> simp)
theorem hrow2 (w:World) (o1 o2:Obj):((w.alloc o1).alloc o2).heap[w.heap.size+1]?=some o2:=by
 have:=heap_alloc_new (w.alloc o1) o2
 simpa using this
def ItemsPost (M:List It) (w:World) (e:Ending) (w':World):Prop:=∃v,e=.returned v/\w'.ownsRow w.heap.size 98 6 v M.length (M.flatMap itC)/\Below w.heap.size w w'
set_option maxRecDepth 100000 in
set_option maxHeartbeats 3200000 in
theorem items_at (a:Addr) (cap:Nat) (L:List Re) (name:ByteArray) (w:World) (hL:L.length<=1048576) (hcap:L.length<=cap) (hV:∀x ∈ L,x.ve.size < 2 ^ 62) (h:∀i (hi:i < L.length),ReAt w (a.add (i * 4)) L[i]) :
  Calls Tryz.prog 49 #[.slice (some a) L.length cap,.string name] w (ItemsPost (itemsL name L 0) w):=by
 have HA:Hid (∀i (hi:i < L.length),ReAt w (a.add (i * 4)) L[i]):=h
 have CT:Hid (∀x ∈ L,∀w,Calls Tryz.prog 28 #[.string x.ve] w fun e w'=>(∃k:Int,e=.returned (.tuple #[valV (verO x.ve),.int .i64 (parseV x.ve.data.toList).1,.int .i64 k]))/\w.grownBy w' none):=fun x hx w=>(parse_any x.ve w (hV x hx)).mono fun e w' ⟨h1,h2⟩=>⟨⟨_,h1⟩,h2⟩
 obtain ⟨R,hR⟩:∃R,itemsL name L 0=R:=⟨_,rfl⟩
 have HR:Hid ([]++itemsL name (L.drop 0) 0=R):=hR
 have HRL:Hid (R.length<=1048576):=by rw [<-hR];exact Nat.le_trans (items_len name L 0) hL
 rw [hR]
 clear h hV hR
 have hinfo:=infoIt
 obtain ⟨i0,hi0,hii⟩:=Option.map_eq_some_iff.1 hinfo
 simp only [Prod.mk.injEq] at hii
 obtain ⟨hz0,hz1,hzb⟩:=hii
 clear hinfo
 go_enter Tryz.func49,Tryz.ntmps49
 go_wp2
 go_loopw [5,13] (fun vm vi wr=>∃(i:Nat) (M:List It),vi=.int .i64 i/\i<=L.length/\M++itemsL name (L.drop i) i=R/\wr.ownsRow w.heap.size 98 6 vm M.length (M.flatMap itC)/\Below w.heap.size w wr) (fun _ vi _=>L.length - (intOf vi).toNat)
 case atStart=>exact ⟨0,[],rfl,Nat.zero_le _,HR.out,World.ownsRow_nil _ _ _ _,Below.refl _ _⟩
 case round =>
  obtain ⟨i,M,rfl,hi,hf,hown,hb⟩:=hrel
  have HO:Hid (wr.ownsRow w.heap.size 98 6 u5 M.length (M.flatMap itC)):=hown
  have HB:Hid (Below w.heap.size w wr):=hb
  by_cases hlt:i < L.length
  ·obtain ⟨x,hx⟩:∃x,L[i]=x:=⟨_,rfl⟩
   have hat0:ReAt wr (a.add (i * 4)) x:=by rw [<-hx];exact (HA.out i hlt).grow (bel_gb hb)
   obtain ⟨e0,e1,⟨sv,e2,hsv⟩,e3⟩:=hat0
   obtain ⟨so,sc,rfl⟩:=nds_slice hsv
   obtain ⟨sn,hsn⟩:∃n,x.nd.length=n:=⟨_,rfl⟩
   rw [hsn] at e2
   clear hsv hsn
   have HF:Hid (M++(if (decide (x.nm=name) && okV x.ve)=true then ⟨i,verO x.ve⟩ :: itemsL name (L.drop (i+1)) (i+1) else itemsL name (L.drop (i+1)) (i+1))=R):=by
    show _=_
    rw [List.drop_eq_getElem_cons hlt,hx] at hf
    exact hf
   have CX:Hid (∀w,Calls Tryz.prog 28 #[.string x.ve] w fun e w'=>(∃k:Int,e=.returned (.tuple #[valV (verO x.ve),.int .i64 (parseV x.ve.data.toList).1,.int .i64 k]))/\w.grownBy w' none):=fun w=>CT.out x (by rw [<-hx];exact List.getElem_mem _) w
   unfold valV at CX
   obtain ⟨E,hE⟩:∃E,(parseV x.ve.data.toList).1=E:=⟨_,rfl⟩
   obtain ⟨y,hy⟩:∃y,verO x.ve=y:=⟨_,rfl⟩
   obtain ⟨y1,y2,y3,y4,y5⟩:=y
   rw [hE,hy] at CX
   simp only [] at CX
   have HK:Hid (okV x.ve=decide (E=0)):=by show _=_;unfold okV;rw [hE]
   rw [hy] at HF
   have hbs:=hb.size
   clear hf hx hE hy hown hb
   by_cases hn:x.nm=name
   ·have q:=txt_eq hn
    have q2:(x.nm.toList != name.toList)=false:=by simp [bne,q]
    have HN:Hid (x.nm=name):=hn
    clear hn
    go_wp2_with (first | (go_at_call 28;refine (CX.out _).mono ?_))
    rintro e w1 ⟨⟨k,rfl⟩,hg⟩
    have hga:wr.grownBy w1 none:=gb_trans (gb_alloc (gb_refl wr none) _) hg
    replace HO:Hid (w1.ownsRow w.heap.size 98 6 u5 M.length (M.flatMap itC)):=own_stay HO.out hga
    replace HB:Hid (Below w.heap.size w w1):=hbelow HB.out hbs hga
    clear hg hga e0 e1 e2 e3
    cases hz:(E == 0) with
    | true =>
     have hE0:E=0:=by simpa using hz
     have HQ:Hid ((M++[⟨i,⟨y1,y2,y3,y4,y5⟩⟩])++itemsL name (L.drop (i+1)) (i+1)=R):=by
      have:=HF.out
      rw [if_pos (by rw [HK.out,HN.out];simp [hE0])] at this
      show _=_
      rw [List.append_assoc]
      exact this
     have HML:Hid (M.length+1<=1048576):=by
      have h1:=congrArg List.length HQ.out
      have h2:=HRL.out
      simp only [List.length_append,List.length_cons,List.length_nil] at h1
      show _<=_
      omega
     clear hE0
     go_wp2_with (first | (at_builtin;refine wpList_append_own _ rfl _ _ 95 rfl w.heap.size 98 i0 (.agg #[.int .i64 0,.int .i64 0,.int .i64 0,.int .i64 0,.string ⟨#[]⟩,.string ⟨#[]⟩]) 6 64 Tryz.underlying95 hi0 hz0 hz1 hzb rfl (by decide) _ _ _ rfl ((HO.out.alloc _).alloc _) _ 1 1 (itC ⟨i,⟨y1,y2,y3,y4,y5⟩⟩) rfl rfl (World.news_of_block (hrow2 _ _ _)) (itc_one _) (by unfold maxLen;have:=HML.out;omega) (by have:=HML.out;omega) (by have:=HB.out.size;simp;omega) ?_;intro v' w3 hown3 hgrow _))
     have hb3:Below w.heap.size w w3:=((HB.out.alloc HB.out.size _).alloc (by have:=HB.out.size;simp;omega) _).grown hgrow (by have:=HB.out.size;simp;omega) (fun q hq=>(HO.out.lt q hq).1)
     refine ⟨⟨i+1,M++[⟨i,⟨y1,y2,y3,y4,y5⟩⟩],by go_num,by omega,HQ.out,?_,hb3⟩,by simp [intOf];omega⟩
     rw [List.length_append,List.flatMap_append]
     simpa using hown3
    | false =>
     have HQ:Hid (M++itemsL name (L.drop (i+1)) (i+1)=R):=by
      have h0:¬ E=0:=by simpa using hz
      have:=HF.out
      rw [if_neg (by rw [HK.out];simp [h0])] at this
      exact this
     go_wp2
     exact ⟨⟨i+1,M,by go_num,by omega,HQ.out,HO.out.alloc _,HB.out.alloc HB.out.size _⟩,by simp [intOf];omega⟩
   ·have q:=txt_ne hn
    have q2:(x.nm.toList != name.toList)=true:=by simp [bne,q]
    have HQ:Hid (M++itemsL name (L.drop (i+1)) (i+1)=R):=by
     have:=HF.out
     rw [if_neg (by simp [hn])] at this
     exact this
    clear hn
    go_wp2
    exact ⟨⟨i+1,M,by go_num,by omega,HQ.out,HO.out.alloc _,HB.out.alloc HB.out.size _⟩,by simp [intOf];omega⟩
  ·have hil:i=L.length:=by omega
   have HQ:Hid (M=R):=by
    show _=_
    rw [hil,List.drop_length] at hf
    simpa [itemsL] using hf
   clear hf hil hown hb
   go_wp2
   refine bodyPost_ret (results_tmp (t:=4) rfl _ _ _) rfl ⟨u5,rfl,by rw [<-HQ.out];exact HO.out,HB.out⟩
open Go.RowKit
set_option linter.unusedVariables false
def ItAt (w:World) (p:Addr) (x:It):Prop:=w.cell? p=some (.int .i64 (x.k:Int))/\w.cell? ⟨p.block,p.off+1,none⟩=some (.int .i64 x.v.major)/\w.cell? ⟨p.block,p.off+2,none⟩=some (.int .i64 x.v.minor)/\w.cell? ⟨p.block,p.off+3,none⟩=some (.int .i64 x.v.patch)/\w.cell? ⟨p.block,p.off+4,none⟩=some (.string ⟨x.v.pre.toArray⟩)/\w.cell? ⟨p.block,p.off+5,none⟩=some (.string ⟨x.v.build.toArray⟩)
theorem ItAt.grow {w w':World} {p:Addr} {x:It} (h:ItAt w p x) (hg:w.grownBy w' none):ItAt w' p x:=by
 obtain ⟨h0,h1,h2,h3,h4,h5⟩:=h
 exact ⟨hg.cell h0 (by simp),hg.cell h1 (by simp),hg.cell h2 (by simp),hg.cell h3 (by simp),hg.cell h4 (by simp),hg.cell h5 (by simp)⟩
def ItS (w:World) (v:Value) (M:List It):Prop:=(v=.slice none 0 0/\M=[])\/∃a cap,v=.slice (some a) M.length cap/\M.length<=cap/\∀i (hi:i < M.length),ItAt w (a.add (i * 6)) M[i]
theorem it_get (l:List It):∀(i:Nat) (hi:i < l.length) (k:Nat) (u:Value),(itC l[i])[k]?=some u->(l.flatMap itC)[i * 6+k]?=some u:=by
 induction l with
 | nil=>intro i hi;simp at hi
 | cons t l ih =>
  intro i hi k u h
  rw [List.flatMap_cons]
  have hl:(itC t).length=6:=rfl
  cases i with
  | zero =>
   simp only [List.getElem_cons_zero] at h
   have hk:k < (itC t).length:=(List.getElem?_eq_some_iff.1 h).1
   rw [Nat.zero_mul,Nat.zero_add,List.getElem?_append_left hk]
   exact h
  | succ i =>
   simp only [List.getElem_cons_succ] at h
   rw [List.getElem?_append_right (by rw [hl];omega),hl,show (i+1) * 6+k - 6=i * 6+k by omega]
   exact ih i (by simpa using hi) k u h
theorem its_own {w:World} {base:Nat} {v:Value} {L:List It} (h:w.ownsRow base 98 6 v L.length (L.flatMap itC)):ItS w v L:=by
 rcases h.2 with ⟨h1,h2⟩ | ⟨g,cap,cur,hv,hb,hc,h3,h4,h5,h6⟩
 ·exact Or.inl ⟨h1,List.length_eq_zero_iff.1 h2⟩
 ·refine Or.inr ⟨⟨g,0,none⟩,cap,hv,h3,fun i hi=>?_⟩
  have h':=h
  rw [hv] at h'
  have key:∀k u,0 < k->(itC L[i])[k]?=some u->w.cell? ⟨((⟨g,0,none⟩:Addr).add (i * 6)).block,((⟨g,0,none⟩:Addr).add (i * 6)).off+k,none⟩=some u:=fun k u hk hu=>by
   have:=h'.cells (g:=g) rfl (i * 6+k) u (it_get L i hi k u hu)
   rw [hadd_off _ _ k hk] at this
   exact this
  have k0:=h'.cells (g:=g) rfl (i * 6+0) _ (it_get L i hi 0 _ rfl)
  exact ⟨by simpa using k0,key 1 _ (by omega) rfl,key 2 _ (by omega) rfl,key 3 _ (by omega) rfl,key 4 _ (by omega) rfl,key 5 _ (by omega) rfl⟩
def findM (wv:V):List It->Int
 | []=>-1
 | x :: r=>if verC (cutV x.v) wv=0 then (x.k:Int) else findM wv r
theorem find_items (name v:ByteArray) (h:okV v=true):∀(L:List Re) (k:Nat),findM (cutV (verO v)) (itemsL name L k)=findI name v L k
 | [],k=>rfl
 | x :: r,k=>by
  have ih:=find_items name v h r (k+1)
  unfold itemsL findI hitB togB
  rw [h]
  by_cases h1:x.nm=name
  ·by_cases h2:okV x.ve=true
   ·rw [if_pos (by simp [h1,h2])]
    unfold findM
    by_cases h3:verC (cutV (verO x.ve)) (cutV (verO v))=0
    ·rw [if_pos h3,if_pos (by simp [h1,h2,h3])]
    ·rw [if_neg h3,if_neg (by simp [h3])]
     exact ih
   ·rw [if_neg (by simp [h2]),if_neg (by simp [h2])]
    exact ih
  ·rw [if_neg (by simp [h1]),if_neg (by simp [h1])]
   exact ih
theorem find_none (name v:ByteArray) (h:okV v=false):∀(L:List Re) (k:Nat),findI name v L k=-1
 | [],k=>rfl
 | x :: r,k=>by
  unfold findI hitB togB
  rw [if_neg (by simp [h])]
  exact find_none name v h r (k+1)
theorem items_short (name:ByteArray):∀(L:List Re) (k:Nat),∀x ∈ itemsL name L k,x.v.pre.length<=100/\x.k < k+L.length
 | [],k,x,hx=>by simp [itemsL] at hx
 | y :: r,k,x,hx=>by
  have ih:=items_short name r (k+1)
  unfold itemsL at hx
  split at hx
  ·rcases List.mem_cons.1 hx with rfl | hx
   ·exact ⟨pre_100 y.ve,by simp⟩
   ·have:=ih x hx
    exact ⟨this.1,by have:=this.2;simp only [List.length_cons];omega⟩
  ·have:=ih x hx
   exact ⟨this.1,by have:=this.2;simp only [List.length_cons];omega⟩
theorem cItems (sl:Value) (L:List Re) (name:ByteArray) (w:World) (h:ReS w sl L) (hL:L.length<=1048576) (hV:∀x ∈ L,x.ve.size < 2 ^ 62) :
  Calls Tryz.prog 49 #[sl,.string name] w (ItemsPost (itemsL name L 0) w):=by
 rcases h with ⟨rfl,rfl⟩ | ⟨a,cap,rfl,h2,h3⟩
 ·go_enter Tryz.func49,Tryz.ntmps49
  go_wp2
  go_loopw [5,13] (fun vm vi wr=>vi=.int .i64 0/\vm=.slice none 0 0/\Below w.heap.size w wr) (fun _ vi _=>0)
  case atStart=>exact ⟨rfl,rfl,Below.refl _ _⟩
  case round =>
   obtain ⟨rfl,rfl,hb⟩:=hrel
   have HB:Hid (Below w.heap.size w wr):=hb
   clear hb
   go_wp2
   refine bodyPost_ret (results_tmp (t:=4) rfl _ _ _) rfl ⟨_,rfl,World.ownsRow_nil _ _ _ _,HB.out⟩
 ·exact items_at a cap L name w hL h2 hV h3
open Go.RowKit
set_option linter.unusedVariables false
theorem its_slice {w:World} {v:Value} {M:List It} (h:ItS w v M):∃o c,v=.slice o M.length c/\(∀i,i < M.length->∃a,o=some a/\M.length<=c):=by
 rcases h with ⟨rfl,rfl⟩ | ⟨a,cap,rfl,h2,-⟩
 ·exact ⟨_,_,rfl,fun i hi=>by simp at hi⟩
 ·exact ⟨_,_,rfl,fun _ _=>⟨a,rfl,h2⟩⟩
theorem it_block {w:World} {N:Nat} {k:Nat} {y1 y2 y3:Int} {y4 y5:List UInt8} {t:TypeId} (h:w.heap[N]?=some (.cells #[.int .i64 (k:Int),.int .i64 y1,.int .i64 y2,.int .i64 y3,.string ⟨y4.toArray⟩,.string ⟨y5.toArray⟩] t (0,0))):ItAt w ⟨N,0,none⟩ ⟨k,⟨y1,y2,y3,y4,y5⟩⟩ :=
 ⟨by rw [Lib.cell_of_heap h];rfl,by rw [Lib.cell_of_heap h];rfl,by rw [Lib.cell_of_heap h];rfl,by rw [Lib.cell_of_heap h];rfl,by rw [Lib.cell_of_heap h];rfl,by rw [Lib.cell_of_heap h];rfl⟩
set_option maxRecDepth 100000 in
set_option maxHeartbeats 3200000 in
theorem find_any (sl:Value) (L:List Re) (name v:ByteArray) (w:World) (h:ReS w sl L) (hL:L.length<=1048576) (hV:∀x ∈ L,x.ve.size < 2 ^ 62) (hv:v.size < 2 ^ 62) :
  Calls Tryz.prog 31 #[sl,.string name,.string v] w fun e w'=>e=.returned (.int .i64 (findI name v L 0))/\w.grownBy w' none:=by
 have HS:Hid (ReS w sl L):=h
 have CP:Hid (∀w,Calls Tryz.prog 28 #[.string v] w fun e w'=>(∃k:Int,e=.returned (.tuple #[valV (verO v),.int .i64 (parseV v.data.toList).1,.int .i64 k]))/\w.grownBy w' none):=fun w=>(parse_any v w hv).mono fun e w' ⟨h1,h2⟩=>⟨⟨_,h1⟩,h2⟩
 have CI:Hid (∀w,ReS w sl L->Calls Tryz.prog 49 #[sl,.string name] w (ItemsPost (itemsL name L 0) w)):=fun w h=>cItems sl L name w h hL hV
 have p1:=pre_100 v
 have HFN:Hid (okV v=false->findI name v L 0=-1):=fun h=>find_none name v h L 0
 have HFI:Hid (okV v=true->findM (cutV (verO v)) (itemsL name L 0)=findI name v L 0):=fun h=>find_items name v h L 0
 have HSH:Hid (∀x ∈ itemsL name L 0,x.v.pre.length<=100):=fun x hx=>(items_short name L 0 x hx).1
 have HML:Hid ((itemsL name L 0).length<=1048576):=Nat.le_trans (items_len name L 0) hL
 obtain ⟨o0,n0,c0,rfl⟩:∃o n c,sl=.slice o n c:=by
  rcases h with ⟨rfl,-⟩ | ⟨a,cap,rfl,-⟩
  ·exact ⟨_,_,_,rfl⟩
  ·exact ⟨_,_,_,rfl⟩
 unfold valV at CP
 obtain ⟨E,hE⟩:∃E,(parseV v.data.toList).1=E:=⟨_,rfl⟩
 obtain ⟨y,hy⟩:∃y,verO v=y:=⟨_,rfl⟩
 have hok:okV v=decide (E=0):=by unfold okV;rw [hE]
 rw [hE,hy] at CP
 rw [hok] at HFN HFI
 rw [hy] at HFI p1
 obtain ⟨y1,y2,y3,y4,y5⟩:=y
 simp only [] at CP p1
 obtain ⟨R,hR⟩:∃R,findI name v L 0=R:=⟨_,rfl⟩
 obtain ⟨M,hM⟩:∃M,itemsL name L 0=M:=⟨_,rfl⟩
 rw [hR] at HFN HFI ⊢
 rw [hM] at HFI HSH HML CI
 have CC:Hid (∀(x:It) w,x.v.pre.length<=100->Calls Tryz.prog 50 #[.agg #[.int .i64 x.v.major,.int .i64 x.v.minor,.int .i64 x.v.patch,.string ⟨x.v.pre.toArray⟩,.string ⟨x.v.build.toArray⟩],.agg #[.int .i64 y1,.int .i64 y2,.int .i64 y3,.string ⟨y4.toArray⟩,.string ⟨y5.toArray⟩]] w fun e w'=>e=.returned (.int .i64 (verC (cutV x.v) ⟨y1,y2,y3,y4⟩))/\w.grownBy w' none):=fun x w hx=>by
  refine (compare_any _ _ _ _ _ _ _ _ _ _ w (by show x.v.pre.toArray.size < _;simp;omega) (by show y4.toArray.size < _;simp;omega)).mono ?_
  rintro e w' ⟨rfl,hg⟩
  refine ⟨?_,hg⟩
  simp [cutV]
 clear h hE hy hok hR hM p1 hV hv
 go_enter Tryz.func31,Tryz.ntmps31
 go_wp2_with (first | (go_at_call 28;refine (CP.out _).mono ?_))
 rintro e w1 ⟨⟨k,rfl⟩,hg⟩
 have HG:Hid (w.grownBy w1 none):=hg
 clear hg
 by_cases hE:E=0
 ·subst hE
  have HFI2:=HFI.out (by simp)
  have HI:Hid (findM ⟨y1,y2,y3,y4⟩ (M.drop 0)=R):=HFI2
  clear HFI2
  go_wp2_with (first | (go_at_call 49;refine (CI.out _ (HS.out.grow (gb_alloc HG.out _))).mono ?_))
  rintro e w2 ⟨vs,rfl,ho,hb⟩
  have hgi:(w1.alloc (.cells #[.int .i64 y1,.int .i64 y2,.int .i64 y3,.string ⟨y4.toArray⟩,.string ⟨y5.toArray⟩] 70)).grownBy w2 none:=bel_gb hb
  obtain ⟨V0,hV0⟩:∃V,w1.heap.size=V:=⟨_,rfl⟩
  have STv:Hid (St V0 y1 y2 y3 ⟨y4.toArray⟩ ⟨y5.toArray⟩ w2):=by
   show St V0 _ _ _ _ _ w2
   rw [<-hV0]
   exact (st_row (heap_alloc_new w1 _)).grow hgi
  have hits:=its_own ho
  have HIT:Hid (ItS w2 vs M):=hits
  obtain ⟨ov,cv,rfl,hov⟩:=its_slice hits
  replace HG:Hid (w.grownBy w2 none):=gb_trans HG.out (gb_trans (gb_alloc (gb_refl w1 none) _) hgi)
  try rw [hV0]
  clear ho hb hgi hV0 hits
  go_wp2
  go_loopw [24] (fun vi wr=>∃i:Nat,vi=.int .i64 i/\i<=M.length/\findM ⟨y1,y2,y3,y4⟩ (M.drop i)=R/\w2.grownBy wr none) (fun vi _=>M.length - (intOf vi).toNat)
  case atStart=>exact ⟨0,rfl,Nat.zero_le _,HI.out,gb_refl _ _⟩
  case round =>
   obtain ⟨i,rfl,hi,hf,hg⟩:=hrel
   replace STv:Hid (St V0 y1 y2 y3 ⟨y4.toArray⟩ ⟨y5.toArray⟩ wr):=STv.out.grow hg
   replace HG:Hid (w.grownBy wr none):=gb_trans HG.out hg
   have HW2:Hid (w2.grownBy wr none):=hg
   have hml:=HML.out
   by_cases hlt:i < M.length
   ·obtain ⟨a,rfl,hcv⟩:=hov i hlt
    obtain ⟨x,hx⟩:∃x,M[i]=x:=⟨_,rfl⟩
    have hat:ItAt wr (a.add (i * 6)) x:=by
     rcases HIT.out with ⟨e,-⟩ | ⟨a',cap',e,-,h3⟩
     ·cases e
     ·cases e
      rw [<-hx];exact (h3 i hlt).grow hg
    have HF:Hid ((if verC (cutV x.v) ⟨y1,y2,y3,y4⟩=0 then (x.k:Int) else findM ⟨y1,y2,y3,y4⟩ (M.drop (i+1)))=R):=by
     show _=_
     rw [List.drop_eq_getElem_cons hlt,hx] at hf
     exact hf
    have CX:Hid (∀w,Calls Tryz.prog 50 #[.agg #[.int .i64 x.v.major,.int .i64 x.v.minor,.int .i64 x.v.patch,.string ⟨x.v.pre.toArray⟩,.string ⟨x.v.build.toArray⟩],.agg #[.int .i64 y1,.int .i64 y2,.int .i64 y3,.string ⟨y4.toArray⟩,.string ⟨y5.toArray⟩]] w fun e w'=>e=.returned (.int .i64 (verC (cutV x.v) ⟨y1,y2,y3,y4⟩))/\w.grownBy w' none):=fun w=>CC.out x w (HSH.out x (by rw [<-hx];exact List.getElem_mem _))
    obtain ⟨c,hc⟩:∃c,verC (cutV x.v) ⟨y1,y2,y3,y4⟩=c:=⟨_,rfl⟩
    rw [hc] at CX HF
    obtain ⟨xk,⟨z1,z2,z3,z4,z5⟩⟩:=x
    simp only [] at CX HF
    obtain ⟨e0,e1,e2,e3,e4,e5⟩:=hat
    simp only [] at e0 e1 e2 e3 e4 e5
    obtain ⟨s1,s2,s3,s4,s5⟩:=STv.out
    have hVlt:V0 < wr.heap.size:=hcell_lt s1
    have gA:=gb_alloc (gb_refl wr none) (.cells #[.int .i64 (xk:Int),.int .i64 z1,.int .i64 z2,.int .i64 z3,.string ⟨z4.toArray⟩,.string ⟨z5.toArray⟩] 98)
    have t1:=gA.cell s1 (by simp)
    have t2:=gA.cell s2 (by simp)
    have t3:=gA.cell s3 (by simp)
    have t4:=gA.cell s4 (by simp)
    have t5:=gA.cell s5 (by simp)
    clear hf hg hx hc gA
    go_wp2_with (first | (go_at_call 50;refine (CX.out _).mono ?_))
    rintro e w3 ⟨rfl,hg⟩
    have hit:ItAt w3 ⟨wr.heap.size,0,none⟩ ⟨xk,⟨z1,z2,z3,z4,z5⟩⟩:=(it_block (heap_alloc_new wr _)).grow hg
    have hk:=hit.1
    simp only [] at hk
    have hgr:wr.grownBy w3 none:=gb_trans (gb_alloc (gb_refl wr none) _) hg
    have HG3:Hid (w.grownBy w3 none):=gb_trans HG.out hgr
    have HW3:Hid (wr.grownBy w3 none):=hgr
    clear hg hgr hit e0 e1 e2 e3 e4 e5 s1 s2 s3 s4 s5 t1 t2 t3 t4 t5 hVlt
    cases hz:(c == 0) with
    | true =>
     have h0:c=0:=by simpa using hz
     have HQ:Hid ((xk:Int)=R):=by
      have:=HF.out
      rw [if_pos h0] at this
      exact this
     clear h0
     go_wp2
     go_ret
     exact ⟨ret_int HQ.out,HG3.out⟩
    | false =>
     have h0:¬ c=0:=by simpa using hz
     have HQ:Hid (findM ⟨y1,y2,y3,y4⟩ (M.drop (i+1))=R):=by
      have:=HF.out
      rw [if_neg h0] at this
      exact this
     clear h0
     go_wp2
     exact ⟨⟨i+1,by go_num,by omega,HQ.out,gb_trans HW2.out HW3.out⟩,by simp [intOf];omega⟩
   ·have hil:i=M.length:=by omega
    have HQ:Hid (-1=R):=by
     show _=_
     rw [hil,List.drop_length] at hf
     exact hf
    clear hf hil hg
    go_wp2
    go_ret
    exact ⟨ret_int HQ.out,HG.out⟩
 ·have hE1:(E == 0)=false:=by simp [hE]
  have hE2:(E != 0)=true:=by simp [hE]
  have HQ:Hid (-1=R):=(HFN.out (by simp [hE])).symm
  clear hE
  go_wp2
  go_ret
  exact ⟨ret_int HQ.out,gb_alloc HG.out _⟩
open Go.RowKit
set_option linter.unusedVariables false
theorem fault_many {i:Nat} {P:List Re} {x:Re} (h:50<=i\/20 < x.nd.length):faultR i P x=4:=by unfold faultR;rw [if_pos h]
theorem fault_text {i:Nat} {P:List Re} {x:Re} (h:¬ (50<=i\/20 < x.nd.length)) (h2:nameB x.nm=false\/okV x.ve=false\/wrongN x.nd=2):faultR i P x=2:=by unfold faultR;rw [if_neg h,if_pos h2]
theorem fault_rest {i:Nat} {P:List Re} {x:Re} (h:¬ (50<=i\/20 < x.nd.length)) (h2:¬ (nameB x.nm=false\/okV x.ve=false\/wrongN x.nd=2)):faultR i P x=if wrongN x.nd=5\/P.any (hitB x.nm x.ve)=true then 5 else 0:=by unfold faultR;rw [if_neg h,if_neg h2]
theorem re_block {w:World} {N:Nat} {n v d:ByteArray} {sv:Value} {t:TypeId} (h:w.heap[N]?=some (.cells #[.string n,.string v,sv,.string d] t (0,0))):w.cell? ⟨N,0,none⟩=some (.string n)/\w.cell? ⟨N,1,none⟩=some (.string v)/\w.cell? ⟨N,2,none⟩=some sv/\w.cell? ⟨N,3,none⟩=some (.string d) :=
 ⟨by rw [Lib.cell_of_heap h];rfl,by rw [Lib.cell_of_heap h];rfl,by rw [Lib.cell_of_heap h];rfl,by rw [Lib.cell_of_heap h];rfl⟩
theorem res_take {w:World} {a:Addr} {cap:Nat} {L:List Re} (i:Nat) (hi:i<=L.length) (hc:L.length<=cap) (h:∀j (hj:j < L.length),ReAt w (a.add (j * 4)) L[j]):ReS w (.slice (some a) i cap) (L.take i):=by
 have hl:(L.take i).length=i:=by simp;omega
 refine Or.inr ⟨a,cap,by rw [hl],by omega,fun j hj=>?_⟩
 rw [List.getElem_take]
 exact h j (by omega)
set_option maxRecDepth 100000 in
set_option maxHeartbeats 3200000 in
theorem faultOf_at (a:Addr) (cap:Nat) (L:List Re) (i:Nat) (w:World) (hi:i < L.length) (hcap:L.length<=cap) (h:∀j (hj:j < L.length),ReAt w (a.add (j * 4)) L[j]) (hL:L.length<=1048576) (hV:∀x ∈ L,x.nm.size < 2 ^ 60/\x.ve.size < 2 ^ 60) (hN:∀x ∈ L,x.nd.length<=1048576) (hS:∀x ∈ L,∀y ∈ x.nd,y.n.size < 2 ^ 60/\y.r.size < 2 ^ 60) :
  Calls Tryz.prog 14 #[.slice (some a) L.length cap,.int .i64 i] w fun e w'=>e=.returned (.int .i64 (faultL L i))/\w.grownBy w' none:=by
 rw [faultL_at L i hi]
 have HA:Hid (∀j (hj:j < L.length),ReAt w (a.add (j * 4)) L[j]):=h
 obtain ⟨x,hx⟩:∃x,L[i]=x:=⟨_,rfl⟩
 have hmem:x ∈ L:=by rw [<-hx];exact List.getElem_mem _
 obtain ⟨e0,e1,⟨sv,e2,hsv⟩,e3⟩:ReAt w (a.add (i * 4)) x:=by rw [<-hx];exact h i hi
 rw [hx]
 have HP:Hid (∀w',w.grownBy w' none->ReS w' (.slice (some a) i cap) (L.take i)):=fun w' hg=>res_take i (by omega) hcap fun j hj=>(HA.out j hj).grow hg
 have HSV:Hid (NdS w sv x.nd):=hsv
 obtain ⟨so,sc,rfl⟩:=nds_slice hsv
 have CP:Hid (∀w,Calls Tryz.prog 28 #[.string x.ve] w fun e w'=>(∃(x1 x2 x3:Int) (x4 x5:ByteArray) (k:Int),e=.returned (.tuple #[.agg #[.int .i64 x1,.int .i64 x2,.int .i64 x3,.string x4,.string x5],.int .i64 (parseV x.ve.data.toList).1,.int .i64 k]))/\w.grownBy w' none):=fun w=>(parse_any x.ve w (by have:=(hV x hmem).2;omega)).mono fun e w' ⟨h1,h2⟩=>⟨⟨_,_,_,_,_,_,h1⟩,h2⟩
 have CN:Hid (∀w,Calls Tryz.prog 30 #[.string x.nm] w fun e w'=>e=.returned (.bool (nameB x.nm))/\w'=w):=fun w=>name_any x.nm w (by have:=(hV x hmem).1;omega)
 have CF:Hid (∀w,NdS w (.slice so x.nd.length sc) x.nd->Calls Tryz.prog 29 #[.slice so x.nd.length sc] w fun e w'=>e=.returned (.int .i64 (wrongN x.nd))/\w.grownBy w' none):=fun w h=>fault_any _ x.nd w h (hN x hmem) (hS x hmem)
 have CI:Hid (∀w,ReS w (.slice (some a) i cap) (L.take i)->Calls Tryz.prog 31 #[.slice (some a) i cap,.string x.nm,.string x.ve] w fun e w'=>e=.returned (.int .i64 (findI x.nm x.ve (L.take i) 0))/\w.grownBy w' none):=fun w h=>find_any _ (L.take i) x.nm x.ve w h (by simp;omega) (fun y hy=>by have:=(hV y (List.mem_of_mem_take hy)).2;omega) (by have:=(hV x hmem).2;omega)
 have HFI:Hid (0<=findI x.nm x.ve (L.take i) 0 ↔ (L.take i).any (hitB x.nm x.ve)=true):=find_any_iff _ _ _ _
 have hil:i<=1048576:=by omega
 have hiL:(i:Int) < (L.length:Int):=by omega
 have hic:i<=cap:=by omega
 clear h hV hN hS hmem hx hsv
 obtain ⟨R,hR⟩:∃R,faultR i (L.take i) x=R:=⟨_,rfl⟩
 rw [hR]
 by_cases hm:50<=i
 ·have HR:Hid (R=4):=hR.symm.trans (fault_many (Or.inl hm))
  clear hR
  go_enter Tryz.func14,Tryz.ntmps14
  go_wp2
  go_ret
  exact ⟨ret_int HR.out.symm,gb_alloc (gb_refl w none) _⟩
 ·by_cases hn:20 < x.nd.length
  ·have HR:Hid (R=4):=hR.symm.trans (fault_many (Or.inr hn))
   clear hR
   go_enter Tryz.func14,Tryz.ntmps14
   go_wp2
   go_ret
   exact ⟨ret_int HR.out.symm,gb_alloc (gb_refl w none) _⟩
  ·have hmany:¬ (50<=i\/20 < x.nd.length):=by omega
   have HT:Hid (nameB x.nm=false\/okV x.ve=false\/wrongN x.nd=2->R=2):=fun h=>hR.symm.trans (fault_text hmany h)
   have HQ:Hid (¬ (nameB x.nm=false\/okV x.ve=false\/wrongN x.nd=2)->R=if wrongN x.nd=5\/(L.take i).any (hitB x.nm x.ve)=true then 5 else 0):=fun h=>hR.symm.trans (fault_rest hmany h)
   have hok:okV x.ve=decide ((parseV x.ve.data.toList).1=0):=rfl
   rw [hok] at HT HQ
   obtain ⟨E,hE⟩:∃E,(parseV x.ve.data.toList).1=E:=⟨_,rfl⟩
   rw [hE] at HT HQ CP
   obtain ⟨q,hq⟩:∃q,nameB x.nm=q:=⟨_,rfl⟩
   rw [hq] at HT HQ CN
   obtain ⟨W,hW⟩:∃W,wrongN x.nd=W:=⟨_,rfl⟩
   rw [hW] at HT HQ CF
   obtain ⟨F,hF⟩:∃F,findI x.nm x.ve (L.take i) 0=F:=⟨_,rfl⟩
   rw [hF] at HFI CI
   obtain ⟨nn,hnn⟩:∃nn,x.nd.length=nn:=⟨_,rfl⟩
   rw [hnn] at HSV CF e2 hn
   obtain ⟨xn,xv,xd,xa⟩:=x
   simp only [] at CP CN CI e0 e1 e3 HSV CF HQ HFI
   clear hR hmany hok hE hq hW hF hnn
   obtain ⟨A,hA⟩:∃A,w.heap.size=A:=⟨_,rfl⟩
   go_enter Tryz.func14,Tryz.ntmps14
   go_wp2_with (first | (go_at_call 28;refine (CP.out _).mono ?_))
   rintro e w1 ⟨⟨x1,x2,x3,x4,x5,k,rfl⟩,hg1⟩
   obtain ⟨c0,c1,c2,c3⟩:=re_block ((hg1.block w.heap.size (by simp) (by simp)).trans (heap_alloc_new w _))
   have HG1:Hid (w.grownBy w1 none):=gb_trans (gb_alloc (gb_refl w none) _) hg1
   have HAL:Hid (A < w1.heap.size):=by
    have:=hg1.size
    simp at this
    show A < _
    omega
   try rw [hA]
   rw [hA] at c0 c1 c2 c3
   have hal:=HAL.out
   clear hg1 e0 e1 e2 e3
   have g1:=gb_alloc (gb_refl w1 none) (.cells #[.int .i64 x1,.int .i64 x2,.int .i64 x3,.string x4,.string x5] 70)
   have d0:=g1.cell c0 (by simp)
   have d1:=g1.cell c1 (by simp)
   have d2:=g1.cell c2 (by simp)
   clear c0 c1 c2 c3
   go_wp2_with (first | (go_at_call 29;refine (CF.out _ (HSV.out.grow (gb_trans HG1.out g1))).mono ?_))
   rintro e w2 ⟨rfl,hg2⟩
   have f0:=hg2.cell d0 (by simp)
   have f1:=hg2.cell d1 (by simp)
   have HG2:Hid (w.grownBy w2 none):=gb_trans HG1.out (gb_trans g1 hg2)
   clear d0 d1 d2 g1 hg2 HSV hal hA
   have HPP:Hid (∀w',w2.grownBy w' none->ReS w' (.slice (some a) i cap) (L.take i)):=fun w' hg=>HP.out w' (gb_trans HG2.out hg)
   cases q with
   | false =>
    go_wp2_with (first | (go_at_call 30;refine (CN.out _).mono ?_;rintro e w' ⟨rfl,rfl⟩))
    go_ret
    exact ⟨ret_int (HT.out (Or.inl (by trivial))).symm,HG2.out⟩
   | true =>
    by_cases hE:E=0
    ·subst hE
     by_cases hW2:W=2
     ·subst hW2
      go_wp2_with (first | (go_at_call 30;refine (CN.out _).mono ?_;rintro e w' ⟨rfl,rfl⟩))
      go_ret
      exact ⟨ret_int (HT.out (Or.inr (Or.inr (by trivial)))).symm,HG2.out⟩
     ·have hw2:(W == 2)=false:=by simp [hW2]
      have HQ':Hid (R=if W=5\/(L.take i).any (hitB xn xv)=true then 5 else 0):=HQ.out (by simp [hW2])
      clear hW2
      by_cases hW5:W=5
      ·subst hW5
       have HR:Hid (R=5):=HQ'.out.trans (if_pos (Or.inl rfl))
       have h55:((5:Int) == 5)=true:=rfl
       go_wp2_with (first | (go_at_call 30;refine (CN.out _).mono ?_;rintro e w' ⟨rfl,rfl⟩))
       go_quiet (fail)
       go_wp2
       go_ret
       exact ⟨ret_int HR.out.symm,gb_drew HG2.out _⟩
      ·have hw5:(W == 5)=false:=by simp [hW5]
       have HR5:Hid (0<=F->R=5):=fun h=>HQ'.out.trans (if_pos (Or.inr (HFI.out.1 h)))
       have HR0:Hid (¬ 0<=F->R=0):=fun h=>HQ'.out.trans (if_neg (fun h2=>h2.elim hW5 (fun h3=>h (HFI.out.2 h3))))
       have CII:Hid (Calls Tryz.prog 31 #[.slice (some a) i cap,.string xn,.string xv] w2.drew fun e w'=>e=.returned (.int .i64 F)/\w2.drew.grownBy w' none):=CI.out _ (HPP.out _ ⟨rfl,rfl,rfl,Nat.le_refl _,fun _ _ _=>rfl⟩)
       clear hW5
       go_wp2_with (first | (go_at_call 30;refine (CN.out _).mono ?_;rintro e w' ⟨rfl,rfl⟩))
       go_region_held3 (fun w'=>w'.cell? ⟨A,0,none⟩=some (.string xn)/\w'.cell? ⟨A,1,none⟩=some (.string xv)) ((first | exact ⟨World.grownBy.cell (by assumption) (And.left (by assumption)) (by simp),World.grownBy.cell (by assumption) (And.right (by assumption)) (by simp)⟩ | go_keep)) (first | (go_at_call 31;refine CII.out.mono ?_;rintro e w3 ⟨rfl,hg3⟩))
       have HG3:Hid (w.grownBy w3 none):=gb_trans HG2.out (gb_undrew hg3)
       clear hg3
       by_cases hF:0<=F
       ·go_wp2
        go_ret
        exact ⟨ret_int (HR5.out hF).symm,HG3.out⟩
       ·go_wp2
        go_ret
        exact ⟨ret_int (HR0.out hF).symm,HG3.out⟩
    ·have hE1:(E != 0)=true:=by simp [hE]
     have HR:Hid (R=2):=HT.out (Or.inr (Or.inl (by simp [hE])))
     clear hE
     go_wp2_with (first | (go_at_call 30;refine (CN.out _).mono ?_;rintro e w' ⟨rfl,rfl⟩))
     go_ret
     exact ⟨ret_int HR.out.symm,HG2.out⟩
set_option maxRecDepth 100000 in
set_option maxHeartbeats 1600000 in
theorem check_any (v:Value) (L:List Re) (w:World) (h:ReS w v L) (hL:L.length<=1048576) (hV:∀x ∈ L,x.nm.size < 2 ^ 60/\x.ve.size < 2 ^ 60) (hN:∀x ∈ L,x.nd.length<=1048576) (hS:∀x ∈ L,∀y ∈ x.nd,y.n.size < 2 ^ 60/\y.r.size < 2 ^ 60) :
  Calls Tryz.prog 6 #[v] w fun e w'=>e=.returned (.tuple #[.int .i64 (chkFrom L L.length).1,.int .i64 ((chkFrom L L.length).2:Int)])/\w.grownBy w' none:=by
 have H1:Hid (ReS w v L):=h
 have CF:Hid (∀(a:Addr) (cap i:Nat) (w:World),i < L.length->L.length<=cap->(∀j (hj:j < L.length),ReAt w (a.add (j * 4)) L[j])->Calls Tryz.prog 14 #[.slice (some a) L.length cap,.int .i64 i] w fun e w'=>e=.returned (.int .i64 (faultL L i))/\w.grownBy w' none):=fun a cap i w h1 h2 h3=>faultOf_at a cap L i w h1 h2 h3 hL hV hN hS
 obtain ⟨o,c,rfl⟩:∃o c,v=.slice o L.length c:=by
  rcases h with ⟨rfl,rfl⟩ | ⟨a,cap,rfl,-⟩
  ·exact ⟨_,_,rfl⟩
  ·exact ⟨_,_,rfl⟩
 have HH:Hid (∀i,i < L.length->¬ faultL L i=0->chkFrom L (L.length - i)=(faultL L i,i)):=chk_hit L
 have HM:Hid (∀i,i < L.length->faultL L i=0->chkFrom L (L.length - i)=chkFrom L (L.length - (i+1))):=chk_miss L
 obtain ⟨R,hR⟩:∃R,chkFrom L L.length=R:=⟨_,rfl⟩
 have HS0:Hid (chkFrom L (L.length - 0)=R):=hR
 rw [hR]
 clear h hV hN hS hR
 go_enter Tryz.func6,Tryz.ntmps6
 go_wp2
 go_loopw [8] (fun vi wr=>∃i:Nat,vi=.int .i64 i/\i<=L.length/\chkFrom L (L.length - i)=R/\w.grownBy wr none) (fun vi _=>L.length - (intOf vi).toNat)
 case atStart=>exact ⟨0,rfl,Nat.zero_le _,HS0.out,gb_refl _ _⟩
 case round =>
  obtain ⟨i,rfl,hi,hc,hg⟩:=hrel
  have HG:Hid (w.grownBy wr none):=hg
  have HC:Hid (chkFrom L (L.length - i)=R):=hc
  by_cases hlt:i < L.length
  ·have CFF:Hid (Calls Tryz.prog 14 #[.slice o L.length c,.int .i64 i] wr fun e w'=>e=.returned (.int .i64 (faultL L i))/\wr.grownBy w' none):=by
    rcases H1.out.grow hg with ⟨h1,h2⟩ | ⟨a,cap,h1,h2,h3⟩
    ·rw [h2] at hlt;simp at hlt
    ·cases h1
     exact CF.out a c i wr hlt h2 h3
   have HH':Hid (¬ faultL L i=0->R=(faultL L i,i)):=fun h=>HC.out.symm.trans (HH.out i hlt h)
   have HM':Hid (faultL L i=0->chkFrom L (L.length - (i+1))=R):=fun h=>(HM.out i hlt h).symm.trans HC.out
   obtain ⟨F,hF⟩:∃F,faultL L i=F:=⟨_,rfl⟩
   rw [hF] at CFF HH' HM'
   clear hF hc hg
   by_cases hz:F=0
   ·subst hz
    go_wp2_with (first | (go_at_call 14;refine CFF.out.mono ?_;rintro e w3 ⟨rfl,hg3⟩))
    exact ⟨⟨i+1,by go_num,by omega,HM'.out (by trivial),gb_trans HG.out hg3⟩,by simp [intOf];omega⟩
   ·have hz1:(F != 0)=true:=by simp [hz]
    have HR:Hid (R=(F,i)):=HH'.out hz
    clear hz
    go_wp2_with (first | (go_at_call 14;refine CFF.out.mono ?_;rintro e w3 ⟨rfl,hg3⟩))
    refine bodyPost_ret (results_tmp2 (t:=2) (u:=3) rfl _ _ _) rfl ⟨?_,gb_trans HG.out hg3⟩
    rw [HR.out];rfl
  ·have hil:i=L.length:=by omega
   have HR:Hid (R=(0,0)):=by
    show R=_
    rw [<-hc,hil,Nat.sub_self];rfl
   clear hc hg hil hi
   go_wp2
   refine bodyPost_ret (results_tmp2 (t:=2) (u:=3) rfl _ _ _) rfl ⟨?_,HG.out⟩
   rw [HR.out];rfl
end Go.Proofs.YtfplkhnclmidnaaGreatDoor
