import Derived.Test.YtonfldbigenfhaaGreatDoorM25
import Derived.Test.YtonfldbigenfhaaGreatDoorM06
import Derived.Test.YtonfldbigenfhaaGreatDoorM37
import Derived.Test.YtonfldbigenfhaaGreatDoorM20
import Derived.Test.YtonfldbigenfhaaGreatDoorM26
namespace Go.Proofs.YtonfldbigenfhaaGreatDoor
open Go.RowKit
set_option linter.unusedVariables false
theorem v_one (t:V):∀u ∈ vC t,u.oneCell'=true:=by
 intro u hu
 simp only [vC,List.mem_cons,List.not_mem_nil,or_false] at hu
 rcases hu with rfl | rfl | rfl | rfl | rfl <;> rfl
theorem keepT {p0 p1 p2 p3 p4 p5 p6 p7 p8 p9:Addr} {c0 c1 c2 c3 c4 c5 c6 c7 c8 c9:Value} {w w':World} (hg:w.grownBy w' none) (h:w.cell? p0=some c0/\w.cell? p1=some c1/\w.cell? p2=some c2/\w.cell? p3=some c3/\w.cell? p4=some c4/\w.cell? p5=some c5/\w.cell? p6=some c6/\w.cell? p7=some c7/\w.cell? p8=some c8/\w.cell? p9=some c9):w'.cell? p0=some c0/\w'.cell? p1=some c1/\w'.cell? p2=some c2/\w'.cell? p3=some c3/\w'.cell? p4=some c4/\w'.cell? p5=some c5/\w'.cell? p6=some c6/\w'.cell? p7=some c7/\w'.cell? p8=some c8/\w'.cell? p9=some c9:=by
 obtain ⟨h0,h1,h2,h3,h4,h5,h6,h7,h8,h9⟩:=h
 exact ⟨hg.cell h0 (by simp),hg.cell h1 (by simp),hg.cell h2 (by simp),hg.cell h3 (by simp),hg.cell h4 (by simp),hg.cell h5 (by simp),hg.cell h6 (by simp),hg.cell h7 (by simp),hg.cell h8 (by simp),hg.cell h9 (by simp)⟩
theorem own_keepV {w w':World} {base:Nat} {e:TypeId} {size:Nat} {v:Value} {n:Nat} {xs:List Value} (h:w.ownsRow base e size v n xs) (hg:w.grownBy w' none):w'.ownsRow base e size v n xs :=
 h.kept hg (by cases v.ownBlock <;> simp)
theorem below_keep {B:Nat} {a w w':World} (h:Below B a w) (hB:B<=w.heap.size) (hg:w.grownBy w' none):Below B a w' :=
 ⟨hg.os.trans h.os,hg.tape.trans h.tape,hg.output.trans h.output,Nat.le_trans h.size hg.size,fun k hk=>(hg.block k (Nat.lt_of_lt_of_le hk hB) (by simp)).trans (h.block k hk)⟩
theorem own_base {W w:World} {b b':Nat} {e:TypeId} {size:Nat} {v:Value} {n:Nat} {xs:List Value} (h:w.ownsRow b e size v n xs) (hb:b'<=b):w.ownsRow b' e size v n xs:=by
 refine ⟨h.1,?_⟩
 rcases h.2 with h | ⟨g,cap,cur,h1,h2,h3⟩
 ·exact Or.inl h
 ·exact Or.inr ⟨g,cap,cur,h1,Nat.le_trans hb h2,h3⟩
theorem below_up {w W w':World} {A:Nat} (hg:w.grownBy W none) (hW:W.heap.size=A+1) (hA:w.heap.size=A) (h:Below W.heap.size W w'):Below w.heap.size w w' :=
 ⟨h.os.trans hg.os,h.tape.trans hg.tape,h.output.trans hg.output,by have:=h.size;omega,fun k hk=>(h.block k (by omega)).trans (hg.block k hk (by simp))⟩
def WRel (W:World) (v:V) (l:List V) (vo:Value) (b:Bool) (i:Nat) (wr:World):Prop :=
 ∃O:List V,O++(if b=true then l.drop i else insV v (l.drop i))=insV v l/\O.length<=i+(if b=true then 1 else 0)/\wr.ownsRow W.heap.size 39 5 vo O.length (O.flatMap vC)/\Below W.heap.size W wr
def WPost (v:V) (l:List V) (w:World) (e:Ending) (w':World):Prop:=∃vo,e=.returned vo/\w'.ownsRow w.heap.size 39 5 vo (insV v l).length ((insV v l).flatMap vC)/\Below w.heap.size w w'
set_option maxRecDepth 100000 in
set_option maxHeartbeats 3200000 in
theorem with_at (a:Addr) (cap:Nat) (l:List V) (v:V) (w:World) (hl:l.length<=4194304) (hcap:l.length<=cap) (h:VsAt w a l) (hs:∀t ∈ l,t.pre.length<=1048576) (hv:v.pre.length<=1048576) :
  Calls Tryz.prog 37 #[.slice (some a) l.length cap,.agg #[.int .i64 v.major,.int .i64 v.minor,.int .i64 v.patch,.string ⟨v.pre.toArray⟩,.string ⟨#[]⟩]] w (WPost v l w):=by
 have hinfo:=infoV
 obtain ⟨i0,hi0,hii⟩:=Option.map_eq_some_iff.1 hinfo
 simp only [Prod.mk.injEq] at hii
 obtain ⟨hz0,hz1,hzb⟩:=hii
 clear hinfo
 have HL:Hid (VsAt w a l):=h
 have HS:Hid (∀t ∈ l,t.pre.length<=1048576):=hs
 have HV:Hid (v.pre.length<=1048576):=hv
 clear h hs hv
 go_enter Tryz.func37,Tryz.ntmps37
 go_wp2
 obtain ⟨A,hA⟩:∃A,w.heap.size=A:=⟨_,rfl⟩
 obtain ⟨W,hW⟩:∃W,w.alloc (.cells #[.int .i64 v.major,.int .i64 v.minor,.int .i64 v.patch,.string ⟨v.pre.toArray⟩,.string ⟨#[]⟩] 39)=W:=⟨_,rfl⟩
 have HG0:Hid (w.grownBy W none):=by show w.grownBy W none;rw [<-hW];exact gb_alloc (gb_refl w none) _
 have HWS:Hid (W.heap.size=A+1):=by show W.heap.size=A+1;rw [<-hW,<-hA];simp
 have STv:Hid (VAt W ⟨A,0,none⟩ v):=by
  show VAt W ⟨A,0,none⟩ v
  rw [<-hW,<-hA]
  exact ⟨by rw [Lib.cell_of_heap (heap_alloc_new w _)];rfl,by rw [Lib.cell_of_heap (heap_alloc_new w _)];rfl,by rw [Lib.cell_of_heap (heap_alloc_new w _)];rfl,by rw [Lib.cell_of_heap (heap_alloc_new w _)];rfl,by rw [Lib.cell_of_heap (heap_alloc_new w _)];rfl⟩
 have HAA:Hid (w.heap.size=A):=hA
 try rw [hW]
 try rw [hA]
 clear hW hA
 go_loopw [5,6,7] (fun vo vb vi wr=>∃(i:Nat) (b:Bool),vi=.int .i64 i/\vb=.bool b/\i<=l.length/\WRel W v l vo b i wr) (fun _ _ vi _=>l.length - (intOf vi).toNat)
 case atStart=>exact ⟨0,false,rfl,rfl,Nat.zero_le _,[],by simp,by simp,World.ownsRow_nil _ _ _ _,Below.refl _ _⟩
 case round =>
  obtain ⟨i,b,rfl,rfl,hi,O,hO,hOl,hown,hb⟩:=hrel
  have HB:Hid (Below W.heap.size W wr):=hb
  have HG:Hid (W.grownBy wr none):=⟨hb.os,hb.tape,hb.output,hb.size,fun k hk _=>hb.block k hk⟩
  have HO:Hid (wr.ownsRow W.heap.size 39 5 u5 O.length (O.flatMap vC)):=hown
  have HOL:Hid (O.length<=i+1):=by show O.length<=i+1;cases b <;> simp at hOl <;> omega
  have HOLB:Hid (O.length<=i+(if b=true then 1 else 0)):=hOl
  have HII:Hid (O++(if b=true then l.drop i else insV v (l.drop i))=insV v l):=hO
  clear hb hown hOl hO
  by_cases hlt:i < l.length
  ·obtain ⟨d,hd⟩:∃d,l[i]=d:=⟨_,rfl⟩
   have HE:Hid (VAt wr (a.add (i * 5)) d):=by show VAt wr _ d;rw [<-hd];exact ((HL.out i hlt).grow HG0.out).grow HG.out
   have STr:Hid (VAt wr ⟨A,0,none⟩ v):=STv.out.grow HG.out
   have hds:d.pre.length<=1048576:=by rw [<-hd];exact HS.out _ (List.getElem_mem hlt)
   obtain ⟨c,hc⟩:∃c,verC v d=c:=⟨_,rfl⟩
   have HDR:Hid (l.drop i=d :: l.drop (i+1)):=by show _=_;rw [<-hd];exact List.drop_eq_getElem_cons hlt
   have HST:=ins_step v d (l.drop (i+1)) O l b (by rw [<-HDR.out];exact HII.out)
   rw [hc] at HST
   have HSS:Hid ((b=true->(O++[d])++l.drop (i+1)=insV v l)/\(b=false->c=0->(O++[d])++l.drop (i+1)=insV v l)/\(b=false->c < 0->((O++[v])++[d])++l.drop (i+1)=insV v l)/\(b=false->¬ c=0->¬ c < 0->(O++[d])++insV v (l.drop (i+1))=insV v l)):=HST
   have CC:Hid (∀w,Calls Tryz.prog 64 #[.agg #[.int .i64 v.major,.int .i64 v.minor,.int .i64 v.patch,.string ⟨v.pre.toArray⟩,.string ⟨#[]⟩],.agg #[.int .i64 d.major,.int .i64 d.minor,.int .i64 d.patch,.string ⟨d.pre.toArray⟩,.string ⟨#[]⟩]] w fun e w'=>e=.returned (.int .i64 c)/\w.grownBy w' none):=fun w=>by
    have hz:∀t:V,(⟨t.pre.toArray⟩:ByteArray).size=t.pre.length:=fun t=>by simp [ByteArray.size]
    have:=rcompare_any v.major v.minor v.patch d.major d.minor d.patch ⟨v.pre.toArray⟩ ⟨#[]⟩ ⟨d.pre.toArray⟩ ⟨#[]⟩ w (by rw [hz];have:=HV.out;omega) (by rw [hz];omega)
    have q:∀t:V,(⟨t.major,t.minor,t.patch,(⟨t.pre.toArray⟩:ByteArray).data.toList⟩:V)=t:=fun t=>by cases t;simp
    rw [q,q,hc] at this
    exact this.mono fun e w' h=>⟨h.1,⟨h.2.os,h.2.tape,h.2.output,h.2.size,fun k hk _=>h.2.block k hk⟩⟩
   have HLD:Hid (VAt W (a.add (i * 5)) d):=by show VAt W _ d;rw [<-hd];exact (HL.out i hlt).grow HG0.out
   clear hc hd hds HST HII HDR
   obtain ⟨e0,e1,e2,e3,e4⟩:=HE.out
   obtain ⟨s0,s1,s2,s3,s4⟩:=STr.out
   simp only [Nat.zero_add] at s1 s2 s3 s4
   go_wp2
   go_region_held3 (fun w'=>w'.cell? ⟨A,0,none⟩=some (.int .i64 v.major)/\w'.cell? ⟨A,1,none⟩=some (.int .i64 v.minor)/\w'.cell? ⟨A,2,none⟩=some (.int .i64 v.patch)/\w'.cell? ⟨A,3,none⟩=some (.string ⟨v.pre.toArray⟩)/\w'.cell? ⟨A,4,none⟩=some (.string ⟨#[]⟩)/\w'.cell? (a.add (i * 5))=some (.int .i64 d.major)/\w'.cell? ⟨(a.add (i * 5)).block,(a.add (i * 5)).off+1,none⟩=some (.int .i64 d.minor)/\w'.cell? ⟨(a.add (i * 5)).block,(a.add (i * 5)).off+2,none⟩=some (.int .i64 d.patch)/\w'.cell? ⟨(a.add (i * 5)).block,(a.add (i * 5)).off+3,none⟩=some (.string ⟨d.pre.toArray⟩)/\w'.cell? ⟨(a.add (i * 5)).block,(a.add (i * 5)).off+4,none⟩=some (.string ⟨#[]⟩)) ((first | exact keepT (by assumption) (by assumption) | go_keep)) (first | (go_at_call 64;refine (CC.out _).mono ?_;rintro e w1 ⟨rfl,hg⟩))
   have hg1:=gb_undrew hg
   have HB1:Hid (Below W.heap.size W w1):=below_keep HB.out HB.out.size hg1
   have HO1:Hid (w1.ownsRow W.heap.size 39 5 u5 O.length (O.flatMap vC)):=own_keepV HO.out hg1
   have HE1:Hid (VAt w1 (a.add (i * 5)) d):=HE.out.grow hg1
   have ST1:Hid (VAt w1 ⟨A,0,none⟩ v):=STr.out.grow hg1
   clear hg hg1 HB HO HE STr e0 e1 e2 e3 e4 s0 s1 s2 s3 s4 HG
   obtain ⟨e0,e1,e2,e3,e4⟩:=HE1.out
   obtain ⟨s0,s1,s2,s3,s4⟩:=ST1.out
   simp only [Nat.zero_add] at s1 s2 s3 s4
   by_cases hc0:c=0
   ·subst hc0
    cases b with
    | true =>
     go_wp2_with (first | (at_builtin;refine wpList_append_own _ rfl _ _ 78 rfl W.heap.size 39 i0 (.agg #[.int .i64 0,.int .i64 0,.int .i64 0,.string ⟨#[]⟩,.string ⟨#[]⟩]) 5 56 Tryz.underlying78 hi0 hz0 hz1 hzb rfl (by decide) _ _ _ rfl (HO1.out.alloc _) _ 1 1 (vC d) rfl rfl (World.news_of_block (heap_alloc_new _ _)) (v_one _) (by unfold maxLen;have:=HOL.out;omega) (by have:=HOL.out;omega) (by have:=HB1.out.size;simp;omega) ?_;intro v9 w9 hown3 hgrow _))
     have HB9:Hid (Below W.heap.size W w9):=(HB1.out.alloc (HB1.out.size) _).grown hgrow (by have:=HB1.out.size;simp;omega) (fun q hq=>(HO1.out.lt q hq).1)
     have HO9:Hid (w9.ownsRow W.heap.size 39 5 v9 (O++[d]).length ((O++[d]).flatMap vC)):=by show World.ownsRow _ _ _ _ _ _ _;rw [List.length_append,List.flatMap_append];simpa using hown3
     have HN:Hid (WRel W v l v9 true (i+1) w9):=⟨O++[d],by rw [if_pos rfl];exact HSS.out.1 rfl,by have:=HOLB.out;simp at this ⊢;omega,HO9.out,HB9.out⟩
     clear hown3 hgrow HSS HO9 HB9 HO1 HB1
     go_wp2
     go_roundw
     case rel=>exact ⟨i+1,true,by go_num,rfl,by omega,HN.out⟩
     case measure=>simp [intOf];omega
    | false =>
     go_wp2_with (first | (at_builtin;refine wpList_append_own _ rfl _ _ 78 rfl W.heap.size 39 i0 (.agg #[.int .i64 0,.int .i64 0,.int .i64 0,.string ⟨#[]⟩,.string ⟨#[]⟩]) 5 56 Tryz.underlying78 hi0 hz0 hz1 hzb rfl (by decide) _ _ _ rfl (HO1.out.alloc _) _ 1 1 (vC d) rfl rfl (World.news_of_block (heap_alloc_new _ _)) (v_one _) (by unfold maxLen;have:=HOL.out;omega) (by have:=HOL.out;omega) (by have:=HB1.out.size;simp;omega) ?_;intro v9 w9 hown3 hgrow _))
     have HB9:Hid (Below W.heap.size W w9):=(HB1.out.alloc (HB1.out.size) _).grown hgrow (by have:=HB1.out.size;simp;omega) (fun q hq=>(HO1.out.lt q hq).1)
     have HO9:Hid (w9.ownsRow W.heap.size 39 5 v9 (O++[d]).length ((O++[d]).flatMap vC)):=by show World.ownsRow _ _ _ _ _ _ _;rw [List.length_append,List.flatMap_append];simpa using hown3
     have HN:Hid (WRel W v l v9 true (i+1) w9):=⟨O++[d],by rw [if_pos rfl];exact HSS.out.2.1 rfl rfl,by have:=HOLB.out;simp at this ⊢;omega,HO9.out,HB9.out⟩
     clear hown3 hgrow HSS HO9 HB9 HO1 HB1
     go_wp2
     go_roundw
     case rel=>exact ⟨i+1,true,by go_num,rfl,by omega,HN.out⟩
     case measure=>simp [intOf];omega
   ·by_cases hc1:c < 0
    ·cases b with
     | true =>
      go_wp2_with (first | (at_builtin;refine wpList_append_own _ rfl _ _ 78 rfl W.heap.size 39 i0 (.agg #[.int .i64 0,.int .i64 0,.int .i64 0,.string ⟨#[]⟩,.string ⟨#[]⟩]) 5 56 Tryz.underlying78 hi0 hz0 hz1 hzb rfl (by decide) _ _ _ rfl (HO1.out.alloc _) _ 1 1 (vC d) rfl rfl (World.news_of_block (heap_alloc_new _ _)) (v_one _) (by unfold maxLen;have:=HOL.out;omega) (by have:=HOL.out;omega) (by have:=HB1.out.size;simp;omega) ?_;intro v9 w9 hown3 hgrow _))
      have HB9:Hid (Below W.heap.size W w9):=(HB1.out.alloc (HB1.out.size) _).grown hgrow (by have:=HB1.out.size;simp;omega) (fun q hq=>(HO1.out.lt q hq).1)
      have HO9:Hid (w9.ownsRow W.heap.size 39 5 v9 (O++[d]).length ((O++[d]).flatMap vC)):=by show World.ownsRow _ _ _ _ _ _ _;rw [List.length_append,List.flatMap_append];simpa using hown3
      have HN:Hid (WRel W v l v9 true (i+1) w9):=⟨O++[d],by rw [if_pos rfl];exact HSS.out.1 rfl,by have:=HOLB.out;simp at this ⊢;omega,HO9.out,HB9.out⟩
      clear hown3 hgrow HSS HO9 HB9 HO1 HB1
      go_wp2
      go_roundw
      case rel=>exact ⟨i+1,true,by go_num,rfl,by omega,HN.out⟩
      case measure=>simp [intOf];omega
     | false =>
      go_wp2_with (first | (at_builtin;refine wpList_append_own _ rfl _ _ 78 rfl W.heap.size 39 i0 (.agg #[.int .i64 0,.int .i64 0,.int .i64 0,.string ⟨#[]⟩,.string ⟨#[]⟩]) 5 56 Tryz.underlying78 hi0 hz0 hz1 hzb rfl (by decide) _ _ _ rfl (HO1.out.alloc _) _ 1 1 (vC v) rfl rfl (World.news_of_block (heap_alloc_new _ _)) (v_one _) (by unfold maxLen;have:=HOL.out;omega) (by have:=HOL.out;omega) (by have:=HB1.out.size;simp;omega) ?_;intro v5 w5 hown5 hgrow5 _;have HB5:Hid (Below W.heap.size W w5):=(HB1.out.alloc (HB1.out.size) _).grown hgrow5 (by have:=HB1.out.size;simp;omega) (fun q hq=>(HO1.out.lt q hq).1);have HO5:Hid (w5.ownsRow W.heap.size 39 5 v5 (O++[v]).length ((O++[v]).flatMap vC)):=(by show World.ownsRow _ _ _ _ _ _ _;rw [List.length_append,List.flatMap_append];simpa using hown5);have HE5:Hid (VAt w5 (a.add (i * 5)) d):=HLD.out.grow ⟨HB5.out.os,HB5.out.tape,HB5.out.output,HB5.out.size,fun k hk _=>HB5.out.block k hk⟩;obtain ⟨g0,g1,g2,g3,g4⟩:=HE5.out) | (at_builtin;refine wpList_append_own _ rfl _ _ 78 rfl W.heap.size 39 i0 (.agg #[.int .i64 0,.int .i64 0,.int .i64 0,.string ⟨#[]⟩,.string ⟨#[]⟩]) 5 56 Tryz.underlying78 hi0 hz0 hz1 hzb rfl (by decide) _ _ _ rfl (HO5.out.alloc _) _ 1 1 (vC d) rfl rfl (World.news_of_block (heap_alloc_new _ _)) (v_one _) (by unfold maxLen;have:=HOL.out;have hq:(O++[v]).length=O.length+1:=(by simp);omega) (by have:=HOL.out;have hq:(O++[v]).length=O.length+1:=(by simp);omega) (by have:=HB5.out.size;simp;omega) ?_;intro v9 w9 hown3 hgrow _))
      have HB9:Hid (Below W.heap.size W w9):=(HB5.out.alloc (HB5.out.size) _).grown hgrow (by have:=HB5.out.size;simp;omega) (fun q hq=>(HO5.out.lt q hq).1)
      have HO9:Hid (w9.ownsRow W.heap.size 39 5 v9 ((O++[v])++[d]).length (((O++[v])++[d]).flatMap vC)):=by show World.ownsRow _ _ _ _ _ _ _;rw [List.length_append,List.flatMap_append];simpa using hown3
      have HN:Hid (WRel W v l v9 true (i+1) w9):=⟨(O++[v])++[d],by rw [if_pos rfl];exact HSS.out.2.2.1 rfl hc1,by have:=HOLB.out;simp at this ⊢;omega,HO9.out,HB9.out⟩
      clear hown3 hgrow hown5 hgrow5 HSS HO9 HB9 HO5 HB5 HE5 g0 g1 g2 g3 g4
      go_wp2
      go_roundw
      case rel=>exact ⟨i+1,true,by go_num,rfl,by omega,HN.out⟩
      case measure=>simp [intOf];omega
    ·cases b with
     | true =>
      go_wp2_with (first | (at_builtin;refine wpList_append_own _ rfl _ _ 78 rfl W.heap.size 39 i0 (.agg #[.int .i64 0,.int .i64 0,.int .i64 0,.string ⟨#[]⟩,.string ⟨#[]⟩]) 5 56 Tryz.underlying78 hi0 hz0 hz1 hzb rfl (by decide) _ _ _ rfl (HO1.out.alloc _) _ 1 1 (vC d) rfl rfl (World.news_of_block (heap_alloc_new _ _)) (v_one _) (by unfold maxLen;have:=HOL.out;omega) (by have:=HOL.out;omega) (by have:=HB1.out.size;simp;omega) ?_;intro v9 w9 hown3 hgrow _))
      have HB9:Hid (Below W.heap.size W w9):=(HB1.out.alloc (HB1.out.size) _).grown hgrow (by have:=HB1.out.size;simp;omega) (fun q hq=>(HO1.out.lt q hq).1)
      have HO9:Hid (w9.ownsRow W.heap.size 39 5 v9 (O++[d]).length ((O++[d]).flatMap vC)):=by show World.ownsRow _ _ _ _ _ _ _;rw [List.length_append,List.flatMap_append];simpa using hown3
      have HN:Hid (WRel W v l v9 true (i+1) w9):=⟨O++[d],by rw [if_pos rfl];exact HSS.out.1 rfl,by have:=HOLB.out;simp at this ⊢;omega,HO9.out,HB9.out⟩
      clear hown3 hgrow HSS HO9 HB9 HO1 HB1
      go_wp2
      go_roundw
      case rel=>exact ⟨i+1,true,by go_num,rfl,by omega,HN.out⟩
      case measure=>simp [intOf];omega
     | false =>
      go_wp2_with (first | (at_builtin;refine wpList_append_own _ rfl _ _ 78 rfl W.heap.size 39 i0 (.agg #[.int .i64 0,.int .i64 0,.int .i64 0,.string ⟨#[]⟩,.string ⟨#[]⟩]) 5 56 Tryz.underlying78 hi0 hz0 hz1 hzb rfl (by decide) _ _ _ rfl (HO1.out.alloc _) _ 1 1 (vC d) rfl rfl (World.news_of_block (heap_alloc_new _ _)) (v_one _) (by unfold maxLen;have:=HOL.out;omega) (by have:=HOL.out;omega) (by have:=HB1.out.size;simp;omega) ?_;intro v9 w9 hown3 hgrow _))
      have HB9:Hid (Below W.heap.size W w9):=(HB1.out.alloc (HB1.out.size) _).grown hgrow (by have:=HB1.out.size;simp;omega) (fun q hq=>(HO1.out.lt q hq).1)
      have HO9:Hid (w9.ownsRow W.heap.size 39 5 v9 (O++[d]).length ((O++[d]).flatMap vC)):=by show World.ownsRow _ _ _ _ _ _ _;rw [List.length_append,List.flatMap_append];simpa using hown3
      have HN:Hid (WRel W v l v9 false (i+1) w9):=⟨O++[d],by rw [if_neg (by decide)];exact HSS.out.2.2.2 rfl hc0 (by omega),by have:=HOLB.out;simp at this ⊢;omega,HO9.out,HB9.out⟩
      clear hown3 hgrow HSS HO9 HB9 HO1 HB1
      go_wp2
      go_roundw
      case rel=>exact ⟨i+1,false,by go_num,rfl,by omega,HN.out⟩
      case measure=>simp [intOf];omega
  ·have hil:i=l.length:=by omega
   have HII2:Hid (O++(if b=true then [] else [v])=insV v l):=by
    show _=_
    have:=HII.out
    rw [hil,List.drop_length] at this
    exact this
   have hgw:W.grownBy wr none:=HG.out
   have ST1:Hid (VAt wr ⟨A,0,none⟩ v):=STv.out.grow hgw
   have HIL:Hid (i=l.length):=hil
   clear hgw hil HII hi
   obtain ⟨s0,s1,s2,s3,s4⟩:=ST1.out
   simp only [Nat.zero_add] at s1 s2 s3 s4
   cases b with
   | true =>
    have HP:Hid (WPost v l w (.returned u5) wr):=by
     have e:O=insV v l:=by have:=HII2.out;simpa using this
     refine ⟨u5,rfl,?_,below_up HG0.out HWS.out HAA.out HB.out⟩
     rw [<-e];exact own_base (W:=W) HO.out (by have:=HWS.out;have:=HAA.out;omega)
    clear HII2 HO HB
    go_wp2
    exact bodyPost_ret (results_tmp (t:=4) rfl _ _ _) rfl HP.out
   | false =>
    go_wp2_with (first | (at_builtin;refine wpList_append_own _ rfl _ _ 78 rfl W.heap.size 39 i0 (.agg #[.int .i64 0,.int .i64 0,.int .i64 0,.string ⟨#[]⟩,.string ⟨#[]⟩]) 5 56 Tryz.underlying78 hi0 hz0 hz1 hzb rfl (by decide) _ _ _ rfl (HO.out.alloc _) _ 1 1 (vC v) rfl rfl (World.news_of_block (heap_alloc_new _ _)) (v_one _) (by unfold maxLen;have:=HOL.out;have:=HIL.out;omega) (by have:=HOL.out;have:=HIL.out;omega) (by have:=HB.out.size;simp;omega) ?_;intro v9 w9 hown3 hgrow _))
    have HB9:Hid (Below W.heap.size W w9):=(HB.out.alloc (HB.out.size) _).grown hgrow (by have:=HB.out.size;simp;omega) (fun q hq=>(HO.out.lt q hq).1)
    have HP:Hid (WPost v l w (.returned v9) w9):=by
     have e:O++[v]=insV v l:=by have:=HII2.out;simpa using this
     refine ⟨v9,rfl,?_,below_up HG0.out HWS.out HAA.out HB9.out⟩
     rw [<-e]
     refine own_base (W:=W) (b:=W.heap.size) ?_ (by have:=HWS.out;have:=HAA.out;omega)
     rw [List.length_append,List.flatMap_append];simpa using hown3
    clear HII2 HO HB HB9 hown3 hgrow
    go_wp2
    exact bodyPost_ret (results_tmp (t:=4) rfl _ _ _) rfl HP.out
set_option maxRecDepth 100000 in
set_option maxHeartbeats 1600000 in
theorem with_nil (v:V) (w:World):Calls Tryz.prog 37 #[.slice none 0 0,.agg #[.int .i64 v.major,.int .i64 v.minor,.int .i64 v.patch,.string ⟨v.pre.toArray⟩,.string ⟨#[]⟩]] w (WPost v [] w):=by
 have hinfo:=infoV
 obtain ⟨i0,hi0,hii⟩:=Option.map_eq_some_iff.1 hinfo
 simp only [Prod.mk.injEq] at hii
 obtain ⟨hz0,hz1,hzb⟩:=hii
 clear hinfo
 go_enter Tryz.func37,Tryz.ntmps37
 go_wp2
 obtain ⟨A,hA⟩:∃A,w.heap.size=A:=⟨_,rfl⟩
 obtain ⟨W,hW⟩:∃W,w.alloc (.cells #[.int .i64 v.major,.int .i64 v.minor,.int .i64 v.patch,.string ⟨v.pre.toArray⟩,.string ⟨#[]⟩] 39)=W:=⟨_,rfl⟩
 have HG0:Hid (w.grownBy W none):=by show w.grownBy W none;rw [<-hW];exact gb_alloc (gb_refl w none) _
 have HWS:Hid (W.heap.size=A+1):=by show W.heap.size=A+1;rw [<-hW,<-hA];simp
 have STv:Hid (VAt W ⟨A,0,none⟩ v):=by
  show VAt W ⟨A,0,none⟩ v
  rw [<-hW,<-hA]
  exact ⟨by rw [Lib.cell_of_heap (heap_alloc_new w _)];rfl,by rw [Lib.cell_of_heap (heap_alloc_new w _)];rfl,by rw [Lib.cell_of_heap (heap_alloc_new w _)];rfl,by rw [Lib.cell_of_heap (heap_alloc_new w _)];rfl,by rw [Lib.cell_of_heap (heap_alloc_new w _)];rfl⟩
 have HAA:Hid (w.heap.size=A):=hA
 try rw [hW]
 try rw [hA]
 clear hW hA
 go_loopw [5,6,7] (fun vo vb vi wr=>vo=.slice none 0 0/\vb=.bool false/\vi=.int .i64 0/\W.grownBy wr none) (fun _ _ vi _=>0)
 case atStart=>exact ⟨rfl,rfl,rfl,gb_refl _ _⟩
 case round =>
  obtain ⟨rfl,rfl,rfl,hg⟩:=hrel
  have HB:Hid (Below W.heap.size W wr):=⟨hg.os,hg.tape,hg.output,hg.size,fun k hk=>hg.block k hk (by simp)⟩
  have HO:Hid (wr.ownsRow W.heap.size 39 5 (.slice none 0 0) 0 []):=World.ownsRow_nil _ _ _ _
  have ST1:Hid (VAt wr ⟨A,0,none⟩ v):=STv.out.grow hg
  clear hg
  obtain ⟨s0,s1,s2,s3,s4⟩:=ST1.out
  simp only [Nat.zero_add] at s1 s2 s3 s4
  go_wp2_with (first | (at_builtin;refine wpList_append_own _ rfl _ _ 78 rfl W.heap.size 39 i0 (.agg #[.int .i64 0,.int .i64 0,.int .i64 0,.string ⟨#[]⟩,.string ⟨#[]⟩]) 5 56 Tryz.underlying78 hi0 hz0 hz1 hzb rfl (by decide) _ _ _ rfl (HO.out.alloc _) _ 1 1 (vC v) rfl rfl (World.news_of_block (heap_alloc_new _ _)) (v_one _) (by unfold maxLen;omega) (by omega) (by have:=HB.out.size;simp;omega) ?_;intro v9 w9 hown3 hgrow _))
  have HB9:Hid (Below W.heap.size W w9):=(HB.out.alloc (HB.out.size) _).grown hgrow (by have:=HB.out.size;simp;omega) (fun q hq=>(HO.out.lt q hq).1)
  have HP:Hid (WPost v [] w (.returned v9) w9):=by
   refine ⟨v9,rfl,?_,below_up HG0.out HWS.out HAA.out HB9.out⟩
   refine own_base (W:=W) (b:=W.heap.size) ?_ (by have:=HWS.out;have:=HAA.out;omega)
   simpa [insV] using hown3
  clear HO HB HB9 hown3 hgrow
  go_wp2
  exact bodyPost_ret (results_tmp (t:=4) rfl _ _ _) rfl HP.out
open Go.RowKit
set_option linter.unusedVariables false
def VsS (w:World) (sl:Value) (l:List V):Prop:=(sl=.slice none 0 0/\l=[])\/∃a cap,sl=.slice (some a) l.length cap/\l.length<=cap/\VsAt w a l
theorem VsS.grow {w w':World} {sl:Value} {l:List V} (h:VsS w sl l) (hg:w.grownBy w' none):VsS w' sl l:=by
 rcases h with h | ⟨a,cap,h1,h2,h3⟩
 ·exact Or.inl h
 ·exact Or.inr ⟨a,cap,h1,h2,h3.grow hg⟩
theorem v_get (l:List V):∀(i:Nat) (hi:i < l.length) (k:Nat) (u:Value),(vC l[i])[k]?=some u->(l.flatMap vC)[i * 5+k]?=some u:=by
 induction l with
 | nil=>intro i hi;simp at hi
 | cons t l ih =>
  intro i hi k u h
  rw [List.flatMap_cons]
  have hl:(vC t).length=5:=rfl
  cases i with
  | zero =>
   simp only [List.getElem_cons_zero] at h
   have hk:k < (vC t).length:=(List.getElem?_eq_some_iff.1 h).1
   rw [Nat.zero_mul,Nat.zero_add,List.getElem?_append_left hk]
   exact h
  | succ i =>
   simp only [List.getElem_cons_succ] at h
   rw [List.getElem?_append_right (by rw [hl];omega),hl,show (i+1) * 5+k - 5=i * 5+k by omega]
   exact ih i (by simpa using hi) k u h
theorem vs_own {w:World} {base:Nat} {v:Value} {l:List V} (h:w.ownsRow base 39 5 v l.length (l.flatMap vC)):VsS w v l:=by
 rcases h.2 with ⟨h1,h2⟩ | ⟨g,cap,cur,h1,hb,hg,hn,hm,hs,ht⟩
 ·exact Or.inl ⟨h1,List.length_eq_zero_iff.1 h2⟩
 ·refine Or.inr ⟨⟨g,0,none⟩,cap,h1,hn,fun i hi=>?_⟩
  have key:∀k u,(vC l[i])[k]?=some u->w.cell? ((⟨g,0,none⟩:Addr).add (i * 5+k))=some u:=fun k u hu=>h.cells (g:=g) (by rw [h1];rfl) (i * 5+k) u (v_get l i hi k u hu)
  have hadd:∀k,(⟨g,0,none⟩:Addr).add k=⟨g,k,none⟩:=fun k=>by
   unfold Addr.add
   split
   ·rename_i h;rw [h]
   ·simp
  refine ⟨?_,?_,?_,?_,?_⟩
  ·have:=key 0 _ rfl;rw [hadd] at this ⊢;exact this
  ·have:=key 1 _ rfl;rw [hadd] at this;rw [hadd];exact this
  ·have:=key 2 _ rfl;rw [hadd] at this;rw [hadd];exact this
  ·have:=key 3 _ rfl;rw [hadd] at this;rw [hadd];exact this
  ·have:=key 4 _ rfl;rw [hadd] at this;rw [hadd];exact this
theorem cWith (sl:Value) (l:List V) (v:V) (w:World) (h:VsS w sl l) (hl:l.length<=4194304) (hs:∀t ∈ l,t.pre.length<=1048576) (hv:v.pre.length<=1048576) :
  Calls Tryz.prog 37 #[sl,.agg #[.int .i64 v.major,.int .i64 v.minor,.int .i64 v.patch,.string ⟨v.pre.toArray⟩,.string ⟨#[]⟩]] w fun e w'=>∃vo,e=.returned vo/\VsS w' vo (insV v l)/\w.grownBy w' none:=by
 rcases h with ⟨rfl,rfl⟩ | ⟨a,cap,rfl,h2,h3⟩
 ·refine (with_nil v w).mono ?_
  rintro e w' ⟨vo,rfl,ho,hb⟩
  exact ⟨vo,rfl,vs_own ho,⟨hb.os,hb.tape,hb.output,hb.size,fun k hk _=>hb.block k hk⟩⟩
 ·refine (with_at a cap l v w hl h2 h3 hs hv).mono ?_
  rintro e w' ⟨vo,rfl,ho,hb⟩
  exact ⟨vo,rfl,vs_own ho,⟨hb.os,hb.tape,hb.output,hb.size,fun k hk _=>hb.block k hk⟩⟩
open Go.RowKit
set_option linter.unusedVariables false
theorem keepL {p0 p1 p2 p3 p4 p5 p6 p7 p8 p9 p10:Addr} {c0 c1 c2 c3 c4 c5 c6 c7 c8 c9 c10:Value} {w w':World} (hg:w.grownBy w' none) (h:w.cell? p0=some c0/\w.cell? p1=some c1/\w.cell? p2=some c2/\w.cell? p3=some c3/\w.cell? p4=some c4/\w.cell? p5=some c5/\w.cell? p6=some c6/\w.cell? p7=some c7/\w.cell? p8=some c8/\w.cell? p9=some c9/\w.cell? p10=some c10):w'.cell? p0=some c0/\w'.cell? p1=some c1/\w'.cell? p2=some c2/\w'.cell? p3=some c3/\w'.cell? p4=some c4/\w'.cell? p5=some c5/\w'.cell? p6=some c6/\w'.cell? p7=some c7/\w'.cell? p8=some c8/\w'.cell? p9=some c9/\w'.cell? p10=some c10:=by
 obtain ⟨h0,h1,h2,h3,h4,h5,h6,h7,h8,h9,h10⟩:=h
 exact ⟨hg.cell h0 (by simp),hg.cell h1 (by simp),hg.cell h2 (by simp),hg.cell h3 (by simp),hg.cell h4 (by simp),hg.cell h5 (by simp),hg.cell h6 (by simp),hg.cell h7 (by simp),hg.cell h8 (by simp),hg.cell h9 (by simp),hg.cell h10 (by simp)⟩
theorem bytes_of {a:ByteArray} {l:List UInt8} (h:a.data.toList=l):a=⟨l.toArray⟩:=by
 subst h
 cases a
 simp
theorem vs_row {w:World} {g t:Nat} {row:Array Value} {l:List V} (h:w.heap[g]?=some (.cells row t (0,0))) (hr:row.toList=l.flatMap vC):VsAt w ⟨g,0,none⟩ l:=by
 intro i hi
 have hadd:∀k,(⟨g,0,none⟩:Addr).add k=⟨g,k,none⟩:=fun k=>by
  unfold Addr.add
  split
  ·rename_i h;rw [h]
  ·simp
 have key:∀k u,(vC l[i])[k]?=some u->w.cell? ⟨g,i * 5+k,none⟩=some u:=fun k u hu=>by
  rw [Lib.cell_of_heap h]
  have:=v_get l i hi k u hu
  rw [<-hr] at this
  simpa using this
 rw [hadd]
 exact ⟨key 0 _ rfl,key 1 _ rfl,key 2 _ rfl,key 3 _ rfl,key 4 _ rfl⟩
def vA (v:V):Value:=.agg #[.int .i64 v.major,.int .i64 v.minor,.int .i64 v.patch,.string ⟨v.pre.toArray⟩,.string ⟨#[]⟩]
theorem cFirst (x:Tq) (hx:TqOk x) (w:World) :
  Calls Tryz.prog 65 #[.agg #[.int .i64 x.m,.int .i64 x.a,.int .i64 x.b,.int .i64 x.c,.string x.p,.string x.q]] w fun e w'=>e=.returned (vA (firstV (teOf x).p))/\w.grownBy w' none:=by
 obtain ⟨sg,m,a,b,c,p,q⟩:=x
 have h2:=hx.m0
 simp only at h2
 have hm:m=0\/m=1\/m=2\/m=3:=by omega
 have e3:(⟨p.data.toList.toArray⟩:ByteArray)=p:=(bytes_of rfl).symm
 rcases hm with rfl | rfl | rfl | rfl
 ·exact rfirst0_any a b c p q w
 ·exact rfirst1_any a b c p q w
 ·exact rfirst2_any a b c p q w
 ·have:=rfirst3_any a b c p q w
  have e:vA (firstV (teOf ⟨sg,3,a,b,c,p,q⟩).p)=.agg #[.int .i64 a,.int .i64 b,.int .i64 c,.string p,.string ⟨#[]⟩]:=by
   show Value.agg #[.int .i64 a,.int .i64 b,.int .i64 c,.string ⟨p.data.toList.toArray⟩,.string ⟨#[]⟩]=_
   rw [e3]
  rw [e]
  exact this
theorem cNextV (a b c:Int) (f4:ByteArray) (w:World) (h4:f4.size < 2 ^ 62) (hc:0<=c/\c<=999999999) :
  Calls Tryz.prog 66 #[.agg #[.int .i64 a,.int .i64 b,.int .i64 c,.string f4,.string ⟨#[]⟩]] w fun e w'=>e=.returned (vA (nextV ⟨a,b,c,f4.data.toList⟩))/\w.grownBy w' none:=by
 by_cases h0:f4.size=0
 ·have e:f4.data.toList=[]:=List.length_eq_zero_iff.1 (by simpa using h0)
  have ev:nextV ⟨a,b,c,f4.data.toList⟩=⟨a,b,c+1,[48]⟩:=by
   unfold nextV
   rw [if_pos e]
   simp only []
   rw [if_pos (by omega)]
  rw [ev]
  exact rnext_s a b c f4 _ w h0 (by omega) (by omega)
 ·have e:¬ f4.data.toList=[]:=fun e=>h0 (by simpa using congrArg List.length e)
  have ev:nextV ⟨a,b,c,f4.data.toList⟩=⟨a,b,c,f4.data.toList++[46,48]⟩:=by
   unfold nextV
   rw [if_neg e]
  rw [ev]
  exact rnext_f a b c f4 _ w h0 h4
set_option maxRecDepth 100000 in
set_option maxHeartbeats 3200000 in
theorem turns_any (x:Tq) (hx:TqOk x) (w:World) :
  Calls Tryz.prog 38 #[.agg #[.int .i64 x.sg,.int .i64 x.m,.int .i64 x.a,.int .i64 x.b,.int .i64 x.c,.string x.p,.string x.q]] w fun e w'=>∃g,e=.returned (.slice (some ⟨g,0,none⟩) 6 6)/\VsAt w' ⟨g,0,none⟩ (tuT (teOf x))/\w.grownBy w' none:=by
 have CF:=cFirst x hx
 have hok:=hx.ok
 obtain ⟨sg,m,a,b,c,p,q⟩:=x
 have ha:0<=a/\a<=999999999:=hok.a0
 have hb:0<=b/\b<=999999999:=hok.b0
 have hc:0<=c/\c<=999999999:=hok.c0
 obtain ⟨f4,hf4⟩:∃f4:ByteArray,f4=⟨(firstV (teOf ⟨sg,m,a,b,c,p,q⟩).p).pre.toArray⟩:=⟨_,rfl⟩
 have hfl:f4.data.toList=(firstV (teOf ⟨sg,m,a,b,c,p,q⟩).p).pre:=by rw [hf4]
 have hfs:f4.size < 2 ^ 62:=by
  rw [hf4]
  show (if m.toNat < 3 then [48] else p.data.toList).toArray.size < _
  have:=hx.sm
  simp only at this
  split
  ·simp
  ·have:p.data.toList.toArray.size=p.size:=by simp
   rw [this];omega
 have hfv:firstV (teOf ⟨sg,m,a,b,c,p,q⟩).p=⟨a,b,c,f4.data.toList⟩:=by rw [hfl];rfl
 have CF1:Hid (∀w,Calls Tryz.prog 65 #[.agg #[.int .i64 m,.int .i64 a,.int .i64 b,.int .i64 c,.string p,.string q]] w fun e w'=>e=.returned (.agg #[.int .i64 a,.int .i64 b,.int .i64 c,.string f4,.string ⟨#[]⟩])/\w.grownBy w' none):=fun w=>by
  have:=CF w
  unfold vA at this
  rw [<-hf4] at this
  exact this
 obtain ⟨n3,n4,hn⟩:∃n3 n4,nextV ⟨a,b,c,f4.data.toList⟩=⟨a,b,n3,n4⟩:=by
  unfold nextV
  split
  ·exact ⟨_,_,rfl⟩
  ·exact ⟨_,_,rfl⟩
 have CN:Hid (∀w,Calls Tryz.prog 66 #[.agg #[.int .i64 a,.int .i64 b,.int .i64 c,.string f4,.string ⟨#[]⟩]] w fun e w'=>e=.returned (.agg #[.int .i64 a,.int .i64 b,.int .i64 n3,.string ⟨n4.toArray⟩,.string ⟨#[]⟩])/\w.grownBy w' none):=fun w=>by
  have:=cNextV a b c f4 w hfs hc
  rw [hn] at this
  exact this
 have HT:Hid (tuT (teOf ⟨sg,m,a,b,c,p,q⟩)=[lowV,⟨a,b,c,f4.data.toList⟩,⟨a,b,n3,n4⟩,⟨a+1,0,0,[48]⟩,⟨a,b+1,0,[48]⟩,⟨a,b,c+1,[48]⟩]):=by
  show _=_
  unfold tuT
  rw [hfv,hn]
  rfl
 have HF4:Hid ((⟨f4.data.toList.toArray⟩:ByteArray)=f4):=(bytes_of rfl).symm
 have wa:IntKind.i64.wrap (a+1)=a+1:=by rw [IntKind.wrap_i64];omega
 have wb:IntKind.i64.wrap (b+1)=b+1:=by rw [IntKind.wrap_i64];omega
 have wc:IntKind.i64.wrap (c+1)=c+1:=by rw [IntKind.wrap_i64];omega
 obtain ⟨TT,hTT⟩:∃TT,tuT (teOf ⟨sg,m,a,b,c,p,q⟩)=TT:=⟨_,rfl⟩
 rw [hTT] at HT ⊢
 clear CF hok hf4 hfl hfs hfv hn hTT hx ha hb hc
 go_enter Tryz.func38,Tryz.ntmps38
 go_wp2_with (first | (go_at_call 65;refine (CF1.out _).mono ?_))
 rintro e w1 rfl hg
 obtain ⟨P0,hP0⟩:∃P0,w.heap.size+1=P0:=⟨_,rfl⟩
 have HG:Hid (w.grownBy w1 none):=gb_trans (gb_alloc (gb_alloc (gb_refl w none) _) _) hg
 have HP:Hid (w1.cell? ⟨P0,0,none⟩=some (.int .i64 m)/\w1.cell? ⟨P0,1,none⟩=some (.int .i64 a)/\w1.cell? ⟨P0,2,none⟩=some (.int .i64 b)/\w1.cell? ⟨P0,3,none⟩=some (.int .i64 c)/\w1.cell? ⟨P0,4,none⟩=some (.string p)/\w1.cell? ⟨P0,5,none⟩=some (.string q)):=by
  show _/\_
  have hr:=rowR2 w (.cells #[.int .i64 sg,.int .i64 m,.int .i64 a,.int .i64 b,.int .i64 c,.string p,.string q] 84) (.cells #[.int .i64 m,.int .i64 a,.int .i64 b,.int .i64 c,.string p,.string q] 82)
  rw [hP0] at hr
  refine ⟨hg.cell ?_ (by simp),hg.cell ?_ (by simp),hg.cell ?_ (by simp),hg.cell ?_ (by simp),hg.cell ?_ (by simp),hg.cell ?_ (by simp)⟩ <;> (rw [Lib.cell_of_heap hr];rfl)
 try rw [hP0]
 clear hg hP0
 go_wp2
 obtain ⟨F0,hF0⟩:∃F0,w1.heap.size=F0:=⟨_,rfl⟩
 obtain ⟨W,hW⟩:∃W,w1.alloc (.cells #[.int .i64 a,.int .i64 b,.int .i64 c,.string f4,.string ⟨#[]⟩] 39)=W:=⟨_,rfl⟩
 have HGW:Hid (w1.grownBy W none):=by show w1.grownBy W none;rw [<-hW];exact gb_alloc (gb_refl w1 none) _
 have STf:Hid (St F0 a b c f4 ⟨#[]⟩ W):=by show St _ _ _ _ _ _ W;rw [<-hW,<-hF0];exact st_row (t:=39) (heap_alloc_new w1 _)
 try rw [hW]
 try rw [hF0]
 clear hW hF0
 obtain ⟨e0,e1,e2,e3,e4,e5⟩:=HP.out
 have g0:=HGW.out.cell e0 (by simp)
 have g1:=HGW.out.cell e1 (by simp)
 have g2:=HGW.out.cell e2 (by simp)
 have g3:=HGW.out.cell e3 (by simp)
 have g4:=HGW.out.cell e4 (by simp)
 have g5:=HGW.out.cell e5 (by simp)
 obtain ⟨s1,s2,s3,s4,s5⟩:=STf.out
 clear e0 e1 e2 e3 e4 e5
 go_region_held3 (fun w'=>w'.cell? ⟨P0,0,none⟩=some (.int .i64 m)/\w'.cell? ⟨P0,1,none⟩=some (.int .i64 a)/\w'.cell? ⟨P0,2,none⟩=some (.int .i64 b)/\w'.cell? ⟨P0,3,none⟩=some (.int .i64 c)/\w'.cell? ⟨P0,4,none⟩=some (.string p)/\w'.cell? ⟨P0,5,none⟩=some (.string q)/\w'.cell? ⟨F0,0,none⟩=some (.int .i64 a)/\w'.cell? ⟨F0,1,none⟩=some (.int .i64 b)/\w'.cell? ⟨F0,2,none⟩=some (.int .i64 c)/\w'.cell? ⟨F0,3,none⟩=some (.string f4)/\w'.cell? ⟨F0,4,none⟩=some (.string ⟨#[]⟩)) (first | (simp only [cell_drew2];exact ⟨g0,g1,g2,g3,g4,g5,s1,s2,s3,s4,s5⟩) | exact keepL (by assumption) (by assumption) | exact keepL (gb_alloc (by assumption) _) (by simp only [cell_drew2];exact ⟨g0,g1,g2,g3,g4,g5,s1,s2,s3,s4,s5⟩)) (first | (go_at_call 66;refine (CN.out _).mono ?_;rintro e w2 ⟨rfl,hg1⟩))
 have HF:Hid (w.grownBy w2 none):=gb_trans HG.out (gb_trans HGW.out (gb_undrew hg1))
 have HV:Hid (VsAt (w2.alloc (.cells #[.int .i64 0,.int .i64 0,.int .i64 0,.string ⟨#[48]⟩,.string ⟨#[]⟩,.int .i64 a,.int .i64 b,.int .i64 c,.string f4,.string ⟨#[]⟩,.int .i64 a,.int .i64 b,.int .i64 n3,.string ⟨n4.toArray⟩,.string ⟨#[]⟩,.int .i64 (a+1),.int .i64 0,.int .i64 0,.string ⟨#[48]⟩,.string ⟨#[]⟩,.int .i64 a,.int .i64 (b+1),.int .i64 0,.string ⟨#[48]⟩,.string ⟨#[]⟩,.int .i64 a,.int .i64 b,.int .i64 (c+1),.string ⟨#[48]⟩,.string ⟨#[]⟩] 39)) ⟨w2.heap.size,0,none⟩ TT):=vs_row (heap_alloc_new w2 _) (by rw [HT.out];simp [vC,lowV])
 clear hg1 g0 g1 g2 g3 g4 g5 s1 s2 s3 s4 s5
 go_wp2
 go_ret
 exact ⟨_,rfl,HV.out,gb_alloc HF.out _⟩
end Go.Proofs.YtonfldbigenfhaaGreatDoor
