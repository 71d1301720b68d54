import Derived.Test.YtaeonidcngjeiaaDoorM13
namespace Go.Proofs.YtaeonidcngjeiaaDoor
open Go.RowKit
set_option linter.unusedVariables false
def kC (x:It):Value:=.int .i64 (x.k:Int)
def IRow (w:World) (base:Nat) (v:Value) (D:List It):Prop:=w.ownsRow base 3 1 v D.length (D.map kC)
theorem swap_set (P:List Value) (u v:Value) (Q:List Value):((P++u :: v :: Q).set (P.length+1) u).set P.length v=P++v :: u :: Q:=by
 rw [List.set_append_right _ _ (by omega),show P.length+1 - P.length=1 by omega]
 rw [List.set_append_right _ _ (by omega),Nat.sub_self]
 rfl
theorem irow_cell {w:World} {base g n cap:Nat} {A B:List It} {x:It} (h:w.ownsRow base 3 1 (.slice (some ⟨g,0,none⟩) n cap) n ((A++x :: B).map kC)):w.cell? ⟨g,A.length,none⟩=some (.int .i64 (x.k:Int)):=by
 have:=h.cells (g:=g) rfl A.length (kC x) (by simp)
 rw [hzero_off] at this
 exact this
theorem irow_nil {base:Nat} (w:World):IRow w base (.slice none 0 0) []:=World.ownsRow_nil _ _ _ _
def Src (L:List Re) (D:List It):Prop:=∀x ∈ D,∃h:x.k < L.length,verO (L[x.k]).ve=x.v
theorem kc_one (s:It):∀u ∈ [kC s],u.oneCell'=true:=by
 intro u hu
 rw [List.mem_singleton.1 hu]
 rfl
theorem keepF {p q r s:Addr} {x y:Int} {u v:ByteArray} {w w':World} (hg:w.grownBy w' none) (h:w.cell? p=some (.int .i64 x)/\w.cell? q=some (.int .i64 y)/\w.cell? r=some (.string u)/\w.cell? s=some (.string v)):w'.cell? p=some (.int .i64 x)/\w'.cell? q=some (.int .i64 y)/\w'.cell? r=some (.string u)/\w'.cell? s=some (.string v) :=
 ⟨hg.cell h.1 (by simp),hg.cell h.2.1 (by simp),hg.cell h.2.2.1 (by simp),hg.cell h.2.2.2 (by simp)⟩
theorem below_set {B:Nat} {a w:World} (h:Below B a w) {g:Nat} (hg:B<=g) (o:Nat) (v:Value):Below B a (w.setCell ⟨g,o,none⟩ v) :=
 ⟨h.os,h.tape,h.output,by simpa [World.setCell] using h.size,fun k hk=>by rw [<-h.block k hk];exact heap_setCell_other w _ k v (by simp;omega)⟩
def ROfPost (M:List It) (w:World) (e:Ending) (w':World):Prop:=∃(v:Value) (D:List It),e=.returned v/\IRow w' w.heap.size v D/\Below w.heap.size w w'/\D.Perm M/\D.Pairwise (fun a b=>0<=cmpIt b a)
set_option maxRecDepth 100000 in
set_option maxHeartbeats 1600000 in
theorem rof_at (a:Addr) (cap:Nat) (L:List Re) (name:ByteArray) (w:World) (hL:L.length<=1048576) (hcap:L.length<=cap) (hV:∀x ∈ L,x.ve.size < 2 ^ 62) (h:∀i (hi:i < L.length),ReAt w (a.add (i * 4)) L[i]) :
  Calls Tryd.prog 8 #[.slice (some a) L.length cap,.string name] w (ROfPost (itemsL name L 0) w):=by
 have HA:Hid (∀i (hi:i < L.length),ReAt w (a.add (i * 4)) L[i]):=h
 have CI:Hid (∀x ∈ L,∀w,Calls Tryd.prog 18 #[.string x.ve] w fun e w'=>e=.returned (.bool (okV x.ve))/\w.grownBy w' none):=fun x hx w=>isVersion_any x.ve w (hV x hx)
 have CV:Hid (∀x ∈ L,∀w,Calls Tryd.prog 20 #[.string x.ve] w fun e w'=>e=.returned (valV (verO x.ve))/\w.grownBy w' none):=fun x hx w=>refVersion_any x.ve w (hV x hx)
 have CC:Hid (∀(s t:ByteArray) (w:World),Calls Tryd.prog 19 #[valV (verO s),valV (verO t)] w fun e w'=>e=.returned (.int .i64 (verC (cutV (verO s)) (cutV (verO t))))/\w.grownBy w' none):=fun s t w=>by
  have p1:=pre_100 s
  have p2:=pre_100 t
  refine (rcompare_any _ _ _ _ _ _ _ _ _ _ w (by show (verO s).pre.toArray.size<=_;simp;omega) (by show (verO t).pre.toArray.size<=_;simp;omega)).mono ?_
  rintro e w' ⟨rfl,h⟩
  refine ⟨?_,⟨h.os,h.tape,h.output,h.size,fun k hk _=>h.block k hk⟩⟩
  simp [cutV]
 obtain ⟨R,hR⟩:∃R,itemsL name L 0=R:=⟨_,rfl⟩
 have HR:Hid ([]++itemsL name (L.drop 0) 0=R):=hR
 have HRL:Hid (R.length<=1048576):=by rw [<-hR];exact Nat.le_trans (items_len name L 0) hL
 rw [hR]
 clear h hV hR
 have hinfo:=infoInt0
 obtain ⟨i0,hi0,hii⟩:=Option.map_eq_some_iff.1 hinfo
 simp only [Prod.mk.injEq] at hii
 obtain ⟨hz0,hz1,hzb⟩:=hii
 clear hinfo
 go_enter Tryd.func8,Tryd.ntmps8
 go_wp2
 go_loopw [5,6] (fun vm vi wr=>∃(i:Nat) (P D:List It),vi=.int .i64 i/\i<=L.length/\P++itemsL name (L.drop i) i=R/\D.Perm P/\D.Pairwise (fun a b=>0<=cmpIt b a)/\(∀x ∈ D,x.k < i)/\Src L D/\IRow wr w.heap.size vm D/\Below w.heap.size w wr) (fun _ vi _=>L.length - (intOf vi).toNat)
 case atStart=>exact ⟨0,[],[],rfl,Nat.zero_le _,HR.out,List.Perm.refl _,List.Pairwise.nil,by simp,by intro x hx;simp at hx,irow_nil _,Below.refl _ _⟩
 case round =>
  obtain ⟨i,P,D,rfl,hi,hf,hperm,hsort,hki,hsrc,hrow,hb⟩:=hrel
  have HO:Hid (IRow wr w.heap.size u5 D):=hrow
  have HB:Hid (Below w.heap.size w wr):=hb
  have HD:Hid (D.Perm P/\D.Pairwise (fun a b=>0<=cmpIt b a)/\(∀x ∈ D,x.k < i)/\Src L D):=⟨hperm,hsort,hki,hsrc⟩
  clear hperm hsort hki hsrc hrow
  rename World=>w0
  by_cases hlt:i < L.length
  ·obtain ⟨x,hx⟩:∃x,L[i]=x:=⟨_,rfl⟩
   have hxm:x ∈ L:=by rw [<-hx];exact List.getElem_mem _
   have hat0:ReAt w0 (a.add (i * 4)) x:=by rw [<-hx];exact (HA.out i hlt).grow (bel_gb hb)
   have HAT:Hid (ReAt w0 (a.add (i * 4)) x):=hat0
   obtain ⟨e0,e1,-,-⟩:=hat0
   have HF:Hid (P++(if (decide (x.nm=name) && okV x.ve)=true then ⟨i,verO x.ve⟩ :: itemsL name (L.drop (i+1)) (i+1) else itemsL name (L.drop (i+1)) (i+1))=R):=by
    show _=_
    rw [List.drop_eq_getElem_cons hlt,hx] at hf
    exact hf
   have CX:Hid (∀w,Calls Tryd.prog 18 #[.string x.ve] w fun e w'=>e=.returned (.bool (okV x.ve))/\w.grownBy w' none):=CI.out x hxm
   have HX:Hid (L[i]=x):=hx
   obtain ⟨bk,hbk⟩:∃b,okV x.ve=b:=⟨_,rfl⟩
   rw [hbk] at CX HF
   have hbs:=hb.size
   clear hf hx hb hxm hbk
   go_wp2_with (first | (go_at_call 18;refine (CX.out _).mono ?_))
   rintro e w1 ⟨rfl,hg⟩
   replace HO:Hid (IRow w1 w.heap.size u5 D):=own_stay HO.out hg
   replace HB:Hid (Below w.heap.size w w1):=hbelow HB.out hbs hg
   replace HAT:Hid (ReAt w1 (a.add (i * 4)) x):=HAT.out.grow hg
   clear e0 e1 hg
   obtain ⟨e0,-,-,-⟩:=HAT.out
   by_cases hn:x.nm=name
   ·have q:=txt_eq hn
    have q2:(x.nm.toList != name.toList)=false:=by simp [bne,q]
    have HN:Hid (x.nm=name):=hn
    clear hn
    cases bk with
    | true =>
     obtain ⟨vv,hvv⟩:∃v,verO x.ve=v:=⟨_,rfl⟩
     have HVV:Hid (verO x.ve=vv):=hvv
     rw [hvv] at HF
     clear hvv
     have HQ:Hid ((P++[⟨i,vv⟩])++itemsL name (L.drop (i+1)) (i+1)=R):=by
      have:=HF.out
      rw [if_pos (by rw [HN.out];simp)] at this
      show _=_
      rw [List.append_assoc]
      exact this
     have HML:Hid (D.length+1<=1048576):=by
      have h1:=congrArg List.length HQ.out
      have h2:=HRL.out
      have h3:=HD.out.1.length_eq
      simp only [List.length_append,List.length_cons,List.length_nil] at h1
      show _<=_
      omega
     have hor:=HO.out
     unfold IRow at hor
     go_wp2_with (first | (at_builtin;refine wpList_append_lies _ rfl _ _ 23 rfl w.heap.size 3 i0 (.int .i64 0) 1 8 Tryd.underlying23 hi0 hz0 hz1 hzb rfl (by decide) _ _ _ rfl (hor.alloc _) _ 1 1 [kC ⟨i,vv⟩] rfl rfl (World.news_of_block (heap_alloc_new _ _)) (kc_one _) (by decide) (by unfold maxLen;have:=HML.out;omega) (by have:=HML.out;omega) (by have:=HB.out.size;simp;omega) _ rfl ?_;intro g cap1 w3 hown3 hgrow hat3 hlt3))
     have hgrow':(w1.alloc (.cells #[.int .i64 (i:Int)] 3)).grownBy w3 u5.ownBlock:=hgrow
     have HB3:Hid (Below w.heap.size w w3):=(HB.out.alloc HB.out.size _).grown hgrow' (by have:=HB.out.size;simp;omega) (fun q hq=>(hor.lt q hq).1)
     have HO3:Hid (w3.ownsRow w.heap.size 3 1 (.slice (some ⟨g,0,none⟩) (D.length+1) cap1) (D.length+1) ((D++[(⟨i,vv⟩:It)]).map kC)):=by
      show World.ownsRow _ _ _ _ _ _ _
      rw [List.map_append]
      exact hown3
     have HCP:Hid (D.length+1<=cap1):=by
      rcases hown3.2 with ⟨h1,_⟩ | ⟨g',cap',cur,hv,_,_,h3,_⟩
      ·cases h1
      ·cases hv;exact h3
     have HHI:Hid (i < L.length):=hlt
     have hml:=HML.out
     have hcp:=HCP.out
     clear hgrow hgrow' hown3 hat3 hlt3 hor e0 q q2
     go_loopw [8] (fun vk wk=>∃A B:List It,vk=.int .i64 (A.length:Int)/\A++B=D/\(∀b ∈ B,0 < verC (cutV vv) (cutV b.v))/\wk.ownsRow w.heap.size 3 1 (.slice (some ⟨g,0,none⟩) (D.length+1) cap1) (D.length+1) ((A++(⟨i,vv⟩:It) :: B).map kC)/\Below w.heap.size w wk) (fun vk _=>(intOf vk).toNat)
     case atStart=>exact ⟨D,[],by have:=HML.out;simp;unfold wrap64;omega,by simp,by simp,HO3.out,HB3.out⟩
     case round =>
      obtain ⟨A,B,rfl,hAB,hBn,hrow,hbk⟩:=hrel
      have HRW:Hid (wr.ownsRow w.heap.size 3 1 (.slice (some ⟨g,0,none⟩) (D.length+1) cap1) (D.length+1) ((A++(⟨i,vv⟩:It) :: B).map kC)):=hrow
      have HBK:Hid (Below w.heap.size w wr):=hbk
      have HBN:Hid (∀b ∈ B,0 < verC (cutV vv) (cutV b.v)):=hBn
      have HAB:Hid (A++B=D):=hAB
      have HLEN:Hid ((A++(⟨i,vv⟩:It) :: B).length=D.length+1):=by
       have:=congrArg List.length hAB
       simp only [List.length_append,List.length_cons] at this ⊢
       show _=_
       omega
      have HOUT:Hid ((∀A0 y,A=A0++[y]->verC (cutV vv) (cutV y.v)<=0)->(A++(⟨i,vv⟩:It) :: B).Perm (P++[(⟨i,vv⟩:It)])/\(A++(⟨i,vv⟩:It) :: B).Pairwise (fun a b=>0<=cmpIt b a)/\(∀x ∈ A++(⟨i,vv⟩:It) :: B,x.k < i+1)/\Src L (A++(⟨i,vv⟩:It) :: B)):=fun hlast=>by
       have hmem:∀z ∈ A++(⟨i,vv⟩:It) :: B,z=⟨i,vv⟩\/z ∈ D:=fun z hz=>by
        rw [<-HAB.out]
        rcases List.mem_append.1 hz with hz | hz
        ·exact Or.inr (List.mem_append.2 (Or.inl hz))
        ·rcases List.mem_cons.1 hz with hz | hz
         ·exact Or.inl hz
         ·exact Or.inr (List.mem_append.2 (Or.inr hz))
       refine ⟨?_,?_,?_,?_⟩
       ·have h1:(A++(⟨i,vv⟩:It) :: B).Perm (⟨i,vv⟩ :: (A++B)):=List.perm_middle
        rw [HAB.out] at h1
        exact h1.trans ((HD.out.1.cons (⟨i,vv⟩:It)).trans (List.perm_append_singleton (⟨i,vv⟩:It) P).symm)
       ·refine place_sorted (by rw [HAB.out];exact HD.out.2.1) HBN.out (fun A0 y e=>⟨hlast A0 y e,?_⟩)
        exact HD.out.2.2.1 y (by rw [<-HAB.out,e];simp)
       ·intro z hz
        rcases hmem z hz with rfl | hz
        ·exact Nat.lt_succ_self _
        ·have:=HD.out.2.2.1 z hz;omega
       ·intro z hz
        rcases hmem z hz with rfl | hz
        ·exact ⟨HHI.out,by rw [HX.out];exact HVV.out⟩
        ·exact HD.out.2.2.2 z hz
      clear hAB hBn hrow hbk
      rcases List.eq_nil_or_concat A with rfl | ⟨A0,y,rfl⟩
      ·have HDN:=HOUT.out (fun A0 y e=>by simp at e)
       have HDO:Hid (([]++(⟨i,vv⟩:It) :: B).Perm (P++[(⟨i,vv⟩:It)])/\([]++(⟨i,vv⟩:It) :: B).Pairwise (fun a b=>0<=cmpIt b a)/\(∀x ∈ []++(⟨i,vv⟩:It) :: B,x.k < i+1)/\Src L ([]++(⟨i,vv⟩:It) :: B)):=HDN
       clear HDN HOUT
       have k0:(([]:List It).length:Int)=0:=rfl
       rw [k0]
       clear k0
       have hdec:decide ((0:Int) < 0)=false:=by decide
       go_wp2
       go_quiet (fail)
       go_wp2
       go_roundw
       case rel=>exact ⟨i+1,P++[⟨i,vv⟩],[]++(⟨i,vv⟩:It) :: B,by go_num,by omega,HQ.out,HDO.out.1,HDO.out.2.1,HDO.out.2.2.1,HDO.out.2.2.2,by unfold IRow;rw [HLEN.out];exact own_stay HRW.out (gb_drew (gb_refl _ none) _),below_drewN HBK.out _⟩
       case measure=>simp [intOf];omega
      ·simp only [List.concat_eq_append] at HRW HAB HLEN HOUT ⊢
       obtain ⟨hyk,hyv⟩:=HD.out.2.2.2 y (by rw [<-HAB.out];simp)
       obtain ⟨ly,hly⟩:∃l,L[y.k]=l:=⟨_,rfl⟩
       rw [hly] at hyv
       have hym:ly ∈ L:=by rw [<-hly];exact List.getElem_mem _
       have hxm:x ∈ L:=by rw [<-HX.out];exact List.getElem_mem _
       have V1:Hid (∀w,Calls Tryd.prog 20 #[.string x.ve] w fun e w'=>e=.returned (valV vv)/\w.grownBy w' none):=fun w=>by rw [<-HVV.out];exact CV.out x hxm w
       have V2:Hid (∀w,Calls Tryd.prog 20 #[.string ly.ve] w fun e w'=>e=.returned (valV y.v)/\w.grownBy w' none):=fun w=>by rw [<-hyv];exact CV.out ly hym w
       have V3:Hid (∀w,Calls Tryd.prog 19 #[valV vv,valV y.v] w fun e w'=>e=.returned (.int .i64 (verC (cutV vv) (cutV y.v)))/\w.grownBy w' none):=fun w=>by rw [<-HVV.out,<-hyv];exact CC.out _ _ w
       have hgw:=bel_gb HBK.out
       have c1:wr.cell? ⟨(a.add (i * 4)).block,(a.add (i * 4)).off+1,none⟩=some (.string x.ve):=by
        have:=(HA.out i HHI.out).grow hgw
        rw [HX.out] at this
        exact this.2.1
       have c2:wr.cell? ⟨(a.add (y.k * 4)).block,(a.add (y.k * 4)).off+1,none⟩=some (.string ly.ve):=by
        have:=(HA.out y.k hyk).grow hgw
        rw [hly] at this
        exact this.2.1
       have d1:wr.cell? ⟨g,A0.length+1,none⟩=some (.int .i64 (i:Int)):=by
        have:=irow_cell HRW.out
        simpa using this
       have d2:wr.cell? ⟨g,A0.length,none⟩=some (.int .i64 (y.k:Int)):=by
        have h1:=HRW.out
        rw [List.append_assoc] at h1
        exact irow_cell (A:=A0) (x:=y) (B:=(⟨i,vv⟩:It) :: B) h1
       obtain ⟨r,hr⟩:∃r,verC (cutV vv) (cutV y.v)=r:=⟨_,rfl⟩
       have HRR:Hid (verC (cutV vv) (cutV y.v)=r):=hr
       rw [hr] at V3
       obtain ⟨Vx,hVx⟩:∃v,valV vv=v:=⟨_,rfl⟩
       obtain ⟨Vy,hVy⟩:∃v,valV y.v=v:=⟨_,rfl⟩
       rw [hVx] at V1 V3
       rw [hVy] at V2 V3
       obtain ⟨n,hn⟩:∃n,A0.length=n:=⟨_,rfl⟩
       have hnD:n+1<=D.length:=by
        have:=congrArg List.length HAB.out
        simp only [List.length_append,List.length_cons,List.length_nil] at this
        omega
       have kl:(((A0++[y]).length:Nat):Int)=(n:Int)+1:=by simp [hn]
       rw [kl]
       rw [hn] at d1 d2
       have HNN:Hid (A0.length=n):=hn
       obtain ⟨yk,hyk'⟩:∃k,y.k=k:=⟨_,rfl⟩
       rw [hyk'] at d2 c2 hyk
       have HYK:Hid (y.k=yk):=hyk'
       clear hgw hr hVx hVy hn kl hyk' hyv hly hym hxm
       have t1:((n:Int)+1).toNat=n+1:=by omega
       have t3:(0:Int) < (n:Int)+1:=by omega
       have t4:decide ((0:Int) < (n:Int)+1)=true:=decide_eq_true t3
       have t6:(n:Int)+1 < (D.length:Int)+1:=by omega
       have t7:(0:Int)<=(n:Int)+1:=by omega
       have t8:(n:Int) < (D.length:Int)+1:=by omega
       have tE:IntKind.i64.wrap (n:Int)=(n:Int):=by
        rw [IntKind.wrap_i64];omega
       have tD:(0:Int)<=(n:Int):=by omega
       have t9:n+1 < D.length+1:=by omega
       have t10:n < D.length+1:=by omega
       by_cases hr0:0 < r
       ·have t5:decide (0 < r)=true:=decide_eq_true hr0
        go_wp2
        go_region_held3 (fun w'=>w'.cell? ⟨g,n+1,none⟩=some (.int .i64 (i:Int))/\w'.cell? ⟨g,n,none⟩=some (.int .i64 (yk:Int))/\w'.cell? ⟨(a.add (i * 4)).block,(a.add (i * 4)).off+1,none⟩=some (.string x.ve)/\w'.cell? ⟨(a.add (yk * 4)).block,(a.add (yk * 4)).off+1,none⟩=some (.string ly.ve)) ((first | exact keepF (by assumption) (by assumption) | go_keep)) (first | (go_at_call_of 20 x.ve;refine (V1.out _).mono ?_;rintro e v1 ⟨rfl,hg1⟩) | (go_at_call_of 20 ly.ve;refine (V2.out _).mono ?_;rintro e v2 ⟨rfl,hg2⟩) | (go_at_call 19;refine (V3.out _).mono ?_;rintro e v3 ⟨rfl,hg3⟩))
        have hgv:wr.grownBy v3 none:=gb_trans (gb_undrew hg1) (gb_trans hg2 hg3)
        have HR3:Hid (v3.ownsRow w.heap.size 3 1 (.slice (some ⟨g,0,none⟩) (D.length+1) cap1) (D.length+1) (((A0++[y])++(⟨i,vv⟩:It) :: B).map kC)):=own_stay HRW.out hgv
        have HBS:Hid (w.heap.size<=wr.heap.size):=HBK.out.size
        have HB4:Hid (Below w.heap.size w v3):=hbelow HBK.out HBK.out.size hgv
        have f1:=hgv.cell d1 (by simp)
        have f2:=hgv.cell d2 (by simp)
        have ff:=hown_f HR3.out
        clear hg1 hg2 hg3 hgv c1 c2 d1 d2
        go_wp2
        have hgb:=(HR3.out.lt g rfl).1
        refine ⟨⟨A0,y :: B,by rw [HNN.out],by have:=HAB.out;simpa using this,fun b hb=>?_,?_,below_set (below_set HB4.out hgb _ _) hgb _ _⟩,by simp [intOf]⟩
        ·rcases List.mem_cons.1 hb with rfl | hb
         ·rw [HRR.out];exact hr0
         ·exact HBN.out b hb
        ·have h1:=hown_set (hown_set HR3.out (n+1) (.int .i64 (yk:Int)) (by omega)) n (.int .i64 (i:Int)) (by omega)
         have e1:((A0++[y])++(⟨i,vv⟩:It) :: B).map kC=A0.map kC++kC y :: kC ⟨i,vv⟩ :: B.map kC:=by simp
         have e2:(A0++(⟨i,vv⟩:It) :: y :: B).map kC=A0.map kC++kC ⟨i,vv⟩ :: kC y :: B.map kC:=by simp
         have e3:Value.int .i64 (yk:Int)=kC y:=by unfold kC;rw [HYK.out]
         have e4:n=(A0.map kC).length:=by rw [List.length_map];exact HNN.out.symm
         have e5:Value.int .i64 (i:Int)=kC ⟨i,vv⟩:=rfl
         rw [e1,e3,e5,e4,swap_set,<-e2,<-e4] at h1
         rw [e3,e5]
         exact h1
       ·have t5:decide (0 < r)=false:=decide_eq_false hr0
        have HDN:=HOUT.out (fun A1 y1 e=>by
         have e1:=List.append_inj' e rfl
         have e2:y=y1:=by simpa using e1.2
         rw [<-e2,HRR.out];omega)
        have HDO:Hid (((A0++[y])++(⟨i,vv⟩:It) :: B).Perm (P++[(⟨i,vv⟩:It)])/\((A0++[y])++(⟨i,vv⟩:It) :: B).Pairwise (fun a b=>0<=cmpIt b a)/\(∀x ∈ (A0++[y])++(⟨i,vv⟩:It) :: B,x.k < i+1)/\Src L ((A0++[y])++(⟨i,vv⟩:It) :: B)):=HDN
        clear HDN HOUT
        go_wp2
        go_region_held3 (fun w'=>w'.cell? ⟨g,n+1,none⟩=some (.int .i64 (i:Int))/\w'.cell? ⟨g,n,none⟩=some (.int .i64 (yk:Int))/\w'.cell? ⟨(a.add (i * 4)).block,(a.add (i * 4)).off+1,none⟩=some (.string x.ve)/\w'.cell? ⟨(a.add (yk * 4)).block,(a.add (yk * 4)).off+1,none⟩=some (.string ly.ve)) ((first | exact keepF (by assumption) (by assumption) | go_keep)) (first | (go_at_call_of 20 x.ve;refine (V1.out _).mono ?_;rintro e v1 ⟨rfl,hg1⟩) | (go_at_call_of 20 ly.ve;refine (V2.out _).mono ?_;rintro e v2 ⟨rfl,hg2⟩) | (go_at_call 19;refine (V3.out _).mono ?_;rintro e v3 ⟨rfl,hg3⟩))
        have hgv:wr.grownBy v3 none:=gb_trans (gb_undrew hg1) (gb_trans hg2 hg3)
        have HR3:Hid (v3.ownsRow w.heap.size 3 1 (.slice (some ⟨g,0,none⟩) (D.length+1) cap1) (D.length+1) (((A0++[y])++(⟨i,vv⟩:It) :: B).map kC)):=own_stay HRW.out hgv
        have HB4:Hid (Below w.heap.size w v3):=hbelow HBK.out HBK.out.size hgv
        clear hg1 hg2 hg3 hgv c1 c2 d1 d2
        go_wp2
        go_roundw
        case rel=>exact ⟨i+1,P++[⟨i,vv⟩],(A0++[y])++(⟨i,vv⟩:It) :: B,by go_num,by omega,HQ.out,HDO.out.1,HDO.out.2.1,HDO.out.2.2.1,HDO.out.2.2.2,by unfold IRow;rw [HLEN.out];exact HR3.out,HB4.out⟩
        case measure=>simp [intOf];omega
    | false =>
     have HQ:Hid (P++itemsL name (L.drop (i+1)) (i+1)=R):=by
      have:=HF.out
      rw [if_neg (by simp)] at this
      exact this
     go_wp2
     go_roundw
     case rel=>exact ⟨i+1,P,D,by go_num,by omega,HQ.out,HD.out.1,HD.out.2.1,fun x hx=>by have:=HD.out.2.2.1 x hx;omega,HD.out.2.2.2,HO.out,HB.out⟩
     case measure=>simp [intOf];omega
   ·have q:=txt_ne hn
    have q2:(x.nm.toList != name.toList)=true:=by simp [bne,q]
    have HQ:Hid (P++itemsL name (L.drop (i+1)) (i+1)=R):=by
     have:=HF.out
     rw [if_neg (by simp [hn])] at this
     exact this
    clear hn
    go_wp2
    go_roundw
    case rel=>exact ⟨i+1,P,D,by go_num,by omega,HQ.out,HD.out.1,HD.out.2.1,fun x hx=>by have:=HD.out.2.2.1 x hx;omega,HD.out.2.2.2,HO.out,HB.out⟩
    case measure=>simp [intOf];omega
  ·have hil:i=L.length:=by omega
   have HQ:Hid (P=R):=by
    show _=_
    rw [hil,List.drop_length] at hf
    simpa [itemsL] using hf
   clear hf hil hb
   go_wp2
   refine bodyPost_ret (results_tmp (t:=4) rfl _ _ _) rfl ⟨u5,D,rfl,HO.out,HB.out,by rw [<-HQ.out];exact HD.out.1,HD.out.2.1⟩
open Go.RowKit
set_option linter.unusedVariables false
theorem cRof (sl:Value) (L:List Re) (name:ByteArray) (w:World) (h:ReS w sl L) (hL:L.length<=1048576) (hV:∀x ∈ L,x.ve.size < 2 ^ 62) :
  Calls Tryd.prog 8 #[sl,.string name] w (ROfPost (itemsL name L 0) w):=by
 rcases h with ⟨rfl,rfl⟩ | ⟨a,cap,rfl,h2,h3⟩
 ·go_enter Tryd.func8,Tryd.ntmps8
  go_wp2
  go_loopw [5,6] (fun vm vi wr=>vi=.int .i64 0/\vm=.slice none 0 0/\Below w.heap.size w wr) (fun _ vi _=>0)
  case atStart=>exact ⟨rfl,rfl,Below.refl _ _⟩
  case round =>
   obtain ⟨rfl,rfl,hb⟩:=hrel
   have HB:Hid (Below w.heap.size w wr):=hb
   clear hb
   go_wp2
   refine bodyPost_ret (results_tmp (t:=4) rfl _ _ _) rfl ⟨_,[],rfl,irow_nil _,HB.out,List.Perm.refl _,List.Pairwise.nil⟩
 ·exact rof_at a cap L name w hL h2 hV h3
theorem cRefFind (sl:Value) (L:List Re) (name v:ByteArray) (w:World) (h:ReS w sl L) (hL:L.length<=1048576) (hV:∀x ∈ L,x.ve.size < 2 ^ 62) (hv:v.size < 2 ^ 62) :
  Calls Tryd.prog 9 #[sl,.string name,.string v] w fun e w'=>e=.returned (.int .i64 (findI name v L 0))/\w.grownBy w' none:=by
 rcases h with ⟨rfl,rfl⟩ | ⟨a,cap,rfl,h2,h3⟩
 ·have e:findI name v [] 0=-1:=rfl
  rw [e]
  go_enter Tryd.func9,Tryd.ntmps9
  go_wp2
  go_loopw [7] (fun vi wr=>vi=.int .i64 0/\w.grownBy wr none) (fun vi _=>0)
  case atStart=>exact ⟨rfl,gb_refl _ _⟩
  case round =>
   obtain ⟨rfl,hb⟩:=hrel
   have HB:Hid (w.grownBy wr none):=hb
   clear hb
   go_wp2
   go_ret
   exact ⟨rfl,HB.out⟩
 ·exact refFind_at a cap L name v w hL h2 hV hv h3
theorem rrow_res {L:List Re} {w:World} {base:Nat} {v:Value} (h:RRow L w base v L.length):ReS w v L:=by
 obtain ⟨vs,hl,ho,hn⟩:=h
 rw [List.take_length] at ho
 rcases ho.2 with ⟨h1,h2⟩ | ⟨g,cap,cur,hv,hb,hc,h3,h4,h5,h6⟩
 ·exact Or.inl ⟨h1,List.length_eq_zero_iff.1 h2⟩
 ·refine Or.inr ⟨⟨g,0,none⟩,cap,hv,h3,fun i hi=>?_⟩
  have h':=ho
  rw [hv] at h'
  have key:∀k u,0 < k->(reC L[i] (vs[i]'(by omega)))[k]?=some u->w.cell? ⟨((⟨g,0,none⟩:Addr).add (i * 4)).block,((⟨g,0,none⟩:Addr).add (i * 4)).off+k,none⟩=some u:=fun k u hk hu=>by
   have:=h'.cells (g:=g) rfl (i * 4+k) u (re_get L vs hl.symm i hi k u hu)
   rw [hadd_off _ _ k hk] at this
   exact this
  have k0:=h'.cells (g:=g) rfl (i * 4+0) _ (re_get L vs hl.symm i hi 0 _ rfl)
  exact ⟨by simpa using k0,key 1 _ (by omega) rfl,⟨_,key 2 _ (by omega) rfl,(hn i hi hi).1⟩,key 3 _ (by omega) rfl⟩
theorem cReleases (sl:Value) (L:List Re) (w:World) (h:ReS w sl L) (hL:L.length<=1048576) (hN:∀x ∈ L,x.nd.length<=1048576) :
  Calls Tryd.prog 5 #[sl] w fun e w'=>∃v,e=.returned v/\ReS w' v L/\w.grownBy w' none:=by
 rcases h with ⟨rfl,rfl⟩ | ⟨a,cap,rfl,h2,h3⟩
 ·go_enter Tryd.func5,Tryd.ntmps5
  go_wp2
  go_loopw [3,4] (fun vm vi wr=>vi=.int .i64 0/\vm=.slice none 0 0/\w.grownBy wr none) (fun _ vi _=>0)
  case atStart=>exact ⟨rfl,rfl,gb_refl _ _⟩
  case round =>
   obtain ⟨rfl,rfl,hb⟩:=hrel
   have HB:Hid (w.grownBy wr none):=hb
   clear hb
   go_wp2
   refine bodyPost_ret (results_tmp (t:=2) rfl _ _ _) rfl ⟨_,rfl,Or.inl ⟨rfl,rfl⟩,HB.out⟩
 ·refine (releases_at a cap L w hL h2 hN h3).mono ?_
  rintro e w' ⟨v,rfl,hr,hb⟩
  exact ⟨v,rfl,rrow_res hr,bel_gb hb⟩
def NS (w:World) (v:Value) (K:List Nat):Prop:=(v=.slice none 0 0/\K=[])\/∃a cap,v=.slice (some a) K.length cap/\K.length<=cap/\∀j (h:j < K.length),w.cell? (a.add j)=some (.int .i64 (K[j]:Int))
theorem NS.grow {w w':World} {v:Value} {K:List Nat} (h:NS w v K) (hg:w.grownBy w' none):NS w' v K:=by
 rcases h with h | ⟨a,cap,h1,h2,h3⟩
 ·exact Or.inl h
 ·exact Or.inr ⟨a,cap,h1,h2,fun i hi=>hg.cell (h3 i hi) (by simp)⟩
theorem ns_slice {w:World} {v:Value} {K:List Nat} (h:NS w v K):∃o c,v=.slice o K.length c:=by
 rcases h with ⟨rfl,rfl⟩ | ⟨a,cap,rfl,-⟩
 ·exact ⟨_,_,rfl⟩
 ·exact ⟨_,_,rfl⟩
theorem ns_row {w:World} {base:Nat} {v:Value} {D:List It} (h:IRow w base v D):NS w v (D.map (·.k)):=by
 unfold IRow at h
 rcases h.2 with ⟨h1,h2⟩ | ⟨g,cap,cur,hv,hb,hc,h3,h4,h5,h6⟩
 ·have:D=[]:=List.length_eq_zero_iff.1 h2
  subst this
  exact Or.inl ⟨h1,rfl⟩
 ·refine Or.inr ⟨⟨g,0,none⟩,cap,by rw [hv];simp,by simpa using h3,fun j hj=>?_⟩
  have hj':j < D.length:=by simpa using hj
  have h':=h
  rw [hv] at h'
  have:=h'.cells (g:=g) rfl j (kC D[j]) (by rw [List.getElem?_map,List.getElem?_eq_getElem hj'];rfl)
  rw [this,List.getElem_map]
  rfl
theorem ns_nx {w:World} {B:Nat} {E:List It} (h:NxAt w B (E.map (·.k)) E.length):NS w (.slice (some ⟨B,0,none⟩) E.length E.length) (E.map (·.k)):=by
 refine Or.inr ⟨⟨B,0,none⟩,E.length,by simp,by simp,fun j hj=>?_⟩
 have hj':j < E.length:=by simpa using hj
 rw [hzero_off,Lib.cell_of_heap h]
 simp only [List.length_map,Nat.sub_self,List.replicate_zero,List.append_nil,List.getElem?_toArray]
 rw [List.getElem?_map,List.getElem?_take_of_lt hj',List.getElem?_eq_getElem (by simpa using hj')]
 rfl
set_option maxRecDepth 100000 in
set_option maxHeartbeats 1600000 in
theorem same_any (v v':Value) (K:List Nat) (w:World) (h:NS w v K) (h':NS w v' K) (hK:K.length<=1048576) :
  Calls Tryd.prog 7 #[v,v'] w fun e w'=>e=.returned (.bool true)/\w.grownBy w' none:=by
 have H1:Hid (NS w v K):=h
 have H2:Hid (NS w v' K):=h'
 obtain ⟨o,c,rfl⟩:=ns_slice h
 obtain ⟨o',c',rfl⟩:=ns_slice h'
 have hnn:((K.length:Int) != (K.length:Int))=false:=by simp
 clear h h'
 go_enter Tryd.func7,Tryd.ntmps7
 go_wp2
 go_loopw [5] (fun vi wr=>∃i:Nat,vi=.int .i64 i/\i<=K.length/\w.grownBy wr none) (fun vi _=>K.length - (intOf vi).toNat)
 case atStart=>exact ⟨0,rfl,Nat.zero_le _,gb_refl _ _⟩
 case round =>
  obtain ⟨i,rfl,hi,hg⟩:=hrel
  have HG:Hid (w.grownBy wr none):=hg
  by_cases hlt:i < K.length
  ·obtain ⟨a,cap,e1,e2,e3⟩:∃a cap,(Value.slice o K.length c)=.slice (some a) K.length cap/\K.length<=cap/\∀j (h:j < K.length),wr.cell? (a.add j)=some (.int .i64 (K[j]:Int)):=by
    rcases H1.out.grow hg with ⟨h1,h2⟩ | h
    ·rw [h2] at hlt;simp at hlt
    ·exact h
   obtain ⟨b,cbp,f1,f2,f3⟩:∃a cap,(Value.slice o' K.length c')=.slice (some a) K.length cap/\K.length<=cap/\∀j (h:j < K.length),wr.cell? (a.add j)=some (.int .i64 (K[j]:Int)):=by
    rcases H2.out.grow hg with ⟨h1,h2⟩ | h
    ·rw [h2] at hlt;simp at hlt
    ·exact h
   cases e1
   cases f1
   have g1:=e3 i hlt
   have g2:=f3 i hlt
   obtain ⟨z,hz⟩:∃z:Int,(K[i]:Int)=z:=⟨_,rfl⟩
   rw [hz] at g1 g2
   have hzz:(z != z)=false:=by simp
   clear e3 f3 hz hg
   go_wp2
   go_quiet (fail)
   go_wp2
   go_roundw
   case rel=>exact ⟨i+1,by go_num,by omega,gb_drew HG.out _⟩
   case measure=>simp [intOf];omega
  ·clear hg
   have hil:i=K.length:=by omega
   go_wp2
   go_ret
   exact ⟨rfl,HG.out⟩
open Go.RowKit
set_option linter.unusedVariables false
theorem res_slice {w:World} {v:Value} {L:List Re} (h:ReS w v L):∃o n c,v=.slice o n c:=by
 rcases h with ⟨rfl,-⟩ | ⟨a,cap,rfl,-⟩
 ·exact ⟨_,_,_,rfl⟩
 ·exact ⟨_,_,_,rfl⟩
def reA:Re:=⟨⟨#[97]⟩,⟨#[49,46,48,46,48]⟩,[],⟨#[]⟩⟩
def reB:Re:=⟨⟨#[97]⟩,⟨#[50,46,48,46,48]⟩,[],⟨#[]⟩⟩
theorem two_at {w:World} {g:Nat} {t:TypeId} (h:w.heap[g]?=some (.cells #[.string ⟨#[97]⟩,.string ⟨#[49,46,48,46,48]⟩,.slice none 0 0,.string ⟨#[]⟩,.string ⟨#[97]⟩,.string ⟨#[50,46,48,46,48]⟩,.slice none 0 0,.string ⟨#[]⟩] t (0,0))):ReS w (.slice (some ⟨g,0,none⟩) 2 2) [reA,reB]:=by
 refine Or.inr ⟨⟨g,0,none⟩,2,rfl,Nat.le_refl _,fun i hi=>?_⟩
 have hc:=Lib.cell_of_heap h
 have hi2:i=0\/i=1:=by simp at hi;omega
 rcases hi2 with rfl | rfl
 ·rw [hzero_off]
  exact ⟨(hc 0).trans rfl,(hc 1).trans rfl,⟨_,(hc 2).trans rfl,Or.inl ⟨rfl,rfl⟩⟩,(hc 3).trans rfl⟩
 ·rw [hzero_off]
  exact ⟨(hc 4).trans rfl,(hc 5).trans rfl,⟨_,(hc 6).trans rfl,Or.inl ⟨rfl,rfl⟩⟩,(hc 7).trans rfl⟩
def Blk (w:World) (B n:Nat):Prop:=∃cs:Array Value,w.heap[B]?=some (.cells cs 3 (0,0))/\cs.size=n
theorem Blk.cell {w:World} {B n i:Nat} (h:Blk w B n) (hi:i < n):∃u,w.cell? ⟨B,i,none⟩=some u:=by
 obtain ⟨cs,h1,h2⟩:=h
 exact ⟨cs[i]'(by omega),by rw [Lib.cell_of_heap h1];exact Array.getElem?_eq_getElem (by omega)⟩
theorem Blk.f {w:World} {B n:Nat} (h:Blk w B n) (j:Nat):w.frozen? ⟨B,j,none⟩=false:=by
 obtain ⟨cs,h1,h2⟩:=h
 exact Lib.frozen_of_heap h1 j
theorem Blk.set {w:World} {B n i:Nat} (h:Blk w B n) (v:Value):Blk (w.setCell ⟨B,i,none⟩ v) B n:=by
 obtain ⟨cs,h1,h2⟩:=h
 exact ⟨cs.setIfInBounds i v,by simp [World.setCell,Array.getElem?_modify,h1],by simpa using h2⟩
theorem Blk.grow {w w':World} {B n:Nat} (h:Blk w B n) (hg:w.grownBy w' none):Blk w' B n:=by
 obtain ⟨cs,h1,h2⟩:=h
 exact ⟨cs,by rw [hg.block B ((Array.getElem?_eq_some_iff.1 h1).1) (by simp)];exact h1,h2⟩
theorem nx_blk {w:World} {B:Nat} {E:List It} (h:NxAt w B (E.map (·.k)) E.length):Blk w B E.length:=⟨_,h,by simp⟩
def RlPost (L:List Re) (w:World) (e:Ending) (w':World):Prop:=∃o n c,e=.returned (.slice o n c)/\ReS w' (.slice o n c) L/\w.grownBy w' none
def DPost (M:List It) (w:World) (e:Ending) (w':World):Prop:=∃o n c,∃D:List It,e=.returned (.slice o n c)/\NS w' (.slice o n c) (D.map (·.k))/\w.grownBy w' none/\D.Perm M/\D.Pairwise (fun a b=>0<=cmpIt b a)
def AnyPost (w:World) (e:Ending) (w':World):Prop:=(∃B n,e=.returned (.slice (some ⟨B,0,none⟩) n n))/\w.grownBy w' none
set_option maxRecDepth 100000 in
set_option maxHeartbeats 800000 in
theorem shelfFindsLaw (sl:Value) (L:List Re) (name v:ByteArray) (w:World) (h:ReS w sl L) (hL:L.length<=1048576) (hV:∀x ∈ L,x.ve.size < 2 ^ 62) (hN:∀x ∈ L,x.nd.length<=1048576) (hv:v.size < 2 ^ 62) :
  Calls Tryd.prog 3 #[sl,.string name,.string v] w fun e w'=>e=.returned (.bool true)/\w.grownBy w' none:=by
 have CRl:Hid (∀w',w.grownBy w' none->Calls Tryd.prog 5 #[sl] w' (RlPost L w')):=fun w' hg=>(cReleases sl L w' (h.grow hg) hL hN).mono fun e w'' ⟨v,h1,h2,h3⟩=>by
  obtain ⟨o,n,c,rfl⟩:=res_slice h2
  exact ⟨o,n,c,h1,h2,h3⟩
 have COf:Hid (∀v w',ReS w' v L->Calls Tryd.prog 4 #[v,.string name] w' (OfPost (itemsL name L 0) w')):=fun v w' h=>of_any v L name w' h hL hV
 have CO2:Hid (∀v w',ReS w' v [reA,reB]->Calls Tryd.prog 4 #[v,.string ⟨#[97]⟩] w' (AnyPost w')):=fun v w' h=>(of_any v [reA,reB] ⟨#[97]⟩ w' h (by simp) (by intro x hx;simp at hx;rcases hx with rfl | rfl <;> decide)).mono fun e w'' ⟨B,E,h1,_,_,h4,_⟩=>⟨⟨B,_,h1⟩,h4⟩
 have CF:Hid (∀u w',ReS w' u L->Calls Tryd.prog 6 #[u,.string name,.string v] w' fun e w''=>e=.returned (.int .i64 (findI name v L 0))/\w'.grownBy w'' none):=fun u w' h=>find_any u L name v w' h hL hV hv
 have CD:Hid (∀w',w.grownBy w' none->Calls Tryd.prog 8 #[sl,.string name] w' (DPost (itemsL name L 0) w')):=fun w' hg=>(cRof sl L name w' (h.grow hg) hL hV).mono fun e w'' ⟨v,D,h1,h2,h3,h4,h5⟩=>by
  have hn:=ns_row h2
  obtain ⟨o,c,rfl⟩:=ns_slice hn
  exact ⟨o,_,c,D,h1,hn,bel_gb h3,h4,h5⟩
 have CG:Hid (∀w',w.grownBy w' none->Calls Tryd.prog 9 #[sl,.string name,.string v] w' fun e w''=>e=.returned (.int .i64 (findI name v L 0))/\w'.grownBy w'' none):=fun w' hg=>cRefFind sl L name v w' (h.grow hg) hL hV hv
 have CS:Hid (∀(E D:List It) (u u':Value) (w':World),E.Perm (itemsL name L 0)->E.Pairwise (fun a b=>0<=cmpIt b a)->D.Perm (itemsL name L 0)->D.Pairwise (fun a b=>0<=cmpIt b a)->NS w' u (E.map (·.k))->NS w' u' (D.map (·.k))->Calls Tryd.prog 7 #[u,u'] w' fun e w''=>e=.returned (.bool true)/\w'.grownBy w'' none):=fun E D u u' w' p1 s1 p2 s2 n1 n2=>by
  have e:=order_one name L E D p1 p2 s1 s2
  subst e
  exact same_any u u' _ w' n1 n2 (by rw [List.length_map,p1.length_eq];exact Nat.le_trans (items_len name L 0) hL)
 obtain ⟨o0,n0,c0,rfl⟩:=res_slice h
 obtain ⟨R,hR⟩:∃R,findI name v L 0=R:=⟨_,rfl⟩
 rw [hR] at CF CG
 have hrr:(R == R)=true:=by simp
 clear h hV hN hv hR
 have HG:Hid (w.grownBy w none):=gb_refl _ _
 go_enter Tryd.func3,Tryd.ntmps3
 go_wp2_with (first | (go_at_call 5;refine (CRl.out _ HG.out).mono ?_))
 rintro e w1 ⟨o1,n1,c1,rfl,hr1,hg⟩
 replace HG:Hid (w.grownBy w1 none):=gb_trans HG.out hg
 have HR1:Hid (ReS w1 (.slice o1 n1 c1) L):=hr1
 clear hg hr1
 go_wp2_with (first | (go_at_call 4;refine (COf.out _ _ HR1.out).mono ?_))
 rintro e w2 ⟨B,E,rfl,hB,hx,hg,hp,hs⟩
 have HBB:Hid (w.heap.size<=B):=Nat.le_trans HG.out.size hB
 replace HG:Hid (w.grownBy w2 none):=gb_trans HG.out hg
 have HNS:Hid (NS w2 (.slice (some ⟨B,0,none⟩) E.length E.length) (E.map (·.k))):=ns_nx hx
 have HBL:Hid (Blk w2 B E.length):=nx_blk hx
 have HE:Hid (E.Perm (itemsL name L 0)/\E.Pairwise (fun a b=>0<=cmpIt b a)):=⟨hp,hs⟩
 have HEL:Hid (E.length<=1048576):=by rw [hp.length_eq];exact Nat.le_trans (items_len name L 0) hL
 clear hB hx hg hp hs HR1
 go_wp2_with (first | (go_at_call 4;refine (CO2.out _ _ (two_at (heap_alloc_new w2 _))).mono ?_))
 rintro e w3 ⟨⟨B3,n3,rfl⟩,hg⟩
 have hg3:w2.grownBy w3 none:=gb_trans (gb_alloc (gb_refl w2 none) _) hg
 replace HG:Hid (w.grownBy w3 none):=gb_trans HG.out hg3
 replace HNS:Hid (NS w3 (.slice (some ⟨B,0,none⟩) E.length E.length) (E.map (·.k))):=HNS.out.grow hg3
 replace HBL:Hid (Blk w3 B E.length):=HBL.out.grow hg3
 clear hg hg3
 go_wp2_with (first | (go_at_call 5;refine (CRl.out _ HG.out).mono ?_))
 rintro e w4 ⟨o4,n4,c4,rfl,hr4,hg⟩
 replace HG:Hid (w.grownBy w4 none):=gb_trans HG.out hg
 replace HNS:Hid (NS w4 (.slice (some ⟨B,0,none⟩) E.length E.length) (E.map (·.k))):=HNS.out.grow hg
 replace HBL:Hid (Blk w4 B E.length):=HBL.out.grow hg
 have HR4:Hid (ReS w4 (.slice o4 n4 c4) L):=hr4
 clear hg hr4
 go_wp2_with (first | (go_at_call 6;refine (CF.out _ _ HR4.out).mono ?_))
 rintro e w5 ⟨rfl,hg⟩
 replace HG:Hid (w.grownBy w5 none):=gb_trans HG.out hg
 replace HNS:Hid (NS w5 (.slice (some ⟨B,0,none⟩) E.length E.length) (E.map (·.k))):=HNS.out.grow hg
 replace HBL:Hid (Blk w5 B E.length):=HBL.out.grow hg
 clear hg HR4
 go_wp2_with (first | (go_at_call 8;refine (CD.out _ HG.out).mono ?_))
 rintro e w6 ⟨od,nd,cd,D,rfl,hnd,hg,hp,hs⟩
 replace HG:Hid (w.grownBy w6 none):=gb_trans HG.out hg
 replace HNS:Hid (NS w6 (.slice (some ⟨B,0,none⟩) E.length E.length) (E.map (·.k))):=HNS.out.grow hg
 replace HBL:Hid (Blk w6 B E.length):=HBL.out.grow hg
 have CSS:Hid (Calls Tryd.prog 7 #[.slice (some ⟨B,0,none⟩) E.length E.length,.slice od nd cd] w6 fun e w''=>e=.returned (.bool true)/\w6.grownBy w'' none):=CS.out E D _ _ w6 HE.out.1 HE.out.2 hp hs HNS.out hnd
 clear hg hp hs hnd
 go_wp2_with (first | (go_at_call 7;refine CSS.out.mono ?_))
 rintro e w7 ⟨rfl,hg⟩
 replace HG:Hid (w.grownBy w7 none):=gb_trans HG.out hg
 replace HBL:Hid (Blk w7 B E.length):=HBL.out.grow hg
 clear hg CSS HNS
 have hel:=HEL.out
 go_wp2
 go_loopw [10] (fun vi wr=>∃i:Nat,vi=.int .i64 i/\i<=E.length/\Blk wr B E.length/\w.grownBy wr none) (fun vi _=>E.length - (intOf vi).toNat)
 case atStart=>exact ⟨0,rfl,Nat.zero_le _,HBL.out,HG.out⟩
 case round =>
  obtain ⟨i,rfl,hi,hbl,hgr⟩:=hrel
  have HB2:Hid (Blk wr B E.length):=hbl
  replace HG:Hid (w.grownBy wr none):=hgr
  clear hbl hgr
  by_cases hlt:i < E.length
  ·obtain ⟨u,hu⟩:=HB2.out.cell hlt
   have hf:=HB2.out.f i
   go_wp2
   go_roundw
   case rel=>exact ⟨i+1,by go_num,by omega,HB2.out.set _,gb_row0' HG.out (gb_set (gb_refl wr (some B)) _ _) (fun q hq=>by injection hq with hq;have:=HBB.out;omega)⟩
   case measure=>simp [intOf];omega
  ·have hil:i=E.length:=by omega
   clear hi hil
   go_wp2_with (first | (go_at_call 5;refine (CRl.out _ HG.out).mono ?_))
   rintro e w8 ⟨o8,n8,c8,rfl,hr8,hg⟩
   replace HG:Hid (w.grownBy w8 none):=gb_trans HG.out hg
   have HR8:Hid (ReS w8 (.slice o8 n8 c8) L):=hr8
   clear hg hr8
   go_wp2_with (first | (go_at_call 4;refine (COf.out _ _ HR8.out).mono ?_))
   rintro e w9 ⟨B9,E9,rfl,hB9,hx,hg,hp,hs⟩
   replace HG:Hid (w.grownBy w9 none):=gb_trans HG.out hg
   have HNS9:Hid (NS w9 (.slice (some ⟨B9,0,none⟩) E9.length E9.length) (E9.map (·.k))):=ns_nx hx
   have HE9:Hid (E9.Perm (itemsL name L 0)/\E9.Pairwise (fun a b=>0<=cmpIt b a)):=⟨hp,hs⟩
   clear hB9 hx hg hp hs HR8
   go_wp2_with (first | (go_at_call 8;refine (CD.out _ HG.out).mono ?_))
   rintro e wa ⟨oa,na,ca,Da,rfl,hnd,hg,hp,hs⟩
   replace HG:Hid (w.grownBy wa none):=gb_trans HG.out hg
   have CSS:Hid (Calls Tryd.prog 7 #[.slice (some ⟨B9,0,none⟩) E9.length E9.length,.slice oa na ca] wa fun e w''=>e=.returned (.bool true)/\wa.grownBy w'' none):=CS.out E9 Da _ _ wa HE9.out.1 HE9.out.2 hp hs (HNS9.out.grow hg) hnd
   clear hg hp hs hnd
   go_wp2_with (first | (go_at_call 7;refine CSS.out.mono ?_))
   rintro e wb ⟨rfl,hg⟩
   replace HG:Hid (w.grownBy wb none):=gb_trans HG.out hg
   clear hg CSS HNS9
   go_wp2_with (first | (go_at_call 9;refine (CG.out _ HG.out).mono ?_;rintro e wc ⟨rfl,hgc⟩))
   go_ret
   exact ⟨rfl,gb_trans HG.out hgc⟩
end Go.Proofs.YtaeonidcngjeiaaDoor
