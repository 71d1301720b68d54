import Derived.Test.YtpeghomkaphdcaaGreatDoorM21
import Derived.Test.YtpeghomkaphdcaaGreatDoorM22
namespace Go.Proofs.YtpeghomkaphdcaaGreatDoor
open Go.RowKit
set_option linter.unusedVariables false
set_option maxRecDepth 100000 in
set_option maxHeartbeats 3200000 in
theorem refPlan_any (v v':Value) (L M:List En) (w:World) (h:EnS w v L) (h':EnS w v' M) (hL:L.length<=1048576) (hM:M.length<=1048576)
  (hV:∀x ∈ L,x.nm.size<=1048576/\x.ve.size<=1048576/\x.dg.size<=1048576) (hV':∀x ∈ M,x.nm.size<=1048576/\x.ve.size<=1048576/\x.dg.size<=1048576) (hN:∀x ∈ L,x.nd.length<=1048576) (hN':∀x ∈ M,x.nd.length<=1048576) (hS:∀x ∈ L,∀y ∈ x.nd,y.size<=1048576) (hS':∀x ∈ M,∀y ∈ x.nd,y.size<=1048576) :
  Calls Tryz.prog 15 #[v,v'] w fun e w'=>e=.returned (.tuple #[.string (planR L M).1,.int .i64 (planR L M).2.1,.int .i64 (planR L M).2.2])/\w.grownBy w' none:=by
 have HL:Hid (∀w',w.grownBy w' none->EnS w' v L):=fun w' hg=>h.grow hg
 have HM:Hid (∀w',w.grownBy w' none->EnS w' v' M):=fun w' hg=>h'.grow hg
 have CPL:Hid (∀w',w.grownBy w' none->Calls Tryz.prog 9 #[v] w' fun e w''=>e=.returned (.tuple #[.string (lockR L),.int .i64 (lockFrom L L.length).1,.int .i64 ((lockFrom L L.length).2:Int)])/\w'.grownBy w'' none):=fun w' hg=>cPrintLock v L w' (h.grow hg) hL hV hN hS
 have CPM:Hid (∀w',w.grownBy w' none->Calls Tryz.prog 9 #[v'] w' fun e w''=>e=.returned (.tuple #[.string (lockR M),.int .i64 (lockFrom M M.length).1,.int .i64 ((lockFrom M M.length).2:Int)])/\w'.grownBy w'' none):=fun w' hg=>cPrintLock v' M w' (h'.grow hg) hM hV' hN' hS'
 have CEL:Hid (∀n w',w.grownBy w' none->Calls Tryz.prog 29 #[v,.string n] w' fun e w''=>∃c:Int,e=.returned (.int .i64 c)/\EntI L n c/\w'.grownBy w'' none):=fun n w' hg=>entryOf_any v L n w' (h.grow hg) hL
 have CS:Hid (∀(v:Value) (K:List ByteArray) (w:World),TxS w v K->K.length<=1048576->Calls Tryz.prog 30 #[v] w (SrtPost K w)):=fun v K w h1 h2=>cSorted v K w h1 h2
 have HSM:Hid ((lockFrom L L.length).1=0->L.length<=50):=fun h0=>(lock_small L h0).1
 have HSM':Hid ((lockFrom M M.length).1=0->M.length<=50):=fun h0=>(lock_small M h0).1
 have HPR:Hid (planR L M=if (lockFrom L L.length).1=0 then if (lockFrom M M.length).1=0 then (⟨(planB L M).toArray⟩,0,0) else (⟨#[]⟩,(lockFrom M M.length).1,((lockFrom M M.length).2:Int)+1000) else (⟨#[]⟩,(lockFrom L L.length).1,((lockFrom L L.length).2:Int))):=rfl
 have HK:Hid ((lockFrom M M.length).2<=M.length):=lock_le M
 obtain ⟨o,c,rfl⟩:=ens_slice h
 obtain ⟨o',c',rfl⟩:=ens_slice h'
 have CLN:Hid (∀n w',n ∈ namesN L M->w.grownBy w' none->Calls Tryz.prog 31 #[.slice o L.length c,.slice o' M.length c',.string n] w' fun e w''=>(∃T:ByteArray,e=.returned (.string T)/\T.data.toList=lineT (fnd L n) (fnd M n) n)/\w'.grownBy w'' none):=fun n w' hn hg=>refLine_any o o' c c' L M n w' (h.grow hg) (h'.grow hg) hL hM (names_in hn) (names_small L M (fun x hx=>(hV x hx).1) (fun x hx=>(hV' x hx).1) n hn) (fun x hx=>(hV x hx).2.1) (fun x hx=>(hV' x hx).2.1)
 have HLL:Hid (∀n ∈ namesN L M,(lineT (fnd L n) (fnd M n) n).length<=4194304):=fun n hn=>line_len _ _ n (fun x hx=>(hV x (fnd_mem hx)).2.1) (fun x hx=>(hV' x (fnd_mem hx)).2.1) (names_small L M (fun x hx=>(hV x hx).1) (fun x hx=>(hV' x hx).1) n hn)
 obtain ⟨R,hR⟩:∃R,planR L M=R:=⟨_,rfl⟩
 rw [hR] at HPR ⊢
 obtain ⟨E,hE⟩:∃E,(lockFrom L L.length).1=E:=⟨_,rfl⟩
 obtain ⟨E',hE'⟩:∃E,(lockFrom M M.length).1=E:=⟨_,rfl⟩
 obtain ⟨K,hK⟩:∃K,(lockFrom L L.length).2=K:=⟨_,rfl⟩
 obtain ⟨K',hK'⟩:∃K,(lockFrom M M.length).2=K:=⟨_,rfl⟩
 rw [hE,hE',hK,hK'] at HPR
 rw [hE,hK] at CPL
 rw [hE',hK'] at CPM
 rw [hE] at HSM
 rw [hE'] at HSM'
 rw [hK'] at HK
 have hk1:K'<=1048576:=Nat.le_trans HK.out hM
 clear h h' hV hV' hN hN' hS hS' hR hE hE' hK hK'
 have hinfo2:=infoTx
 obtain ⟨j0,hj0,hjj⟩:=Option.map_eq_some_iff.1 hinfo2
 simp only [Prod.mk.injEq] at hjj
 obtain ⟨hy0,hy1,hyb⟩:=hjj
 clear hinfo2
 have HG:Hid (w.grownBy w none):=gb_refl _ _
 go_enter Tryz.func15,Tryz.ntmps15
 go_wp2_with (first | (go_at_call 9;refine (CPL.out _ HG.out).mono ?_))
 rintro e w1 ⟨rfl,hg⟩
 replace HG:Hid (w.grownBy w1 none):=gb_trans HG.out hg
 clear hg
 by_cases hz:E=0
 ·subst hz
  go_wp2_with (first | (go_at_call 9;refine (CPM.out _ HG.out).mono ?_))
  rintro e w2 ⟨rfl,hg⟩
  replace HG:Hid (w.grownBy w2 none):=gb_trans HG.out hg
  clear hg
  by_cases hz':E'=0
  ·subst hz'
   have hl50:=HSM.out (by trivial)
   have hm50:=HSM'.out (by trivial)
   have HR:Hid (R=(⟨(planB L M).toArray⟩,0,0)):=by show R=_;rw [HPR.out];simp
   have HB2:Hid (Below w2.heap.size w2 w2):=Below.refl _ _
   go_wp2
   go_loopw [10,11] (fun vm vi wr=>∃i:Nat,vi=.int .i64 i/\i<=L.length/\wr.ownsRow w2.heap.size 9 1 vm i (((L.take i).map (·.nm)).map Value.string)/\Below w2.heap.size w2 wr) (fun _ vi _=>L.length - (intOf vi).toNat)
   case atStart=>exact ⟨0,rfl,Nat.zero_le _,World.ownsRow_nil _ _ _ _,Below.refl _ _⟩
   case round =>
    obtain ⟨i,rfl,hi,hown,hb⟩:=hrel
    by_cases hlt:i < L.length
    ·obtain ⟨a,rfl,hcp,hat⟩:=ens_at (HL.out wr (gb_trans HG.out (bel_gb hb))) hlt
     obtain ⟨e0,-,-,-⟩:=hat i hlt
     obtain ⟨s,hs⟩:∃s,L[i].nm=s:=⟨_,rfl⟩
     rw [hs] at e0
     have HTK:Hid (((L.take (i+1)).map (·.nm)).map Value.string=((L.take i).map (·.nm)).map Value.string++[.string s]):=by
      show _=_
      rw [snoc_map L i hlt,hs]
     have hzz:=hb.size
     clear hs hat
     go_wp2_with (first | (at_builtin;refine wpList_append_lies _ rfl _ _ 40 rfl w2.heap.size 9 j0 _ 1 16 Tryz.underlying40 hj0 hy0 hy1 hyb rfl (by decide) _ _ _ rfl (hown.alloc _) _ 1 1 [.string s] rfl rfl (World.news_of_block (heap_alloc_new _ _)) (str_one s) (by decide) (by unfold maxLen;omega) (by omega) (by simp;omega) _ rfl ?_;intro g cap1 w3 hown3 hgrow hat3 hlt3))
     have HB3:Hid (Below w2.heap.size w2 w3):=(hb.alloc hb.size _).grown hgrow (by simp;omega) (fun q hq=>(hown.lt q hq).1)
     have HO3:Hid (w3.ownsRow w2.heap.size 9 1 (.slice (some ⟨g,0,none⟩) (i+1) cap1) (i+1) (((L.take (i+1)).map (·.nm)).map Value.string)):=by show World.ownsRow _ _ _ _ _ _ _;rw [HTK.out];exact hown3
     clear hown3 hgrow hat3 hlt3 hown hb e0
     go_wp2
     go_roundw
     case rel=>exact ⟨i+1,by go_num,by omega,HO3.out,HB3.out⟩
     case measure=>simp [intOf];omega
    ·have hil:i=L.length:=by omega
     have hown0:wr.ownsRow w2.heap.size 9 1 u10 (L.length+(othN L M 0).length) ((L.map (·.nm)++othN L M 0).map Value.string):=by
      rw [hil,List.take_length] at hown
      simpa [othN] using hown
     have HO0:Hid (wr.ownsRow w2.heap.size 9 1 u10 (L.length+(othN L M 0).length) ((L.map (·.nm)++othN L M 0).map Value.string)):=hown0
     have HBB:Hid (Below w2.heap.size w2 wr):=hb
     clear hown hb hil hi hown0
     go_wp2
     go_loopw [10,12] (fun vm vj wk=>∃j:Nat,vj=.int .i64 j/\j<=M.length/\wk.ownsRow w2.heap.size 9 1 vm (L.length+(othN L M j).length) ((L.map (·.nm)++othN L M j).map Value.string)/\Below w2.heap.size w2 wk) (fun _ vj _=>M.length - (intOf vj).toNat)
     case atStart=>exact ⟨0,rfl,Nat.zero_le _,HO0.out,HBB.out⟩
     case round =>
      obtain ⟨j,rfl,hj,hown,hb⟩:=hrel
      have HGR:Hid (w.grownBy wr none):=gb_trans HG.out (bel_gb hb)
      have hol:=oth_len L M j
      by_cases hlt:j < M.length
      ·obtain ⟨a,rfl,hcp,hat⟩:=ens_at (HM.out wr HGR.out) hlt
       obtain ⟨e0,-,-,-⟩:=hat j hlt
       have HST:Hid (othN L M (j+1)=othN L M j++(if hasNm L M[j].nm=true then [] else [M[j].nm])):=oth_step L M j hlt
       obtain ⟨s,hs⟩:∃s,M[j].nm=s:=⟨_,rfl⟩
       rw [hs] at e0 HST
       have HOW:Hid (wr.ownsRow w2.heap.size 9 1 u10 (L.length+(othN L M j).length) ((L.map (·.nm)++othN L M j).map Value.string)):=hown
       have HBJ:Hid (Below w2.heap.size w2 wr):=hb
       have he1:=e0
       clear hs hat hown hb
       go_wp2_with (first | (go_at_call 29;refine (CEL.out _ _ HGR.out).mono ?_))
       rintro e w3 ⟨k,rfl,hk,hg3⟩
       have e3:=hg3.cell he1 (by simp)
       have hown3:=own_stay HOW.out hg3
       have hb3:Below w2.heap.size w2 w3:=hbelow HBJ.out HBJ.out.size hg3
       obtain ⟨nn,hnn⟩:∃k,L.length+(othN L M j).length=k:=⟨_,rfl⟩
       have HNN:Hid (L.length+(othN L M j).length=nn):=hnn
       rw [hnn] at hown3
       have hn2:nn<=1048576:=by omega
       have hzz:=hb3.size
       rcases hk with ⟨rfl,hno⟩ | ⟨i2,hi2,rfl,hi2n,-⟩
       ·have HST2:Hid (othN L M (j+1)=othN L M j++[s]):=by show _=_;rw [HST.out,if_neg (by rw [hno];decide)]
        clear hno e0 he1 hg3 hnn
        go_wp2_with (first | (at_builtin;refine wpList_append_lies _ rfl _ _ 40 rfl w2.heap.size 9 j0 _ 1 16 Tryz.underlying40 hj0 hy0 hy1 hyb rfl (by decide) _ _ _ rfl (hown3.alloc _) _ 1 1 [.string s] rfl rfl (World.news_of_block (heap_alloc_new _ _)) (str_one s) (by decide) (by unfold maxLen;omega) (by omega) (by simp;omega) _ rfl ?_;intro g cap1 w4 hown4 hgrow hat3 hlt3))
        have HB4:Hid (Below w2.heap.size w2 w4):=(hb3.alloc hb3.size _).grown hgrow (by simp;omega) (fun q hq=>(hown3.lt q hq).1)
        have HO4:Hid (w4.ownsRow w2.heap.size 9 1 (.slice (some ⟨g,0,none⟩) (nn+1) cap1) (L.length+(othN L M (j+1)).length) ((L.map (·.nm)++othN L M (j+1)).map Value.string)):=by
         show World.ownsRow _ _ _ _ _ _ _
         have e1:L.length+(othN L M (j+1)).length=nn+1:=by rw [HST2.out,List.length_append,<-HNN.out];simp;omega
         have e2:(L.map (·.nm)++othN L M (j+1)).map Value.string=(L.map (·.nm)++othN L M j).map Value.string++[.string s]:=by rw [HST2.out,<-List.append_assoc,List.map_append];rfl
         rw [e1,e2];exact hown4
        clear hown4 hgrow hat3 hlt3 hown3 hb3 e3
        go_wp2
        go_roundw
        case rel=>exact ⟨j+1,by go_num,by omega,HO4.out,HB4.out⟩
        case measure=>simp [intOf];omega
       ·have hyes:hasNm L s=true:=(hasnm_iff L s).2 (List.mem_map.2 ⟨_,List.getElem_mem hi2,hi2n⟩)
        have HST2:Hid (othN L M (j+1)=othN L M j):=by show _=_;rw [HST.out,if_pos hyes,List.append_nil]
        have HO4:Hid (w3.ownsRow w2.heap.size 9 1 u10 (L.length+(othN L M (j+1)).length) ((L.map (·.nm)++othN L M (j+1)).map Value.string)):=by
         show World.ownsRow _ _ _ _ _ _ _
         rw [HST2.out,HNN.out];exact hown3
        have HB4:Hid (Below w2.heap.size w2 w3):=hb3
        have hne:¬ ((i2:Int) < 0):=by omega
        clear hyes e0 he1 hg3 hnn hown3 hb3 e3 hi2n
        go_wp2
        go_roundw
        case rel=>exact ⟨j+1,by go_num,by omega,HO4.out,HB4.out⟩
        case measure=>simp [intOf];omega
      ·have hjl:j=M.length:=by omega
       have htx:TxS wr u10 (namesN L M):=by
        rw [hjl] at hown
        exact txs_own (by unfold namesN;simp) hown
       obtain ⟨ou,cu,rfl⟩:=txs_slice htx
       have hnl:(namesN L M).length<=100:=by
        unfold namesN
        have:=oth_len L M M.length
        simp;omega
       have HN100:Hid ((namesN L M).length<=100):=hnl
       obtain ⟨nl,hnl'⟩:∃n,(namesN L M).length=n:=⟨_,rfl⟩
       have HNL:Hid ((namesN L M).length<=1048576):=by show _<=_;omega
       have HTX:Hid (TxS wr (.slice ou nl cu) (namesN L M)):=by rw [<-hnl'];exact htx
       rw [hnl'] at hnl
       try rw [hnl']
       clear hown hb hjl hj htx hnl'
       go_wp2_with (first | (go_at_call 30;refine (CS.out _ (namesN L M) _ HTX.out HNL.out).mono ?_))
       rintro e w4 ⟨v4,S,rfl,hown4,hp4,hr4,hb4⟩
       have hS:S=sortT (namesN L M):=sortT_one hp4 hr4
       have htx4:TxS w4 v4 S:=txs_own rfl hown4
       obtain ⟨o4,c4,rfl⟩:=txs_slice htx4
       have HP:Hid ((planB L M)=S.flatMap fun n=>lineT (fnd L n) (fnd M n) n):=by show _=_;rw [hS];rfl
       have HSI:Hid (∀n ∈ S,n ∈ namesN L M):=fun n hn=>hp4.subset hn
       have hsl:S.length<=100:=by rw [hp4.length_eq];exact HN100.out
       obtain ⟨q,hq⟩:∃q,S.length=q:=⟨_,rfl⟩
       have HQ:Hid (S.length=q):=hq
       have HTX4:Hid (TxS w4 (.slice o4 S.length c4) S):=htx4
       rw [hq] at hsl HTX4
       try rw [hq]
       have HG4:Hid (w.grownBy w4 none):=gb_trans HGR.out (bel_gb hb4)
       clear hown4 hp4 hr4 hb4 hS htx4 hq
       go_wp2
       go_loopw [13,14] (fun vo vk wk=>∃(k:Nat) (O:ByteArray),vk=.int .i64 k/\vo=.string O/\k<=q/\O.data.toList=(S.take k).flatMap (fun n=>lineT (fnd L n) (fnd M n) n)/\O.size<=k * 4194304/\w4.grownBy wk none) (fun _ vk _=>q - (intOf vk).toNat)
       case atStart=>exact ⟨0,⟨#[]⟩,rfl,rfl,Nat.zero_le _,by simp,by decide,gb_refl _ _⟩
       case round =>
        obtain ⟨k,O,rfl,rfl,hk,hO,hOs,hgk⟩:=hrel
        have HGK:Hid (w4.grownBy wr none):=hgk
        have HGW:Hid (w.grownBy wr none):=gb_trans HG4.out hgk
        have HO:Hid (O.data.toList=(S.take k).flatMap (fun n=>lineT (fnd L n) (fnd M n) n)):=hO
        by_cases hkl:k < q
        ·have hks:k < S.length:=by rw [HQ.out];exact hkl
         have htk:TxS wr (.slice o4 S.length c4) S:=by rw [HQ.out];exact HTX4.out.grow hgk
         obtain ⟨d,rfl,hdc,hdat⟩:=txs_at htk hks
         have g0:=hdat k hks
         have HST:Hid ((S.take (k+1)).flatMap (fun n=>lineT (fnd L n) (fnd M n) n)=(S.take k).flatMap (fun n=>lineT (fnd L n) (fnd M n) n)++lineT (fnd L S[k]) (fnd M S[k]) S[k]):=by
          show _=_
          rw [List.take_succ_eq_append_getElem hks,List.flatMap_append];simp
         have HIN:Hid (S[k] ∈ namesN L M):=HSI.out _ (List.getElem_mem _)
         obtain ⟨y,hy⟩:∃y,S[k]=y:=⟨_,rfl⟩
         rw [hy] at g0 HST HIN
         have hkI:(k:Int) < (q:Int):=by omega
         have hkc:k < c4:=by have:=HQ.out;omega
         clear hO hgk hdat htk hy
         go_wp2_with (first | (go_at_call 31;refine (CLN.out _ _ HIN.out HGW.out).mono ?_))
         rintro e w5 ⟨⟨T,rfl,hT⟩,hg5⟩
         have hTl:T.size<=4194304:=by
          have h1:=HLL.out y HIN.out
          rw [<-hT] at h1
          have h2:T.data.toList.length=T.size:=by simp
          omega
         have c1:∀wx,(Op.stringOp .add O T).run Tryz.prog wx=.ok (.string (cat O T)) wx:=fun wx=>add_cat _ _ wx (by omega)
         have l1:=cat_list O T
         have z1:=cat_size O T
         generalize cat O T=O1 at c1 l1 z1
         have HO1:Hid (O1.data.toList=(S.take (k+1)).flatMap (fun n=>lineT (fnd L n) (fnd M n) n)):=by show _=_;rw [l1,HO.out,HST.out,hT]
         have ho1:O1.size<=(k+1) * 4194304:=by omega
         have HG5:Hid (w4.grownBy w5 none):=gb_trans HGK.out hg5
         clear l1 z1 hT hg5 g0
         go_wp2
         go_roundw
         case rel=>exact ⟨k+1,O1,by go_num,rfl,by omega,HO1.out,ho1,HG5.out⟩
         case measure=>simp [intOf];omega
        ·have hke:k=q:=by omega
         have HF:Hid (O=⟨(planB L M).toArray⟩):=by
          show _=_
          apply txt_ext
          rw [HO.out,HP.out,hke,<-HQ.out,List.take_length]
         clear hO hgk hke hk hOs
         go_wp2
         refine bodyPost_ret (results_tmp3 (t:=4) (u:=5) (v:=6) rfl _ _ _) rfl ⟨?_,HGW.out⟩
         rw [HR.out,<-HF.out];rfl
  ·have hb:(E' != 0)=true:=by simp [hz']
   have HR:Hid (R=(⟨#[]⟩,E',(K':Int)+1000)):=by show R=_;rw [HPR.out];simp [hz']
   clear hz'
   go_wp2
   refine bodyPost_ret (results_tmp3 (t:=4) (u:=5) (v:=6) rfl _ _ _) rfl ⟨?_,HG.out⟩
   rw [HR.out]
   first | rfl | (go_num)
 ·have hb:(E != 0)=true:=by simp [hz]
  have HR:Hid (R=(⟨#[]⟩,E,(K:Int))):=by show R=_;rw [HPR.out,if_neg hz]
  clear hz
  go_wp2
  refine bodyPost_ret (results_tmp3 (t:=4) (u:=5) (v:=6) rfl _ _ _) rfl ⟨?_,HG.out⟩
  rw [HR.out];rfl
open Go.RowKit
set_option linter.unusedVariables false
set_option maxRecDepth 100000 in
set_option maxHeartbeats 1600000 in
theorem planPlansLaw (va vb:Value) (L M:List En) (w:World) (h:EnS w va L) (h':EnS w vb M) (hL:L.length<=1048576) (hM:M.length<=1048576)
  (hV:∀x ∈ L,x.nm.size<=1048576/\x.ve.size<=1048576/\x.dg.size<=1048576) (hV':∀x ∈ M,x.nm.size<=1048576/\x.ve.size<=1048576/\x.dg.size<=1048576) (hN:∀x ∈ L,x.nd.length<=1048576) (hN':∀x ∈ M,x.nd.length<=1048576) (hS:∀x ∈ L,∀y ∈ x.nd,y.size<=1048576) (hS':∀x ∈ M,∀y ∈ x.nd,y.size<=1048576) :
  Calls Tryz.prog 5 #[va,vb] w fun e w'=>e=.returned (.bool true)/\w.grownBy w' none:=by
 have CEL:Hid (∀w',w.grownBy w' none->Calls Tryz.prog 7 #[va] w' fun e w''=>∃o c,e=.returned (.slice o L.length c)/\(EnS w'' (.slice o L.length c) L/\Flat (.slice o L.length c))/\w'.grownBy w'' none):=fun w' hg=>cEntriesF va L w' (h.grow hg) hL hN
 have CEM:Hid (∀w',w.grownBy w' none->Calls Tryz.prog 7 #[vb] w' fun e w''=>∃o c,e=.returned (.slice o M.length c)/\(EnS w'' (.slice o M.length c) M/\Flat (.slice o M.length c))/\w'.grownBy w'' none):=fun w' hg=>cEntriesF vb M w' (h'.grow hg) hM hN'
 have CP:Hid (∀v v' w',(EnS w' v L/\Flat v)->(EnS w' v' M/\Flat v')->Calls Tryz.prog 14 #[v,v'] w' fun e w''=>e=.returned (.tuple #[.string (planR L M).1,.int .i64 (planR L M).2.1,.int .i64 (planR L M).2.2])/\w'.grownBy w'' none):=fun v v' w' h1 h2=>plan_any v v' L M w' h1.1 h2.1 h1.2 h2.2 hL hM hV hV' hN hN' hS hS'
 have CR:Hid (∀w',w.grownBy w' none->Calls Tryz.prog 15 #[va,vb] w' fun e w''=>e=.returned (.tuple #[.string (planR L M).1,.int .i64 (planR L M).2.1,.int .i64 (planR L M).2.2])/\w'.grownBy w'' none):=fun w' hg=>refPlan_any va vb L M w' (h.grow hg) (h'.grow hg) hL hM hV hV' hN hN' hS hS'
 have CSL:Hid (∀v w',EnS w' v L->w.grownBy w' none->Calls Tryz.prog 10 #[v,va] w' fun e w''=>e=.returned (.bool true)/\w'.grownBy w'' none):=fun v w' h1 hg=>sameEntries_any v va L w' h1 (h.grow hg) hL hN
 have CSM:Hid (∀v w',EnS w' v M->w.grownBy w' none->Calls Tryz.prog 10 #[v,vb] w' fun e w''=>e=.returned (.bool true)/\w'.grownBy w'' none):=fun v w' h1 hg=>sameEntries_any v vb M w' h1 (h'.grow hg) hM hN'
 have CM:Hid (∀n w,Calls Tryz.prog 11 #[.int .i64 n] w fun e w'=>e=.returned (.int .i64 n)/\w.grownBy w' none):=fun n w=>lnum_gb n w
 obtain ⟨o0,c0,rfl⟩:=ens_slice h
 obtain ⟨p0,d0,rfl⟩:=ens_slice h'
 obtain ⟨T,hT⟩:∃T,(planR L M).1=T:=⟨_,rfl⟩
 obtain ⟨E,hE⟩:∃E,(planR L M).2.1=E:=⟨_,rfl⟩
 obtain ⟨K,hK⟩:∃K,(planR L M).2.2=K:=⟨_,rfl⟩
 rw [hE,hK,hT] at CP CR
 have hee:(E == E)=true:=by simp
 have hkk:(K == K)=true:=by simp
 have htt:(T.toList == T.toList)=true:=by simp
 clear h h' hV hV' hN hN' hS hS' hE hK hT
 have HG:Hid (w.grownBy w none):=gb_refl _ _
 go_enter Tryz.func5,Tryz.ntmps5
 go_wp2_with (first | (go_at_call 7;refine (CEL.out _ HG.out).mono ?_))
 rintro e w1 ⟨o1,c1,rfl,hr,hg⟩
 replace HG:Hid (w.grownBy w1 none):=gb_trans HG.out hg
 have HR1:Hid (EnS w1 (.slice o1 L.length c1) L/\Flat (.slice o1 L.length c1)):=hr
 clear hg hr
 go_wp2_with (first | (go_at_call 7;refine (CEM.out _ HG.out).mono ?_))
 rintro e w2 ⟨o2,c2,rfl,hr,hg⟩
 replace HG:Hid (w.grownBy w2 none):=gb_trans HG.out hg
 replace HR1:Hid (EnS w2 (.slice o1 L.length c1) L/\Flat (.slice o1 L.length c1)):=⟨HR1.out.1.grow hg,HR1.out.2⟩
 have HR2:Hid (EnS w2 (.slice o2 M.length c2) M/\Flat (.slice o2 M.length c2)):=hr
 clear hg hr
 go_wp2_with (first | (go_at_call 14;refine (CP.out _ _ _ HR1.out HR2.out).mono ?_))
 rintro e w3 ⟨rfl,hg⟩
 replace HG:Hid (w.grownBy w3 none):=gb_trans HG.out hg
 replace HR1:Hid (EnS w3 (.slice o1 L.length c1) L/\Flat (.slice o1 L.length c1)):=⟨HR1.out.1.grow hg,HR1.out.2⟩
 replace HR2:Hid (EnS w3 (.slice o2 M.length c2) M/\Flat (.slice o2 M.length c2)):=⟨HR2.out.1.grow hg,HR2.out.2⟩
 clear hg
 go_wp2_with (first | (go_at_call 15;refine (CR.out _ HG.out).mono ?_))
 rintro e w4 ⟨rfl,hg⟩
 replace HG:Hid (w.grownBy w4 none):=gb_trans HG.out hg
 replace HR1:Hid (EnS w4 (.slice o1 L.length c1) L/\Flat (.slice o1 L.length c1)):=⟨HR1.out.1.grow hg,HR1.out.2⟩
 replace HR2:Hid (EnS w4 (.slice o2 M.length c2) M/\Flat (.slice o2 M.length c2)):=⟨HR2.out.1.grow hg,HR2.out.2⟩
 clear hg
 go_wp2_with (first | (go_at_call 10;refine (CSL.out _ _ HR1.out.1 HG.out).mono ?_))
 rintro e w5 ⟨rfl,hg⟩
 replace HG:Hid (w.grownBy w5 none):=gb_trans HG.out hg
 replace HR2:Hid (EnS w5 (.slice o2 M.length c2) M/\Flat (.slice o2 M.length c2)):=⟨HR2.out.1.grow hg,HR2.out.2⟩
 clear hg HR1
 go_wp2_with (first | (go_at_call 10;refine (CSM.out _ _ HR2.out.1 HG.out).mono ?_))
 rintro e w6 ⟨rfl,hg⟩
 replace HG:Hid (w.grownBy w6 none):=gb_trans HG.out hg
 clear hg HR2
 go_wp2_with (first | (go_at_call 11;refine (CM.out _ _).mono ?_;rintro e w7 ⟨rfl,hg7⟩))
 go_ret
 exact ⟨rfl,gb_trans HG.out hg7⟩
end Go.Proofs.YtpeghomkaphdcaaGreatDoor
