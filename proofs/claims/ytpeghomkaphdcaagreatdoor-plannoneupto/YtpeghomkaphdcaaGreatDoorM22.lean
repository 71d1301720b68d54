import Derived.Test.YtpeghomkaphdcaaGreatDoorM21
import Derived.Test.YtpeghomkaphdcaaGreatDoorM02
import Derived.Test.YtpeghomkaphdcaaGreatDoorRows
import Derived.ProofKit
import Derived.OpenShut
import Derived.ShutString
import Derived.SizedLaws
import Derived.Lib.SmallJoins
import Derived.Deep.Slices
import Derived.Carry
import Derived.DataReads
namespace Go.Proofs.YtpeghomkaphdcaaGreatDoor
open Go.RowKit Go.Maps Go.Sort Go.Shelf
set_option linter.unusedVariables false
set_option maxRecDepth 100000 in
set_option maxHeartbeats 3200000 in
theorem plan_any (v v':Value) (L M:List En) (w:World) (h:EnS w v L) (h':EnS w v' M) (hf:Flat v) (hf':Flat v') (hL:L.length<=1048576) (hM:M.length<=1048576)
  (hV:∀x ∈ L,x.nm.size<=1048576/\x.ve.size<=1048576/\x.dg.size<=1048576) (hV':∀x ∈ M,x.nm.size<=1048576/\x.ve.size<=1048576/\x.dg.size<=1048576) (hN:∀x ∈ L,x.nd.length<=1048576) (hN':∀x ∈ M,x.nd.length<=1048576) (hS:∀x ∈ L,∀y ∈ x.nd,y.size<=1048576) (hS':∀x ∈ M,∀y ∈ x.nd,y.size<=1048576) :
  Calls Tryz.prog 14 #[v,v'] w fun e w'=>e=.returned (.tuple #[.string (planR L M).1,.int .i64 (planR L M).2.1,.int .i64 (planR L M).2.2])/\w.grownBy w' none:=by
 have CPL:Hid (∀w',w.grownBy w' none->Calls Tryz.prog 8 #[v] w' fun e w''=>e=.returned (.tuple #[.string (lockR L),.int .i64 (lockFrom L L.length).1,.int .i64 ((lockFrom L L.length).2:Int)])/\w'.grownBy w'' none):=fun w' hg=>bPrint_any v L w' (h.grow hg) hL hV hN hS
 have CPM:Hid (∀w',w.grownBy w' none->Calls Tryz.prog 8 #[v'] w' fun e w''=>e=.returned (.tuple #[.string (lockR M),.int .i64 (lockFrom M M.length).1,.int .i64 ((lockFrom M M.length).2:Int)])/\w'.grownBy w'' none):=fun w' hg=>bPrint_any v' M w' (h'.grow hg) hM hV' hN' hS'
 have HSM:Hid ((lockFrom L L.length).1=0->L.length<=50/\(L.map (·.nm)).Nodup):=fun h0=>⟨(lock_small L h0).1,(lock_small L h0).2.2⟩
 have HSM':Hid ((lockFrom M M.length).1=0->M.length<=50/\(M.map (·.nm)).Nodup):=fun h0=>⟨(lock_small M h0).1,(lock_small M h0).2.2⟩
 have HPR:Hid (planR L M=if (lockFrom L L.length).1=0 then if (lockFrom M M.length).1=0 then (⟨(planB L M).toArray⟩,0,0) else (⟨#[]⟩,(lockFrom M M.length).1,((lockFrom M M.length).2:Int)+1000) else (⟨#[]⟩,(lockFrom L L.length).1,((lockFrom L L.length).2:Int))):=rfl
 have HK:Hid ((lockFrom M M.length).2<=M.length):=lock_le M
 obtain ⟨o,c,rfl⟩:=ens_slice h
 obtain ⟨o',c',rfl⟩:=ens_slice h'
 have hs1:(oA o).spot=none:=by
  cases o with
  | none=>rfl
  | some a=>exact hf a _ _ rfl
 have hs2:(oA o').spot=none:=by
  cases o' with
  | none=>rfl
  | some a=>exact hf' a _ _ rfl
 have CPA:Hid (∀w',w.grownBy w' none->(L.map (·.nm)).Nodup->(M.map (·.nm)).Nodup->Calls Tryz.prog 23 #[.slice o L.length c,.slice o' M.length c'] w' fun e w''=>∃B,e=.returned (.map (some B))/\w''.ownsMap Tryz.prog 9 pairR B (L.length+M.length) (prB L M (oA o) (oA o') M.length)/\w'.grownBy w'' none):=fun w' hg h1 h2=>pairsOf_any o o' c c' L M w' (h.grow hg) (h'.grow hg) hs1 hs2 hL hM (fun x hx=>(hV x hx).1) (fun x hx=>(hV' x hx).1) h1 h2
 have CLN:Hid (∀n w',n ∈ namesN L M->(L.map (·.nm)).Nodup->(M.map (·.nm)).Nodup->w.grownBy w' none->Calls Tryz.prog 27 #[.agg #[.pointer (ptr L (oA o) n),.pointer (ptr M (oA o') n)],.string n] w' fun e w''=>(∃T:ByteArray,e=.returned (.string T)/\T.data.toList=lineT (fnd L n) (fnd M n) n)/\w'.grownBy w'' none):=fun n w' hn h1 h2 hg=>pLine_any L M (oA o) (oA o') n w' (fun j hj=>(ens_row (h.grow hg) hj).2.2 j hj) (fun j hj=>(ens_row (h'.grow hg) hj).2.2 j hj) h1 h2 hn (names_small L M (fun x hx=>(hV x hx).1) (fun x hx=>(hV' x hx).1) n hn) (fun x hx=>(hV x hx).2.1) (fun x hx=>(hV' x hx).2.1)
 have HLL:Hid (∀n ∈ namesN L M,(lineT (fnd L n) (fnd M n) n).length<=4194304):=fun n hn=>line_len _ _ n (fun x hx=>(hV x (fnd_mem hx)).2.1) (fun x hx=>(hV' x (fnd_mem hx)).2.1) (names_small L M (fun x hx=>(hV x hx).1) (fun x hx=>(hV' x hx).1) n hn)
 have HNS:Hid (∀n ∈ namesN L M,n.size<=1048576):=fun n hn=>names_small L M (fun x hx=>(hV x hx).1) (fun x hx=>(hV' x hx).1) n hn
 have HOK:Hid (∀n,okP (ptr L (oA o) n)=true/\okP (ptr M (oA o') n)=true):=fun n=>⟨ptr_ok hs1 n,ptr_ok hs2 n⟩
 obtain ⟨A,hA⟩:∃A,oA o=A:=⟨_,rfl⟩
 obtain ⟨A',hA'⟩:∃A,oA o'=A:=⟨_,rfl⟩
 rw [hA,hA'] at CPA CLN HOK
 obtain ⟨R,hR⟩:∃R,planR L M=R:=⟨_,rfl⟩
 rw [hR] at HPR ⊢
 obtain ⟨E,hE⟩:∃E,(lockFrom L L.length).1=E:=⟨_,rfl⟩
 obtain ⟨E',hE'⟩:∃E,(lockFrom M M.length).1=E:=⟨_,rfl⟩
 obtain ⟨K,hK⟩:∃K,(lockFrom L L.length).2=K:=⟨_,rfl⟩
 obtain ⟨K',hK'⟩:∃K,(lockFrom M M.length).2=K:=⟨_,rfl⟩
 rw [hE,hE',hK,hK'] at HPR
 rw [hE,hK] at CPL
 rw [hE',hK'] at CPM
 rw [hE] at HSM
 rw [hE'] at HSM'
 rw [hK'] at HK
 have hk1:K'<=1048576:=Nat.le_trans HK.out hM
 clear h h' hf hf' hV hV' hN hN' hS hS' hR hE hE' hK hK' hs1 hs2 hA hA'
 have HG:Hid (w.grownBy w none):=gb_refl _ _
 go_enter Tryz.func14,Tryz.ntmps14
 go_wp2_with (first | (go_at_call 8;refine (CPL.out _ HG.out).mono ?_))
 rintro e w1 rfl hg
 replace HG:Hid (w.grownBy w1 none):=gb_trans HG.out hg
 clear hg
 by_cases hz:E=0
 ·subst hz
  go_wp2_with (first | (go_at_call 8;refine (CPM.out _ HG.out).mono ?_))
  rintro e w2 ⟨rfl,hg⟩
  replace HG:Hid (w.grownBy w2 none):=gb_trans HG.out hg
  clear hg
  by_cases hz':E'=0
  ·subst hz'
   obtain ⟨hl50,hnd⟩:=HSM.out (by trivial)
   obtain ⟨hm50,hnd'⟩:=HSM'.out (by trivial)
   have HND:Hid ((L.map (·.nm)).Nodup):=hnd
   have HND':Hid ((M.map (·.nm)).Nodup):=hnd'
   have HR:Hid (R=(⟨(planB L M).toArray⟩,0,0)):=by show R=_;rw [HPR.out];simp
   clear hnd hnd'
   go_wp2_with (first | (go_at_call 23;refine (CPA.out _ HG.out HND.out HND'.out).mono ?_))
   rintro e w3 ⟨B,rfl,hown,hg⟩
   replace HG:Hid (w.grownBy w3 none):=gb_trans HG.out hg
   obtain ⟨Q,hQ⟩:∃Q,w3.heap.size=Q:=⟨_,rfl⟩
   have HQ:Hid (w3.heap.size=Q):=hQ
   have hbn:=bld_new w3
   rw [hQ] at hbn
   have HBN:Hid (Bld Q [] (w3.alloc (.cells #[.pointer none,.slice none 0 0] 55))):=hbn
   have HOW:Hid (w3.ownsMap Tryz.prog 9 pairR B (L.length+M.length) (prB L M A A' M.length)):=hown
   have CSO:Hid (Calls Tryz.prog 24 #[.func (.func 46) #[] #[.pointer (some ⟨Q+1,0,none⟩)]] ((w3.alloc (.cells #[.pointer none,.slice none 0 0] 55)).alloc (.cells #[.map (some B)] 50)) fun e w'=>∃o c,e=.returned (.slice o (namesN L M).length c)/\w'.ownsRow (Q+1+1) 9 1 (.slice o (namesN L M).length c) (namesN L M).length ((sortT (namesN L M)).map Value.string)/\((w3.alloc (.cells #[.pointer none,.slice none 0 0] 55)).alloc (.cells #[.map (some B)] 50)).grownBy w' none) :=
    cNames L M A A' B (Q+1) _ (by rw [World.size_alloc,hQ]) (hown.alloc _) (by omega) HND.out HND'.out
   have HNL:Hid ((namesN L M).length<=100):=by
    show _<=_
    unfold namesN
    have:=oth_len L M M.length
    simp;omega
   have CW:Hid (∀l s wx,Bld Q l wx->l.length+s.size<=140737488355328->Q<=wx.heap.size->Calls Tryz.prog 26 #[.pointer (some ⟨Q,0,none⟩),.string s] wx (WrS Q (l++s.data.toList) wx)):=fun l s wx h1 h2 h3=>cWriteS Q l s wx h1 h2 h3
   have CB:Hid (∀l wx,Bld Q l wx->Q<=wx.heap.size->Calls Tryz.prog 28 #[.pointer (some ⟨Q,0,none⟩)] wx fun e w'=>e=.returned (.string ⟨l.toArray⟩)/\Below Q wx w'):=fun l wx h1 h2=>cBuilt Q l wx h1 h2
   clear hg hbn hown
   go_wp2_with (first | (go_at_call 25;refine (keys_any _ _).mono ?_;rintro e w' ⟨rfl,rfl⟩) | (go_at_call 24;refine CSO.out.mono ?_))
   rintro e w4 ⟨o4,c4,rfl,hrow,hg4⟩
   obtain ⟨S,hS⟩:∃S,sortT (namesN L M)=S:=⟨_,rfl⟩
   obtain ⟨q,hq⟩:∃q,(namesN L M).length=q:=⟨_,rfl⟩
   have HSL:Hid (S.length=q):=by show S.length=q;rw [<-hS,(sortT_perm _).length_eq,hq]
   have HSI:Hid (∀n ∈ S,n ∈ namesN L M):=fun n hn=>by rw [<-hS] at hn;exact (sortT_perm _).subset hn
   have HP:Hid ((planB L M)=S.flatMap fun n=>lineT (fnd L n) (fnd M n) n):=by show _=_;rw [<-hS];rfl
   rw [hS,hq] at hrow
   have hq100:q<=100:=by rw [<-hq];exact HNL.out
   have HI:Hid (Bld Q ((S.take 0).flatMap fun n=>lineT (fnd L n) (fnd M n) n) w4/\Below Q w3 w4/\Q < w4.heap.size/\w4.ownsRow (Q+1+1) 9 1 (.slice o4 q c4) q (S.map Value.string)):=by
    have hsz:=hg4.size
    rw [World.size_alloc,World.size_alloc,HQ.out] at hsz
    refine ⟨(HBN.out.alloc _).grow hg4,?_,by omega,hrow⟩
    have hb1:Below Q w3 ((w3.alloc (.cells #[.pointer none,.slice none 0 0] 55)).alloc (.cells #[.map (some B)] 50)):=((Below.refl Q w3).alloc (by rw [HQ.out];exact Nat.le_refl _) _).alloc (by rw [World.size_alloc,HQ.out];omega) _
    exact hbelow hb1 (by rw [World.size_alloc,World.size_alloc,HQ.out];omega) hg4
   try rw [hq]
   clear hS hq hrow hg4 hQ HBN CSO
   go_wp2
   go_loopw [45] (fun vi wr=>∃k:Nat,vi=.int .i64 k/\k<=q/\(Bld Q ((S.take k).flatMap fun n=>lineT (fnd L n) (fnd M n) n) wr/\Below Q w3 wr/\Q < wr.heap.size/\wr.ownsRow (Q+1+1) 9 1 (.slice o4 q c4) q (S.map Value.string))/\((S.take k).flatMap fun n=>lineT (fnd L n) (fnd M n) n).length<=k * 4194304) (fun vi _=>q - (intOf vi).toNat)
   case atStart=>exact ⟨0,rfl,Nat.zero_le _,HI.out,by simp⟩
   case round =>
    obtain ⟨k,rfl,hk,⟨hbl,hbw,hbs,hrow⟩,hln⟩:=hrel
    have HGW:Hid (w3.grownBy wr none):=⟨hbw.os,hbw.tape,hbw.output,hbw.size,fun j hj _=>hbw.block j (by rw [<-HQ.out];exact hj)⟩
    have HBW:Hid (Below Q w3 wr):=hbw
    have HROW:Hid (wr.ownsRow (Q+1+1) 9 1 (.slice o4 q c4) q (S.map Value.string)):=hrow
    have HBL:Hid (Bld Q ((S.take k).flatMap fun n=>lineT (fnd L n) (fnd M n) n) wr):=hbl
    obtain ⟨l,hl⟩:∃l,(S.take k).flatMap (fun n=>lineT (fnd L n) (fnd M n) n)=l:=⟨_,rfl⟩
    by_cases hkq:k < q
    ·have hks:k < S.length:=by rw [HSL.out];exact hkq
     have htx:TxS wr (.slice o4 S.length c4) S:=by
      have:=txs_own (n:=q) HSL.out.symm hrow
      rw [HSL.out];exact this
     obtain ⟨d,rfl,hdc,hdat⟩:=txs_at htx hks
     have g0:=hdat k hks
     have HST:Hid ((S.take (k+1)).flatMap (fun n=>lineT (fnd L n) (fnd M n) n)=l++lineT (fnd L S[k]) (fnd M S[k]) S[k]):=by
      show _=_
      rw [List.take_succ_eq_append_getElem hks,List.flatMap_append,hl];simp
     have HIN:Hid (S[k] ∈ namesN L M):=HSI.out _ (List.getElem_mem _)
     obtain ⟨y,hy⟩:∃y,S[k]=y:=⟨_,rfl⟩
     rw [hy] at g0 HST HIN
     rw [hl] at HBL hln
     have hyz:y.size<=1048576:=HNS.out y HIN.out
     have hkey:keyOf Tryz.prog 9 (.string y)=some (keyT y):=Go.WideMaps.keyOf_string_mk Tryz.underlying9 (by unfold maxLen;omega)
     have hat:(prB L M A A' M.length).atKey (keyT y) (.agg [codeP none,codeP none])=.agg [codeP (ptr L A y),codeP (ptr M A' y)]:=prB_all L M A A' y HND.out HND'.out
     obtain ⟨ok1,ok2⟩:=HOK.out y
     have CL1:Hid (∀w',w.grownBy w' none->Calls Tryz.prog 27 #[.agg #[.pointer (ptr L A y),.pointer (ptr M A' y)],.string y] w' fun e w''=>(∃T:ByteArray,e=.returned (.string T)/\T.data.toList=lineT (fnd L y) (fnd M y) y)/\w'.grownBy w'' none):=fun w' hg=>CLN.out y w' HIN.out HND.out HND'.out hg
     obtain ⟨P1,hP1⟩:∃P,ptr L A y=P:=⟨_,rfl⟩
     obtain ⟨P2,hP2⟩:∃P,ptr M A' y=P:=⟨_,rfl⟩
     rw [hP1,hP2] at CL1 hat
     rw [hP1] at ok1
     rw [hP2] at ok2
     have hownr:=HOW.out.kept HGW.out (by simp)
     have HGR:Hid (w.grownBy wr none):=gb_trans HG.out HGW.out
     have hkc:k < c4:=by have:=HSL.out;omega
     clear hbl hbw hrow hdat htx hy hl hP1 hP2
     go_wp2_with (first | (at_lookup;refine wpList_lookup_pair _ rfl _ _ 50 rfl 9 62 keyS Tryz.underlying50 (zeroP _) B _ _ rfl hownr _ _ rfl hkey P1 P2 ok1 ok2 hat ?_) | (go_at_call 27;refine (CL1.out _ HGR.out).mono ?_))
     rintro e w5 ⟨⟨T,rfl,hT⟩,hg5⟩
     have hTl:T.size<=4194304:=by
      have h1:=HLL.out y HIN.out
      rw [<-hT] at h1
      have h2:T.data.toList.length=T.size:=by simp
      omega
     have hb5:Bld Q l w5:=HBL.out.grow hg5
     have hs5:=hg5.size
     have HW5:Hid (Below Q w3 w5):=hbelow HBW.out (Nat.le_of_lt hbs) hg5
     have HR5:Hid (w5.ownsRow (Q+1+1) 9 1 (.slice (some d) q c4) q (S.map Value.string)):=own_stay HROW.out hg5
     have HT:Hid (T.data.toList=lineT (fnd L y) (fnd M y) y):=hT
     have HC:Hid (Calls Tryz.prog 26 #[.pointer (some ⟨Q,0,none⟩),.string T] w5 (WrS Q (l++T.data.toList) w5)):=CW.out l T w5 hb5 (by omega) (by omega)
     clear hT hb5 hg5 hownr hat g0
     go_wp2_with (first | (go_at_call 26;refine HC.out.mono ?_))
     rintro e w6 ⟨⟨z,rfl⟩,hb6,hw6,hr6⟩
     have HI6:Hid (Bld Q ((S.take (k+1)).flatMap fun n=>lineT (fnd L n) (fnd M n) n) w6/\Below Q w3 w6/\Q < w6.heap.size/\w6.ownsRow (Q+1+1) 9 1 (.slice (some d) q c4) q (S.map Value.string)):=by
      refine ⟨by rw [HST.out,<-HT.out];exact hb6,HW5.out.trans hw6,?_,row_keep HR5.out (fun g cs hb hg=>hr6 g cs hg (by omega))⟩
      have:=hw6.size
      omega
     have HL6:Hid (((S.take (k+1)).flatMap fun n=>lineT (fnd L n) (fnd M n) n).length<=(k+1) * 4194304):=by
      show _<=_
      have h2:T.data.toList.length=T.size:=by simp
      rw [HST.out,<-HT.out,List.length_append];omega
     clear hb6 hw6 hr6
     go_wp2
     go_roundw
     case rel=>exact ⟨k+1,by go_num,by omega,HI6.out,HL6.out⟩
     case measure=>simp [intOf];omega
    ·have hke:k=q:=by omega
     have HF:Hid (l=planB L M):=by
      show _=_
      rw [<-hl,HP.out,hke,<-HSL.out,List.take_length]
     rw [hl] at HBL
     have HC:Hid (Calls Tryz.prog 28 #[.pointer (some ⟨Q,0,none⟩)] wr fun e w'=>e=.returned (.string ⟨l.toArray⟩)/\Below Q wr w'):=CB.out l wr HBL.out (Nat.le_of_lt hbs)
     clear hbl hbw hrow hln hke hk hl
     go_wp2_with (first | (go_at_call 28;refine HC.out.mono ?_))
     rintro e w7 ⟨rfl,hb7⟩
     have HG7:Hid (w.grownBy w7 none):=gb_trans HG.out (by
      have hb:=HBW.out.trans hb7
      exact ⟨hb.os,hb.tape,hb.output,hb.size,fun j hj _=>hb.block j (by rw [<-HQ.out];exact hj)⟩)
     clear hb7
     go_wp2
     refine bodyPost_ret (results_tmp3 (t:=4) (u:=5) (v:=6) rfl _ _ _) rfl ⟨?_,HG7.out⟩
     rw [HR.out,HF.out];rfl
  ·have hb:(E' != 0)=true:=by simp [hz']
   have HR:Hid (R=(⟨#[]⟩,E',(K':Int)+1000)):=by show R=_;rw [HPR.out];simp [hz']
   clear hz'
   go_wp2
   refine bodyPost_ret (results_tmp3 (t:=4) (u:=5) (v:=6) rfl _ _ _) rfl ⟨?_,HG.out⟩
   rw [HR.out,Int.add_comm]
   first | rfl | (go_num)
 ·have hb:(E != 0)=true:=by simp [hz]
  have HR:Hid (R=(⟨#[]⟩,E,(K:Int))):=by show R=_;rw [HPR.out,if_neg hz]
  clear hz
  go_wp2
  refine bodyPost_ret (results_tmp3 (t:=4) (u:=5) (v:=6) rfl _ _ _) rfl ⟨?_,HG.out⟩
  rw [HR.out];rfl
end Go.Proofs.YtpeghomkaphdcaaGreatDoor
namespace Go.Proofs.YtpeghomkaphdcaaGreatDoor
open Go.ChangeShapes Go.WideShapes Go.ChangeAt Go.RowKit Go.Joins
set_option linter.unusedVariables false
instance:Inhabited En:=⟨⟨⟨#[]⟩,⟨#[]⟩,⟨#[]⟩,[]⟩⟩
theorem cellsEn:Tryz.prog.cellsOf 42=4:=by kernel_rfl
theorem cellsTx:Tryz.prog.cellsOf 9=1:=by kernel_rfl
theorem one_bulkE {H:Type} (d:DataW H):1<=Rows.uptoBulk d:=by
 cases d with
 | lit l=>cases l <;> simp [Rows.uptoBulk]
 | _=>simp [Rows.uptoBulk]
theorem len_bulkE {H:Type} (l:List (DataW H)):l.length<=Rows.uptoBulkAll l:=by
 induction l with
 | nil=>simp
 | cons d l ih =>
  have:=one_bulkE d
  simp only [Rows.uptoBulkAll,List.length_cons]
  omega
theorem mem_bulkE {H:Type} (l:List (DataW H)) (d:DataW H) (h:d ∈ l):Rows.uptoBulk d<=Rows.uptoBulkAll l:=by
 induction l with
 | nil=>cases h
 | cons e l ih =>
  simp only [Rows.uptoBulkAll]
  rcases List.mem_cons.1 h with rfl | h
  ·omega
  ·have:=ih h
   omega
theorem list4E {α:Type} {cs:List α} (h:cs.length=4):∃c0 c1 c2 c3,cs=[c0,c1,c2,c3]:=by
 match cs,h with
 | [c0,c1,c2,c3],_=>exact ⟨c0,c1,c2,c3,rfl⟩
set_option maxRecDepth 100000 in
theorem open_texts {H:Type} {enc:TypeId × Value->H} {w:World} {base:Nat} {spare:Nat->Bool} {held:Bool} {fuel:Nat} {v:Value} {x:DataW H × List MemPlace}
  (h:DataW.trod enc Tryz.prog w base spare held fuel 40 [v]=some x):∃L:List ByteArray,TxS w v L/\L.length<=Rows.uptoBulk x.1/\∀y ∈ L,y.size<=Rows.uptoBulk x.1:=by
 have hu:=Tryz.underlying40
 rcases Deep.open_slice hu h with ⟨hcs,hx⟩ | ⟨a,len,cap,m,n,D,Pl,hcs,hb,hl,hm,hmm,hx,hel⟩
 ·simp at hcs
  exact ⟨[],Or.inl ⟨hcs,rfl⟩,by simp,by simp⟩
 ·simp at hcs
  subst hcs
  have hle:len<=m:=by rw [hmm];split <;> omega
  have hS:∀i,i < len->∃s:ByteArray,w.cell? (a.add i)=some (.string s)/\s.size<=Rows.uptoBulk (D i):=by
   intro i hi
   obtain ⟨cs',h1,h2⟩:=hel i (by omega)
   rw [cellsTx] at h1
   obtain ⟨-,h4,h3⟩:=World.cells?_some h1
   obtain ⟨a0,e0,hd,w0⟩:=DataW.trod_string Tryz.underlying9 h2
   have q0:=h3 0 (by omega)
   rw [Deep.add_add,e0] at q0
   refine ⟨a0,by simpa using q0,?_⟩
   have hd':=congrArg Prod.fst hd
   simp only [] at hd'
   rw [hd']
   simp only [Rows.uptoBulk,Array.length_toList]
   have e1:a0.data.size=a0.size:=rfl
   omega
  obtain ⟨S,hS⟩:=Deep.choose_lt hS
  have hlen:((List.range len).map S).length=len:=by simp
  refine ⟨(List.range len).map S,Or.inr ⟨a,cap,by rw [hlen],by rw [hlen];exact hl,fun i hi=>?_⟩,?_,fun y hy=>?_⟩
  ·have hi':i < len:=by rw [hlen] at hi;exact hi
   rw [List.getElem_map,List.getElem_range]
   exact (hS i hi').1
  ·rw [hx,hlen]
   simp only [Rows.uptoBulk]
   have:=len_bulkE ((List.range len).map D)
   simp only [List.length_map,List.length_range] at this
   omega
  ·obtain ⟨i,hi,rfl⟩:=List.mem_map.1 hy
   have hm:=mem_bulkE ((List.range len).map D) (D i) (List.mem_map.2 ⟨i,hi,rfl⟩)
   have:=(hS i (List.mem_range.1 hi)).2
   rw [hx];simp only [Rows.uptoBulk];omega
set_option maxRecDepth 100000 in
set_option maxHeartbeats 800000 in
theorem en_cells {H:Type} {enc:TypeId × Value->H} {w:World} {base:Nat} {spare:Nat->Bool} {held:Bool} {fuel:Nat} {cs:List Value} {x:DataW H × List MemPlace}
  (h:DataW.trod enc Tryz.prog w base spare held fuel 42 cs=some x) :
  ∃(r:En) (v:Value),cs=[.string r.nm,.string r.ve,.string r.dg,v]/\TxS w v r.nd/\r.nm.size<=Rows.uptoBulk x.1/\r.ve.size<=Rows.uptoBulk x.1/\r.dg.size<=Rows.uptoBulk x.1/\r.nd.length<=Rows.uptoBulk x.1/\∀y ∈ r.nd,y.size<=Rows.uptoBulk x.1:=by
 have hu:=Tryz.underlying42
 obtain ⟨xs,n,_,hx,hl,hlen,hfs⟩:=DataW.trod_struct hu h
 obtain ⟨c0,c1,c2,c3,rfl⟩:=list4E (hl.trans cellsEn)
 match xs,hlen with
 | [y0,y1,y2,y3],_ =>
  have k9:Tryz.prog.cellsOf 9=1:=by kernel_rfl
  have k8:Tryz.prog.cellsOf 40=1:=by kernel_rfl
  have g0:=hfs 0 _ rfl
  have g1:=hfs 1 _ rfl
  have g2:=hfs 2 _ rfl
  have g3:=hfs 3 _ rfl
  simp [k8,k9] at g0 g1 g2 g3
  obtain ⟨a0,e0,rfl,w0⟩:=DataW.trod_string Tryz.underlying9 g0
  obtain ⟨a1,e1,rfl,w1⟩:=DataW.trod_string Tryz.underlying9 g1
  obtain ⟨a2,e2,rfl,w2⟩:=DataW.trod_string Tryz.underlying9 g2
  obtain ⟨N,hN,hNl,hNy⟩:=open_texts g3
  simp at e0 e1 e2
  subst e0
  subst e1
  subst e2
  have f0:a0.data.size=a0.size:=rfl
  have f1:a1.data.size=a1.size:=rfl
  have f2:a2.data.size=a2.size:=rfl
  refine ⟨⟨a0,a1,a2,N⟩,c3,rfl,hN,?_,?_,?_,?_,fun y hy=>?_⟩
  ·rw [hx]
   simp only [List.map,Rows.uptoBulk,Rows.uptoBulkAll,Array.length_toList]
   omega
  ·rw [hx]
   simp only [List.map,Rows.uptoBulk,Rows.uptoBulkAll,Array.length_toList]
   omega
  ·rw [hx]
   simp only [List.map,Rows.uptoBulk,Rows.uptoBulkAll,Array.length_toList]
   omega
  ·rw [hx]
   simp only [List.map,Rows.uptoBulk,Rows.uptoBulkAll,Array.length_toList]
   omega
  ·have:=hNy y hy
   rw [hx]
   simp only [List.map,Rows.uptoBulk,Rows.uptoBulkAll,Array.length_toList]
   omega
set_option maxRecDepth 100000 in
theorem open_entries {H:Type} {enc:TypeId × Value->H} {w:World} {base:Nat} {spare:Nat->Bool} {held:Bool} {r:Reach} {b0:Nat} {v:Value} {d:DataW H} {p:List MemPlace}
  (hv:Value.okWide Tryz.prog w r b0 22 v) (h:DataW.Trod enc Tryz.prog w base spare held 22 v d p) :
  ∃L:List En,EnS w v L/\L.length<=Rows.uptoBulk d/\∀s ∈ L,s.nm.size<=Rows.uptoBulk d/\s.ve.size<=Rows.uptoBulk d/\s.dg.size<=Rows.uptoBulk d/\s.nd.length<=Rows.uptoBulk d/\∀y ∈ s.nd,y.size<=Rows.uptoBulk d:=by
 have hu:=Tryz.underlying22
 obtain ⟨a0,l0,c0,rfl⟩:=okWide_slice hu hv
 obtain ⟨fuel,hf⟩:=h
 rcases Deep.open_slice hu hf with ⟨hcs,hx⟩ | ⟨a,len,cap,m,n,D,Pl,hcs,hb,hl,hm,hmm,hx,hel⟩
 ·simp [Value.cells] at hcs
  obtain ⟨rfl,rfl,rfl⟩:=hcs
  exact ⟨[],Or.inl ⟨rfl,rfl⟩,by simp,by simp⟩
 ·simp [Value.cells] at hcs
  obtain ⟨rfl,rfl,rfl⟩:=hcs
  have hle:l0<=m:=by rw [hmm];split <;> omega
  have hS:∀i,i < l0->∃s:En,EnAt w (a.add (i * 4)) s/\s.nm.size<=Rows.uptoBulk (D i)/\s.ve.size<=Rows.uptoBulk (D i)/\s.dg.size<=Rows.uptoBulk (D i)/\s.nd.length<=Rows.uptoBulk (D i)/\∀y ∈ s.nd,y.size<=Rows.uptoBulk (D i):=by
   intro i hi
   obtain ⟨cs',h1,h2⟩:=hel i (by omega)
   obtain ⟨s,v,hc,hn,hv1,hv2,hv3,hv4,hv5⟩:=en_cells h2
   rw [cellsEn] at h1
   obtain ⟨-,h4,h3⟩:=World.cells?_some h1
   subst hc
   have q0:=h3 0 (by omega)
   have q1:=h3 1 (by omega)
   have q2:=h3 2 (by omega)
   have q3:=h3 3 (by omega)
   rw [Deep.add_add] at q0 q1 q2 q3
   rw [hadd_off _ _ _ (by omega)] at q1 q2 q3
   exact ⟨s,⟨by simpa using q0,by simpa using q1,by simpa using q2,v,by simpa using q3,hn⟩,hv1,hv2,hv3,hv4,hv5⟩
  obtain ⟨S,hS⟩:=Deep.choose_lt hS
  have hlen:((List.range l0).map S).length=l0:=by simp
  have hd:d=.slice ((List.range l0).map D) ((List.range (m - l0)).map fun j=>D (l0+j)):=congrArg Prod.fst hx
  have hbl:=len_bulkE ((List.range l0).map D)
  simp only [List.length_map,List.length_range] at hbl
  refine ⟨(List.range l0).map S,Or.inr ⟨a,c0,by rw [hlen],by rw [hlen];exact hl,fun i hi=>?_⟩,?_,fun s hs=>?_⟩
  ·have hi':i < l0:=by rw [hlen] at hi;exact hi
   rw [List.getElem_map,List.getElem_range]
   exact (hS i hi').1
  ·rw [hd,hlen];simp only [Rows.uptoBulk];omega
  ·obtain ⟨i,hi,rfl⟩:=List.mem_map.1 hs
   have hm:=mem_bulkE ((List.range l0).map D) (D i) (List.mem_map.2 ⟨i,hi,rfl⟩)
   obtain ⟨-,b1,b2,b3,b4,b5⟩:=hS i (List.mem_range.1 hi)
   rw [hd];simp only [Rows.uptoBulk]
   exact ⟨by omega,by omega,by omega,by omega,fun y hy=>by have:=b5 y hy;omega⟩
end Go.Proofs.YtpeghomkaphdcaaGreatDoor
