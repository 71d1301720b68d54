import Derived.Test.YtiinliaoojfjaaaGreatDoorF11
set_option linter.all false
set_option maxRecDepth 100000
set_option maxHeartbeats 0
open Go.Proofs.Tryz
namespace Go.Proofs.YtiinliaoojfjaaaGreatDoor
open Go.RowKit
theorem acS:(prog.info? 3).map (fun i=>(i.zero,i.size,i.bytes))=some (some (.int .i64 0),1,8):=by kernel_rfl
def BegunAt(w:World)(B n:Nat)(b:Nat->Int):Prop:=w.heap[B]?=some (.cells ((List.range n).map fun j=>Value.int .i64 (b j)).toArray 3 (0,0))
theorem BegunAt.cell{w:World}{B n:Nat}{b:Nat->Int}(h:BegunAt w B n b){j:Nat}(hj:j<n):w.cell? ⟨B,j,none⟩=some (.int .i64 (b j)):=by
 rw[ah h];simp[hj]
theorem BegunAt.f{w:World}{B n:Nat}{b:Nat->Int}(h:BegunAt w B n b)(j:Nat):w.frozen? ⟨B,j,none⟩=false:=Lib.frozen_of_heap h j
theorem BegunAt.set{w:World}{B n:Nat}{b:Nat->Int}(h:BegunAt w B n b){l:Nat}(hl:l<n)(d:Int):BegunAt (w.setCell ⟨B,l,none⟩ (.int .i64 (b l+d))) B n (upd b l d):=by
 unfold BegunAt at h ⊢;simp only[World.setCell,Array.getElem?_modify,h,if_true,Option.map_some];congr 2;apply Array.ext';apply List.ext_getElem?;intro k;simp only[Option.isSome_none,Bool.false_eq_true,if_false];rw[Array.toList_setIfInBounds];simp only[List.getElem?_set,List.getElem?_map,List.length_map,List.length_range]
 by_cases hk:l=k
 ·subst hk;simp[hl,upd]
 ·simp only[hk,if_false]
  by_cases hkn:k<n
  ·simp[hkn,upd];intro e;exact absurd e.symm hk
  ·simp[hkn]
theorem BegunAt.grow{w w':World}{B n:Nat}{b:Nat->Int}{r:Option Nat}(h:BegunAt w B n b)(hg:w.grownBy w' r)(hn:some B≠r):BegunAt w' B n b:=by
 unfold BegunAt at h ⊢;rw[hg.block B ((aC h)) hn];exact h
theorem BegunAt.drew{w:World}{B n:Nat}{b:Nat->Int}(h:BegunAt w B n b)(m:Nat):BegunAt (w.drewN m) B n b:=h
theorem acT(n:Nat):madeCells #[Value.int .i64 0] n=((List.range n).map fun _=>Value.int .i64 0).toArray:=by
 apply Array.ext';simp[madeCells];intro a ha;rw[Nat.mod_one];rfl
theorem TP{w:World}{b b':Nat}{e:TypeId}{size:Nat}{v:Value}{n:Nat}{xs:List Value}(h:w.ownsRow b e size v n xs)(hb:b'<=b):w.ownsRow b' e size v n xs:=by
 refine⟨h.1,?_⟩
 rcases h.2 with h|⟨g,cap,cur,h1,h2,h3⟩
 ·exact Or.inl h
 ·exact Or.inr ⟨g,cap,cur,h1,Nat.le_trans hb h2,h3⟩
def SweepPost(ch:Int->Bool)(Ls:List (List Sp))(w:World)(e:Ending)(w':World):Prop :=
 w.grownBy w' none/\((¬Ls.all (·.all ik)=true/\e=.returned (.tuple #[.slice none 0 0,.int .i64 2])) ∨
  (Ls.all (·.all ik)=true/\∃(E:List Er) (vs:Value),E.Perm (dQ 0 Ls)/\qK (E.map aS)/\e=.returned (.tuple #[vs,.int .i64 0])/\SpS w' vs (outs (fG (fun b=>ch (having Ls.length b)) (fun _=>0) false (E.map aS)))/\w'.ownsRow w.heap.size 203 11 vs (outs (fG (fun b=>ch (having Ls.length b)) (fun _=>0) false (E.map aS))).length ((outs (fG (fun b=>ch (having Ls.length b)) (fun _=>0) false (E.map aS))).flatMap fP)))
theorem acU{p0 p1 p2 p3 p4 p5 p6 p7 p8 p9:Addr}{c0 c1 c2 c3 c4 c5 c6 c7 c8 c9:Value}{w w':World}(hg:w.grownBy w' none)(h:w.cell? p0=some c0/\w.cell? p1=some c1/\w.cell? p2=some c2/\w.cell? p3=some c3/\w.cell? p4=some c4/\w.cell? p5=some c5/\w.cell? p6=some c6/\w.cell? p7=some c7/\w.cell? p8=some c8/\w.cell? p9=some c9):w'.cell? p0=some c0/\w'.cell? p1=some c1/\w'.cell? p2=some c2/\w'.cell? p3=some c3/\w'.cell? p4=some c4/\w'.cell? p5=some c5/\w'.cell? p6=some c6/\w'.cell? p7=some c7/\w'.cell? p8=some c8/\w'.cell? p9=some c9:=by
 obtain⟨h0,h1,h2,h3,h4,h5,h6,h7,h8,h9⟩:=h;exact⟨hg.cell h0 (by simp),hg.cell h1 (by simp),hg.cell h2 (by simp),hg.cell h3 (by simp),hg.cell h4 (by simp),hg.cell h5 (by simp),hg.cell h6 (by simp),hg.cell h7 (by simp),hg.cell h8 (by simp),hg.cell h9 (by simp)⟩
def acV(ch:Int->Bool)(n B:Nat)(E:List Er)(w2:World)(vs vh von vi:Value)(wk:World):Prop :=
 ∃(i:Nat) (b:Nat->Int) (on:Bool) (T:List V),vi=.int .i64 i/\i<=E.length/\vh=.int .i64 (having n b)/\von=.bool on/\(∀j,-(i:Int)<=b j/\b j<=i) ∧
  fG (fun b=>ch (having n b)) (fun _=>0) false (E.map aS)=T++fG (fun b=>ch (having n b)) b on ((E.map aS).drop i)/\T.length<=i/\(T.length % 2=if on=true then 1 else 0) ∧
  BegunAt wk B n b/\wk.ownsRow w2.heap.size 203 11 vs (outs T).length ((outs T).flatMap fP)/\w2.grownBy wk (some B)
theorem TQ(fid:Nat)(n:Nat)(ch:Int->Bool)(hfn:∀x w,Calls prog fid #[.int .i64 x,.int .i64 (n:Int)] w fun e w'=>e=.returned (.bool (ch x))/\w'=w)(heg:∀args w,(callFunc fid args).run prog w=.ok (.enter fid args) w)(hsort:Ey)(a:Addr)(cap:Nat)(Ls:List (List Sp))(w:World)(hn:Ls.length=n)(hcap:n<=cap)(hn2:n<=2)(h:Lists w a Ls)(hsz:∀l∈Ls,l.length<=1048576/\∀s∈l,jG s) :
  Calls prog 149 #[.func (.func fid) #[] #[],.slice (some a) n cap] w (SweepPost ch Ls w):=by
 have HA:=ae h;have HS:=ae hsz;have HN:=ae hn;have CE:=ae (fun w (h:Lists w a Ls)=>abI hsort a n cap Ls w hn hcap hn2 h hsz);have hmk:=run_make_row' (P:=prog) 31 3 (.int .i64 0) 8 underlying31 acS rfl .i64 .i64 n (by omega) (by omega);have ni:=ae hfn;clear h hsz hn hfn;go_enter func149,ntmps149;go_wp2;go_loopw [18] (fun vi wr=>∃j:Nat,vi=.int .i64 j/\j<=n/\(∀k (hk:k<Ls.length),k<j->Ls[k].all ik=true)/\w.grownBy wr none) (fun vi _=>n-(intOf vi).toNat)
 case atStart=>exact⟨0,rfl,Nat.zero_le _,fun k hk h=>absurd h (by omega),ai _ _⟩
 case round =>
  obtain⟨j,rfl,hj,hp,hg⟩:=hrel;have HP:=ae hp;have HG:=ae hg;clear hp hg
  by_cases hlt:j<n
  ·have hjl:j<Ls.length:=by rw[HN.o];exact hlt
   obtain⟨sl,hcell,hsp⟩:=HA.o j hjl;have cj:=HG.o.cell hcell (by simp);have CS:=ae (abx sl Ls[j] wr (hsp.grow HG.o) (HS.o _ (List.getElem_mem hjl)).1 (HS.o _ (List.getElem_mem hjl)).2);obtain⟨b,hb⟩:=zN (Ls[j].all ik);rw[hb]at CS;have HB:=ae hb;clear hcell hsp hb;go_wp2_with (go_at_call 175;refine CS.o.mono ?_);rintro e w1 ⟨rfl,hg⟩;replace HG:=ae (ag HG.o hg);clear hg cj
   cases b with
   | false =>
    go_wp2;refine bodyPost_ret (results_tmp2 rfl _ _ _) rfl ⟨HG.o,Or.inl ⟨fun hall=>?_,rfl⟩⟩;have:=List.all_eq_true.1 hall _ (List.getElem_mem hjl);rw[HB.o]at this;exact absurd this (by decide)
   | true =>
    go_wp2;go_roundw
    case rel =>
     refine⟨j+1,by go_num,by omega,fun k hk hkj=>?_,HG.o⟩
     by_cases hkj':k<j
     ·exact HP.o k hk hkj'
     ·have e:k=j:=by omega
      subst e;exact HB.o
    case measure=>simp[intOf];omega
  ·have jH:Hd (Ls.all (·.all ik)=true):=by
    show _=true;rw[List.all_eq_true];intro l hl;obtain⟨k,hk,rfl⟩:=List.getElem_of_mem hl;exact HP.o k hk (by rw[HN.o]at hk;omega)
   clear HP;go_wp2_with (go_at_call 176;refine(CE.o _ (HA.o.grow (ak HG.o _))).mono ?_);rintro e w2 ⟨ve,E,rfl,hp,hso,ho2,hb2⟩;obtain⟨B,hB⟩:=zN (wr.heap.size);have Bz:Hd (BegunAt w2 B n (fun _=>0)):=by
    show w2.heap[B]?=_;rw[hb2.block B (by rw[<-hB];simp),<-hB,heap_alloc_new wr,acT]
   have hB2:=(aC Bz.o);have HG2:=ae (ag (ak HG.o _) (Eo hb2));have Ig:Hd (w.heap.size<=B):=by show _<=_;rw[<-hB];exact HG.o.size
   have TS:Hd (E.Perm (dQ 0 Ls)/\qK (E.map aS)):=⟨hp,hso⟩;have gq:Hd (E.length<=8388608/\∀e∈E,e.l<n/\(e.d=1\/e.d=-1)/\e.a4.size<=1048576):=by
    show _/\_;have hl:=SS Ls (fun l hl=>(HS.o l hl).1) 0;rw[HN.o]at hl;refine⟨by rw[hp.length_eq];omega,fun e he=>?_⟩;have he':=hp.mem_iff.1 he;have h1:=abN Ls 0 e he';have h2:=KI Ls HS.o 0 e he';rw[HN.o]at h1;exact⟨by omega,h1.2.2,h2⟩
   have hbase:(wr.alloc (.cells (madeCells #[.int .i64 0] n) 3)).heap.size=B+1:=by rw[<-hB];simp
   rw[hbase]at ho2;rw[hB];have hef:=abP ho2;clear hB hb2 hp hso ho2 hbase HG hmk;have FIN:Hd (∀(vs:Value) (T:List V) (wk:World),w2.grownBy wk (some B)->wk.ownsRow w2.heap.size 203 11 vs (outs T).length ((outs T).flatMap fP)->fG (fun b=>ch (having n b)) (fun _=>0) false (E.map aS)=T->SweepPost ch Ls w (.returned (.tuple #[vs,.int .i64 0])) wk):=by
    intro vs T wk h1 h2 h3;have h4:w.grownBy wk none:=⟨h1.os.trans HG2.o.os,h1.tape.trans HG2.o.tape,h1.output.trans HG2.o.output,Nat.le_trans HG2.o.size h1.size,fun k hk _=>(h1.block k (Nat.lt_of_lt_of_le hk HG2.o.size) (by have:=Ig.o;simp;omega)).trans (HG2.o.block k hk (by simp))⟩;refine⟨h4,Or.inr ⟨jH.o,E,vs,TS.o.1,TS.o.2,rfl,?_⟩⟩;rw[HN.o,h3];exact⟨Sz h2,TP h2 HG2.o.size⟩
   rcases hef with⟨rfl,hE⟩|⟨ga,capE,rfl,hcE,hga,TT,hgs,TU⟩
   ·have jI:=ae hE;clear hE;go_wp2;go_loopw [8,9,10,33] (fun vs vh von vi wk=>vi=.int .i64 0/\vs=.slice none 0 0/\w2.grownBy wk (some B)) (fun _ _ _ vi _=>0)
    case atStart=>exact⟨rfl,rfl,ai _ _⟩
    case round =>
     obtain⟨rfl,rfl,hgk⟩:=hrel;have HF:=ae (FIN.o (.slice none 0 0) [] wr hgk (World.ownsRow_nil _ _ _ _) (by rw[jI.o];rfl));clear hgk;go_wp2;exact bodyPost_ret (results_tmp2 (t:=4) (u:=5) rfl _ _ _) rfl HF.o
   ·have TV:=ae TU;have ny:Hd (B<ga.block/\ga.block<w2.heap.size/\ga.spot=none):=⟨by omega,TT,hgs⟩;clear TU hga TT hgs;go_wp2;go_loopw [8,9,10,33] (fun vs vh von vi wk=>acV ch n B E w2 vs vh von vi wk) (fun _ _ _ vi _=>E.length-(intOf vi).toNat)
    case atStart=>exact⟨0,fun _=>0,false,[],rfl,Nat.zero_le _,by rw[SV],rfl,fun _=>by simp,rfl,Nat.le_refl _,rfl,Bz.o,World.ownsRow_nil _ _ _ _,ai _ _⟩
    case round =>
     obtain⟨i,b,on,T,rfl,hi,rfl,rfl,hbb,hT,LC,LD,hbg,how,hgw⟩:=hrel
     by_cases hlt:i<E.length
     ·obtain⟨er,her⟩:=zN (E[i]);have HE:Hd (EdAt wr (ga.add (i*7)) er):=by
       show EdAt wr _ er;rw[<-her];exact(TV.o i hlt).grow hgw (by rw[add_block];have:=ny.o.1;simp;omega)
      obtain⟨e0,e1,e2,e3,e4,e5,e6⟩:=HE.o;have hme:=gq.o.2 er (by rw[<-her];exact List.getElem_mem hlt);have LG:=gq.o.1;obtain⟨N,hN⟩:=zN (wr.heap.size);obtain⟨W3,hW3⟩:=zN (wr.alloc (.cells #[.int .i64 er.a1,.int .i64 er.a2,.int .i64 er.a3,.string er.a4,.string er.a5,.int .i64 er.l,.int .i64 er.d] 261));have hg3:wr.grownBy W3 none:=by rw[<-hW3];exact ak (ai wr none) _
      have hNl:w2.heap.size<=N:=by rw[<-hN];exact hgw.size
      have EN:Hd (N≠B/\w2.heap.size<=N):=⟨by omega,hNl⟩;have HR3:Hd (EdAt W3 ⟨N,0,none⟩ er):=by
       show EdAt W3 _ er;have hr:W3.heap[N]?=some (.cells #[.int .i64 er.a1,.int .i64 er.a2,.int .i64 er.a3,.string er.a4,.string er.a5,.int .i64 er.l,.int .i64 er.d] 261 (0,0)):=by rw[<-hW3,<-hN];exact heap_alloc_new wr _
       exact⟨by rw[ah hr];rfl,by rw[ah hr];rfl,by rw[ah hr];rfl,by rw[ah hr];rfl,by rw[ah hr];rfl,by rw[ah hr];rfl,by rw[ah hr];rfl⟩
      have LH:=ae (hbg.grow hg3 (by simp));have jl:=ae (rM how hg3);have dD:=ae (ag hgw (dA hg3 _));obtain⟨d0,d1,d2,d3,d4,d5,d6⟩:=HR3.o;simp only[Nat.zero_add]at d1 d2 d3 d4 d5 d6;have cb:=LH.o.cell hme.1;have fb:=LH.o.f er.l;have hbl:=hbb er.l;have CB:=ae (fun wx (h1:wx.cell? ⟨B,er.l,none⟩=some (.int .i64 (b er.l))) (h2:wx.frozen? ⟨B,er.l,none⟩=false)=>abB B er.l (b er.l) er.d wx h1 h2 (by omega) (by omega));have hhb:=abM n b i hbb;have hni:(n:Int)*i<=2*8388608:=by
       have h1:(n:Int)<=2:=by omega
       have h2:(i:Int)<=8388608:=by omega
       have h3:(n:Int)*i<=2*i:=Int.mul_le_mul_of_nonneg_right h1 (by omega);omega
      have hw:IntKind.i64.wrap (having n b+(min (b er.l+er.d) 1-min (b er.l) 1))=having n (upd b er.l er.d):=by
       rw[abL n er.l er.d b hme.1,IntKind.wrap_i64];omega
      have hln:=hme.1;have hNB:=EN.o.1;have BC:Hd (er.l<n/\(er.d=1\/er.d=-1)/\er.a4.size<=1048576/\E.length<=8388608):=⟨hme.1,hme.2.1,hme.2.2,LG⟩;have lV:=ae hbb;have jX:Hd (fG (fun b=>ch (having n b)) (fun _=>0) false (E.map aS)=T++fG (fun b=>ch (having n b)) b on ((E.map aS).drop i)/\T.length<=i/\(T.length % 2=if on=true then 1 else 0)):=⟨hT,LC,LD⟩;have HER:=ae her;clear hbb hT LC LD hbg how hgw her hme LG hbl hhb hni hg3 hNl;have kk:∀o v,W3.cell? ⟨N,o,none⟩=some v->(W3.setCell ⟨B,er.l,none⟩ (.int .i64 (b er.l+er.d))).cell? ⟨N,o,none⟩=some v:=fun o v h=>by
       rw[<-h];exact World.cell?_of_block (heap_setCell_other W3 _ N _ hNB)
      have k0:=kk 0 _ d0;have k1:=kk 1 _ d1;have k2:=kk 2 _ d2;have k3:=kk 3 _ d3;have k4:=kk 4 _ d4;have k5:=kk 5 _ d5;have k6:=kk 6 _ d6;obtain⟨W4,iO⟩:=zN ((W3.setCell ⟨B,er.l,none⟩ (.int .i64 (b er.l+er.d))).drew);have HR4:Hd (EdAt W4 ⟨N,0,none⟩ er):=by show EdAt W4 _ er;rw[<-iO];exact⟨k0,k1,k2,k3,k4,k5,k6⟩
      have TW:Hd (BegunAt W4 B n (upd b er.l er.d)):=by show BegunAt W4 _ _ _;rw[<-iO];exact LH.o.set BC.o.1 er.d
      have eX:Hd (w2.grownBy W4 (some B)):=by show w2.grownBy W4 _;rw[<-iO];exact aH (bI dD.o _ _) 1
      have Ih:Hd (W4.ownsRow w2.heap.size 203 11 u8 (outs T).length ((outs T).flatMap fP)):=by
       show World.ownsRow _ _ _ _ _ _ _;rw[<-iO];refine jl.o.kept (w':=(W3.setCell ⟨B,er.l,none⟩ (.int .i64 (b er.l+er.d))).drew) (aH (bI (ai W3 (some B)) er.l (.int .i64 (b er.l+er.d))) 1) ?_
       cases ho:u8.ownBlock with
       | none=>exact Or.inl rfl
       | some q=>exact Or.inr (fun e=>by have:=(jl.o.lt q ho).1;injection e with e;omega)
      clear kk;have j5:W4.cell? ⟨N,5,none⟩=some (.int .i64 er.l):=HR4.o.2.2.2.2.2.1;have j6:W4.cell? ⟨N,6,none⟩=some (.int .i64 er.d):=HR4.o.2.2.2.2.2.2;go_wp2
      go_region_held3 (fun w'=>w'.cell? ⟨N,5,none⟩=some (.int .i64 er.l)/\w'.cell? ⟨N,6,none⟩=some (.int .i64 er.d)) ((first|exact⟨d5,d6⟩|exact⟨j5,j6⟩|exact⟨k5,k6⟩|go_keep)) (first|(go_at_call 177;refine(CB.o W3.drew cb fb).mono ?_;rintro e w4 ⟨rfl,rfl⟩))
      try rw[iO]
      clear iO j5 j6 k0 k1 k2 k3 k4 k5 k6 cb fb hw d0 d1 d2 d3 d4 d5 d6 CB hW3 hN;obtain⟨d0,d1,d2,d3,d4,d5,d6⟩:=HR4.o;simp only[Nat.zero_add]at d1 d2 d3 d4 d5 d6;have HST:Hd (fG (fun b=>ch (having n b)) b on ((E.map aS).drop i)=if mM (aS er) ((E.map aS).drop (i+1))=true then fG (fun b=>ch (having n b)) (upd b er.l er.d) on ((E.map aS).drop (i+1)) else if ch (having n (upd b er.l er.d))=on then fG (fun b=>ch (having n b)) (upd b er.l er.d) on ((E.map aS).drop (i+1)) else(aS er).at_ :: fG (fun b=>ch (having n b)) (upd b er.l er.d) (ch (having n (upd b er.l er.d))) ((E.map aS).drop (i+1))):=by
       show fG _ _ _ _=_;have hd:(E.map aS).drop i=aS er :: (E.map aS).drop (i+1):=by
        rw[List.drop_eq_getElem_cons (by simpa using hlt),List.getElem_map,HER.o]
       rw[hd];rfl
      have EO:Hd (∀j,-((i+1:Nat):Int)<=upd b er.l er.d j/\upd b er.l er.d j<=((i+1:Nat):Int)):=by
       intro k;have h1:=lV.o k;have h2:=BC.o.2.1;unfold upd;split<;>omega
      have LG:=BC.o.2.2.2;have hw1:IntKind.i64.wrap ((i:Int)+1)=((i+1:Nat):Int):=by rw[IntKind.wrap_i64];omega
      obtain⟨H,hH⟩:=zN (having n (upd b er.l er.d));have HH:=ae hH;rw[hH];clear hH
      rcases Nat.lt_or_ge (i+1) E.length with hnx|hnl
      all_goals (
       first
        | (obtain⟨er2,Ii⟩:=zN (E[i+1])
           have HE2:Hd (EdAt W4 (ga.add ((i+1)*7)) er2):=by
            show EdAt W4 _ er2;rw[<-Ii];exact(TV.o (i+1) hnx).grow eX.o (by rw[add_block];have:=ny.o.1;simp;omega)
           obtain⟨x,hx⟩:=zN (aB (aS er).at_ (aS er2).at_);have hm2:=(gq.o.2 er2 (by rw[<-Ii];exact List.getElem_mem hnx)).2.2;have bC:Hd (mM (aS er) ((E.map aS).drop (i+1))=decide (x=0)):=by
            show mM _ _=_;rw[List.drop_eq_getElem_cons (by simpa using hnx),List.getElem_map,Ii,<-hx];rfl
           have CC:Hd (∀w,Calls prog 122 #[.agg #[.int .i64 er.a1,.int .i64 er.a2,.int .i64 er.a3,.string er.a4,.string er.a5],.agg #[.int .i64 er2.a1,.int .i64 er2.a2,.int .i64 er2.a3,.string er2.a4,.string er2.a5]] w fun e w'=>e=.returned (.int .i64 x)/\w.grownBy w' none):=fun w=>by
            rw[<-hx];exact compare_any er.a1 er.a2 er.a3 er2.a1 er2.a2 er2.a3 er.a4 er.a5 er2.a4 er2.a5 w (by have:=BC.o.2.2.1;omega) (by omega)
           obtain⟨q0,q1,q2,q3,q4,q5,q6⟩:=HE2.o;clear hx Ii hm2;have hnx2:decide (((i+1:Nat):Int)<(E.length:Int))=true:=by simp;omega
           have hnx3:decide (i+1<E.length)=true:=by simp;omega
           have LJ:decide ((i:Int)+1<(E.length:Int))=true:=by simp;omega
           have acW:((i+1:Nat):Int)<(E.length:Int):=by omega
           have acX:(0:Int)<=((i+1:Nat):Int):=by omega
           have acY:(i:Int)+1<(E.length:Int):=by omega
           have acZ:(0:Int)<=(i:Int)+1:=by omega
           have ac0:((i:Int)+1).toNat=i+1:=by omega
           go_wp2
           go_region_held3 (fun w'=>w'.cell? ⟨N,0,none⟩=some (.int .i64 er.a1)/\w'.cell? ⟨N,1,none⟩=some (.int .i64 er.a2)/\w'.cell? ⟨N,2,none⟩=some (.int .i64 er.a3)/\w'.cell? ⟨N,3,none⟩=some (.string er.a4)/\w'.cell? ⟨N,4,none⟩=some (.string er.a5)/\w'.cell? (ga.add ((i+1)*7))=some (.int .i64 er2.a1)/\w'.cell? ⟨(ga.add ((i+1)*7)).block,(ga.add ((i+1)*7)).off+1,none⟩=some (.int .i64 er2.a2)/\w'.cell? ⟨(ga.add ((i+1)*7)).block,(ga.add ((i+1)*7)).off+2,none⟩=some (.int .i64 er2.a3)/\w'.cell? ⟨(ga.add ((i+1)*7)).block,(ga.add ((i+1)*7)).off+3,none⟩=some (.string er2.a4)/\w'.cell? ⟨(ga.add ((i+1)*7)).block,(ga.add ((i+1)*7)).off+4,none⟩=some (.string er2.a5)) ((first|exact acU (by assumption) (by assumption)|go_keep)) (first|(go_at_call 122;refine(CC.o _).mono ?_;rintro e w5 ⟨rfl,hg5⟩))
           have zo:=ae (HR4.o.grow (dF hg5) (by simp));have BD:=ae (TW.o.grow (dF hg5) (by simp));have jY:=ae (rM Ih.o (dF hg5));have je:=ae (ag eX.o (dA (dF hg5) _));clear hg5 q0 q1 q2 q3 q4 q5 q6 d0 d1 d2 d3 d4 d5 d6 hnx2 hnx3 LJ acW acX acY acZ ac0
           by_cases hxx:x=0
           ·have hx0:(x == 0)=true:=by simp[hxx]
            have vU:Hd (fG (fun b=>ch (having n b)) (fun _=>0) false (E.map aS)=T++fG (fun b=>ch (having n b)) (upd b er.l er.d) on ((E.map aS).drop (i+1))):=by
             show _=_;rw[jX.o.1,HST.o,bC.o,hxx];rfl
            have jZ:Hd (T.length<=i/\(T.length % 2=if on=true then 1 else 0)):=⟨jX.o.2.1,jX.o.2.2⟩;clear jX HST;go_wp2;go_roundw
            case rel=>exact⟨i+1,upd b er.l er.d,on,T,by go_num,by omega,by rw[HH.o],rfl,EO.o,vU.o,by have:=jZ.o.1;omega,jZ.o.2,BD.o,jY.o,je.o⟩
            case measure=>simp[intOf];omega
           have hx0:(x == 0)=false:=by simp[hxx]
           have TZ:Hd (mM (aS er) ((E.map aS).drop (i+1))=false):=by show mM _ _=_;rw[bC.o,decide_eq_false hxx]
           replace bC:=TZ;clear hxx TZ)
        | (have bC:Hd (mM (aS er) ((E.map aS).drop (i+1))=false):=by
            show mM _ _=false;rw[List.drop_of_length_le (by simp;omega)];rfl
           have hnx2:decide (((i+1:Nat):Int)<(E.length:Int))=false:=by simp;omega
           have hnx3:decide (i+1<E.length)=false:=by simp;omega
           have LJ:decide ((i:Int)+1<(E.length:Int))=false:=by simp;omega
           go_wp2;go_quiet (fail);obtain⟨w5,hw5⟩:=zN (W4.drewN nq);have zo:Hd (EdAt w5 ⟨N,0,none⟩ er):=by show EdAt w5 _ er;rw[<-hw5];exact HR4.o
           have BD:Hd (BegunAt w5 B n (upd b er.l er.d)):=by show BegunAt w5 _ _ _;rw[<-hw5];exact TW.o
           have jY:Hd (w5.ownsRow w2.heap.size 203 11 u8 (outs T).length ((outs T).flatMap fP)):=by show World.ownsRow _ _ _ _ _ _ _;rw[<-hw5];exact rM Ih.o (aH (ai W4 none) nq)
           have je:Hd (w2.grownBy w5 (some B)):=by show w2.grownBy w5 _;rw[<-hw5];exact aH eX.o nq
           try rw[hw5]
           clear hw5 d0 d1 d2 d3 d4 d5 d6 hnx2 hnx3 LJ)
       have BF:Hd (ch (having n (upd b er.l er.d))=ch H):=by show ch _=_;rw[HH.o]
       obtain⟨d0,d1,d2,d3,d4,d5,d6⟩:=zo.o;simp only[Nat.zero_add]at d1 d2 d3 d4 d5 d6
       cases hc:ch H with
       | false =>
        rw[hc]at BF
        cases on with
        | false =>
         have vU:Hd (fG (fun b=>ch (having n b)) (fun _=>0) false (E.map aS)=T++fG (fun b=>ch (having n b)) (upd b er.l er.d) false ((E.map aS).drop (i+1))):=by
          show _=_;rw[jX.o.1,HST.o,bC.o,BF.o];rfl
         have jZ:Hd (T.length<=i/\(T.length % 2=if false=true then 1 else 0)):=⟨jX.o.2.1,jX.o.2.2⟩;clear jX HST;go_wp2_with (first|(with_reducible refine(ni.o _ _).mono ?_;rintro e w' ⟨rfl,rfl⟩));go_roundw
         case rel=>exact⟨i+1,upd b er.l er.d,false,T,by go_num,by omega,by rw[HH.o],rfl,EO.o,vU.o,by have:=jZ.o.1;omega,jZ.o.2,BD.o,jY.o,je.o⟩
         case measure=>simp[intOf];omega
        | true =>
         have LK:=ae (fun w=>SC er.a1 er.a2 er.a3 er.a4 er.a5 w (by have:=BC.o.2.2.1;omega));have vU:Hd (fG (fun b=>ch (having n b)) (fun _=>0) false (E.map aS)=(T++[(aS er).at_])++fG (fun b=>ch (having n b)) (upd b er.l er.d) false ((E.map aS).drop (i+1))):=by
          show _=_;rw[jX.o.1,HST.o,bC.o,BF.o,List.append_assoc];rfl
         have jZ:Hd (T.length<=i/\T.length % 2=1):=⟨jX.o.2.1,by have:=jX.o.2.2;simpa using this⟩;have Ua:(outs T).length<=8388608:=by have q1:=KL T;have q2:=jZ.o.1;omega
         obtain⟨A,y,hA1,hA2⟩:=SL T (aS er).at_ jZ.o.2;rw[hA1]at jY Ua;obtain⟨M,hM⟩:=zN (A.length);have hlen:(A++[gB y oO true]).length=M+1:=by rw[List.length_append,hM];rfl
         rw[hlen]at jY Ua;obtain⟨gs,capS,hu8⟩:∃gs capS,u8=.slice (some ⟨gs,0,none⟩) (M+1) capS:=by
          rcases jY.o.2 with⟨_,h0⟩|⟨g,cap,cur,h1,_⟩
          ·omega
          ·exact⟨g,cap,h1⟩
         subst hu8;have HA2:Hd (outs (T++[(aS er).at_])=A++[gB y (aS er).at_ false]/\A.length=M):=⟨hA2,hM⟩;have hm1:IntKind.i64.wrap (((M+1:Nat):Int)-1)=((M:Nat):Int):=by rw[IntKind.wrap_i64];omega
         have hm2:((M+1:Nat):Int)-1=(M:Int):=by omega
         have hm3:(M:Int)<((M+1:Nat):Int):=by omega
         have hm4:(M:Int)<(M:Int)+1:=by omega
         clear jX HST hA1 hA2 hM hlen;go_wp2_with (first|(go_at_call 178;refine(LK.o _).mono ?_)|(with_reducible refine(ni.o _ _).mono ?_;rintro e w9 ⟨rfl,EP⟩;rw[EP];clear EP));rintro e w6 ⟨rfl,dP⟩;have dZ:=ae (rM jY.o dP);have ac1:=ae (BD.o.grow dP (by simp));have jq:=ae (ag je.o (dA dP _));have qR:=ae ((dZ.o.lt gs rfl).1);have c5:=Be dZ.o HA2.o.2 5 _ rfl;have c6:=Be dZ.o HA2.o.2 6 _ rfl;have c7:=Be dZ.o HA2.o.2 7 _ rfl;have c8:=Be dZ.o HA2.o.2 8 _ rfl;have c9:=Be dZ.o HA2.o.2 9 _ rfl;have c10:=Be dZ.o HA2.o.2 10 _ rfl;have fz:=abS dZ.o;clear dP d0 d1 d2 d3 d4 d5 d6;go_wp2;clear c5 c6 c7 c8 c9 c10 fz;have g9:w6.grownBy ((((((w6.setCell ⟨gs,M*11+5,none⟩ (.int .i64 er.a1)).setCell ⟨gs,M*11+5+1,none⟩ (.int .i64 er.a2)).setCell ⟨gs,M*11+5+2,none⟩ (.int .i64 er.a3)).setCell ⟨gs,M*11+5+3,none⟩ (.string er.a4)).setCell ⟨gs,M*11+5+4,none⟩ (.string ⟨#[]⟩)).setCell ⟨gs,M*11+10,none⟩ (.bool false)) (some gs):=bI (bI (bI (bI (bI (bI (ai w6 (some gs)) _ _) _ _) _ _) _ _) _ _) _ _
         have o9:=Bc (Bc (Bc (Bc (Bc (Bc dZ.o (M*11+5) (.int .i64 er.a1) (by omega)) (M*11+5+1) (.int .i64 er.a2) (by omega)) (M*11+5+2) (.int .i64 er.a3) (by omega)) (M*11+5+3) (.string er.a4) (by omega)) (M*11+5+4) (.string ⟨#[]⟩) (by omega)) (M*11+10) (.bool false) (by omega);have hfl:(A++[gB y oO true]).flatMap fP=A.flatMap fP++fP (gB y oO true):=by rw[List.flatMap_append];simp
         have hPl:(A.flatMap fP).length=M*11:=by rw[abK,HA2.o.2]
         rw[hfl]at o9;have hcl:=abR er y hPl;have hol:(outs (T++[(aS er).at_])).length=M+1:=by rw[HA2.o.1,List.length_append,HA2.o.2];rfl
         have hof:(outs (T++[(aS er).at_])).flatMap fP=A.flatMap fP++fP (gB y (aS er).at_ false):=by rw[HA2.o.1,List.flatMap_append];simp
         have ac2:B≠gs:=by have:=qR.o;omega
         refine⟨⟨i+1,upd b er.l er.d,false,T++[(aS er).at_],by go_num,by omega,by rw[HH.o],rfl,EO.o,vU.o,by have:=jZ.o.1;simp;omega,by have:=jZ.o.2;simp;omega,ac1.o.grow g9 (by simpa using ac2),?_,SQ jq.o g9 (fun q hq=>by injection hq with hq;have:=qR.o;omega)⟩,by simp[intOf];omega⟩;rw[hol,hof,<-hcl];exact o9
       | true =>
        rw[hc]at BF
        cases on with
        | false =>
         have LK:=ae (fun w=>SC er.a1 er.a2 er.a3 er.a4 er.a5 w (by have:=BC.o.2.2.1;omega));have vU:Hd (fG (fun b=>ch (having n b)) (fun _=>0) false (E.map aS)=(T++[(aS er).at_])++fG (fun b=>ch (having n b)) (upd b er.l er.d) true ((E.map aS).drop (i+1))):=by
          show _=_;rw[jX.o.1,HST.o,bC.o,BF.o,List.append_assoc];rfl
         have jZ:Hd (T.length<=i/\T.length % 2=0):=⟨jX.o.2.1,by have:=jX.o.2.2;simpa using this⟩;have EQ:Hd ((outs T).length<=8388608):=by show _<=_;have q1:=KL T;have q2:=jZ.o.1;omega
         have hinfo:=Su;obtain⟨i1,hj0,hjj⟩:=Option.map_eq_some_iff.1 hinfo;simp only[Prod.mk.injEq]at hjj;obtain⟨hy0,hy1,hyb⟩:=hjj;clear jX HST hinfo;go_wp2_with (first|(go_at_call 178;refine(LK.o _).mono ?_;rintro e w6 ⟨rfl,dP⟩)|(at_builtin;refine wpList_append_own _ rfl _ _ 170 rfl w2.heap.size 203 i1 _ 11 120 underlying170 hj0 hy0 hy1 hyb rfl (by decide) _ _ _ rfl ((rM jY.o dP).alloc _) _ 1 1 (fP (gB (aS er).at_ oO true)) rfl rfl (by rw[abQ];exact World.news_of_block (heap_alloc_new _ _)) (Sv _) (by unfold maxLen;have:=EQ.o;omega) (by have:=EQ.o;omega) (by have q1:=je.o.size;have q2:=dP.size;simp;omega) ?_;intro v' w7 hown7 hgrow _)|(with_reducible refine(ni.o _ _).mono ?_;rintro e w9 ⟨rfl,EP⟩;rw[EP];clear EP));have iw:w5.grownBy (w6.alloc (.cells #[.int .i64 er.a1,.int .i64 er.a2,.int .i64 er.a3,.string er.a4,.string ⟨#[]⟩,.int .i64 0,.int .i64 0,.int .i64 0,.string ⟨#[]⟩,.string ⟨#[]⟩,.bool true] 203)) none:=ag dP (ak (ai w6 none) _)
         have hrow:=fun q (hq:u8.ownBlock=some q)=>(jY.o.lt q hq).1
         have lu:=ae ((BD.o.grow iw (by simp)).grow hgrow (fun e=>by have:=hrow B e.symm;omega));have HF2:=ae (SQ (ag je.o (dA iw _)) hgrow hrow);have HF3:Hd (w7.ownsRow w2.heap.size 203 11 v' (outs (T++[(aS er).at_])).length ((outs (T++[(aS er).at_])).flatMap fP)):=by
          show World.ownsRow _ _ _ _ _ _ _;rw[SK T _ jZ.o.2,List.length_append,List.flatMap_append];simpa using hown7
         exact⟨⟨i+1,upd b er.l er.d,true,T++[(aS er).at_],by go_num,by omega,by rw[HH.o],rfl,EO.o,vU.o,by have:=jZ.o.1;simp;omega,by have:=jZ.o.2;simp;omega,lu.o,HF3.o,HF2.o⟩,by simp[intOf];omega⟩
        | true =>
         have vU:Hd (fG (fun b=>ch (having n b)) (fun _=>0) false (E.map aS)=T++fG (fun b=>ch (having n b)) (upd b er.l er.d) true ((E.map aS).drop (i+1))):=by
          show _=_;rw[jX.o.1,HST.o,bC.o,BF.o];rfl
         have jZ:Hd (T.length<=i/\(T.length % 2=if true=true then 1 else 0)):=⟨jX.o.2.1,jX.o.2.2⟩;clear jX HST;go_wp2_with (first|(with_reducible refine(ni.o _ _).mono ?_;rintro e w' ⟨rfl,rfl⟩));go_roundw
         case rel=>exact⟨i+1,upd b er.l er.d,true,T,by go_num,by omega,by rw[HH.o],rfl,EO.o,vU.o,by have:=jZ.o.1;omega,jZ.o.2,BD.o,jY.o,je.o⟩
         case measure=>simp[intOf];omega)
     ·have hie:i=E.length:=by omega
      have HF:=ae (FIN.o u8 T wr hgw how (by rw[hT,hie,List.drop_of_length_le (by simp)];simp[fG]));clear hT LC LD hbg how hgw hbb hie hi;go_wp2;exact bodyPost_ret (results_tmp2 (t:=4) (u:=5) rfl _ _ _) rfl HF.o
theorem ac3(hsort:Ey)(a:Addr)(n cap:Nat)(Ls:List (List Sp))(w:World)(hn:Ls.length=n)(hcap:n<=cap)(hn2:n<=2)(h:Lists w a Ls)(hsz:∀l∈Ls,l.length<=1048576/\∀s∈l,jG s) :
  Calls prog 149 #[.func (.func 150) #[] #[],.slice (some a) n cap] w (SweepPost (fun x=>decide (0<x)) Ls w) :=
 TQ 150 n _ (fun x w=>abz x n w) Tryz.call150 hsort a cap Ls w hn hcap hn2 h hsz
theorem ac4(hsort:Ey)(a:Addr)(n cap:Nat)(Ls:List (List Sp))(w:World)(hn:Ls.length=n)(hcap:n<=cap)(hn2:n<=2)(h:Lists w a Ls)(hsz:∀l∈Ls,l.length<=1048576/\∀s∈l,jG s) :
  Calls prog 149 #[.func (.func 194) #[] #[],.slice (some a) n cap] w (SweepPost (fun x=>decide (x=(n:Int))) Ls w) :=
 TQ 194 n _ (fun x w=>abA x n w) Tryz.call194 hsort a cap Ls w hn hcap hn2 h hsz
open Go.RowKit
theorem BG{w:World}{sl:Value}{L:List Sp}(h:SpS w sl L):∃o n c,sl=.slice o n c:=by
 rcases h with⟨rfl,_⟩|⟨a,cap,rfl,_⟩
 ·exact⟨_,_,_,rfl⟩
 ·exact⟨_,_,_,rfl⟩
theorem SweepPost.from{ch:Int->Bool}{Ls:List (List Sp)}{w w1:World}{e:Ending}{w':World}(hg:w.grownBy w1 none)(h:SweepPost ch Ls w1 e w'):SweepPost ch Ls w e w':=by
 refine⟨ag hg h.1,?_⟩
 rcases h.2 with h1|⟨h1,E,vs,h2,h3,h4,h5,h6⟩
 ·exact Or.inl h1
 ·exact Or.inr ⟨h1,E,vs,h2,h3,h4,h5,TP h6 hg.size⟩
theorem SweepPost.two{ch:Int->Bool}{Ls:List (List Sp)}{w:World}{e:Ending}{w':World}(h:SweepPost ch Ls w e w'):∃o n c r,e=.returned (.tuple #[.slice o n c,.int .i64 r]):=by
 rcases h.2 with⟨_,rfl⟩|⟨_,E,vs,_,_,rfl,hs,_⟩
 ·exact⟨_,_,_,_,rfl⟩
 ·obtain⟨o,n,c,rfl⟩:=BG hs;exact⟨_,_,_,_,rfl⟩
theorem ac5(sl:Value)(L:List Sp)(w:World)(h:SpS w sl L)(hL:L.length<=1048576)(hsz:∀s∈L,jG s) :
  Calls prog 129 #[sl] w (SweepPost (fun x=>decide (0<x)) [L] w):=by
 have HA:=ae h;have CS:=ae (fun a w (h:Lists w a [L])=>ac3 SY a 1 1 [L] w rfl (by omega) (by omega) h (by intro l hl;simp at hl;subst hl;exact⟨hL,hsz⟩));obtain⟨o,n,c,rfl⟩:=BG h;clear h hL hsz;go_enter func129,ntmps129;go_wp2_with (go_at_call 149;refine(CS.o _ _ ?_).mono ?_)
 ·have hg:=ak (ai w none) (.cells #[.slice o n c] 170);intro j hj;have hj':j=0:=by simp at hj;omega
  subst hj';exact⟨.slice o n c,by rw[show(⟨w.heap.size,0,none⟩:Addr).add 0=⟨w.heap.size,0,none⟩ from EC _ _,ah (heap_alloc_new w _)];rfl,HA.o.grow hg⟩
 intro e w1 hp;have HP:=SweepPost.from (ak (ai w none) _) hp
 clear hp;obtain⟨o2,n2,c2,r2,rfl⟩:=HP.two;have HQ:=ae HP;clear HP;go_wp2;exact bodyPost_ret (results_tmp2 (t:=2) (u:=3) rfl _ _ _) rfl HQ.o
theorem ac6(sl sm:Value)(L M:List Sp)(w:World)(h:SpS w sl L)(h':SpS w sm M)(hL:L.length<=1048576)(hsz:∀s∈L,jG s)(hM:M.length<=1048576)(hsm:∀s∈M,jG s) :
  Calls prog 172 #[sl,sm] w (SweepPost (fun x=>decide (x=((2:Nat):Int))) [L,M] w):=by
 have HA:=ae h;have HB:=ae h';have CS:=ae (fun a w (h:Lists w a [L,M])=>ac4 SY a 2 2 [L,M] w rfl (by omega) (by omega) h (by intro l hl;simp at hl;rcases hl with rfl|rfl<;>first|exact⟨hL,hsz⟩|exact⟨hM,hsm⟩));obtain⟨o,n,c,rfl⟩:=BG h;obtain⟨o',n',c',rfl⟩:=BG h';clear h';clear hM hsm;clear h hL hsz;go_enter func172,ntmps172;go_wp2_with (go_at_call 149;refine(CS.o _ _ ?_).mono ?_)
 ·have hg:=ak (ai w none) (.cells #[.slice o n c,.slice o' n' c'] 170);intro j hj;have hj':j=0\/j=1:=by simp at hj;omega
  rcases hj' with rfl|rfl
  ·exact⟨.slice o n c,by rw[show(⟨w.heap.size,0,none⟩:Addr).add 0=⟨w.heap.size,0,none⟩ from EC _ _,ah (heap_alloc_new w _)];rfl,HA.o.grow hg⟩
  ·exact⟨.slice o' n' c',by rw[show(⟨w.heap.size,0,none⟩:Addr).add 1=⟨w.heap.size,1,none⟩ from EC _ _,ah (heap_alloc_new w _)];rfl,HB.o.grow hg⟩
 intro e w1 hp;have HP:=SweepPost.from (ak (ai w none) _) hp
 clear hp;obtain⟨o2,n2,c2,r2,rfl⟩:=HP.two;have HQ:=ae HP;clear HP;go_wp2;exact bodyPost_ret (results_tmp2 (t:=4) (u:=5) rfl _ _ _) rfl HQ.o
theorem ER(h:V->Bool):∀(ps:List V) (on:Bool),(vg h on ps).Sublist ps
 | [],on=>List.Sublist.slnil
 | p :: ps,on=>by
  rw[vg];split
  ·exact(ER h ps on).cons _
  ·exact(ER h ps (h p)).cons_cons _
def par:List V->V->Bool
 | [],_=>false
 | t :: r,x=>decide (aB t x<=0) ^^ par r x
theorem par_none(T:List V)(x:V)(h:∀t∈T,aB x t<0):par T x=false:=by
 induction T with
 | nil=>rfl
 | cons t r ih =>
  have h1:=h t (by simp);have h2:=dN x t;rw[par,ih (fun t' ht'=>h t' (by simp[ht'])),decide_eq_false (by omega)];rfl
theorem Ij{t:V}{r:List V}(h:vw (t :: r)):vw r:=(List.pairwise_cons.1 h).2
theorem ES{t:V}{r:List V}(h:vw (t :: r)):∀x∈r,aB t x<0:=(List.pairwise_cons.1 h).1
theorem LM(x y:V)(o:Bool):vG (gB x y o)=x:=by
 cases x;simp[vG,gB]
theorem Ub(x y:V)(o:Bool):xC (gB x y o)=y:=by
 cases y;simp[xC,gB]
theorem Uc:∀(T:List V),vw T->∀x,eU (outs T) x=par T x
 | [],_,x=>rfl
 | [a],_,x=>by
  rw[outs,eU,List.any_cons,List.any_nil,vH,LM,par,par];show(decide (aB a x<=0) && (true || _) || false)=_
  cases decide (aB a x<=0)<;>rfl
 | a :: b :: r,h,x=>by
  have hab:=ES h b (by simp);have hr:=Ij h;have ih:=Uc r (Ij hr) x;unfold eU at ih;rw[outs,eU,List.any_cons,ih,vH,LM,Ub,par,par];show(decide (aB a x<=0) && (false || decide (aB x b<0)) || par r x)=_;have a1:=dN x b
  by_cases hb:aB b x<=0
  ·have ha:=rE (show aB a b<=0 by omega) hb;rw[decide_eq_true ha,decide_eq_true hb,decide_eq_false (by omega)]
   cases par r x<;>rfl
  ·have hp:=par_none r x fun t ht=>Eh (show aB x b<0 by omega) (ES hr t ht)
   rw[hp,decide_eq_false hb,decide_eq_true (show aB x b<0 by omega)]
   cases decide (aB a x<=0)<;>rfl
def NF(N:List Sp):Prop:=∃T,N=outs T/\vw T/\(∀t∈T,gy true t.pre=true/\t.pre.length<=1048576)/\T.length<=4194304
theorem NF.len{N:List Sp}(h:NF N):N.length<=4194304:=by
 obtain⟨T,rfl,_,_,hl⟩:=h;have:∀T:List V,(outs T).length<=T.length:=by
  intro T
  induction T using outs.induct with
  | case1=>simp[outs]
  | case2 x=>simp[outs]
  | case3 x y r ih=>rw[outs,List.length_cons,List.length_cons,List.length_cons];omega
 exact Nat.le_trans (this T) hl
theorem LP:∀(T:List V) (s:Sp),s∈outs T->(∃x∈T,s=gB x oO true)\/∃x∈T,∃y∈T,s=gB x y false
 | [],s,h=>by simp[outs]at h
 | [a],s,h=>by
  have e:s=gB a oO true:=by simpa [outs] using h
  exact Or.inl ⟨a,by simp,e⟩
 | a :: b :: r,s,h=>by
  rw[outs]at h
  rcases List.mem_cons.1 h with e|h
  ·exact Or.inr ⟨a,by simp,b,by simp,e⟩
  ·rcases LP r s h with⟨x,hx,e⟩|⟨x,hx,y,hy,e⟩
   ·exact Or.inl ⟨x,by simp[hx],e⟩
   ·exact Or.inr ⟨x,by simp[hx],y,by simp[hy],e⟩
theorem NF.small{N:List Sp}(h:NF N):∀s∈N,jG s:=by
 obtain⟨T,rfl,_,hp,hl⟩:=h;have hsz:∀l:List UInt8,(⟨l.toArray⟩:ByteArray).size=l.length:=fun l=>by simp[ByteArray.size]
 have h0:(⟨#[]⟩:ByteArray).size=0:=rfl;intro s hs
 rcases LP T s hs with⟨x,hx,rfl⟩|⟨x,hx,y,hy,rfl⟩
 ·refine⟨?_,?_,?_,?_⟩
  ·show(⟨x.pre.toArray⟩:ByteArray).size<=_;rw[hsz];exact(hp x hx).2
  ·show(⟨#[]⟩:ByteArray).size<=_;rw[h0];omega
  ·show(⟨oO.pre.toArray⟩:ByteArray).size<=_;rw[hsz];show 0<=_;omega
  ·show(⟨#[]⟩:ByteArray).size<=_;rw[h0];omega
 ·refine⟨?_,?_,?_,?_⟩
  ·show(⟨x.pre.toArray⟩:ByteArray).size<=_;rw[hsz];exact(hp x hx).2
  ·show(⟨#[]⟩:ByteArray).size<=_;rw[h0];omega
  ·show(⟨y.pre.toArray⟩:ByteArray).size<=_;rw[hsz];exact(hp y hy).2
  ·show(⟨#[]⟩:ByteArray).size<=_;rw[h0];omega
theorem ac7(Ls:List (List Sp))(h:Ls.all (·.all ik)=true):∀(k:Nat),∀e∈dQ k Ls,gy true (aS e).at_.pre=true:=by
 induction Ls with
 | nil=>intro k e he;simp[dQ]at he
 | cons l Ls ih =>
  intro k e he;rw[List.all_cons,Bool.and_eq_true]at h;rw[dQ]at he
  rcases List.mem_append.1 he with he|he
  ·obtain⟨s,hs,he⟩:=List.mem_flatMap.1 he;have hm:=List.all_eq_true.1 h.1 s hs;unfold ik at hm;rw[Bool.and_eq_true]at hm;have hf:gy true s.f4.data.toList=true:=by
    have:=hm.1;unfold kP xA at this;simp only[Bool.and_eq_true]at this;exact this.2.2.2.1
   unfold dO at he;split at he
   ·simp at he;rw[he];exact hf
   ·rename_i ho;have ht:gy true s.t4.data.toList=true:=by
     have:=hm.2;rw[Bool.or_eq_true]at this
     rcases this with h|this
     ·exact absurd h ho
     ·unfold kP xB at this;simp only[Bool.and_eq_true]at this;exact this.2.2.2.1
    split at he
    ·simp at he
     rcases he with rfl|rfl
     ·exact hf
     ·exact ht
    ·simp at he
  ·exact ih h.2 (k+1) e he
def lastH(h:V->Bool):Bool->List V->V->Bool
 | on,[],_=>on
 | on,d :: D,x=>if aB d x<=0 then lastH h (h d) D x else on
theorem LQ(h:V->Bool)(x:V):∀(D:List V) (on:Bool),vw D->par (vg h on D) x=(on ^^ lastH h on D x)
 | [],on,_=>by simp[vg,par,lastH]
 | d :: D,on,hr=>by
  have hD:=Ij hr
  by_cases hd:aB d x<=0
  ·rw[lastH,if_pos hd,vg];split
   ·rename_i e;rw[LQ h x D on hD,e]
   ·rename_i e;rw[par,decide_eq_true hd,LQ h x D (h d) hD]
    cases hb:h d<;>cases on<;>first|(exact absurd hb e)|(cases lastH h _ D x<;>rfl)
  ·rw[lastH,if_neg hd];have hx:aB x d<0:=by have:=dN x d;omega
   rw[par_none]
   ·cases on<;>rfl
   ·intro t ht
    rcases List.mem_cons.1 ((ER h (d :: D) on).subset ht) with e|e
    ·rw[e];exact hx
    ·exact Eh hx (ES hr t e)
theorem Ud(h:V->Bool)(x:V):∀(D:List V) (on:Bool),vw D →
  ((∀d∈D,aB x d<0)/\lastH h on D x=on)\/∃z∈D,aB z x<=0/\(∀p∈D,aB z p<0->aB x p<0)/\lastH h on D x=h z
 | [],on,_=>Or.inl ⟨fun d hd=>by simp at hd,rfl⟩
 | d :: D,on,hr=>by
  have hD:=Ij hr
  by_cases hd:aB d x<=0
  ·right;rw[lastH,if_pos hd]
   rcases Ud h x D (h d) hD with⟨h1,h2⟩|⟨z,hz,h1,h2,h3⟩
   ·refine⟨d,by simp,hd,fun p hp hlt=>?_,h2⟩
    rcases List.mem_cons.1 hp with e|e
    ·rw[e,Ef]at hlt;omega
    ·exact h1 p e
   ·refine⟨z,by simp[hz],h1,fun p hp hlt=>?_,h3⟩
    rcases List.mem_cons.1 hp with e|e
    ·rw[e]at hlt;have:=ES hr z hz;have:=dN d z;omega
    ·exact h2 p e hlt
  ·left;have hx:aB x d<0:=by have:=dN x d;omega
   rw[lastH,if_neg hd];refine⟨fun p hp=>?_,rfl⟩
   rcases List.mem_cons.1 hp with e|e
   ·rw[e];exact hx
   ·exact Eh hx (ES hr p e)
theorem ac8(ch:Int->Bool)(h0:ch 0=false)(Ls:List (List Sg))(E:List Ed)(hE:E.Perm (xw 0 Ls))(hs:qK E)(x:V) :
  par (fG (fun b=>ch (having Ls.length b)) (fun _=>0) false E) x=ch (rF Ls x):=by
 have e1:=GX (fun b=>ch (having Ls.length b)) E (fun x=>ch (rF Ls x)) (fun x=>by simp only[GZ Ls E hE]) hs E [] false rfl;have e2:(fun j=>tot [] j)=(fun _=>(0:Int)):=rfl;rw[e2]at e1;rw[e1,LQ _ x _ _ (Ko E hs),Bool.false_xor];have hne:=(J9 E hs).2
 rcases Ud (fun x=>ch (rF Ls x)) x (jF E) false (Ko E hs) with⟨h1,h2⟩|⟨z,hz,h1,h2,h3⟩
 ·rw[h2,<-GZ Ls E hE];have:(fun j=>fO E j x)=fun _=>(0:Int):=by
   funext j;refine Q4 E j x fun e he hle=>?_
   obtain⟨p,hp,h0⟩:=hne e he;have a1:=h1 p hp;have a2:=dN e.at_ p;have a3:=rE (show aB p e.at_<=0 by omega) hle;have a4:=dN x p;omega
  rw[this,SV,h0]
 ·rw[h3];show ch (rF Ls z)=_;rw[<-GZ Ls E hE,<-GZ Ls E hE];congr 2;funext j;refine aal E j z x fun e he=>?_
  obtain⟨p,hp,h0⟩:=hne e he;have a2:=dN e.at_ p
  by_cases hzp:aB z p<0
  ·have hxp:=h2 p hp hzp;constructor
   ·intro h;exfalso;have a3:=rE (show aB p e.at_<=0 by omega) h;have a4:=dN z p;omega
   ·intro h;exfalso;have a3:=rE (show aB p e.at_<=0 by omega) h;have a4:=dN x p;omega
  ·have hpz:aB p z<=0:=by have:=dN z p;omega
   have Ue:=rE (show aB e.at_ p<=0 by omega) hpz;exact⟨fun _=>rE Ue h1,fun _=>Ue⟩
theorem Uf(l:List Sp)(x:V):AC (l.map vJ) x=eU l x:=by
 unfold AC eU;rw[List.any_map];rfl
theorem ac9(L:List Sp)(x:V):decide (0<rF [L.map vJ] x)=eU L x:=by
 unfold rF;simp only[List.map_cons,List.map_nil,List.sum_cons,List.sum_nil,Uf]
 cases eU L x<;>simp
theorem ada(L M:List Sp)(x:V):decide (rF [L.map vJ,M.map vJ] x=((2:Nat):Int))=(eU L x && eU M x):=by
 unfold rF;simp only[List.map_cons,List.map_nil,List.sum_cons,List.sum_nil,Uf]
 cases eU L x<;>cases eU M x<;>simp
def xU(t:V):Bool:=kP ⟨t.major,t.minor,t.patch,t.pre,[]⟩
theorem adb(Ls:List (List Sp))(h:Ls.all (·.all ik)=true):∀(k:Nat),∀e∈dQ k Ls,xU (aS e).at_=true:=by
 have key:∀(a b c:Int) (p q:List UInt8),kP ⟨a,b,c,p,q⟩=true->kP ⟨a,b,c,p,[]⟩=true:=by
  intro a b c p q h;unfold kP at h ⊢;simp only[Bool.and_eq_true]at h ⊢;exact⟨h.1,h.2.1,h.2.2.1,h.2.2.2.1,rfl⟩
 induction Ls with
 | nil=>intro k e he;simp[dQ]at he
 | cons l Ls ih =>
  intro k e he;rw[List.all_cons,Bool.and_eq_true]at h;rw[dQ]at he
  rcases List.mem_append.1 he with he|he
  ·obtain⟨s,hs,he⟩:=List.mem_flatMap.1 he;have hm:=List.all_eq_true.1 h.1 s hs;unfold ik at hm;rw[Bool.and_eq_true]at hm;have hf:=key _ _ _ _ _ hm.1;unfold dO at he;split at he
   ·simp at he;rw[he];exact hf
   ·rename_i ho;split at he
    ·simp at he
     rcases he with rfl|rfl
     ·exact hf
     ·have:=hm.2;rw[Bool.or_eq_true]at this
      rcases this with h|this
      ·exact absurd h ho
      ·exact key _ _ _ _ _ this
    ·simp at he
  ·exact ih h.2 (k+1) e he
structure NT(T:List V)(k:Nat):Prop where
 up:vw T
 ok:∀t∈T,gy true t.pre=true
 sm:∀t∈T,t.pre.length<=1048576
 sd:∀t∈T,xU t=true
 ln:T.length<=2097152*k
theorem NT.nf{T:List V}{k:Nat}(h:NT T k)(hk:k<=2):NF (outs T):=⟨T,rfl,h.up,fun t ht=>⟨h.ok t ht,h.sm t ht⟩,by
 have h1:=h.ln;have h5:2097152*k<=2097152*2:=Nat.mul_le_mul_left _ hk;omega⟩
theorem adc(ch:Int->Bool)(Ls:List (List Sp))(hsz:∀l∈Ls,l.length<=1048576/\∀s∈l,jG s)(hsd:Ls.all (·.all ik)=true)(E:List Er)(hE:E.Perm (dQ 0 Ls))(hs:qK (E.map aS)) :
  NT (fG (fun b=>ch (having Ls.length b)) (fun _=>0) false (E.map aS)) Ls.length:=by
 have e1:=GX (fun b=>ch (having Ls.length b)) (E.map aS) (fun x=>ch (having Ls.length (fun j=>fO (E.map aS) j x))) (fun x=>rfl) hs (E.map aS) [] false rfl;have e2:(fun j=>tot [] j)=(fun _=>(0:Int)):=rfl;rw[e2]at e1;have hsub:=ER (fun x=>ch (having Ls.length (fun j=>fO (E.map aS) j x))) (jF (E.map aS)) false;rw[<-e1]at hsub;have hmem:∀t,t∈(fG (fun b=>ch (having Ls.length b)) (fun _=>0) false (E.map aS))->∃e∈dQ 0 Ls,(aS e).at_=t:=by
  intro t ht;obtain⟨d,hd,rfl⟩:=(J9 _ hs).1 t (hsub.subset ht);obtain⟨e,he,rfl⟩:=List.mem_map.1 hd;exact⟨e,hE.mem_iff.1 he,rfl⟩
 refine⟨List.Pairwise.sublist hsub (Ko _ hs),?_,?_,?_,?_⟩
 ·intro t ht;obtain⟨e,he,rfl⟩:=hmem t ht;exact ac7 Ls hsd 0 e he
 ·intro t ht;obtain⟨e,he,rfl⟩:=hmem t ht;have:=KI Ls hsz 0 e he;show e.a4.data.toList.length<=_;rw[Array.length_toList];exact this
 ·intro t ht;obtain⟨e,he,rfl⟩:=hmem t ht;exact adb Ls hsd 0 e he
 ·have h1:(jF (E.map aS)).length<=(E.map aS).length:=by
   have:∀l:List Ed,(jF l).length<=l.length:=by
    intro l
    induction l with
    | nil=>simp[jF]
    | cons e r ih =>
     rw[jF];split
     ·rw[List.length_cons];omega
     ·rw[List.length_cons,List.length_cons];omega
   exact this _
  have h2:=hsub.length_le;have h3:=SS Ls (fun l hl=>(hsz l hl).1) 0;have h4:=hE.length_eq;rw[List.length_map]at h1;omega
theorem ade(T:List V):2*(outs T).length<=T.length+1:=by
 induction T using outs.induct with
 | case1=>simp[outs]
 | case2 x=>simp[outs]
 | case3 x y r ih=>rw[outs,List.length_cons,List.length_cons,List.length_cons];omega
theorem NT.sound{T:List V}{k:Nat}(h:NT T k):(outs T).all ik=true:=by
 rw[List.all_eq_true];intro s hs;have hv:∀x y o,xA (gB x y o)=⟨x.major,x.minor,x.patch,x.pre,[]⟩:=fun x y o=>by simp[xA,gB]
 have hw:∀x y o,xB (gB x y o)=⟨y.major,y.minor,y.patch,y.pre,[]⟩:=fun x y o=>by simp[xB,gB]
 rcases LP T s hs with⟨x,hx,rfl⟩|⟨x,hx,y,hy,rfl⟩
 ·unfold ik;rw[hv];have:=h.sd x hx;unfold xU at this;rw[this];rfl
 ·unfold ik;rw[hv,hw];have h1:=h.sd x hx;have h2:=h.sd y hy;unfold xU at h1 h2;rw[h1,h2];rfl
structure Pa where
 n:Nat
 a:Int
 b:Int
 c:Int
 pre:List UInt8
structure Te where
 sign:Int
 p:Pa
structure eQ(p:Pa):Prop where
 n3:p.n<=3
 a0:0<=p.a/\p.a<=999999999
 b0:0<=p.b/\p.b<=999999999
 c0:0<=p.c/\p.c<=999999999
 z1:p.n<1->p.a=0
 z2:p.n<2->p.b=0
 z3:p.n<3->p.c=0/\p.pre=[]
 ok:gy true p.pre=true
def ku:V:=⟨0,0,0,[48]⟩
def uu:V:=⟨0,0,0,[]⟩
def BH(p:Pa):V:=⟨p.a,p.b,p.c,p.pre⟩
def bu(p:Pa):V:=⟨p.a,p.b,p.c,if p.n<3 then[48] else p.pre⟩
def iV(p:Pa)(v:V):Bool:=if p.n=3 then decide (aB (BH p) v=0) else(decide (p.n<1) || decide (v.major=p.a)) && (decide (p.n<2) || decide (v.minor=p.b))
def iy(p:Pa)(v:V):Int:=if(iV p v || decide (p.n=0))=true then 0 else aB v (BH p)
def rW(p:Pa)(v:V):Bool:=decide (p.n=0) || decide (aB (bu p) v<=0)
def oZ(p:Pa)(v:V):Bool :=
 if p.n=0 then true else if v.major≠p.a then false else if 0<p.a\/p.n=1 then true else if v.minor≠p.b then false else(decide (0<p.b) || decide (p.n=2)) || decide (v.patch=p.c)
def jb(t:Te)(v:V):Bool :=
 if t.sign=0 then iV t.p v else if t.sign=1 then decide (0<=iy t.p v) else if t.sign=2 then decide (iy t.p v<=0) else if t.sign=3 then decide (0<iy t.p v)
 else if t.sign=4 then decide (iy t.p v<0) else if t.sign=5 then rW t.p v && oZ t.p v
 else if t.sign=6 then(rW t.p v && (decide (t.p.n<1) || decide (v.major=t.p.a))) && (decide (t.p.n<2) || decide (v.minor=t.p.b)) else rW t.p v
def ET(v:V)(k:Nat):V:=if k=1 then⟨v.major+1,0,0,[48]⟩ else if k=2 then⟨v.major,v.minor+1,0,[48]⟩ else⟨v.major,v.minor,v.patch+1,[48]⟩
def kS(p:Pa)(k:Nat):Sg:=if k=0 then⟨bu p,uu,true⟩ else⟨bu p,ET (bu p) k,false⟩
def di(p:Pa):Sg:=if p.n=3 then⟨bu p,mF (bu p),false⟩ else kS p p.n
def rX(p:Pa):Nat:=if p.a≠0 then 1 else if p.b≠0 then 2 else if p.c≠0 then 3 else p.n
def zq(s:Int)(p:Pa):Sg :=
 if s=0 then di p else if s=1 then⟨bu p,uu,true⟩ else if s=2 then⟨ku,(di p).to_,(di p).op⟩
 else if s=3 then(if(di p).op=true then⟨ku,ku,false⟩ else⟨(di p).to_,uu,true⟩) else if s=4 then⟨ku,bu p,false⟩
 else if s=5 then kS p (rX p) else kS p (min p.n 2)
def xW(p q:Pa):Sg:=⟨bu p,(di q).to_,(di q).op⟩
theorem BI(x y:V):aB x y<0↔x.major<y.major\/(x.major=y.major/\(x.minor<y.minor\/(x.minor=y.minor/\(x.patch<y.patch\/(x.patch=y.patch/\lg x.pre y.pre<0))))):=by
 rw[qH];have c1:∀a b:Int,Lib.compareInt a b=0↔a=b:=fun a b=>oI
 have c2:∀a b:Int,Lib.compareInt a b<0↔a<b:=fun a b=>by
  unfold Lib.compareInt
  repeat' split
  all_goals omega
 split
 ·rename_i h;rw[c1]at h;split
  ·rename_i h2;rw[c1]at h2;split
   ·rename_i h3;rw[c1]at h3;omega
   ·rename_i h3;rw[c1]at h3;rw[c2];omega
  ·rename_i h2;rw[c1]at h2;rw[c2];omega
 ·rename_i h;rw[c1]at h;rw[c2];omega
theorem Ug(x y:V):aB x y<=0↔¬aB y x<0:=by have:=dN x y;omega
theorem adf(l:List UInt8):¬lg l [48]<0:=by
 have h1:=Qv l;have h2:=GI.anti [48] l;omega
structure vV(v:V):Prop where
 n1:0<=v.major
 n2:0<=v.minor
 n3:0<=v.patch
 ok:gy true v.pre=true
theorem Uh(f v:V)(h:f.patch<4611686018427387904):aB v (mF f)<0↔aB v f<=0:=by
 constructor
 ·intro hn
  by_cases hc:aB v f<=0
  ·exact hc
  ·exact(ZU f v h (by have:=dN v f;omega) hn).elim
 ·intro hc;exact Eg hc (by have:=ZR f h;omega)
theorem qU(v:V)(a b c:Int):aB v ⟨a,b,c,[48]⟩ < 0↔v.major<a\/(v.major=a/\(v.minor<b\/(v.minor=b/\v.patch<c))):=by
 rw[BI];have:=adf v.pre;simp only[];omega
theorem uw(s:Sg)(v:V):jQ s v=true↔¬aB v s.fr<0/\(s.op=true\/aB v s.to_<0):=by
 unfold jQ;rw[Bool.and_eq_true,Bool.or_eq_true,decide_eq_true_eq,decide_eq_true_eq,Ug]
theorem Ik(v:V)(hv:vV v):¬aB v ku<0:=by
 unfold ku;rw[qU];have:=hv.n1;have:=hv.n2;have:=hv.n3;omega
theorem named_ok(p:Pa)(hp:eQ p)(v:V)(hv:vV v):jQ (di p) v=iV p v:=by
 obtain⟨n,a,b,c,pre⟩:=p;obtain⟨n3,a0,b0,c0,z1,z2,z3,ok⟩:=hp;simp only at n3 a0 b0 c0 z1 z2 z3 ok;have v1:=hv.n1;have v2:=hv.n2;have v3:=hv.n3;have hn:n=0\/n=1\/n=2\/n=3:=by omega
 rw[Bool.eq_iff_iff,uw]
 rcases hn with rfl|rfl|rfl|rfl
 ·simp[di,kS,iV,bu,qU,z1,z2,z3];omega
 ·simp[di,kS,iV,bu,ET,qU,z2,z3];omega
 ·simp[di,kS,iV,bu,ET,qU,z3];omega
 ·have hG:di ⟨3,a,b,c,pre⟩=⟨⟨a,b,c,pre⟩,mF ⟨a,b,c,pre⟩,false⟩:=rfl;have hB:iV ⟨3,a,b,c,pre⟩ v=decide (aB (⟨a,b,c,pre⟩:V) v=0):=rfl;rw[hG,hB,decide_eq_true_eq];simp only[];rw[Uh _ _ (by simp only[];omega)];have:=dN (⟨a,b,c,pre⟩:V) v;constructor
  ·rintro⟨h1,h2⟩
   rcases h2 with h2|h2
   ·cases h2
   ·omega
  ·intro h;exact⟨by omega,Or.inr (by omega)⟩
theorem adg(p:Pa)(hp:eQ p)(v:V)(hv:vV v):(iy p v<0↔aB v (bu p)<0)/\(0<iy p v↔(di p).op=false/\¬aB v (di p).to_<0):=by
 obtain⟨n,a,b,c,pre⟩:=p;obtain⟨n3,a0,b0,c0,z1,z2,z3,ok⟩:=hp;simp only at n3 a0 b0 c0 z1 z2 z3 ok;have v1:=hv.n1;have v2:=hv.n2;have v3:=hv.n3;have hn:n=0\/n=1\/n=2\/n=3:=by omega
 rcases hn with rfl|rfl|rfl|rfl
 ·simp[di,kS,iy,bu,qU,z1,z2,z3];omega
 ·have hc:=(z3 (by omega)).1;have hp:=(z3 (by omega)).2;have hb:=z2 (by omega);subst hc hp hb;have l1:=BI v ⟨a,0,0,[]⟩;have l2:=BI ⟨a,0,0,[]⟩ v;have l3:=dN v ⟨a,0,0,[]⟩;simp only at l1 l2;have k1:=qU v a 0 0;have k2:=qU v (a+1) 0 0;have hG:di ⟨1,a,0,0,[]⟩=⟨⟨a,0,0,[48]⟩,⟨a+1,0,0,[48]⟩,false⟩:=rfl;have hF:bu ⟨1,a,0,0,[]⟩=⟨a,0,0,[48]⟩:=rfl;have hP:iy ⟨1,a,0,0,[]⟩ v=if v.major=a then 0 else aB v ⟨a,0,0,[]⟩:=by
   unfold iy iV BH
   by_cases hm:v.major=a<;>simp[hm]
  by_cases hm:v.major=a
  ·rw[if_pos hm]at hP;simp only[hG,hF,hP,eq_self,true_and];omega
  ·rw[if_neg hm]at hP;simp only[hG,hF,hP,eq_self,true_and];omega
 ·have hc:=(z3 (by omega)).1;have hp:=(z3 (by omega)).2;subst hc hp;have l1:=BI v ⟨a,b,0,[]⟩;have l2:=BI ⟨a,b,0,[]⟩ v;have l3:=dN v ⟨a,b,0,[]⟩;simp only at l1 l2;have k1:=qU v a b 0;have k2:=qU v a (b+1) 0;have hG:di ⟨2,a,b,0,[]⟩=⟨⟨a,b,0,[48]⟩,⟨a,b+1,0,[48]⟩,false⟩:=rfl;have hF:bu ⟨2,a,b,0,[]⟩=⟨a,b,0,[48]⟩:=rfl;have hP:iy ⟨2,a,b,0,[]⟩ v=if v.major=a/\v.minor=b then 0 else aB v ⟨a,b,0,[]⟩:=by
   unfold iy iV BH
   by_cases hm:v.major=a<;>by_cases hm2:v.minor=b<;>simp[hm,hm2]
  by_cases hm:v.major=a/\v.minor=b
  ·rw[if_pos hm]at hP;simp only[hG,hF,hP,eq_self,true_and];omega
  ·rw[if_neg hm]at hP;simp only[hG,hF,hP,eq_self,true_and];omega
 ·have l3:=dN (⟨a,b,c,pre⟩:V) v;have hG:di ⟨3,a,b,c,pre⟩=⟨⟨a,b,c,pre⟩,mF ⟨a,b,c,pre⟩,false⟩:=rfl;have hF:bu ⟨3,a,b,c,pre⟩=⟨a,b,c,pre⟩:=rfl;have hP:iy ⟨3,a,b,c,pre⟩ v=if aB (⟨a,b,c,pre⟩:V) v=0 then 0 else aB v ⟨a,b,c,pre⟩:=by
   unfold iy iV BH
   by_cases hm:aB (⟨a,b,c,pre⟩:V) v=0<;>simp[hm]
  have hx:=Uh ⟨a,b,c,pre⟩ v (by simp only[];omega)
  by_cases h0:aB (⟨a,b,c,pre⟩:V) v=0
  ·rw[if_pos h0]at hP;simp only[hG,hF,hP,hx,eq_self,true_and];omega
  ·rw[if_neg h0]at hP;simp only[hG,hF,hP,hx,eq_self,true_and];omega
theorem Ui(p:Pa)(hp:eQ p)(k:Nat)(hk:k<=3)(v:V)(hv:vV v)(h1:k=1->True)(hz:(k<2->p.b=0\/True)) :
  jQ (kS p k) v=true↔¬aB v (bu p)<0/\(k=0\/(k=1/\v.major<p.a+1)\/(k=2/\(v.major<p.a\/(v.major=p.a/\v.minor<p.b+1)))\/(k=3/\(v.major<p.a\/(v.major=p.a/\(v.minor<p.b\/(v.minor=p.b/\v.patch<p.c+1)))))):=by
 rw[uw];have v1:=hv.n1;have v2:=hv.n2;have v3:=hv.n3;have hn:k=0\/k=1\/k=2\/k=3:=by omega
 rcases hn with rfl|rfl|rfl|rfl
 ·simp[kS]
 ·have e:kS p 1=⟨bu p,⟨p.a+1,0,0,[48]⟩,false⟩:=rfl;have k1:=qU v (p.a+1) 0 0;rw[e];simp only[];simp;omega
 ·have e:kS p 2=⟨bu p,⟨p.a,p.b+1,0,[48]⟩,false⟩:=rfl;have k1:=qU v p.a (p.b+1) 0;rw[e];simp only[];simp;omega
 ·have e:kS p 3=⟨bu p,⟨p.a,p.b,p.c+1,[48]⟩,false⟩:=rfl;have k1:=qU v p.a p.b (p.c+1);rw[e];simp only[];simp;omega
theorem Uj(p:Pa)(v:V)(h:¬aB v (bu p)<0):p.a<v.major\/(p.a=v.major/\(p.b<v.minor\/(p.b=v.minor/\p.c<=v.patch))):=by
 have l1:=BI v (bu p);have e1:(bu p).major=p.a:=rfl;have e2:(bu p).minor=p.b:=rfl;have e3:(bu p).patch=p.c:=rfl;rw[e1,e2,e3]at l1;omega
theorem LU(p:Pa)(hp:eQ p)(v:V)(hv:vV v):rW p v=true↔¬aB v (bu p)<0:=by
 unfold rW;rw[Bool.or_eq_true,decide_eq_true_eq,decide_eq_true_eq,Ug];constructor
 ·rintro(h|h)
  ·have e:bu p=⟨0,0,0,[48]⟩:=by
    unfold bu;rw[if_pos (by omega),hp.z1 (by omega),hp.z2 (by omega),(hp.z3 (by omega)).1]
   rw[e];exact Ik v hv
  ·exact h
 ·exact Or.inr
theorem Uk(s:Int)(hs:0<=s/\s<=6)(p:Pa)(hp:eQ p)(v:V)(hv:vV v):jQ (zq s p) v=jb ⟨s,p⟩ v:=by
 have hl:=Ik v hv;have hpl:=adg p hp v hv;have hss:s=0\/s=1\/s=2\/s=3\/s=4\/s=5\/s=6:=by omega
 rcases hss with rfl|rfl|rfl|rfl|rfl|rfl|rfl
 ·exact named_ok p hp v hv
 ·rw[Bool.eq_iff_iff,uw];show(¬aB v (bu p)<0/\(true=true\/_))↔decide (0<=iy p v)=true;rw[decide_eq_true_eq];simp only[true_or,and_true];omega
 ·rw[Bool.eq_iff_iff,uw];show(¬aB v ku<0/\((di p).op=true\/aB v (di p).to_<0))↔decide (iy p v<=0)=true;rw[decide_eq_true_eq]
  cases hop:(di p).op with
  | true =>
   rw[hop]at hpl;simp only[Bool.true_eq_false,false_and,iff_false]at hpl;simp only[true_or,and_true];exact⟨fun _=>by omega,fun _=>hl⟩
  | false =>
   rw[hop]at hpl;simp only[eq_self,true_and]at hpl;simp only[Bool.false_eq_true,false_or];omega
 ·show jQ (if(di p).op=true then⟨ku,ku,false⟩ else⟨(di p).to_,uu,true⟩) v=decide (0<iy p v);rw[Bool.eq_iff_iff,decide_eq_true_eq]
  cases hop:(di p).op with
  | true =>
   rw[hop]at hpl;simp only[Bool.true_eq_false,false_and,iff_false]at hpl;rw[if_pos rfl,uw];simp only[Bool.false_eq_true,false_or];omega
  | false =>
   rw[hop]at hpl;simp only[eq_self,true_and]at hpl;rw[if_neg (by decide),uw];simp only[true_or,and_true];omega
 ·rw[Bool.eq_iff_iff,uw];show(¬aB v ku<0/\(false=true\/aB v (bu p)<0))↔decide (iy p v<0)=true;rw[decide_eq_true_eq];simp only[Bool.false_eq_true,false_or];omega
 ·show jQ (kS p (rX p)) v=(rW p v && oZ p v);have n3:=hp.n3;have a0:=hp.a0;have b0:=hp.b0;have c0:=hp.c0;have z1:=hp.z1;have z2:=hp.z2;have z3:=hp.z3;rw[Bool.eq_iff_iff,Bool.and_eq_true,LU p hp v hv,Ui p hp (rX p) (by unfold rX;split;omega;split;omega;split;omega;exact n3) v hv (fun _=>trivial) (fun _=>Or.inr trivial)];refine and_congr_right fun hf=>?_
  have hn:=Uj p v hf;unfold rX oZ
  by_cases h0:p.n=0
  ·have e1:=z1 (by omega);have e2:=z2 (by omega);have e3:=(z3 (by omega)).1;simp[h0,e1,e2,e3]
  ·rw[if_neg h0]
   by_cases ha:p.a=0
   ·by_cases hb:p.b=0
    ·by_cases hc:p.c=0
     ·simp only[ha,hb,hc,ne_eq,not_true_eq_false,if_false]
      by_cases hm:v.major=0
      ·by_cases h1:p.n=1
       ·simp[hm,h1]<;>omega
       ·by_cases hm2:v.minor=0
        ·by_cases h2:p.n=2
         ·simp[hm,hm2,h2]<;>omega
         ·simp[hm,hm2,h1,h2]<;>omega
        ·simp[hm,hm2,h1]<;>omega
      ·simp[hm]<;>omega
     ·simp only[ha,hb,hc,ne_eq,not_true_eq_false,if_false,not_false_eq_true,if_true]
      by_cases hm:v.major=0
      ·by_cases hm2:v.minor=0
       ·have h3:p.n=3:=by omega
        simp[hm,hm2,h3]<;>omega
       ·have h3:p.n=3:=by omega
        simp[hm,hm2,h3]<;>omega
      ·simp[hm]<;>omega
    ·simp only[ha,hb,ne_eq,not_true_eq_false,if_false,not_false_eq_true,if_true];have h3:¬p.n=1:=by omega
     by_cases hm:v.major=0
     ·by_cases hm2:v.minor=p.b
      ·simp[hm,hm2,h3]<;>omega
      ·simp[hm,hm2,h3]<;>omega
     ·simp[hm]<;>omega
   ·simp only[ha,ne_eq,not_false_eq_true,if_true]
    by_cases hm:v.major=p.a
    ·simp[hm]<;>omega
    ·simp[hm]<;>omega
 ·show jQ (kS p (min p.n 2)) v=((rW p v && (decide (p.n<1) || decide (v.major=p.a))) && (decide (p.n<2) || decide (v.minor=p.b)));have n3:=hp.n3;have z1:=hp.z1;have z2:=hp.z2;rw[Bool.eq_iff_iff,Bool.and_eq_true,Bool.and_eq_true,and_assoc,LU p hp v hv,Ui p hp (min p.n 2) (by omega) v hv (fun _=>trivial) (fun _=>Or.inr trivial)];refine and_congr_right fun hf=>?_
  have hn:=Uj p v hf;simp only[Bool.or_eq_true,decide_eq_true_eq];omega
theorem adh(p q:Pa)(hp:eQ p)(hq:eQ q)(v:V)(hv:vV v):jQ (xW p q) v=(jb ⟨7,p⟩ v && jb ⟨2,q⟩ v):=by
 have h2:=Uk 2 (by decide) q hq v hv;rw[<-h2];show _=(rW p v && _);rw[Bool.eq_iff_iff,Bool.and_eq_true,LU p hp v hv,uw,uw];show(¬aB v (bu p)<0/\_)↔(¬aB v (bu p)<0/\(¬aB v ku<0/\((di q).op=true\/aB v (di q).to_<0)));have hl:=Ik v hv;constructor
 ·rintro⟨h1,h2⟩;exact⟨h1,hl,h2⟩
 ·rintro⟨h1,_,h2⟩;exact⟨h1,h2⟩
end Go.Proofs.YtiinliaoojfjaaaGreatDoor
