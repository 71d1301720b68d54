import Derived.Test.YteciokcdpadmpaaGreatDoorS09
import Derived.Test.YteciokcdpadmpaaGreatDoorS11
import Derived.Test.YteciokcdpadmpaaGreatDoorS10
set_option linter.all false
set_option maxRecDepth 100000
set_option maxHeartbeats 0
open Go.Proofs.Tryz
namespace Go.Proofs.YteciokcdpadmpaaGreatDoor
open Go.RowKit
theorem Y8(hsort:EM)(a:Addr)(n cap:Nat)(Ls:List (List Sp))(w:World)(hn:Ls.length=n)(hcap:n<=cap)(hn2:n<=2)(h:Lists w a Ls)(hsz:∀l∈Ls,l.length<=1048576/\∀s∈l,jK s) :
  Calls prog 133 #[.func (.func 180) #[] #[],.slice (some a) n cap] w (SweepPost (fun x=>decide (x=(n:Int))) Ls w):=by
 have HA:=ae h;have HS:=ae hsz;have HN:=ae hn;have CE:=ae (fun w (h:Lists w a Ls)=>OH hsort a n cap Ls w hn hcap hn2 h hsz);have hmk:=run_make_row' (P:=prog) 25 3 (.int .i64 0) 8 underlying25 OW rfl .i64 .i64 n (by omega) (by omega);obtain⟨ch,hch⟩:∃ch:Int->Bool,ch=fun x=>decide (x=(n:Int)):=⟨_,rfl⟩
 have xm:=ae hch;rw[<-hch];clear h hsz hn hch;go_enter func133,ntmps133;go_wp2;go_loopw [18] (fun vi wr=>∃j:Nat,vi=.int .i64 j/\j<=n/\(∀k (hk:k<Ls.length),k<j->Ls[k].all fZ=true)/\w.grownBy wr none) (fun vi _=>n-(intOf vi).toNat)
 case atStart=>exact⟨0,rfl,Nat.zero_le _,fun k hk h=>absurd h (by omega),ak _ _⟩
 case round =>
  obtain⟨j,rfl,hj,hp,hg⟩:=hrel;have HP:=ae hp;have HG:=ae hg;clear hp hg
  by_cases hlt:j<n
  ·have hjl:j<Ls.length:=by rw[HN.o];exact hlt
   obtain⟨sl,hcell,hsp⟩:=HA.o j hjl;have cj:=HG.o.cell hcell (by simp);have CS:=ae (OB sl Ls[j] wr (hsp.grow HG.o) (HS.o _ (List.getElem_mem hjl)).1 (HS.o _ (List.getElem_mem hjl)).2);obtain⟨b,hb⟩:=zN (Ls[j].all fZ);rw[hb]at CS;have HB:=ae hb;clear hcell hsp hb;go_wp2_with (go_at_call 163;refine CS.o.mono ?_);rintro e w1 ⟨rfl,hg⟩;replace HG:=ae (ag HG.o hg);clear hg cj
   cases b with
   | false =>
    go_wp2;refine bodyPost_ret (results_tmp2 rfl _ _ _) rfl ⟨HG.o,Or.inl ⟨fun hall=>?_,rfl⟩⟩;have:=List.all_eq_true.1 hall _ (List.getElem_mem hjl);rw[HB.o]at this;exact absurd this (by decide)
   | true =>
    go_wp2;go_roundw
    case rel =>
     refine⟨j+1,by go_num,by omega,fun k hk hkj=>?_,HG.o⟩
     by_cases hkj':k<j
     ·exact HP.o k hk hkj'
     ·have e:k=j:=by omega
      subst e;exact HB.o
    case measure=>simp[intOf];omega
  ·have lg:Hd (Ls.all (·.all fZ)=true):=by
    show _=true;rw[List.all_eq_true];intro l hl;obtain⟨k,hk,rfl⟩:=List.getElem_of_mem hl;exact HP.o k hk (by rw[HN.o]at hk;omega)
   clear HP;go_wp2_with (go_at_call 164;refine(CE.o _ (HA.o.grow (aj HG.o _))).mono ?_);rintro e w2 ⟨ve,E,rfl,hp,hso,ho2,hb2⟩;obtain⟨B,hB⟩:=zN (wr.heap.size);have tN:Hd (BegunAt w2 B n (fun _=>0)):=by
    show w2.heap[B]?=_;rw[hb2.block B (by rw[<-hB];simp),<-hB,heap_alloc_new wr,OY]
   have hB2:=(aB tN.o);have HG2:=ae (ag (aj HG.o _) (pW hb2));have zu:Hd (w.heap.size<=B):=by show _<=_;rw[<-hB];exact HG.o.size
   have BG:Hd (E.Perm (dU 0 Ls)/\nN (E.map aA)):=⟨hp,hso⟩;have kH:Hd (E.length<=8388608/\∀e∈E,e.l<n/\(e.d=1\/e.d=-1)/\e.a4.size<=1048576):=by
    show _/\_;have hl:=Io Ls (fun l hl=>(HS.o l hl).1) 0;rw[HN.o]at hl;refine⟨by rw[hp.length_eq];omega,fun e he=>?_⟩;have he':=hp.mem_iff.1 he;have h1:=OM Ls 0 e he';have h2:=EN Ls HS.o 0 e he';rw[HN.o]at h1;exact⟨by omega,h1.2.2,h2⟩
   have hbase:(wr.alloc (.cells (madeCells #[.int .i64 0] n) 3)).heap.size=B+1:=by rw[<-hB];simp
   rw[hbase]at ho2;rw[hB];have hef:=OQ ho2;clear hB hb2 hp hso ho2 hbase HG hmk;have FIN:Hd (∀(vs:Value) (T:List V) (wk:World),w2.grownBy wk (some B)->wk.ownsRow w2.heap.size 179 11 vs (outs T).length ((outs T).flatMap bW)->bQ (fun b=>ch (having n b)) (fun _=>0) false (E.map aA)=T->SweepPost ch Ls w (.returned (.tuple #[vs,.int .i64 0])) wk):=by
    intro vs T wk h1 h2 h3;have h4:w.grownBy wk none:=⟨h1.os.trans HG2.o.os,h1.tape.trans HG2.o.tape,h1.output.trans HG2.o.output,Nat.le_trans HG2.o.size h1.size,fun k hk _=>(h1.block k (Nat.lt_of_lt_of_le hk HG2.o.size) (by have:=zu.o;simp;omega)).trans (HG2.o.block k hk (by simp))⟩;refine⟨h4,Or.inr ⟨lg.o,E,vs,BG.o.1,BG.o.2,rfl,?_⟩⟩;rw[HN.o,h3];exact⟨Ik h2,Iu h2 HG2.o.size⟩
   rcases hef with⟨rfl,hE⟩|⟨ga,capE,rfl,hcE,hga,BH,hgs,BI⟩
   ·have jC:=ae hE;clear hE;go_wp2;go_loopw [8,9,10,33] (fun vs vh von vi wk=>vi=.int .i64 0/\vs=.slice none 0 0/\w2.grownBy wk (some B)) (fun _ _ _ vi _=>0)
    case atStart=>exact⟨rfl,rfl,ak _ _⟩
    case round =>
     obtain⟨rfl,rfl,hgk⟩:=hrel;have HF:=ae (FIN.o (.slice none 0 0) [] wr hgk (World.ownsRow_nil _ _ _ _) (by rw[jC.o];rfl));clear hgk;go_wp2;exact bodyPost_ret (results_tmp2 (t:=4) (u:=5) rfl _ _ _) rfl HF.o
   ·have BJ:=ae BI;have kJ:Hd (B<ga.block/\ga.block<w2.heap.size/\ga.spot=none):=⟨by omega,BH,hgs⟩;clear BI hga BH hgs;go_wp2;go_loopw [8,9,10,33] (fun vs vh von vi wk=>O0 ch n B E w2 vs vh von vi wk) (fun _ _ _ vi _=>E.length-(intOf vi).toNat)
    case atStart=>exact⟨0,fun _=>0,false,[],rfl,Nat.zero_le _,by rw[Ip],rfl,fun _=>by simp,rfl,Nat.le_refl _,rfl,tN.o,World.ownsRow_nil _ _ _ _,ak _ _⟩
    case round =>
     obtain⟨i,b,on,T,rfl,hi,rfl,rfl,hbb,hT,xq,xu,hbg,how,hgw⟩:=hrel
     by_cases hlt:i<E.length
     ·obtain⟨er,her⟩:=zN (E[i]);have HE:Hd (EdAt wr (ga.add (i*7)) er):=by
       show EdAt wr _ er;rw[<-her];exact(BJ.o i hlt).grow hgw (by rw[add_block];have:=kJ.o.1;simp;omega)
      obtain⟨e0,e1,e2,e3,e4,e5,e6⟩:=HE.o;have hme:=kH.o.2 er (by rw[<-her];exact List.getElem_mem hlt);have xw:=kH.o.1;obtain⟨N,hN⟩:=zN (wr.heap.size);obtain⟨W3,hW3⟩:=zN (wr.alloc (.cells #[.int .i64 er.a1,.int .i64 er.a2,.int .i64 er.a3,.string er.a4,.string er.a5,.int .i64 er.l,.int .i64 er.d] 245));have hg3:wr.grownBy W3 none:=by rw[<-hW3];exact aj (ak wr none) _
      have hNl:w2.heap.size<=N:=by rw[<-hN];exact hgw.size
      have xx:Hd (N≠B/\w2.heap.size<=N):=⟨by omega,hNl⟩;have HR3:Hd (EdAt W3 ⟨N,0,none⟩ er):=by
       show EdAt W3 _ er;have hr:W3.heap[N]?=some (.cells #[.int .i64 er.a1,.int .i64 er.a2,.int .i64 er.a3,.string er.a4,.string er.a5,.int .i64 er.l,.int .i64 er.d] 245 (0,0)):=by rw[<-hW3,<-hN];exact heap_alloc_new wr _
       exact⟨by rw[ah hr];rfl,by rw[ah hr];rfl,by rw[ah hr];rfl,by rw[ah hr];rfl,by rw[ah hr];rfl,by rw[ah hr];rfl,by rw[ah hr];rfl⟩
      have xy:=ae (hbg.grow hg3 (by simp));have pY:=ae (jL how hg3);have dJ:=ae (ag hgw (bH hg3 _));obtain⟨d0,d1,d2,d3,d4,d5,d6⟩:=HR3.o;simp only[Nat.zero_add]at d1 d2 d3 d4 d5 d6;have cb:=xy.o.cell hme.1;have fb:=xy.o.f er.l;have hbl:=hbb er.l;have CB:=ae (fun wx (h1:wx.cell? ⟨B,er.l,none⟩=some (.int .i64 (b er.l))) (h2:wx.frozen? ⟨B,er.l,none⟩=false)=>OC B er.l (b er.l) er.d wx h1 h2 (by omega) (by omega));have hhb:=OJ n b i hbb;have hni:(n:Int)*i<=2*8388608:=by
       have h1:(n:Int)<=2:=by omega
       have h2:(i:Int)<=8388608:=by omega
       have h3:(n:Int)*i<=2*i:=Int.mul_le_mul_of_nonneg_right h1 (by omega);omega
      have hw:IntKind.i64.wrap (having n b+(min (b er.l+er.d) 1-min (b er.l) 1))=having n (upd b er.l er.d):=by
       rw[OI n er.l er.d b hme.1,IntKind.wrap_i64];omega
      have hln:=hme.1;have Iw:=xx.o.1;have kK:Hd (er.l<n/\(er.d=1\/er.d=-1)/\er.a4.size<=1048576/\E.length<=8388608):=⟨hme.1,hme.2.1,hme.2.2,xw⟩;have nU:=ae hbb;have bG:Hd (bQ (fun b=>ch (having n b)) (fun _=>0) false (E.map aA)=T++bQ (fun b=>ch (having n b)) b on ((E.map aA).drop i)/\T.length<=i/\(T.length % 2=if on=true then 1 else 0)):=⟨hT,xq,xu⟩;have Iy:=ae her;clear hbb hT xq xu hbg how hgw her hme xw hbl hhb hni hg3 hNl;have kk:∀o v,W3.cell? ⟨N,o,none⟩=some v->(W3.setCell ⟨B,er.l,none⟩ (.int .i64 (b er.l+er.d))).cell? ⟨N,o,none⟩=some v:=fun o v h=>by
       rw[<-h];exact World.cell?_of_block (heap_setCell_other W3 _ N _ Iw)
      have k0:=kk 0 _ d0;have k1:=kk 1 _ d1;have k2:=kk 2 _ d2;have k3:=kk 3 _ d3;have k4:=kk 4 _ d4;have k5:=kk 5 _ d5;have k6:=kk 6 _ d6;obtain⟨W4,gp⟩:=zN ((W3.setCell ⟨B,er.l,none⟩ (.int .i64 (b er.l+er.d))).drew);have HR4:Hd (EdAt W4 ⟨N,0,none⟩ er):=by show EdAt W4 _ er;rw[<-gp];exact⟨k0,k1,k2,k3,k4,k5,k6⟩
      have BK:Hd (BegunAt W4 B n (upd b er.l er.d)):=by show BegunAt W4 _ _ _;rw[<-gp];exact xy.o.set kK.o.1 er.d
      have gB:Hd (w2.grownBy W4 (some B)):=by show w2.grownBy W4 _;rw[<-gp];exact aG (aW dJ.o _ _) 1
      have BL:Hd (W4.ownsRow w2.heap.size 179 11 u8 (outs T).length ((outs T).flatMap bW)):=by
       show World.ownsRow _ _ _ _ _ _ _;rw[<-gp];refine pY.o.kept (w':=(W3.setCell ⟨B,er.l,none⟩ (.int .i64 (b er.l+er.d))).drew) (aG (aW (ak W3 (some B)) er.l (.int .i64 (b er.l+er.d))) 1) ?_
       cases ho:u8.ownBlock with
       | none=>exact Or.inl rfl
       | some q=>exact Or.inr (fun e=>by have:=(pY.o.lt q ho).1;injection e with e;omega)
      clear kk;have j5:W4.cell? ⟨N,5,none⟩=some (.int .i64 er.l):=HR4.o.2.2.2.2.2.1;have j6:W4.cell? ⟨N,6,none⟩=some (.int .i64 er.d):=HR4.o.2.2.2.2.2.2;go_wp2
      go_region_held3 (fun w'=>w'.cell? ⟨N,5,none⟩=some (.int .i64 er.l)/\w'.cell? ⟨N,6,none⟩=some (.int .i64 er.d)) ((first|exact⟨d5,d6⟩|exact⟨j5,j6⟩|exact⟨k5,k6⟩|go_keep)) (first|(go_at_call 165;refine(CB.o W3.drew cb fb).mono ?_;rintro e w4 ⟨rfl,rfl⟩))
      try rw[gp]
      clear gp j5 j6 k0 k1 k2 k3 k4 k5 k6 cb fb hw d0 d1 d2 d3 d4 d5 d6 CB hW3 hN;obtain⟨d0,d1,d2,d3,d4,d5,d6⟩:=HR4.o;simp only[Nat.zero_add]at d1 d2 d3 d4 d5 d6;have HST:Hd (bQ (fun b=>ch (having n b)) b on ((E.map aA).drop i)=if kG (aA er) ((E.map aA).drop (i+1))=true then bQ (fun b=>ch (having n b)) (upd b er.l er.d) on ((E.map aA).drop (i+1)) else if ch (having n (upd b er.l er.d))=on then bQ (fun b=>ch (having n b)) (upd b er.l er.d) on ((E.map aA).drop (i+1)) else(aA er).at_ :: bQ (fun b=>ch (having n b)) (upd b er.l er.d) (ch (having n (upd b er.l er.d))) ((E.map aA).drop (i+1))):=by
       show bQ _ _ _ _=_;have hd:(E.map aA).drop i=aA er :: (E.map aA).drop (i+1):=by
        rw[List.drop_eq_getElem_cons (by simpa using hlt),List.getElem_map,Iy.o]
       rw[hd];rfl
      have kM:Hd (∀j,-((i+1:Nat):Int)<=upd b er.l er.d j/\upd b er.l er.d j<=((i+1:Nat):Int)):=by
       intro k;have h1:=nU.o k;have h2:=kK.o.2.1;unfold upd;split<;>omega
      have xw:=kK.o.2.2.2;have hw1:IntKind.i64.wrap ((i:Int)+1)=((i+1:Nat):Int):=by rw[IntKind.wrap_i64];omega
      obtain⟨H,hH⟩:=zN (having n (upd b er.l er.d));have HH:=ae hH;rw[hH];clear hH
      by_cases hnx:i+1<E.length
      ·obtain⟨er2,tV⟩:=zN (E[i+1]);have HE2:Hd (EdAt W4 (ga.add ((i+1)*7)) er2):=by
        show EdAt W4 _ er2;rw[<-tV];exact(BJ.o (i+1) hnx).grow gB.o (by rw[add_block];have:=kJ.o.1;simp;omega)
       obtain⟨x,hx⟩:=zN (aC (aA er).at_ (aA er2).at_);have hm2:=(kH.o.2 er2 (by rw[<-tV];exact List.getElem_mem hnx)).2.2;have bD:Hd (kG (aA er) ((E.map aA).drop (i+1))=decide (x=0)):=by
        show kG _ _=_;rw[List.drop_eq_getElem_cons (by simpa using hnx),List.getElem_map,tV,<-hx];rfl
       have CC:Hd (∀w,Calls prog 86 #[.agg #[.int .i64 er.a1,.int .i64 er.a2,.int .i64 er.a3,.string er.a4,.string er.a5],.agg #[.int .i64 er2.a1,.int .i64 er2.a2,.int .i64 er2.a3,.string er2.a4,.string er2.a5]] w fun e w'=>e=.returned (.int .i64 x)/\w.grownBy w' none):=fun w=>by
        rw[<-hx];exact compare_any er.a1 er.a2 er.a3 er2.a1 er2.a2 er2.a3 er.a4 er.a5 er2.a4 er2.a5 w (by have:=kK.o.2.2.1;omega) (by omega)
       obtain⟨q0,q1,q2,q3,q4,q5,q6⟩:=HE2.o;clear hx tV hm2;have hnx2:decide (((i+1:Nat):Int)<(E.length:Int))=true:=by simp;omega
       have hnx3:decide (i+1<E.length)=true:=by simp;omega
       have xA:decide ((i:Int)+1<(E.length:Int))=true:=by simp;omega
       have Iz:((i+1:Nat):Int)<(E.length:Int):=by omega
       have IA:(0:Int)<=((i+1:Nat):Int):=by omega
       have IB:(i:Int)+1<(E.length:Int):=by omega
       have IC:(0:Int)<=(i:Int)+1:=by omega
       have IE:((i:Int)+1).toNat=i+1:=by omega
       go_wp2
       go_region_held3 (fun w'=>w'.cell? ⟨N,0,none⟩=some (.int .i64 er.a1)/\w'.cell? ⟨N,1,none⟩=some (.int .i64 er.a2)/\w'.cell? ⟨N,2,none⟩=some (.int .i64 er.a3)/\w'.cell? ⟨N,3,none⟩=some (.string er.a4)/\w'.cell? ⟨N,4,none⟩=some (.string er.a5)/\w'.cell? (ga.add ((i+1)*7))=some (.int .i64 er2.a1)/\w'.cell? ⟨(ga.add ((i+1)*7)).block,(ga.add ((i+1)*7)).off+1,none⟩=some (.int .i64 er2.a2)/\w'.cell? ⟨(ga.add ((i+1)*7)).block,(ga.add ((i+1)*7)).off+2,none⟩=some (.int .i64 er2.a3)/\w'.cell? ⟨(ga.add ((i+1)*7)).block,(ga.add ((i+1)*7)).off+3,none⟩=some (.string er2.a4)/\w'.cell? ⟨(ga.add ((i+1)*7)).block,(ga.add ((i+1)*7)).off+4,none⟩=some (.string er2.a5)) ((first|exact OZ (by assumption) (by assumption)|go_keep)) (first|(go_at_call 86;refine(CC.o _).mono ?_;rintro e w5 ⟨rfl,hg5⟩))
       have tX:=ae (HR4.o.grow (bZ hg5) (by simp));have jD:=ae (BK.o.grow (bZ hg5) (by simp));have eP:=ae (jL BL.o (bZ hg5));have fC:=ae (ag gB.o (bH (bZ hg5) _));clear hg5 q0 q1 q2 q3 q4 q5 q6 d0 d1 d2 d3 d4 d5 d6 hnx2 hnx3 xA Iz IA IB IC IE
       cases hx0:(x == 0) with
       | true =>
        have hxx:x=0:=by simpa using hx0
        have fD:Hd (bQ (fun b=>ch (having n b)) (fun _=>0) false (E.map aA)=T++bQ (fun b=>ch (having n b)) (upd b er.l er.d) on ((E.map aA).drop (i+1))):=by
         show _=_;rw[bG.o.1,HST.o,bD.o,hxx];rfl
        have bK:Hd (T.length<=i/\(T.length % 2=if on=true then 1 else 0)):=⟨bG.o.2.1,bG.o.2.2⟩;clear bG HST;go_wp2;go_roundw
        case rel=>exact⟨i+1,upd b er.l er.d,on,T,by go_num,by omega,by rw[HH.o],rfl,kM.o,fD.o,by have:=bK.o.1;omega,bK.o.2,jD.o,eP.o,fC.o⟩
        case measure=>simp[intOf];omega
       | false =>
        have hxx:decide (x=0)=false:=by simpa using hx0
        rw[hxx]at bD;clear hxx hx0;have iq:Hd (ch (having n (upd b er.l er.d))=decide (H=(n:Int))):=by show ch _=_;rw[xm.o,HH.o]
        obtain⟨d0,d1,d2,d3,d4,d5,d6⟩:=tX.o;simp only[Nat.zero_add]at d1 d2 d3 d4 d5 d6
        cases hc:decide (H=(n:Int)) with
        | false =>
         rw[hc]at iq
         cases on with
         | false =>
          have fD:Hd (bQ (fun b=>ch (having n b)) (fun _=>0) false (E.map aA)=T++bQ (fun b=>ch (having n b)) (upd b er.l er.d) false ((E.map aA).drop (i+1))):=by
           show _=_;rw[bG.o.1,HST.o,bD.o,iq.o];rfl
          have bK:Hd (T.length<=i/\(T.length % 2=if false=true then 1 else 0)):=⟨bG.o.2.1,bG.o.2.2⟩;clear bG HST;go_wp2_with (go_at_call 180;refine(vG _ _ _).mono ?_;rintro e w' ⟨rfl,rfl⟩);go_roundw
          case rel=>exact⟨i+1,upd b er.l er.d,false,T,by go_num,by omega,by rw[HH.o],rfl,kM.o,fD.o,by have:=bK.o.1;omega,bK.o.2,jD.o,eP.o,fC.o⟩
          case measure=>simp[intOf];omega
         | true =>
          have mF:=ae (fun w=>vH er.a1 er.a2 er.a3 er.a4 er.a5 w (by have:=kK.o.2.2.1;omega));have fD:Hd (bQ (fun b=>ch (having n b)) (fun _=>0) false (E.map aA)=(T++[(aA er).at_])++bQ (fun b=>ch (having n b)) (upd b er.l er.d) false ((E.map aA).drop (i+1))):=by
           show _=_;rw[bG.o.1,HST.o,bD.o,iq.o,List.append_assoc];rfl
          have bK:Hd (T.length<=i/\T.length % 2=1):=⟨bG.o.2.1,by have:=bG.o.2.2;simpa using this⟩;have qc:(outs T).length<=8388608:=by have q1:=tK T;have q2:=bK.o.1;omega
          obtain⟨A,y,hA1,hA2⟩:=BD T (aA er).at_ bK.o.2;rw[hA1]at eP qc;obtain⟨M,hM⟩:=zN (A.length);have hlen:(A++[dD y iJ true]).length=M+1:=by rw[List.length_append,hM];rfl
          rw[hlen]at eP qc;obtain⟨gs,capS,xB⟩:∃gs capS,u8=.slice (some ⟨gs,0,none⟩) (M+1) capS:=by
           rcases eP.o.2 with⟨_,h0⟩|⟨g,cap,cur,h1,_⟩
           ·omega
           ·exact⟨g,cap,h1⟩
          subst xB;have HA2:Hd (outs (T++[(aA er).at_])=A++[dD y (aA er).at_ false]/\A.length=M):=⟨hA2,hM⟩;have hm1:IntKind.i64.wrap (((M+1:Nat):Int)-1)=((M:Nat):Int):=by rw[IntKind.wrap_i64];omega
          have hm2:((M+1:Nat):Int)-1=(M:Int):=by omega
          have IG:(M:Int)<((M+1:Nat):Int):=by omega
          have hm4:(M:Int)<(M:Int)+1:=by omega
          clear bG HST hA1 hA2 hM hlen;go_wp2_with (first|(go_at_call 180;refine(vG _ _ _).mono ?_;rintro e w9 ⟨rfl,iZ⟩;rw[iZ];clear iZ)|(go_at_call 166;refine(mF.o _).mono ?_));rintro e w6 ⟨rfl,dG⟩;have eG:=ae (jL eP.o dG);have xC:=ae (jD.o.grow dG (by simp));have lS:=ae (ag fC.o (bH dG _));have lT:=ae ((eG.o.lt gs rfl).1);have c5:=iT eG.o HA2.o.2 5 _ rfl;have c6:=iT eG.o HA2.o.2 6 _ rfl;have c7:=iT eG.o HA2.o.2 7 _ rfl;have c8:=iT eG.o HA2.o.2 8 _ rfl;have c9:=iT eG.o HA2.o.2 9 _ rfl;have c10:=iT eG.o HA2.o.2 10 _ rfl;have fz:=EU eG.o;clear dG d0 d1 d2 d3 d4 d5 d6;go_wp2;clear c5 c6 c7 c8 c9 c10 fz;have g9:w6.grownBy ((((((w6.setCell ⟨gs,M*11+5,none⟩ (.int .i64 er.a1)).setCell ⟨gs,M*11+5+1,none⟩ (.int .i64 er.a2)).setCell ⟨gs,M*11+5+2,none⟩ (.int .i64 er.a3)).setCell ⟨gs,M*11+5+3,none⟩ (.string er.a4)).setCell ⟨gs,M*11+5+4,none⟩ (.string ⟨#[]⟩)).setCell ⟨gs,M*11+10,none⟩ (.bool false)) (some gs):=aW (aW (aW (aW (aW (aW (ak w6 (some gs)) _ _) _ _) _ _) _ _) _ _) _ _
          have o9:=iR (iR (iR (iR (iR (iR eG.o (M*11+5) (.int .i64 er.a1) (by omega)) (M*11+5+1) (.int .i64 er.a2) (by omega)) (M*11+5+2) (.int .i64 er.a3) (by omega)) (M*11+5+3) (.string er.a4) (by omega)) (M*11+5+4) (.string ⟨#[]⟩) (by omega)) (M*11+10) (.bool false) (by omega);have hfl:(A++[dD y iJ true]).flatMap bW=A.flatMap bW++bW (dD y iJ true):=by rw[List.flatMap_append];simp
          have hPl:(A.flatMap bW).length=M*11:=by rw[ER,HA2.o.2]
          rw[hfl]at o9;have hcl:=ET er y hPl;have hol:(outs (T++[(aA er).at_])).length=M+1:=by rw[HA2.o.1,List.length_append,HA2.o.2];rfl
          have hof:(outs (T++[(aA er).at_])).flatMap bW=A.flatMap bW++bW (dD y (aA er).at_ false):=by rw[HA2.o.1,List.flatMap_append];simp
          have xE:B≠gs:=by have:=lT.o;omega
          refine⟨⟨i+1,upd b er.l er.d,false,T++[(aA er).at_],by go_num,by omega,by rw[HH.o],rfl,kM.o,fD.o,by have:=bK.o.1;simp;omega,by have:=bK.o.2;simp;omega,xC.o.grow g9 (by simpa using xE),?_,vJ lS.o g9 (fun q hq=>by injection hq with hq;have:=lT.o;omega)⟩,by simp[intOf];omega⟩;rw[hol,hof,<-hcl];exact o9
        | true =>
         rw[hc]at iq
         cases on with
         | false =>
          have mF:=ae (fun w=>vH er.a1 er.a2 er.a3 er.a4 er.a5 w (by have:=kK.o.2.2.1;omega));have fD:Hd (bQ (fun b=>ch (having n b)) (fun _=>0) false (E.map aA)=(T++[(aA er).at_])++bQ (fun b=>ch (having n b)) (upd b er.l er.d) true ((E.map aA).drop (i+1))):=by
           show _=_;rw[bG.o.1,HST.o,bD.o,iq.o,List.append_assoc];rfl
          have bK:Hd (T.length<=i/\T.length % 2=0):=⟨bG.o.2.1,by have:=bG.o.2.2;simpa using this⟩;have qg:Hd ((outs T).length<=8388608):=by show _<=_;have q1:=tK T;have q2:=bK.o.1;omega
          have hinfo:=Bq;obtain⟨i1,hj0,hjj⟩:=Option.map_eq_some_iff.1 hinfo;simp only[Prod.mk.injEq]at hjj;obtain⟨hy0,hy1,hyb⟩:=hjj;clear bG HST hinfo;go_wp2_with (first|(go_at_call 180;refine(vG _ _ _).mono ?_;rintro e w9 ⟨rfl,iZ⟩;rw[iZ];clear iZ)|(go_at_call 166;refine(mF.o _).mono ?_;rintro e w6 ⟨rfl,dG⟩)|(at_builtin;refine wpList_append_own _ rfl _ _ 139 rfl w2.heap.size 179 i1 _ 11 120 underlying139 hj0 hy0 hy1 hyb rfl (by decide) _ _ _ rfl ((jL eP.o dG).alloc _) _ 1 1 (bW (dD (aA er).at_ iJ true)) rfl rfl (by rw[ES];exact World.news_of_block (heap_alloc_new _ _)) (Bv _) (by unfold maxLen;have:=qg.o;omega) (by have:=qg.o;omega) (by have q1:=fC.o.size;have q2:=dG.size;simp;omega) ?_;intro v' w7 hown7 hgrow _));have gK:w5.grownBy (w6.alloc (.cells #[.int .i64 er.a1,.int .i64 er.a2,.int .i64 er.a3,.string er.a4,.string ⟨#[]⟩,.int .i64 0,.int .i64 0,.int .i64 0,.string ⟨#[]⟩,.string ⟨#[]⟩,.bool true] 179)) none:=ag dG (aj (ak w6 none) _)
          have hrow:=fun q (hq:u8.ownBlock=some q)=>(eP.o.lt q hq).1
          have jl:=ae ((jD.o.grow gK (by simp)).grow hgrow (fun e=>by have:=hrow B e.symm;omega));have HF2:=ae (vJ (ag fC.o (bH gK _)) hgrow hrow);have HF3:Hd (w7.ownsRow w2.heap.size 179 11 v' (outs (T++[(aA er).at_])).length ((outs (T++[(aA er).at_])).flatMap bW)):=by
           show World.ownsRow _ _ _ _ _ _ _;rw[BC T _ bK.o.2,List.length_append,List.flatMap_append];simpa using hown7
          exact⟨⟨i+1,upd b er.l er.d,true,T++[(aA er).at_],by go_num,by omega,by rw[HH.o],rfl,kM.o,fD.o,by have:=bK.o.1;simp;omega,by have:=bK.o.2;simp;omega,jl.o,HF3.o,HF2.o⟩,by simp[intOf];omega⟩
         | true =>
          have fD:Hd (bQ (fun b=>ch (having n b)) (fun _=>0) false (E.map aA)=T++bQ (fun b=>ch (having n b)) (upd b er.l er.d) true ((E.map aA).drop (i+1))):=by
           show _=_;rw[bG.o.1,HST.o,bD.o,iq.o];rfl
          have bK:Hd (T.length<=i/\(T.length % 2=if true=true then 1 else 0)):=⟨bG.o.2.1,bG.o.2.2⟩;clear bG HST;go_wp2_with (go_at_call 180;refine(vG _ _ _).mono ?_;rintro e w' ⟨rfl,rfl⟩);go_roundw
          case rel=>exact⟨i+1,upd b er.l er.d,true,T,by go_num,by omega,by rw[HH.o],rfl,kM.o,fD.o,by have:=bK.o.1;omega,bK.o.2,jD.o,eP.o,fC.o⟩
          case measure=>simp[intOf];omega
      ·have bD:Hd (kG (aA er) ((E.map aA).drop (i+1))=false):=by
        show kG _ _=false;rw[List.drop_of_length_le (by simp;omega)];rfl
       have hnx2:decide (((i+1:Nat):Int)<(E.length:Int))=false:=by simp;omega
       have hnx3:decide (i+1<E.length)=false:=by simp;omega
       have xA:decide ((i:Int)+1<(E.length:Int))=false:=by simp;omega
       go_wp2;go_quiet (fail);obtain⟨w5,hw5⟩:=zN (W4.drewN nq);have tX:Hd (EdAt w5 ⟨N,0,none⟩ er):=by show EdAt w5 _ er;rw[<-hw5];exact HR4.o
       have jD:Hd (BegunAt w5 B n (upd b er.l er.d)):=by show BegunAt w5 _ _ _;rw[<-hw5];exact BK.o
       have eP:Hd (w5.ownsRow w2.heap.size 179 11 u8 (outs T).length ((outs T).flatMap bW)):=by show World.ownsRow _ _ _ _ _ _ _;rw[<-hw5];exact jL BL.o (aG (ak W4 none) nq)
       have fC:Hd (w2.grownBy w5 (some B)):=by show w2.grownBy w5 _;rw[<-hw5];exact aG gB.o nq
       try rw[hw5]
       clear hw5 d0 d1 d2 d3 d4 d5 d6 hnx2 hnx3 xA;have iq:Hd (ch (having n (upd b er.l er.d))=decide (H=(n:Int))):=by show ch _=_;rw[xm.o,HH.o]
       obtain⟨d0,d1,d2,d3,d4,d5,d6⟩:=tX.o;simp only[Nat.zero_add]at d1 d2 d3 d4 d5 d6
       cases hc:decide (H=(n:Int)) with
       | false =>
        rw[hc]at iq
        cases on with
        | false =>
         have fD:Hd (bQ (fun b=>ch (having n b)) (fun _=>0) false (E.map aA)=T++bQ (fun b=>ch (having n b)) (upd b er.l er.d) false ((E.map aA).drop (i+1))):=by
          show _=_;rw[bG.o.1,HST.o,bD.o,iq.o];rfl
         have bK:Hd (T.length<=i/\(T.length % 2=if false=true then 1 else 0)):=⟨bG.o.2.1,bG.o.2.2⟩;clear bG HST;go_wp2_with (go_at_call 180;refine(vG _ _ _).mono ?_;rintro e w' ⟨rfl,rfl⟩);go_roundw
         case rel=>exact⟨i+1,upd b er.l er.d,false,T,by go_num,by omega,by rw[HH.o],rfl,kM.o,fD.o,by have:=bK.o.1;omega,bK.o.2,jD.o,eP.o,fC.o⟩
         case measure=>simp[intOf];omega
        | true =>
         have mF:=ae (fun w=>vH er.a1 er.a2 er.a3 er.a4 er.a5 w (by have:=kK.o.2.2.1;omega));have fD:Hd (bQ (fun b=>ch (having n b)) (fun _=>0) false (E.map aA)=(T++[(aA er).at_])++bQ (fun b=>ch (having n b)) (upd b er.l er.d) false ((E.map aA).drop (i+1))):=by
          show _=_;rw[bG.o.1,HST.o,bD.o,iq.o,List.append_assoc];rfl
         have bK:Hd (T.length<=i/\T.length % 2=1):=⟨bG.o.2.1,by have:=bG.o.2.2;simpa using this⟩;have qc:(outs T).length<=8388608:=by have q1:=tK T;have q2:=bK.o.1;omega
         obtain⟨A,y,hA1,hA2⟩:=BD T (aA er).at_ bK.o.2;rw[hA1]at eP qc;obtain⟨M,hM⟩:=zN (A.length);have hlen:(A++[dD y iJ true]).length=M+1:=by rw[List.length_append,hM];rfl
         rw[hlen]at eP qc;obtain⟨gs,capS,xB⟩:∃gs capS,u8=.slice (some ⟨gs,0,none⟩) (M+1) capS:=by
          rcases eP.o.2 with⟨_,h0⟩|⟨g,cap,cur,h1,_⟩
          ·omega
          ·exact⟨g,cap,h1⟩
         subst xB;have HA2:Hd (outs (T++[(aA er).at_])=A++[dD y (aA er).at_ false]/\A.length=M):=⟨hA2,hM⟩;have hm1:IntKind.i64.wrap (((M+1:Nat):Int)-1)=((M:Nat):Int):=by rw[IntKind.wrap_i64];omega
         have hm2:((M+1:Nat):Int)-1=(M:Int):=by omega
         have IG:(M:Int)<((M+1:Nat):Int):=by omega
         have hm4:(M:Int)<(M:Int)+1:=by omega
         clear bG HST hA1 hA2 hM hlen;go_wp2_with (first|(go_at_call 180;refine(vG _ _ _).mono ?_;rintro e w9 ⟨rfl,iZ⟩;rw[iZ];clear iZ)|(go_at_call 166;refine(mF.o _).mono ?_));rintro e w6 ⟨rfl,dG⟩;have eG:=ae (jL eP.o dG);have xC:=ae (jD.o.grow dG (by simp));have lS:=ae (ag fC.o (bH dG _));have lT:=ae ((eG.o.lt gs rfl).1);have c5:=iT eG.o HA2.o.2 5 _ rfl;have c6:=iT eG.o HA2.o.2 6 _ rfl;have c7:=iT eG.o HA2.o.2 7 _ rfl;have c8:=iT eG.o HA2.o.2 8 _ rfl;have c9:=iT eG.o HA2.o.2 9 _ rfl;have c10:=iT eG.o HA2.o.2 10 _ rfl;have fz:=EU eG.o;clear dG d0 d1 d2 d3 d4 d5 d6;go_wp2;clear c5 c6 c7 c8 c9 c10 fz;have g9:w6.grownBy ((((((w6.setCell ⟨gs,M*11+5,none⟩ (.int .i64 er.a1)).setCell ⟨gs,M*11+5+1,none⟩ (.int .i64 er.a2)).setCell ⟨gs,M*11+5+2,none⟩ (.int .i64 er.a3)).setCell ⟨gs,M*11+5+3,none⟩ (.string er.a4)).setCell ⟨gs,M*11+5+4,none⟩ (.string ⟨#[]⟩)).setCell ⟨gs,M*11+10,none⟩ (.bool false)) (some gs):=aW (aW (aW (aW (aW (aW (ak w6 (some gs)) _ _) _ _) _ _) _ _) _ _) _ _
         have o9:=iR (iR (iR (iR (iR (iR eG.o (M*11+5) (.int .i64 er.a1) (by omega)) (M*11+5+1) (.int .i64 er.a2) (by omega)) (M*11+5+2) (.int .i64 er.a3) (by omega)) (M*11+5+3) (.string er.a4) (by omega)) (M*11+5+4) (.string ⟨#[]⟩) (by omega)) (M*11+10) (.bool false) (by omega);have hfl:(A++[dD y iJ true]).flatMap bW=A.flatMap bW++bW (dD y iJ true):=by rw[List.flatMap_append];simp
         have hPl:(A.flatMap bW).length=M*11:=by rw[ER,HA2.o.2]
         rw[hfl]at o9;have hcl:=ET er y hPl;have hol:(outs (T++[(aA er).at_])).length=M+1:=by rw[HA2.o.1,List.length_append,HA2.o.2];rfl
         have hof:(outs (T++[(aA er).at_])).flatMap bW=A.flatMap bW++bW (dD y (aA er).at_ false):=by rw[HA2.o.1,List.flatMap_append];simp
         have xE:B≠gs:=by have:=lT.o;omega
         refine⟨⟨i+1,upd b er.l er.d,false,T++[(aA er).at_],by go_num,by omega,by rw[HH.o],rfl,kM.o,fD.o,by have:=bK.o.1;simp;omega,by have:=bK.o.2;simp;omega,xC.o.grow g9 (by simpa using xE),?_,vJ lS.o g9 (fun q hq=>by injection hq with hq;have:=lT.o;omega)⟩,by simp[intOf];omega⟩;rw[hol,hof,<-hcl];exact o9
       | true =>
        rw[hc]at iq
        cases on with
        | false =>
         have mF:=ae (fun w=>vH er.a1 er.a2 er.a3 er.a4 er.a5 w (by have:=kK.o.2.2.1;omega));have fD:Hd (bQ (fun b=>ch (having n b)) (fun _=>0) false (E.map aA)=(T++[(aA er).at_])++bQ (fun b=>ch (having n b)) (upd b er.l er.d) true ((E.map aA).drop (i+1))):=by
          show _=_;rw[bG.o.1,HST.o,bD.o,iq.o,List.append_assoc];rfl
         have bK:Hd (T.length<=i/\T.length % 2=0):=⟨bG.o.2.1,by have:=bG.o.2.2;simpa using this⟩;have qg:Hd ((outs T).length<=8388608):=by show _<=_;have q1:=tK T;have q2:=bK.o.1;omega
         have hinfo:=Bq;obtain⟨i1,hj0,hjj⟩:=Option.map_eq_some_iff.1 hinfo;simp only[Prod.mk.injEq]at hjj;obtain⟨hy0,hy1,hyb⟩:=hjj;clear bG HST hinfo;go_wp2_with (first|(go_at_call 180;refine(vG _ _ _).mono ?_;rintro e w9 ⟨rfl,iZ⟩;rw[iZ];clear iZ)|(go_at_call 166;refine(mF.o _).mono ?_;rintro e w6 ⟨rfl,dG⟩)|(at_builtin;refine wpList_append_own _ rfl _ _ 139 rfl w2.heap.size 179 i1 _ 11 120 underlying139 hj0 hy0 hy1 hyb rfl (by decide) _ _ _ rfl ((jL eP.o dG).alloc _) _ 1 1 (bW (dD (aA er).at_ iJ true)) rfl rfl (by rw[ES];exact World.news_of_block (heap_alloc_new _ _)) (Bv _) (by unfold maxLen;have:=qg.o;omega) (by have:=qg.o;omega) (by have q1:=fC.o.size;have q2:=dG.size;simp;omega) ?_;intro v' w7 hown7 hgrow _));have gK:w5.grownBy (w6.alloc (.cells #[.int .i64 er.a1,.int .i64 er.a2,.int .i64 er.a3,.string er.a4,.string ⟨#[]⟩,.int .i64 0,.int .i64 0,.int .i64 0,.string ⟨#[]⟩,.string ⟨#[]⟩,.bool true] 179)) none:=ag dG (aj (ak w6 none) _)
         have hrow:=fun q (hq:u8.ownBlock=some q)=>(eP.o.lt q hq).1
         have jl:=ae ((jD.o.grow gK (by simp)).grow hgrow (fun e=>by have:=hrow B e.symm;omega));have HF2:=ae (vJ (ag fC.o (bH gK _)) hgrow hrow);have HF3:Hd (w7.ownsRow w2.heap.size 179 11 v' (outs (T++[(aA er).at_])).length ((outs (T++[(aA er).at_])).flatMap bW)):=by
          show World.ownsRow _ _ _ _ _ _ _;rw[BC T _ bK.o.2,List.length_append,List.flatMap_append];simpa using hown7
         exact⟨⟨i+1,upd b er.l er.d,true,T++[(aA er).at_],by go_num,by omega,by rw[HH.o],rfl,kM.o,fD.o,by have:=bK.o.1;simp;omega,by have:=bK.o.2;simp;omega,jl.o,HF3.o,HF2.o⟩,by simp[intOf];omega⟩
        | true =>
         have fD:Hd (bQ (fun b=>ch (having n b)) (fun _=>0) false (E.map aA)=T++bQ (fun b=>ch (having n b)) (upd b er.l er.d) true ((E.map aA).drop (i+1))):=by
          show _=_;rw[bG.o.1,HST.o,bD.o,iq.o];rfl
         have bK:Hd (T.length<=i/\(T.length % 2=if true=true then 1 else 0)):=⟨bG.o.2.1,bG.o.2.2⟩;clear bG HST;go_wp2_with (go_at_call 180;refine(vG _ _ _).mono ?_;rintro e w' ⟨rfl,rfl⟩);go_roundw
         case rel=>exact⟨i+1,upd b er.l er.d,true,T,by go_num,by omega,by rw[HH.o],rfl,kM.o,fD.o,by have:=bK.o.1;omega,bK.o.2,jD.o,eP.o,fC.o⟩
         case measure=>simp[intOf];omega
     ·have hie:i=E.length:=by omega
      have HF:=ae (FIN.o u8 T wr hgw how (by rw[hT,hie,List.drop_of_length_le (by simp)];simp[bQ]));clear hT xq xu hbg how hgw hbb hie hi;go_wp2;exact bodyPost_ret (results_tmp2 (t:=4) (u:=5) rfl _ _ _) rfl HF.o
open Go.RowKit
theorem zG{w:World}{sl:Value}{L:List Sp}(h:SpS w sl L):∃o n c,sl=.slice o n c:=by
 rcases h with⟨rfl,_⟩|⟨a,cap,rfl,_⟩
 ·exact⟨_,_,_,rfl⟩
 ·exact⟨_,_,_,rfl⟩
theorem SweepPost.from{ch:Int->Bool}{Ls:List (List Sp)}{w w1:World}{e:Ending}{w':World}(hg:w.grownBy w1 none)(h:SweepPost ch Ls w1 e w'):SweepPost ch Ls w e w':=by
 refine⟨ag hg h.1,?_⟩
 rcases h.2 with h1|⟨h1,E,vs,h2,h3,h4,h5,h6⟩
 ·exact Or.inl h1
 ·exact Or.inr ⟨h1,E,vs,h2,h3,h4,h5,Iu h6 hg.size⟩
theorem SweepPost.two{ch:Int->Bool}{Ls:List (List Sp)}{w:World}{e:Ending}{w':World}(h:SweepPost ch Ls w e w'):∃o n c r,e=.returned (.tuple #[.slice o n c,.int .i64 r]):=by
 rcases h.2 with⟨_,rfl⟩|⟨_,E,vs,_,_,rfl,hs,_⟩
 ·exact⟨_,_,_,_,rfl⟩
 ·obtain⟨o,n,c,rfl⟩:=zG hs;exact⟨_,_,_,_,rfl⟩
theorem Y9(sl:Value)(L:List Sp)(w:World)(h:SpS w sl L)(hL:L.length<=1048576)(hsz:∀s∈L,jK s) :
  Calls prog 103 #[sl] w (SweepPost (fun x=>decide (0<x)) [L] w):=by
 have HA:=ae h;have CS:=ae (fun a w (h:Lists w a [L])=>X4 OV a 1 1 [L] w rfl (by omega) (by omega) h (by intro l hl;simp at hl;subst hl;exact⟨hL,hsz⟩));obtain⟨o,n,c,rfl⟩:=zG h;clear h hL hsz;go_enter func103,ntmps103;go_wp2_with (go_at_call 133;refine(CS.o _ _ ?_).mono ?_)
 ·have hg:=aj (ak w none) (.cells #[.slice o n c] 139);intro j hj;have hj':j=0:=by simp at hj;omega
  subst hj';exact⟨.slice o n c,by rw[show(⟨w.heap.size,0,none⟩:Addr).add 0=⟨w.heap.size,0,none⟩ from BF _ _,ah (heap_alloc_new w _)];rfl,HA.o.grow hg⟩
 intro e w1 hp;have HP:=SweepPost.from (aj (ak w none) _) hp
 clear hp;obtain⟨o2,n2,c2,r2,rfl⟩:=HP.two;have HQ:=ae HP;clear HP;go_wp2;exact bodyPost_ret (results_tmp2 (t:=2) (u:=3) rfl _ _ _) rfl HQ.o
theorem Za(sl sm:Value)(L M:List Sp)(w:World)(h:SpS w sl L)(h':SpS w sm M)(hL:L.length<=1048576)(hsz:∀s∈L,jK s)(hM:M.length<=1048576)(hsm:∀s∈M,jK s) :
  Calls prog 161 #[sl,sm] w (SweepPost (fun x=>decide (x=((2:Nat):Int))) [L,M] w):=by
 have HA:=ae h;have HB:=ae h';have CS:=ae (fun a w (h:Lists w a [L,M])=>Y8 OV a 2 2 [L,M] w rfl (by omega) (by omega) h (by intro l hl;simp at hl;rcases hl with rfl|rfl<;>first|exact⟨hL,hsz⟩|exact⟨hM,hsm⟩));obtain⟨o,n,c,rfl⟩:=zG h;obtain⟨o',n',c',rfl⟩:=zG h';clear h';clear hM hsm;clear h hL hsz;go_enter func161,ntmps161;go_wp2_with (go_at_call 133;refine(CS.o _ _ ?_).mono ?_)
 ·have hg:=aj (ak w none) (.cells #[.slice o n c,.slice o' n' c'] 139);intro j hj;have hj':j=0\/j=1:=by simp at hj;omega
  rcases hj' with rfl|rfl
  ·exact⟨.slice o n c,by rw[show(⟨w.heap.size,0,none⟩:Addr).add 0=⟨w.heap.size,0,none⟩ from BF _ _,ah (heap_alloc_new w _)];rfl,HA.o.grow hg⟩
  ·exact⟨.slice o' n' c',by rw[show(⟨w.heap.size,0,none⟩:Addr).add 1=⟨w.heap.size,1,none⟩ from BF _ _,ah (heap_alloc_new w _)];rfl,HB.o.grow hg⟩
 intro e w1 hp;have HP:=SweepPost.from (aj (ak w none) _) hp
 clear hp;obtain⟨o2,n2,c2,r2,rfl⟩:=HP.two;have HQ:=ae HP;clear HP;go_wp2;exact bodyPost_ret (results_tmp2 (t:=4) (u:=5) rfl _ _ _) rfl HQ.o
theorem Ci(h:V->Bool):∀(ps:List V) (on:Bool),(sO h on ps).Sublist ps
 | [],on=>List.Sublist.slnil
 | p :: ps,on=>by
  rw[sO];split
  ·exact(Ci h ps on).cons _
  ·exact(Ci h ps (h p)).cons_cons _
def par:List V->V->Bool
 | [],_=>false
 | t :: r,x=>decide (aC t x<=0) ^^ par r x
theorem par_none(T:List V)(x:V)(h:∀t∈T,aC x t<0):par T x=false:=by
 induction T with
 | nil=>rfl
 | cons t r ih =>
  have h1:=h t (by simp);have h2:=gJ x t;rw[par,ih (fun t' ht'=>h t' (by simp[ht'])),decide_eq_false (by omega)];rfl
theorem Fz{t:V}{r:List V}(h:sQ (t :: r)):sQ r:=(List.pairwise_cons.1 h).2
theorem Cj{t:V}{r:List V}(h:sQ (t :: r)):∀x∈r,aC t x<0:=(List.pairwise_cons.1 h).1
theorem Jg(x y:V)(o:Bool):sV (dD x y o)=x:=by
 cases x;simp[sV,dD]
theorem PS(x y:V)(o:Bool):vg (dD x y o)=y:=by
 cases y;simp[vg,dD]
theorem PT:∀(T:List V),sQ T->∀x,fB (outs T) x=par T x
 | [],_,x=>rfl
 | [a],_,x=>by
  rw[outs,fB,List.any_cons,List.any_nil,sW,Jg,par,par];show(decide (aC a x<=0) && (true || _) || false)=_
  cases decide (aC a x<=0)<;>rfl
 | a :: b :: r,h,x=>by
  have hab:=Cj h b (by simp);have hr:=Fz h;have ih:=PT r (Fz hr) x;unfold fB at ih;rw[outs,fB,List.any_cons,ih,sW,Jg,PS,par,par];show(decide (aC a x<=0) && (false || decide (aC x b<0)) || par r x)=_;have a1:=gJ x b
  by_cases hb:aC b x<=0
  ·have ha:=qW (show aC a b<=0 by omega) hb;rw[decide_eq_true ha,decide_eq_true hb,decide_eq_false (by omega)]
   cases par r x<;>rfl
  ·have hp:=par_none r x fun t ht=>Bg (show aC x b<0 by omega) (Cj hr t ht)
   rw[hp,decide_eq_false hb,decide_eq_true (show aC x b<0 by omega)]
   cases decide (aC a x<=0)<;>rfl
def NF(N:List Sp):Prop:=∃T,N=outs T/\sQ T/\(∀t∈T,fV true t.pre=true/\t.pre.length<=1048576)/\T.length<=4194304
theorem NF.len{N:List Sp}(h:NF N):N.length<=4194304:=by
 obtain⟨T,rfl,_,_,hl⟩:=h;have:∀T:List V,(outs T).length<=T.length:=by
  intro T
  induction T using outs.induct with
  | case1=>simp[outs]
  | case2 x=>simp[outs]
  | case3 x y r ih=>rw[outs,List.length_cons,List.length_cons,List.length_cons];omega
 exact Nat.le_trans (this T) hl
theorem Jh:∀(T:List V) (s:Sp),s∈outs T->(∃x∈T,s=dD x iJ true)\/∃x∈T,∃y∈T,s=dD x y false
 | [],s,h=>by simp[outs]at h
 | [a],s,h=>by
  have e:s=dD a iJ true:=by simpa [outs] using h
  exact Or.inl ⟨a,by simp,e⟩
 | a :: b :: r,s,h=>by
  rw[outs]at h
  rcases List.mem_cons.1 h with e|h
  ·exact Or.inr ⟨a,by simp,b,by simp,e⟩
  ·rcases Jh r s h with⟨x,hx,e⟩|⟨x,hx,y,hy,e⟩
   ·exact Or.inl ⟨x,by simp[hx],e⟩
   ·exact Or.inr ⟨x,by simp[hx],y,by simp[hy],e⟩
theorem NF.small{N:List Sp}(h:NF N):∀s∈N,jK s:=by
 obtain⟨T,rfl,_,hp,hl⟩:=h;have hsz:∀l:List UInt8,(⟨l.toArray⟩:ByteArray).size=l.length:=fun l=>by simp[ByteArray.size]
 have h0:(⟨#[]⟩:ByteArray).size=0:=rfl;intro s hs
 rcases Jh T s hs with⟨x,hx,rfl⟩|⟨x,hx,y,hy,rfl⟩
 ·refine⟨?_,?_,?_,?_⟩
  ·show(⟨x.pre.toArray⟩:ByteArray).size<=_;rw[hsz];exact(hp x hx).2
  ·show(⟨#[]⟩:ByteArray).size<=_;rw[h0];omega
  ·show(⟨iJ.pre.toArray⟩:ByteArray).size<=_;rw[hsz];show 0<=_;omega
  ·show(⟨#[]⟩:ByteArray).size<=_;rw[h0];omega
 ·refine⟨?_,?_,?_,?_⟩
  ·show(⟨x.pre.toArray⟩:ByteArray).size<=_;rw[hsz];exact(hp x hx).2
  ·show(⟨#[]⟩:ByteArray).size<=_;rw[h0];omega
  ·show(⟨y.pre.toArray⟩:ByteArray).size<=_;rw[hsz];exact(hp y hy).2
  ·show(⟨#[]⟩:ByteArray).size<=_;rw[h0];omega
theorem Zb(Ls:List (List Sp))(h:Ls.all (·.all fZ)=true):∀(k:Nat),∀e∈dU k Ls,fV true (aA e).at_.pre=true:=by
 induction Ls with
 | nil=>intro k e he;simp[dU]at he
 | cons l Ls ih =>
  intro k e he;rw[List.all_cons,Bool.and_eq_true]at h;rw[dU]at he
  rcases List.mem_append.1 he with he|he
  ·obtain⟨s,hs,he⟩:=List.mem_flatMap.1 he;have hm:=List.all_eq_true.1 h.1 s hs;unfold fZ at hm;rw[Bool.and_eq_true]at hm;have hf:fV true s.f4.data.toList=true:=by
    have:=hm.1;unfold kE uY at this;simp only[Bool.and_eq_true]at this;exact this.2.2.2.1
   unfold dS at he;split at he
   ·simp at he;rw[he];exact hf
   ·rename_i ho;have ht:fV true s.t4.data.toList=true:=by
     have:=hm.2;rw[Bool.or_eq_true]at this
     rcases this with h|this
     ·exact absurd h ho
     ·unfold kE uZ at this;simp only[Bool.and_eq_true]at this;exact this.2.2.2.1
    split at he
    ·simp at he
     rcases he with rfl|rfl
     ·exact hf
     ·exact ht
    ·simp at he
  ·exact ih h.2 (k+1) e he
def lastH(h:V->Bool):Bool->List V->V->Bool
 | on,[],_=>on
 | on,d :: D,x=>if aC d x<=0 then lastH h (h d) D x else on
theorem Ji(h:V->Bool)(x:V):∀(D:List V) (on:Bool),sQ D->par (sO h on D) x=(on ^^ lastH h on D x)
 | [],on,_=>by simp[sO,par,lastH]
 | d :: D,on,hr=>by
  have hD:=Fz hr
  by_cases hd:aC d x<=0
  ·rw[lastH,if_pos hd,sO];split
   ·rename_i e;rw[Ji h x D on hD,e]
   ·rename_i e;rw[par,decide_eq_true hd,Ji h x D (h d) hD]
    cases hb:h d<;>cases on<;>first|(exact absurd hb e)|(cases lastH h _ D x<;>rfl)
  ·rw[lastH,if_neg hd];have hx:aC x d<0:=by have:=gJ x d;omega
   rw[par_none]
   ·cases on<;>rfl
   ·intro t ht
    rcases List.mem_cons.1 ((Ci h (d :: D) on).subset ht) with e|e
    ·rw[e];exact hx
    ·exact Bg hx (Cj hr t e)
theorem PU(h:V->Bool)(x:V):∀(D:List V) (on:Bool),sQ D →
  ((∀d∈D,aC x d<0)/\lastH h on D x=on)\/∃z∈D,aC z x<=0/\(∀p∈D,aC z p<0->aC x p<0)/\lastH h on D x=h z
 | [],on,_=>Or.inl ⟨fun d hd=>by simp at hd,rfl⟩
 | d :: D,on,hr=>by
  have hD:=Fz hr
  by_cases hd:aC d x<=0
  ·right;rw[lastH,if_pos hd]
   rcases PU h x D (h d) hD with⟨h1,h2⟩|⟨z,hz,h1,h2,h3⟩
   ·refine⟨d,by simp,hd,fun p hp hlt=>?_,h2⟩
    rcases List.mem_cons.1 hp with e|e
    ·rw[e,Be]at hlt;omega
    ·exact h1 p e
   ·refine⟨z,by simp[hz],h1,fun p hp hlt=>?_,h3⟩
    rcases List.mem_cons.1 hp with e|e
    ·rw[e]at hlt;have:=Cj hr z hz;have:=gJ d z;omega
    ·exact h2 p e hlt
  ·left;have hx:aC x d<0:=by have:=gJ x d;omega
   rw[lastH,if_neg hd];refine⟨fun p hp=>?_,rfl⟩
   rcases List.mem_cons.1 hp with e|e
   ·rw[e];exact hx
   ·exact Bg hx (Cj hr p e)
theorem Zc(ch:Int->Bool)(h0:ch 0=false)(Ls:List (List Sg))(E:List Ed)(hE:E.Perm (uU 0 Ls))(hs:nN E)(x:V) :
  par (bQ (fun b=>ch (having Ls.length b)) (fun _=>0) false E) x=ch (pV Ls x):=by
 have e1:=Eu (fun b=>ch (having Ls.length b)) E (fun x=>ch (pV Ls x)) (fun x=>by simp only[Ey Ls E hE]) hs E [] false rfl;have e2:(fun j=>tot [] j)=(fun _=>(0:Int)):=rfl;rw[e2]at e1;rw[e1,Ji _ x _ _ (Hz E hs),Bool.false_xor];have hne:=(Hy E hs).2
 rcases PU (fun x=>ch (pV Ls x)) x (jy E) false (Hz E hs) with⟨h1,h2⟩|⟨z,hz,h1,h2,h3⟩
 ·rw[h2,<-Ey Ls E hE];have:(fun j=>fJ E j x)=fun _=>(0:Int):=by
   funext j;refine NQ E j x fun e he hle=>?_
   obtain⟨p,hp,h0⟩:=hne e he;have a1:=h1 p hp;have a2:=gJ e.at_ p;have a3:=qW (show aC p e.at_<=0 by omega) hle;have a4:=gJ x p;omega
  rw[this,Ip,h0]
 ·rw[h3];show ch (pV Ls z)=_;rw[<-Ey Ls E hE,<-Ey Ls E hE];congr 2;funext j;refine Wq E j z x fun e he=>?_
  obtain⟨p,hp,h0⟩:=hne e he;have a2:=gJ e.at_ p
  by_cases hzp:aC z p<0
  ·have hxp:=h2 p hp hzp;constructor
   ·intro h;exfalso;have a3:=qW (show aC p e.at_<=0 by omega) h;have a4:=gJ z p;omega
   ·intro h;exfalso;have a3:=qW (show aC p e.at_<=0 by omega) h;have a4:=gJ x p;omega
  ·have hpz:aC p z<=0:=by have:=gJ z p;omega
   have PV:=qW (show aC e.at_ p<=0 by omega) hpz;exact⟨fun _=>qW PV h1,fun _=>PV⟩
theorem PW(l:List Sp)(x:V):y9 (l.map tJ) x=fB l x:=by
 unfold y9 fB;rw[List.any_map];rfl
theorem Zd(L:List Sp)(x:V):decide (0<pV [L.map tJ] x)=fB L x:=by
 unfold pV;simp only[List.map_cons,List.map_nil,List.sum_cons,List.sum_nil,PW]
 cases fB L x<;>simp
theorem Ze(L M:List Sp)(x:V):decide (pV [L.map tJ,M.map tJ] x=((2:Nat):Int))=(fB L x && fB M x):=by
 unfold pV;simp only[List.map_cons,List.map_nil,List.sum_cons,List.sum_nil,PW]
 cases fB L x<;>cases fB M x<;>simp
def vU(t:V):Bool:=kE ⟨t.major,t.minor,t.patch,t.pre,[]⟩
theorem Zf(Ls:List (List Sp))(h:Ls.all (·.all fZ)=true):∀(k:Nat),∀e∈dU k Ls,vU (aA e).at_=true:=by
 have key:∀(a b c:Int) (p q:List UInt8),kE ⟨a,b,c,p,q⟩=true->kE ⟨a,b,c,p,[]⟩=true:=by
  intro a b c p q h;unfold kE at h ⊢;simp only[Bool.and_eq_true]at h ⊢;exact⟨h.1,h.2.1,h.2.2.1,h.2.2.2.1,rfl⟩
 induction Ls with
 | nil=>intro k e he;simp[dU]at he
 | cons l Ls ih =>
  intro k e he;rw[List.all_cons,Bool.and_eq_true]at h;rw[dU]at he
  rcases List.mem_append.1 he with he|he
  ·obtain⟨s,hs,he⟩:=List.mem_flatMap.1 he;have hm:=List.all_eq_true.1 h.1 s hs;unfold fZ at hm;rw[Bool.and_eq_true]at hm;have hf:=key _ _ _ _ _ hm.1;unfold dS at he;split at he
   ·simp at he;rw[he];exact hf
   ·rename_i ho;split at he
    ·simp at he
     rcases he with rfl|rfl
     ·exact hf
     ·have:=hm.2;rw[Bool.or_eq_true]at this
      rcases this with h|this
      ·exact absurd h ho
      ·exact key _ _ _ _ _ this
    ·simp at he
  ·exact ih h.2 (k+1) e he
structure NT(T:List V)(k:Nat):Prop where
 up:sQ T
 ok:∀t∈T,fV true t.pre=true
 sm:∀t∈T,t.pre.length<=1048576
 sd:∀t∈T,vU t=true
 ln:T.length<=2097152*k
theorem NT.nf{T:List V}{k:Nat}(h:NT T k)(hk:k<=2):NF (outs T):=⟨T,rfl,h.up,fun t ht=>⟨h.ok t ht,h.sm t ht⟩,by
 have h1:=h.ln;have h5:2097152*k<=2097152*2:=Nat.mul_le_mul_left _ hk;omega⟩
theorem Zg(ch:Int->Bool)(Ls:List (List Sp))(hsz:∀l∈Ls,l.length<=1048576/\∀s∈l,jK s)(hsd:Ls.all (·.all fZ)=true)(E:List Er)(hE:E.Perm (dU 0 Ls))(hs:nN (E.map aA)) :
  NT (bQ (fun b=>ch (having Ls.length b)) (fun _=>0) false (E.map aA)) Ls.length:=by
 have e1:=Eu (fun b=>ch (having Ls.length b)) (E.map aA) (fun x=>ch (having Ls.length (fun j=>fJ (E.map aA) j x))) (fun x=>rfl) hs (E.map aA) [] false rfl;have e2:(fun j=>tot [] j)=(fun _=>(0:Int)):=rfl;rw[e2]at e1;have hsub:=Ci (fun x=>ch (having Ls.length (fun j=>fJ (E.map aA) j x))) (jy (E.map aA)) false;rw[<-e1]at hsub;have hmem:∀t,t∈(bQ (fun b=>ch (having Ls.length b)) (fun _=>0) false (E.map aA))->∃e∈dU 0 Ls,(aA e).at_=t:=by
  intro t ht;obtain⟨d,hd,rfl⟩:=(Hy _ hs).1 t (hsub.subset ht);obtain⟨e,he,rfl⟩:=List.mem_map.1 hd;exact⟨e,hE.mem_iff.1 he,rfl⟩
 refine⟨List.Pairwise.sublist hsub (Hz _ hs),?_,?_,?_,?_⟩
 ·intro t ht;obtain⟨e,he,rfl⟩:=hmem t ht;exact Zb Ls hsd 0 e he
 ·intro t ht;obtain⟨e,he,rfl⟩:=hmem t ht;have:=EN Ls hsz 0 e he;show e.a4.data.toList.length<=_;rw[Array.length_toList];exact this
 ·intro t ht;obtain⟨e,he,rfl⟩:=hmem t ht;exact Zf Ls hsd 0 e he
 ·have h1:(jy (E.map aA)).length<=(E.map aA).length:=by
   have:∀l:List Ed,(jy l).length<=l.length:=by
    intro l
    induction l with
    | nil=>simp[jy]
    | cons e r ih =>
     rw[jy];split
     ·rw[List.length_cons];omega
     ·rw[List.length_cons,List.length_cons];omega
   exact this _
  have h2:=hsub.length_le;have h3:=Io Ls (fun l hl=>(hsz l hl).1) 0;have h4:=hE.length_eq;rw[List.length_map]at h1;omega
theorem Zh(T:List V):2*(outs T).length<=T.length+1:=by
 induction T using outs.induct with
 | case1=>simp[outs]
 | case2 x=>simp[outs]
 | case3 x y r ih=>rw[outs,List.length_cons,List.length_cons,List.length_cons];omega
theorem NT.sound{T:List V}{k:Nat}(h:NT T k):(outs T).all fZ=true:=by
 rw[List.all_eq_true];intro s hs;have hv:∀x y o,uY (dD x y o)=⟨x.major,x.minor,x.patch,x.pre,[]⟩:=fun x y o=>by simp[uY,dD]
 have hw:∀x y o,uZ (dD x y o)=⟨y.major,y.minor,y.patch,y.pre,[]⟩:=fun x y o=>by simp[uZ,dD]
 rcases Jh T s hs with⟨x,hx,rfl⟩|⟨x,hx,y,hy,rfl⟩
 ·unfold fZ;rw[hv];have:=h.sd x hx;unfold vU at this;rw[this];rfl
 ·unfold fZ;rw[hv,hw];have h1:=h.sd x hx;have h2:=h.sd y hy;unfold vU at h1 h2;rw[h1,h2];rfl
structure Pa where
 n:Nat
 a:Int
 b:Int
 c:Int
 pre:List UInt8
structure Te where
 sign:Int
 p:Pa
structure fA(p:Pa):Prop where
 n3:p.n<=3
 a0:0<=p.a/\p.a<=999999999
 b0:0<=p.b/\p.b<=999999999
 c0:0<=p.c/\p.c<=999999999
 z1:p.n<1->p.a=0
 z2:p.n<2->p.b=0
 z3:p.n<3->p.c=0/\p.pre=[]
 ok:fV true p.pre=true
def jR:V:=⟨0,0,0,[48]⟩
def rJ:V:=⟨0,0,0,[]⟩
def uk(p:Pa):V:=⟨p.a,p.b,p.c,p.pre⟩
def bF(p:Pa):V:=⟨p.a,p.b,p.c,if p.n<3 then[48] else p.pre⟩
def iC(p:Pa)(v:V):Bool:=if p.n=3 then decide (aC (uk p) v=0) else(decide (p.n<1) || decide (v.major=p.a)) && (decide (p.n<2) || decide (v.minor=p.b))
def eQ(p:Pa)(v:V):Int:=if(iC p v || decide (p.n=0))=true then 0 else aC v (uk p)
def pz(p:Pa)(v:V):Bool:=decide (p.n=0) || decide (aC (bF p) v<=0)
def mJ(p:Pa)(v:V):Bool :=
 if p.n=0 then true else if v.major≠p.a then false else if 0<p.a\/p.n=1 then true else if v.minor≠p.b then false else(decide (0<p.b) || decide (p.n=2)) || decide (v.patch=p.c)
def iD(t:Te)(v:V):Bool :=
 if t.sign=0 then iC t.p v else if t.sign=1 then decide (0<=eQ t.p v) else if t.sign=2 then decide (eQ t.p v<=0) else if t.sign=3 then decide (0<eQ t.p v)
 else if t.sign=4 then decide (eQ t.p v<0) else if t.sign=5 then pz t.p v && mJ t.p v
 else if t.sign=6 then(pz t.p v && (decide (t.p.n<1) || decide (v.major=t.p.a))) && (decide (t.p.n<2) || decide (v.minor=t.p.b)) else pz t.p v
def Cm(v:V)(k:Nat):V:=if k=1 then⟨v.major+1,0,0,[48]⟩ else if k=2 then⟨v.major,v.minor+1,0,[48]⟩ else⟨v.major,v.minor,v.patch+1,[48]⟩
def kP(p:Pa)(k:Nat):Sg:=if k=0 then⟨bF p,rJ,true⟩ else⟨bF p,Cm (bF p) k,false⟩
def dh(p:Pa):Sg:=if p.n=3 then⟨bF p,lL (bF p),false⟩ else kP p p.n
def qx(p:Pa):Nat:=if p.a≠0 then 1 else if p.b≠0 then 2 else if p.c≠0 then 3 else p.n
def xW(s:Int)(p:Pa):Sg :=
 if s=0 then dh p else if s=1 then⟨bF p,rJ,true⟩ else if s=2 then⟨jR,(dh p).to_,(dh p).op⟩
 else if s=3 then(if(dh p).op=true then⟨jR,jR,false⟩ else⟨(dh p).to_,rJ,true⟩) else if s=4 then⟨jR,bF p,false⟩
 else if s=5 then kP p (qx p) else kP p (min p.n 2)
def vV(p q:Pa):Sg:=⟨bF p,(dh q).to_,(dh q).op⟩
theorem zH(x y:V):aC x y<0↔x.major<y.major\/(x.major=y.major/\(x.minor<y.minor\/(x.minor=y.minor/\(x.patch<y.patch\/(x.patch=y.patch/\kU x.pre y.pre<0))))):=by
 rw[oP];have c1:∀a b:Int,Lib.compareInt a b=0↔a=b:=fun a b=>mV
 have c2:∀a b:Int,Lib.compareInt a b<0↔a<b:=fun a b=>by
  unfold Lib.compareInt
  repeat' split
  all_goals omega
 split
 ·rename_i h;rw[c1]at h;split
  ·rename_i h2;rw[c1]at h2;split
   ·rename_i h3;rw[c1]at h3;omega
   ·rename_i h3;rw[c1]at h3;rw[c2];omega
  ·rename_i h2;rw[c1]at h2;rw[c2];omega
 ·rename_i h;rw[c1]at h;rw[c2];omega
theorem PX(x y:V):aC x y<=0↔¬aC y x<0:=by have:=gJ x y;omega
theorem Zi(l:List UInt8):¬kU l [48]<0:=by
 have h1:=MV l;have h2:=Eh.anti [48] l;omega
structure ul(v:V):Prop where
 n1:0<=v.major
 n2:0<=v.minor
 n3:0<=v.patch
 ok:fV true v.pre=true
theorem PY(f v:V)(h:f.patch<4611686018427387904):aC v (lL f)<0↔aC v f<=0:=by
 constructor
 ·intro hn
  by_cases hc:aC v f<=0
  ·exact hc
  ·exact(VM f v h (by have:=gJ v f;omega) hn).elim
 ·intro hc;exact Es hc (by have:=VK f h;omega)
theorem pF(v:V)(a b c:Int):aC v ⟨a,b,c,[48]⟩ < 0↔v.major<a\/(v.major=a/\(v.minor<b\/(v.minor=b/\v.patch<c))):=by
 rw[zH];have:=Zi v.pre;simp only[];omega
theorem rM(s:Sg)(v:V):jJ s v=true↔¬aC v s.fr<0/\(s.op=true\/aC v s.to_<0):=by
 unfold jJ;rw[Bool.and_eq_true,Bool.or_eq_true,decide_eq_true_eq,decide_eq_true_eq,PX]
theorem FC(v:V)(hv:ul v):¬aC v jR<0:=by
 unfold jR;rw[pF];have:=hv.n1;have:=hv.n2;have:=hv.n3;omega
theorem named_ok(p:Pa)(hp:fA p)(v:V)(hv:ul v):jJ (dh p) v=iC p v:=by
 obtain⟨n,a,b,c,pre⟩:=p;obtain⟨n3,a0,b0,c0,z1,z2,z3,ok⟩:=hp;simp only at n3 a0 b0 c0 z1 z2 z3 ok;have v1:=hv.n1;have v2:=hv.n2;have v3:=hv.n3;have hn:n=0\/n=1\/n=2\/n=3:=by omega
 rw[Bool.eq_iff_iff,rM]
 rcases hn with rfl|rfl|rfl|rfl
 ·simp[dh,kP,iC,bF,pF,z1,z2,z3];omega
 ·simp[dh,kP,iC,bF,Cm,pF,z2,z3];omega
 ·simp[dh,kP,iC,bF,Cm,pF,z3];omega
 ·have hG:dh ⟨3,a,b,c,pre⟩=⟨⟨a,b,c,pre⟩,lL ⟨a,b,c,pre⟩,false⟩:=rfl;have hB:iC ⟨3,a,b,c,pre⟩ v=decide (aC (⟨a,b,c,pre⟩:V) v=0):=rfl;rw[hG,hB,decide_eq_true_eq];simp only[];rw[PY _ _ (by simp only[];omega)];have:=gJ (⟨a,b,c,pre⟩:V) v;constructor
  ·rintro⟨h1,h2⟩
   rcases h2 with h2|h2
   ·cases h2
   ·omega
  ·intro h;exact⟨by omega,Or.inr (by omega)⟩
theorem Zj(p:Pa)(hp:fA p)(v:V)(hv:ul v):(eQ p v<0↔aC v (bF p)<0)/\(0<eQ p v↔(dh p).op=false/\¬aC v (dh p).to_<0):=by
 obtain⟨n,a,b,c,pre⟩:=p;obtain⟨n3,a0,b0,c0,z1,z2,z3,ok⟩:=hp;simp only at n3 a0 b0 c0 z1 z2 z3 ok;have v1:=hv.n1;have v2:=hv.n2;have v3:=hv.n3;have hn:n=0\/n=1\/n=2\/n=3:=by omega
 rcases hn with rfl|rfl|rfl|rfl
 ·simp[dh,kP,eQ,bF,pF,z1,z2,z3];omega
 ·have hc:=(z3 (by omega)).1;have hp:=(z3 (by omega)).2;have hb:=z2 (by omega);subst hc hp hb;have l1:=zH v ⟨a,0,0,[]⟩;have l2:=zH ⟨a,0,0,[]⟩ v;have l3:=gJ v ⟨a,0,0,[]⟩;simp only at l1 l2;have k1:=pF v a 0 0;have k2:=pF v (a+1) 0 0;have hG:dh ⟨1,a,0,0,[]⟩=⟨⟨a,0,0,[48]⟩,⟨a+1,0,0,[48]⟩,false⟩:=rfl;have hF:bF ⟨1,a,0,0,[]⟩=⟨a,0,0,[48]⟩:=rfl;have hP:eQ ⟨1,a,0,0,[]⟩ v=if v.major=a then 0 else aC v ⟨a,0,0,[]⟩:=by
   unfold eQ iC uk
   by_cases hm:v.major=a<;>simp[hm]
  by_cases hm:v.major=a
  ·rw[if_pos hm]at hP;simp only[hG,hF,hP,eq_self,true_and];omega
  ·rw[if_neg hm]at hP;simp only[hG,hF,hP,eq_self,true_and];omega
 ·have hc:=(z3 (by omega)).1;have hp:=(z3 (by omega)).2;subst hc hp;have l1:=zH v ⟨a,b,0,[]⟩;have l2:=zH ⟨a,b,0,[]⟩ v;have l3:=gJ v ⟨a,b,0,[]⟩;simp only at l1 l2;have k1:=pF v a b 0;have k2:=pF v a (b+1) 0;have hG:dh ⟨2,a,b,0,[]⟩=⟨⟨a,b,0,[48]⟩,⟨a,b+1,0,[48]⟩,false⟩:=rfl;have hF:bF ⟨2,a,b,0,[]⟩=⟨a,b,0,[48]⟩:=rfl;have hP:eQ ⟨2,a,b,0,[]⟩ v=if v.major=a/\v.minor=b then 0 else aC v ⟨a,b,0,[]⟩:=by
   unfold eQ iC uk
   by_cases hm:v.major=a<;>by_cases hm2:v.minor=b<;>simp[hm,hm2]
  by_cases hm:v.major=a/\v.minor=b
  ·rw[if_pos hm]at hP;simp only[hG,hF,hP,eq_self,true_and];omega
  ·rw[if_neg hm]at hP;simp only[hG,hF,hP,eq_self,true_and];omega
 ·have l3:=gJ (⟨a,b,c,pre⟩:V) v;have hG:dh ⟨3,a,b,c,pre⟩=⟨⟨a,b,c,pre⟩,lL ⟨a,b,c,pre⟩,false⟩:=rfl;have hF:bF ⟨3,a,b,c,pre⟩=⟨a,b,c,pre⟩:=rfl;have hP:eQ ⟨3,a,b,c,pre⟩ v=if aC (⟨a,b,c,pre⟩:V) v=0 then 0 else aC v ⟨a,b,c,pre⟩:=by
   unfold eQ iC uk
   by_cases hm:aC (⟨a,b,c,pre⟩:V) v=0<;>simp[hm]
  have hx:=PY ⟨a,b,c,pre⟩ v (by simp only[];omega)
  by_cases h0:aC (⟨a,b,c,pre⟩:V) v=0
  ·rw[if_pos h0]at hP;simp only[hG,hF,hP,hx,eq_self,true_and];omega
  ·rw[if_neg h0]at hP;simp only[hG,hF,hP,hx,eq_self,true_and];omega
theorem PZ(p:Pa)(hp:fA p)(k:Nat)(hk:k<=3)(v:V)(hv:ul v)(h1:k=1->True)(hz:(k<2->p.b=0\/True)) :
  jJ (kP p k) v=true↔¬aC v (bF p)<0/\(k=0\/(k=1/\v.major<p.a+1)\/(k=2/\(v.major<p.a\/(v.major=p.a/\v.minor<p.b+1)))\/(k=3/\(v.major<p.a\/(v.major=p.a/\(v.minor<p.b\/(v.minor=p.b/\v.patch<p.c+1)))))):=by
 rw[rM];have v1:=hv.n1;have v2:=hv.n2;have v3:=hv.n3;have hn:k=0\/k=1\/k=2\/k=3:=by omega
 rcases hn with rfl|rfl|rfl|rfl
 ·simp[kP]
 ·have e:kP p 1=⟨bF p,⟨p.a+1,0,0,[48]⟩,false⟩:=rfl;have k1:=pF v (p.a+1) 0 0;rw[e];simp only[];simp;omega
 ·have e:kP p 2=⟨bF p,⟨p.a,p.b+1,0,[48]⟩,false⟩:=rfl;have k1:=pF v p.a (p.b+1) 0;rw[e];simp only[];simp;omega
 ·have e:kP p 3=⟨bF p,⟨p.a,p.b,p.c+1,[48]⟩,false⟩:=rfl;have k1:=pF v p.a p.b (p.c+1);rw[e];simp only[];simp;omega
theorem P5(p:Pa)(v:V)(h:¬aC v (bF p)<0):p.a<v.major\/(p.a=v.major/\(p.b<v.minor\/(p.b=v.minor/\p.c<=v.patch))):=by
 have l1:=zH v (bF p);have e1:(bF p).major=p.a:=rfl;have e2:(bF p).minor=p.b:=rfl;have e3:(bF p).patch=p.c:=rfl;rw[e1,e2,e3]at l1;omega
theorem Jj(p:Pa)(hp:fA p)(v:V)(hv:ul v):pz p v=true↔¬aC v (bF p)<0:=by
 unfold pz;rw[Bool.or_eq_true,decide_eq_true_eq,decide_eq_true_eq,PX];constructor
 ·rintro(h|h)
  ·have e:bF p=⟨0,0,0,[48]⟩:=by
    unfold bF;rw[if_pos (by omega),hp.z1 (by omega),hp.z2 (by omega),(hp.z3 (by omega)).1]
   rw[e];exact FC v hv
  ·exact h
 ·exact Or.inr
theorem P6(s:Int)(hs:0<=s/\s<=6)(p:Pa)(hp:fA p)(v:V)(hv:ul v):jJ (xW s p) v=iD ⟨s,p⟩ v:=by
 have hl:=FC v hv;have hpl:=Zj p hp v hv;have hss:s=0\/s=1\/s=2\/s=3\/s=4\/s=5\/s=6:=by omega
 rcases hss with rfl|rfl|rfl|rfl|rfl|rfl|rfl
 ·exact named_ok p hp v hv
 ·rw[Bool.eq_iff_iff,rM];show(¬aC v (bF p)<0/\(true=true\/_))↔decide (0<=eQ p v)=true;rw[decide_eq_true_eq];simp only[true_or,and_true];omega
 ·rw[Bool.eq_iff_iff,rM];show(¬aC v jR<0/\((dh p).op=true\/aC v (dh p).to_<0))↔decide (eQ p v<=0)=true;rw[decide_eq_true_eq]
  cases hop:(dh p).op with
  | true =>
   rw[hop]at hpl;simp only[Bool.true_eq_false,false_and,iff_false]at hpl;simp only[true_or,and_true];exact⟨fun _=>by omega,fun _=>hl⟩
  | false =>
   rw[hop]at hpl;simp only[eq_self,true_and]at hpl;simp only[Bool.false_eq_true,false_or];omega
 ·show jJ (if(dh p).op=true then⟨jR,jR,false⟩ else⟨(dh p).to_,rJ,true⟩) v=decide (0<eQ p v);rw[Bool.eq_iff_iff,decide_eq_true_eq]
  cases hop:(dh p).op with
  | true =>
   rw[hop]at hpl;simp only[Bool.true_eq_false,false_and,iff_false]at hpl;rw[if_pos rfl,rM];simp only[Bool.false_eq_true,false_or];omega
  | false =>
   rw[hop]at hpl;simp only[eq_self,true_and]at hpl;rw[if_neg (by decide),rM];simp only[true_or,and_true];omega
 ·rw[Bool.eq_iff_iff,rM];show(¬aC v jR<0/\(false=true\/aC v (bF p)<0))↔decide (eQ p v<0)=true;rw[decide_eq_true_eq];simp only[Bool.false_eq_true,false_or];omega
 ·show jJ (kP p (qx p)) v=(pz p v && mJ p v);have n3:=hp.n3;have a0:=hp.a0;have b0:=hp.b0;have c0:=hp.c0;have z1:=hp.z1;have z2:=hp.z2;have z3:=hp.z3;rw[Bool.eq_iff_iff,Bool.and_eq_true,Jj p hp v hv,PZ p hp (qx p) (by unfold qx;split;omega;split;omega;split;omega;exact n3) v hv (fun _=>trivial) (fun _=>Or.inr trivial)];refine and_congr_right fun hf=>?_
  have hn:=P5 p v hf;unfold qx mJ
  by_cases h0:p.n=0
  ·have e1:=z1 (by omega);have e2:=z2 (by omega);have e3:=(z3 (by omega)).1;simp[h0,e1,e2,e3]
  ·rw[if_neg h0]
   by_cases ha:p.a=0
   ·by_cases hb:p.b=0
    ·by_cases hc:p.c=0
     ·simp only[ha,hb,hc,ne_eq,not_true_eq_false,if_false]
      by_cases hm:v.major=0
      ·by_cases h1:p.n=1
       ·simp[hm,h1]<;>omega
       ·by_cases hm2:v.minor=0
        ·by_cases h2:p.n=2
         ·simp[hm,hm2,h2]<;>omega
         ·simp[hm,hm2,h1,h2]<;>omega
        ·simp[hm,hm2,h1]<;>omega
      ·simp[hm]<;>omega
     ·simp only[ha,hb,hc,ne_eq,not_true_eq_false,if_false,not_false_eq_true,if_true]
      by_cases hm:v.major=0
      ·by_cases hm2:v.minor=0
       ·have h3:p.n=3:=by omega
        simp[hm,hm2,h3]<;>omega
       ·have h3:p.n=3:=by omega
        simp[hm,hm2,h3]<;>omega
      ·simp[hm]<;>omega
    ·simp only[ha,hb,ne_eq,not_true_eq_false,if_false,not_false_eq_true,if_true];have h3:¬p.n=1:=by omega
     by_cases hm:v.major=0
     ·by_cases hm2:v.minor=p.b
      ·simp[hm,hm2,h3]<;>omega
      ·simp[hm,hm2,h3]<;>omega
     ·simp[hm]<;>omega
   ·simp only[ha,ne_eq,not_false_eq_true,if_true]
    by_cases hm:v.major=p.a
    ·simp[hm]<;>omega
    ·simp[hm]<;>omega
 ·show jJ (kP p (min p.n 2)) v=((pz p v && (decide (p.n<1) || decide (v.major=p.a))) && (decide (p.n<2) || decide (v.minor=p.b)));have n3:=hp.n3;have z1:=hp.z1;have z2:=hp.z2;rw[Bool.eq_iff_iff,Bool.and_eq_true,Bool.and_eq_true,and_assoc,Jj p hp v hv,PZ p hp (min p.n 2) (by omega) v hv (fun _=>trivial) (fun _=>Or.inr trivial)];refine and_congr_right fun hf=>?_
  have hn:=P5 p v hf;simp only[Bool.or_eq_true,decide_eq_true_eq];omega
theorem Zk(p q:Pa)(hp:fA p)(hq:fA q)(v:V)(hv:ul v):jJ (vV p q) v=(iD ⟨7,p⟩ v && iD ⟨2,q⟩ v):=by
 have h2:=P6 2 (by decide) q hq v hv;rw[<-h2];show _=(pz p v && _);rw[Bool.eq_iff_iff,Bool.and_eq_true,Jj p hp v hv,rM,rM];show(¬aC v (bF p)<0/\_)↔(¬aC v (bF p)<0/\(¬aC v jR<0/\((dh q).op=true\/aC v (dh q).to_<0)));have hl:=FC v hv;constructor
 ·rintro⟨h1,h2⟩;exact⟨h1,hl,h2⟩
 ·rintro⟨h1,_,h2⟩;exact⟨h1,h2⟩
open Go.RowKit
def kQ(p:Pa):Value:=.agg #[.int .i64 p.a,.int .i64 p.b,.int .i64 p.c,.string ⟨(bF p).pre.toArray⟩,.string ⟨#[]⟩,.int .i64 (p.n:Int)]
def um(g:Sg):Value:=.agg #[.int .i64 g.fr.major,.int .i64 g.fr.minor,.int .i64 g.fr.patch,.string ⟨g.fr.pre.toArray⟩,.string ⟨#[]⟩,.int .i64 g.to_.major,.int .i64 g.to_.minor,.int .i64 g.to_.patch,.string ⟨g.to_.pre.toArray⟩,.string ⟨#[]⟩,.bool g.op]
def Ans(f:Nat)(args:Array Value)(v:Value):Prop:=∀w,Calls prog f args w fun e w'=>e=.returned v/\w.grownBy w' none
theorem Jk(p:Pa)(hp:fA p)(k:Nat)(hk:k<=3):Ans 197 #[kQ p,.int .i64 (k:Int)] (um (kP p k)):=by
 intro w;have hc:k=0\/k=1\/k=2\/k=3:=by omega
 rcases hc with rfl|rfl|rfl|rfl
 ·exact Xw p.a p.b p.c p.n ⟨(bF p).pre.toArray⟩ w hp.a0 hp.b0 hp.c0
 ·exact Xx p.a p.b p.c p.n ⟨(bF p).pre.toArray⟩ w hp.a0 hp.b0 hp.c0
 ·exact Xy p.a p.b p.c p.n ⟨(bF p).pre.toArray⟩ w hp.a0 hp.b0 hp.c0
 ·exact Xz p.a p.b p.c p.n ⟨(bF p).pre.toArray⟩ w hp.a0 hp.b0 hp.c0
theorem Zl(p:Pa)(hp:fA p):Ans 198 #[kQ p] (.int .i64 (qx p:Int)):=by
 intro w;unfold kQ qx
 by_cases h1:p.a=0
 ·by_cases h2:p.b=0
  ·by_cases h3:p.c=0
   ·rw[h1,h2,h3];exact Xv p.n ⟨(bF p).pre.toArray⟩ w
   ·rw[if_neg (not_not_intro h1),if_neg (not_not_intro h2),if_pos h3,h1,h2];exact Xu p.c p.n ⟨(bF p).pre.toArray⟩ w h3
  ·rw[if_neg (not_not_intro h1),if_pos h2,h1];exact Xt p.b p.c p.n ⟨(bF p).pre.toArray⟩ w h2
 ·rw[if_pos h1];exact Xq p.a p.b p.c p.n ⟨(bF p).pre.toArray⟩ w h1
theorem Zm(p:Pa)(hp:fA p):qx p<=3:=by
 have:=hp.n3;unfold qx
 repeat' split
 all_goals omega
theorem P7(p:Pa)(hp:fA p)(hl:p.pre.length<1000):Ans 195 #[kQ p] (um (dh p)):=by
 intro w
 by_cases h3:p.n=3
 ·obtain⟨n3,n4,hn,he,h1⟩:=Yu p.a p.b p.c ⟨(bF p).pre.toArray⟩ ⟨#[]⟩ (by
   show(bF p).pre.toArray.size < _;unfold bF;rw[if_neg (by omega)];simp;omega) (by have:=hp.c0;omega)
  have hG:dh p=⟨bF p,lL (bF p),false⟩:=by unfold dh;rw[if_pos h3]
  have hV:lL (bF p)=⟨p.a,p.b,n3,n4.data.toList⟩:=by
   rw[<-he];rfl
  have:=Yw p.a p.b p.c n3 ⟨(bF p).pre.toArray⟩ n4 w h1;unfold kQ;rw[h3,hG,hV];unfold um;have e4:(⟨n4.data.toList.toArray⟩:ByteArray)=n4:=by cases n4;simp
  rw[e4];exact this
 ·have hn:=hp.n3;have hG:dh p=kP p p.n:=by unfold dh;rw[if_neg h3]
  rw[hG];exact Yx p.a p.b p.c p.n _ _ _ _ _ _ ⟨(bF p).pre.toArray⟩ _ _ _ _ _ w (by simp;omega) (fun w=>Jk p hp p.n hn w)
def oz(s:Int):Nat:=if s=1 then 191 else if s=2 then 192 else if s=3 then 193 else if s=4 then 194 else if s=5 then 196 else if s=6 then 199 else 195
theorem Zn(s:Int)(hs:-1<=s/\s<=6)(p:Pa)(hp:fA p)(hl:p.pre.length<1000):Ans (oz s) #[kQ p] (um (xW (if s<0 then 0 else s) p)):=by
 intro w;have hN:=P7 p hp hl;have hss:s=-1\/s=0\/s=1\/s=2\/s=3\/s=4\/s=5\/s=6:=by omega
 rcases hss with rfl|rfl|rfl|rfl|rfl|rfl|rfl|rfl
 ·exact hN w
 ·exact hN w
 ·exact Xm p.a p.b p.c p.n ⟨(bF p).pre.toArray⟩ w
 ·exact XA p.a p.b p.c p.n _ _ _ _ _ _ ⟨(bF p).pre.toArray⟩ _ _ _ _ _ w hN
 ·show Calls _ _ _ _ fun e w'=>e=.returned (um (if(dh p).op=true then⟨jR,jR,false⟩ else⟨(dh p).to_,rJ,true⟩))/\_
  cases ho:(dh p).op with
  | true =>
   have hN':∀w,Calls prog 195 #[kQ p] w fun e w'=>e=.returned (.agg #[.int .i64 (dh p).fr.major,.int .i64 (dh p).fr.minor,.int .i64 (dh p).fr.patch,.string ⟨(dh p).fr.pre.toArray⟩,.string ⟨#[]⟩,.int .i64 (dh p).to_.major,.int .i64 (dh p).to_.minor,.int .i64 (dh p).to_.patch,.string ⟨(dh p).to_.pre.toArray⟩,.string ⟨#[]⟩,.bool true])/\w.grownBy w' none:=fun w=>by
    have:=hN w;unfold um at this;rw[ho]at this;exact this
   exact XB p.a p.b p.c p.n _ _ _ _ _ _ ⟨(bF p).pre.toArray⟩ _ _ _ _ w hN'
  | false =>
   have hN':∀w,Calls prog 195 #[kQ p] w fun e w'=>e=.returned (.agg #[.int .i64 (dh p).fr.major,.int .i64 (dh p).fr.minor,.int .i64 (dh p).fr.patch,.string ⟨(dh p).fr.pre.toArray⟩,.string ⟨#[]⟩,.int .i64 (dh p).to_.major,.int .i64 (dh p).to_.minor,.int .i64 (dh p).to_.patch,.string ⟨(dh p).to_.pre.toArray⟩,.string ⟨#[]⟩,.bool false])/\w.grownBy w' none:=fun w=>by
    have:=hN w;unfold um at this;rw[ho]at this;exact this
   exact XC p.a p.b p.c p.n _ _ _ _ _ _ ⟨(bF p).pre.toArray⟩ _ _ _ _ w hN'
 ·exact Yy p.a p.b p.c p.n ⟨(bF p).pre.toArray⟩ w
 ·exact YD (qx p:Int) p.a p.b p.c p.n _ _ _ _ _ _ ⟨(bF p).pre.toArray⟩ _ _ _ _ _ w (Zl p hp) (Jk p hp (qx p) (Zm p hp))
 ·show Calls _ _ _ _ fun e w'=>e=.returned (um (kP p (min p.n 2)))/\_
  have hn:p.n=0\/p.n=1\/p.n=2\/p.n=3:=by have:=hp.n3;omega
  have hA:=Jk p hp (min p.n 2) (by omega);unfold kQ at hA ⊢
  rcases hn with h|h|h|h
  ·rw[h]at hA ⊢;exact Yz p.a p.b p.c _ _ _ _ _ _ ⟨(bF p).pre.toArray⟩ _ _ _ _ _ w hA
  ·rw[h]at hA ⊢;exact YA p.a p.b p.c _ _ _ _ _ _ ⟨(bF p).pre.toArray⟩ _ _ _ _ _ w hA
  ·rw[h]at hA ⊢;exact YB p.a p.b p.c _ _ _ _ _ _ ⟨(bF p).pre.toArray⟩ _ _ _ _ _ w hA
  ·rw[h]at hA ⊢;exact YC p.a p.b p.c _ _ _ _ _ _ ⟨(bF p).pre.toArray⟩ _ _ _ _ _ w hA
theorem Zo(p q:Pa)(hq:fA q)(hl:q.pre.length<1000):Ans 179 #[kQ p,kQ q] (um (vV p q)):=by
 intro w;exact XD p.a p.b p.c p.n ⟨(bF p).pre.toArray⟩ q.a q.b q.c q.n _ _ _ _ _ _ ⟨(bF q).pre.toArray⟩ _ _ _ _ _ w (P7 q hq hl)
def isSp(c:UInt8):Bool:=decide (c=32)
def eu(l:List UInt8)(i:Nat):Bool:=decide (l[i]?=some 42) || (decide (l[i]?=some 120) || decide (l[i]?=some 88))
def pa0:Pa:=⟨0,0,0,0,[]⟩
def pa3(l:List UInt8)(j:Nat)(a b c:Int):Int × Nat × Pa :=
 if(aN l j).1=0 then(0,(aN l j).2.1,⟨3,a,b,c,(aN l j).2.2.1⟩) else((aN l j).1,(aN l j).2.1,pa0)
def jS(l:List UInt8)(j:Nat)(a b:Int):Int × Nat × Pa :=
 if l[j]?=some 46 then(if eu l (j+1)=true then(0,j+2,⟨2,a,b,0,[]⟩) else if(rdNum l (j+1)).1=0 then pa3 l (rdNum l (j+1)).2.2 a b (rdNum l (j+1)).2.1 else((rdNum l (j+1)).1,(rdNum l (j+1)).2.2,pa0))
 else(0,j,⟨2,a,b,0,[]⟩)
def jT(l:List UInt8)(j:Nat)(a:Int):Int × Nat × Pa :=
 if l[j]?=some 46 then(if eu l (j+1)=true then(0,j+2,⟨1,a,0,0,[]⟩) else if(rdNum l (j+1)).1=0 then jS l (rdNum l (j+1)).2.2 a (rdNum l (j+1)).2.1 else((rdNum l (j+1)).1,(rdNum l (j+1)).2.2,pa0))
 else(0,j,⟨1,a,0,0,[]⟩)
def ay(l:List UInt8)(i:Nat):Int × Nat × Pa :=
 if eu l i=true then(0,i+1,pa0) else if(rdNum l i).1=0 then jT l (rdNum l i).2.2 (rdNum l i).2.1 else((rdNum l i).1,(rdNum l i).2.2,pa0)
def ax(l:List UInt8)(i:Nat):Int × Nat :=
 if l[i]?=some 62 then(if l[i+1]?=some 61 then(1,i+2) else(3,i+1))
 else if l[i]?=some 60 then(if l[i+1]?=some 61 then(2,i+2) else(4,i+1))
 else if l[i]?=some 61 then(0,i+1) else if l[i]?=some 94 then(5,i+1) else if l[i]?=some 126 then(6,i+1) else(-1,i)
def jU(l:List UInt8)(i:Nat):Bool:=decide (l[i]?=some 124) && decide (l[i+1]?=some 124)
def dL(l:List UInt8)(i:Nat):Bool:=decide (l.length<=i) || jU l i
def au(l:List UInt8)(i:Nat):Nat:=i+runN isSp l i
def gq(s:Int):Int:=if s<0 then 0 else s
def fE(l:List UInt8):Nat->Nat->List Te->Int × Nat × List Te
 | 0,i,acc=>(0,i,acc)
 | f+1,i,acc =>
  if dL l i=true then(0,i,acc) else
  if(ay l (ax l i).2).1=0 then
   (if((ax l i).1<0/\acc=[])/\(ay l (ax l i).2).2.1<au l (ay l (ax l i).2).2.1/\l[au l (ay l (ax l i).2).2.1]?=some 45 then
    (if au l (au l (ay l (ax l i).2).2.1+1)=au l (ay l (ax l i).2).2.1+1 then(2,au l (ay l (ax l i).2).2.1+1,acc) else
    if(ay l (au l (au l (ay l (ax l i).2).2.1+1))).1=0 then
     (if dL l (au l (ay l (au l (au l (ay l (ax l i).2).2.1+1))).2.1)=true then(0,au l (ay l (au l (au l (ay l (ax l i).2).2.1+1))).2.1,[⟨7,(ay l (ax l i).2).2.2⟩,⟨2,(ay l (au l (au l (ay l (ax l i).2).2.1+1))).2.2⟩])
     else(2,au l (ay l (au l (au l (ay l (ax l i).2).2.1+1))).2.1,acc))
    else((ay l (au l (au l (ay l (ax l i).2).2.1+1))).1,(ay l (au l (au l (ay l (ax l i).2).2.1+1))).2.1,acc))
   else if ¬(ay l (ax l i).2).2.1<au l (ay l (ax l i).2).2.1/\¬dL l (au l (ay l (ax l i).2).2.1)=true then(2,au l (ay l (ax l i).2).2.1,acc)
   else fE l f (au l (ay l (ax l i).2).2.1) (acc++[⟨gq (ax l i).1,(ay l (ax l i).2).2.2⟩]))
  else((ay l (ax l i).2).1,(ay l (ax l i).2).2.1,acc)
def aX(l:List UInt8):Nat->Nat->List Te->Int × Nat × List Te
 | 0,i,acc=>(0,i,acc)
 | f+1,i,acc =>
  if l.length<=i\/l[i]?=some 124 then(0,i,acc) else
  if(ay l (ax l i).2).1=0 then
   (if((ax l i).1<0/\acc=[])/\(ay l (ax l i).2).2.1<au l (ay l (ax l i).2).2.1/\l[au l (ay l (ax l i).2).2.1]?=some 45 then
    (if au l (au l (ay l (ax l i).2).2.1+1)=au l (ay l (ax l i).2).2.1+1 then(2,au l (ay l (ax l i).2).2.1+1,acc) else
    if(ay l (au l (au l (ay l (ax l i).2).2.1+1))).1=0 then(0,(ay l (au l (au l (ay l (ax l i).2).2.1+1))).2.1,[⟨7,(ay l (ax l i).2).2.2⟩,⟨2,(ay l (au l (au l (ay l (ax l i).2).2.1+1))).2.2⟩])
    else((ay l (au l (au l (ay l (ax l i).2).2.1+1))).1,(ay l (au l (au l (ay l (ax l i).2).2.1+1))).2.1,acc))
   else if ¬(ay l (ax l i).2).2.1<au l (ay l (ax l i).2).2.1 then(0,au l (ay l (ax l i).2).2.1,acc++[⟨gq (ax l i).1,(ay l (ax l i).2).2.2⟩])
   else aX l f (au l (ay l (ax l i).2).2.1) (acc++[⟨gq (ax l i).1,(ay l (ax l i).2).2.2⟩]))
  else((ay l (ax l i).2).1,(ay l (ax l i).2).2.1,acc)
def after(l:List UInt8)(r:Int × Nat × List Te):Int × Nat × List Te :=
 if r.1=0 then(if dL l (au l r.2.1)=true then(0,au l r.2.1,r.2.2) else(2,au l r.2.1,r.2.2)) else r
theorem qy(l:List UInt8)(i:Nat):i<=au l i:=by unfold au;omega
theorem Jl(l:List UInt8)(i:Nat)(h:i<=l.length):au l (au l i)=au l i:=by
 unfold au;have:runN isSp l (i+runN isSp l i)=0:=Nz isSp l _ 0 (Nat.zero_le _) (fun hlt=>by
  have:=sK isSp l i (by simpa using hlt);simpa using this)
 omega
def same(x y:Int × Nat × List Te):Prop:=x.1=y.1/\x.2.1=y.2.1/\(x.1=0->x.2.2=y.2.2)
theorem Zp(l:List UInt8)(i:Nat)(h:l[i]?=some 124):ax l i=(-1,i)/\(ay l i).1=2/\(ay l i).2.1=i:=by
 have hs:ax l i=(-1,i):=by unfold ax;simp[h]
 have hw:eu l i=false:=by unfold eu;simp[h]
 have hr:runN aP l i=0:=Nz aP l i 0 (Nat.zero_le _) (fun hlt=>by
  have:l[i+0]'hlt=124:=by
   have:=List.getElem?_eq_some_iff.1 h;obtain⟨_,e⟩:=this;simpa using e
  rw[this];decide)
 have hn:rdNum l i=(2,0,i):=by unfold rdNum;rw[if_pos hr]
 refine⟨hs,?_,?_⟩
 ·unfold ay;rw[hw,hn];rfl
 ·unfold ay;rw[hw,hn];rfl
theorem zI(l:List UInt8)(i:Nat)(hi:i<=l.length)(h:(rdNum l i).1=0):i<(rdNum l i).2.2/\(rdNum l i).2.2<=l.length:=by
 have hr:=lM aP l i hi;unfold rdNum at h ⊢;split at h
 ·simp at h
 ·rename_i h1;split at h
  ·simp at h
  ·rename_i h2;split at h
   ·simp at h
   ·rename_i h3;rw[if_neg h1,if_neg h2,if_neg h3];simp only[];omega
theorem P8(c:UInt8)(st:Bool)(l:List UInt8)(i:Nat)(hi:i<=l.length)(h:(aY c st l i).1=0):i<=(aY c st l i).2.1/\(aY c st l i).2.1<=l.length:=by
 refine⟨?_,IJ hi h⟩
 by_cases hc:l[i]?=some c
 ·rw[qh hc]at h ⊢;simp only at h ⊢;have hlt:=(List.getElem?_eq_some_iff.1 hc).1;have:=(yZ st l _ (i+1) rfl (by omega) h).1;omega
 ·rw[mZ hc];simp
theorem Zq(l:List UInt8)(i:Nat)(hi:i<=l.length)(h:(aN l i).1=0):i<=(aN l i).2.1/\(aN l i).2.1<=l.length:=by
 unfold aN at h ⊢
 by_cases h1:(aY 45 true l i).1=0
 ·rw[if_pos h1]at h ⊢;have p1:=P8 45 true l i hi h1
  by_cases h2:(aY 43 false l (aY 45 true l i).2.1).1=0
  ·rw[if_pos h2]at h ⊢;have p2:=P8 43 false l _ p1.2 h2;simp only[];omega
  ·rw[if_neg h2]at h;exact absurd h h2
 ·rw[if_neg h1]at h;exact absurd h h1
theorem kR{l:List UInt8}{j:Nat}{c:UInt8}(h:l[j]?=some c):j<l.length:=(List.getElem?_eq_some_iff.1 h).1
theorem FH{l:List UInt8}{i:Nat}(h:eu l i=true):i<l.length:=by
 unfold eu at h;simp only[Bool.or_eq_true,decide_eq_true_eq]at h
 rcases h with h|h|h<;>exact kR h
theorem Zr(l:List UInt8)(j:Nat)(a b c:Int)(hj:j<=l.length)(h:(pa3 l j a b c).1=0):j<=(pa3 l j a b c).2.1/\(pa3 l j a b c).2.1<=l.length:=by
 unfold pa3 at h ⊢
 by_cases h1:(aN l j).1=0
 ·rw[if_pos h1];exact Zq l j hj h1
 ·rw[if_neg h1]at h;exact absurd h h1
theorem Zt(l:List UInt8)(j:Nat)(a b:Int)(hj:j<=l.length)(h:(jS l j a b).1=0):j<=(jS l j a b).2.1/\(jS l j a b).2.1<=l.length:=by
 unfold jS at h ⊢
 by_cases h1:l[j]?=some 46
 ·have hl:=kR h1;rw[if_pos h1]at h ⊢
  by_cases h2:eu l (j+1)=true
  ·have:=FH h2;rw[if_pos h2];simp only[];omega
  ·rw[if_neg h2]at h ⊢
   by_cases h3:(rdNum l (j+1)).1=0
   ·have p1:=zI l (j+1) (by omega) h3;rw[if_pos h3]at h ⊢;have p2:=Zr l _ a b _ p1.2 h;omega
   ·rw[if_neg h3]at h;exact absurd h h3
 ·rw[if_neg h1];simp only[];omega
theorem Zu(l:List UInt8)(j:Nat)(a:Int)(hj:j<=l.length)(h:(jT l j a).1=0):j<=(jT l j a).2.1/\(jT l j a).2.1<=l.length:=by
 unfold jT at h ⊢
 by_cases h1:l[j]?=some 46
 ·have hl:=kR h1;rw[if_pos h1]at h ⊢
  by_cases h2:eu l (j+1)=true
  ·have:=FH h2;rw[if_pos h2];simp only[];omega
  ·rw[if_neg h2]at h ⊢
   by_cases h3:(rdNum l (j+1)).1=0
   ·have p1:=zI l (j+1) (by omega) h3;rw[if_pos h3]at h ⊢;have p2:=Zt l _ a _ p1.2 h;omega
   ·rw[if_neg h3]at h;exact absurd h h3
 ·rw[if_neg h1];simp only[];omega
theorem CJ(l:List UInt8)(i:Nat)(hi:i<=l.length)(h:(ay l i).1=0):i<(ay l i).2.1/\(ay l i).2.1<=l.length:=by
 unfold ay at h ⊢
 by_cases h2:eu l i=true
 ·have:=FH h2;rw[if_pos h2];simp only[];omega
 ·rw[if_neg h2]at h ⊢
  by_cases h3:(rdNum l i).1=0
  ·have p1:=zI l i hi h3;rw[if_pos h3]at h ⊢;have p2:=Zu l _ _ p1.2 h;omega
  ·rw[if_neg h3]at h;exact absurd h h3
theorem CU(l:List UInt8)(i:Nat)(hi:i<=l.length):i<=(ax l i).2/\(ax l i).2<=l.length:=by
 unfold ax
 repeat' split
 all_goals simp only[]
 ·rename_i h1 h2;have:=kR h2;omega
 ·rename_i h1 h2;have:=kR h1;omega
 ·rename_i h0 h1 h2;have:=kR h2;omega
 ·rename_i h0 h1 h2;have:=kR h1;omega
 ·rename_i h;have:=kR h;omega
 ·rename_i h;have:=kR h;omega
 ·rename_i h;have:=kR h;omega
 ·omega
theorem pG(l:List UInt8)(i:Nat)(hi:i<=l.length):au l i<=l.length:=lM isSp l i hi
theorem P9(l:List UInt8):∀(f i:Nat) (acc:List Te),l.length<f+i->i<=l.length->au l i=i->same (after l (aX l f i acc)) (fE l f i acc)
 | 0,i,acc,hf,hi,_=>by omega
 | f+1,i,acc,hf,hi,hsk=>by
  by_cases he:dL l i=true
  ·have hp:l.length<=i\/l[i]?=some 124:=by
    unfold dL jU at he;simp only[Bool.or_eq_true,Bool.and_eq_true,decide_eq_true_eq]at he
    rcases he with h|h
    ·exact Or.inl h
    ·exact Or.inr h.1
   have e1:aX l (f+1) i acc=(0,i,acc):=by unfold aX;rw[if_pos hp]
   have e2:fE l (f+1) i acc=(0,i,acc):=by unfold fE;rw[if_pos he]
   rw[e1,e2];unfold after;simp only[if_true,hsk,he];exact⟨rfl,rfl,fun _=>rfl⟩
  ·by_cases hb:l[i]?=some 124
   ·obtain⟨b1,b2,b3⟩:=Zp l i hb;have e1:aX l (f+1) i acc=(0,i,acc):=by unfold aX;rw[if_pos (Or.inr hb)]
    have e2:fE l (f+1) i acc=(2,i,acc):=by
     unfold fE;rw[if_neg he,b1];simp only[];rw[b2,if_neg (by decide),b3]
    rw[e1,e2];unfold after;simp only[if_true,hsk,if_neg he];exact⟨rfl,rfl,fun h=>by cases h⟩
   ·have hnl:¬l.length<=i:=by
     intro h;apply he;unfold dL;simp[h]
    have qA:¬(l.length<=i\/l[i]?=some 124):=fun h=>h.elim hnl hb
    have sp:=CU l i hi;unfold aX fE;rw[if_neg qA,if_neg he]
    by_cases hr:(ay l (ax l i).2).1=0
    ·have pp:=CJ l _ sp.2 hr;have hkl:=pG l _ pp.2;have hkg:=qy l (ay l (ax l i).2).2.1;rw[if_pos hr,if_pos hr]
     by_cases hbt:((ax l i).1<0/\acc=[])/\(ay l (ax l i).2).2.1<au l (ay l (ax l i).2).2.1/\l[au l (ay l (ax l i).2).2.1]?=some 45
     ·rw[if_pos hbt,if_pos hbt]
      by_cases hm:au l (au l (ay l (ax l i).2).2.1+1)=au l (ay l (ax l i).2).2.1+1
      ·rw[if_pos hm,if_pos hm];unfold after;rw[if_neg (by simp)];exact⟨rfl,rfl,fun h=>by cases h⟩
      ·rw[if_neg hm,if_neg hm]
       by_cases hq:(ay l (au l (au l (ay l (ax l i).2).2.1+1))).1=0
       ·rw[if_pos hq,if_pos hq];unfold after;simp only[if_true]
        by_cases hz:dL l (au l (ay l (au l (au l (ay l (ax l i).2).2.1+1))).2.1)=true
        ·rw[if_pos hz,if_pos hz];exact⟨rfl,rfl,fun _=>rfl⟩
        ·rw[if_neg hz,if_neg hz];exact⟨rfl,rfl,fun h=>by cases h⟩
       ·rw[if_neg hq,if_neg hq];unfold after;rw[if_neg hq];exact⟨rfl,rfl,fun h=>absurd h hq⟩
     ·rw[if_neg hbt,if_neg hbt]
      by_cases hg:(ay l (ax l i).2).2.1<au l (ay l (ax l i).2).2.1
      ·rw[if_neg (not_not_intro hg),if_neg (fun h=>h.1 hg)];exact P9 l f _ _ (by omega) hkl (Jl l _ pp.2)
      ·rw[if_pos hg];unfold after;simp only[if_true];rw[Jl l _ pp.2]
       by_cases hz:dL l (au l (ay l (ax l i).2).2.1)=true
       ·rw[if_pos hz,if_neg (fun h=>h.2 hz)]
        cases f with
        | zero=>omega
        | succ f =>
         have e2:fE l (f+1) (au l (ay l (ax l i).2).2.1) (acc++[⟨gq (ax l i).1,(ay l (ax l i).2).2.2⟩])=(0,au l (ay l (ax l i).2).2.1,acc++[⟨gq (ax l i).1,(ay l (ax l i).2).2.2⟩]):=by unfold fE;rw[if_pos hz]
         rw[e2];exact⟨rfl,rfl,fun _=>rfl⟩
       ·rw[if_neg hz,if_pos ⟨hg,hz⟩];exact⟨rfl,rfl,fun h=>by cases h⟩
    ·rw[if_neg hr,if_neg hr];unfold after;rw[if_neg hr];exact⟨rfl,rfl,fun h=>absurd h hr⟩
theorem Jm(l:List UInt8)(i:Nat)(h:(rdNum l i).1=0):0<=(rdNum l i).2.1/\(rdNum l i).2.1<=999999999:=by
 unfold rdNum at h ⊢;split at h
 ·simp at h
 ·rename_i h1;split at h
  ·simp at h
  ·rename_i h2;split at h
   ·simp at h
   ·rename_i h3;rw[if_neg h1,if_neg h2,if_neg h3];simp only[];have:=A8 (aO l i (runN aP l i)) (wV aP l i);omega
theorem Zv(c:UInt8)(st:Bool)(l:List UInt8)(i:Nat)(hi:i<=l.length)(h:(aY c st l i).1=0):fV st (aY c st l i).2.2=true:=by
 unfold aY at h ⊢
 by_cases hc:l[i]?=some c
 ·rw[if_pos hc]at h ⊢;have hlt:=kR hc
  by_cases h2:(aQ st l (i+1)).1=0
  ·rw[if_pos h2];have:=(yZ st l _ (i+1) rfl (by omega) h2).2.2;unfold fV;simp only[];rw[this];simp
  ·rw[if_neg h2]at h;exact absurd h h2
 ·rw[if_neg hc];rfl
theorem Zw(l:List UInt8)(i:Nat)(hi:i<=l.length)(h:(aN l i).1=0):fV true (aN l i).2.2.1=true:=by
 unfold aN at h ⊢
 by_cases h1:(aY 45 true l i).1=0
 ·rw[if_pos h1]at h ⊢
  by_cases h2:(aY 43 false l (aY 45 true l i).2.1).1=0
  ·rw[if_pos h2];exact Zv 45 true l i hi h1
  ·rw[if_neg h2]at h;exact absurd h h2
 ·rw[if_neg h1]at h;exact absurd h h1
theorem Zx:fA pa0:=⟨by decide,by decide,by decide,by decide,fun _=>rfl,fun _=>rfl,fun _=>⟨rfl,rfl⟩,rfl⟩
theorem Zy(l:List UInt8)(j:Nat)(a b:Int)(hj:j<=l.length)(ha:0<=a/\a<=999999999)(hb:0<=b/\b<=999999999)(h:(jS l j a b).1=0):fA (jS l j a b).2.2:=by
 have base:fA ⟨2,a,b,0,[]⟩:=⟨by simp,ha,hb,by simp,fun h=>by simp at h,fun h=>by simp at h,fun _=>⟨rfl,rfl⟩,rfl⟩;unfold jS at h ⊢
 by_cases h1:l[j]?=some 46
 ·have hl:=kR h1;rw[if_pos h1]at h ⊢
  by_cases h2:eu l (j+1)=true
  ·rw[if_pos h2];exact base
  ·rw[if_neg h2]at h ⊢
   by_cases h3:(rdNum l (j+1)).1=0
   ·have p1:=zI l (j+1) (by omega) h3;have v1:=Jm l (j+1) h3;rw[if_pos h3]at h ⊢;unfold pa3 at h ⊢
    by_cases h4:(aN l (rdNum l (j+1)).2.2).1=0
    ·rw[if_pos h4];exact⟨by simp,ha,hb,v1,fun h=>by simp at h,fun h=>by simp at h,fun h=>by simp at h,Zw l _ p1.2 h4⟩
    ·rw[if_neg h4]at h;exact absurd h h4
   ·rw[if_neg h3]at h;exact absurd h h3
 ·rw[if_neg h1];exact base
theorem Zz(l:List UInt8)(j:Nat)(a:Int)(hj:j<=l.length)(ha:0<=a/\a<=999999999)(h:(jT l j a).1=0):fA (jT l j a).2.2:=by
 have base:fA ⟨1,a,0,0,[]⟩:=⟨by simp,ha,by simp,by simp,fun h=>by simp at h,fun _=>rfl,fun _=>⟨rfl,rfl⟩,rfl⟩;unfold jT at h ⊢
 by_cases h1:l[j]?=some 46
 ·have hl:=kR h1;rw[if_pos h1]at h ⊢
  by_cases h2:eu l (j+1)=true
  ·rw[if_pos h2];exact base
  ·rw[if_neg h2]at h ⊢
   by_cases h3:(rdNum l (j+1)).1=0
   ·have p1:=zI l (j+1) (by omega) h3;rw[if_pos h3]at h ⊢;exact Zy l _ a _ p1.2 ha (Jm l (j+1) h3) h
   ·rw[if_neg h3]at h;exact absurd h h3
 ·rw[if_neg h1];exact base
theorem FI(l:List UInt8)(i:Nat)(hi:i<=l.length)(h:(ay l i).1=0):fA (ay l i).2.2:=by
 unfold ay at h ⊢
 by_cases h2:eu l i=true
 ·rw[if_pos h2];exact Zx
 ·rw[if_neg h2]at h ⊢
  by_cases h3:(rdNum l i).1=0
  ·have p1:=zI l i hi h3;rw[if_pos h3]at h ⊢;exact Zz l _ _ p1.2 (Jm l i h3) h
  ·rw[if_neg h3]at h;exact absurd h h3
end Go.Proofs.YteciokcdpadmpaaGreatDoor
